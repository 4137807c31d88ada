/- Own texts, one behind the other (part 1). -/
import Derived.Test.YthenjegmigeieaaGreatRows
import Derived.WalkKit
import Derived.WalkSpells
import Derived.WalkLawsBesides
import Derived.Deep.QuietTactic
import Derived.BigQuiet
import Derived.Shelf.Strings.Builder1
import Derived.Shelf.Small.Strs
import Derived.Shelf.LaysM
import Derived.Shelf.Strconv.Clone
import Derived.Shelf.Strings.Search1
import Derived.Shelf.Strings.Prefix
import Derived.Ground.SlsfProg
import Derived.Test.YthenjegmigeieaaGreatProg
import Derived.LoopN
import Derived.Lib.IndexBytes
import Derived.Defers
import Derived.Recover
import Derived.RegionTactic
import Derived.ChangeAlike
import Derived.WalkSmall
set_option maxRecDepth 100000
set_option maxHeartbeats 8000000
namespace Go.Proofs.YthenjegmigeieaaGreat
open Go.RowKit
abbrev aC:=@Lib.cell_of_heap
abbrev aE:=@List.getD_eq_getElem?_getD
abbrev aF:=@Nat.le_refl
abbrev aG:=@List.getElem?_eq_getElem
abbrev aH:=@Below.refl
abbrev aJ:=@Array.getElem?_eq_some_iff
abbrev aL:=@List.drop_of_length_le
abbrev aN:=@List.length_append
abbrev aO:=@List.length_map
abbrev aP:=@List.mem_cons_of_mem
abbrev aQ:=@Array.getElem?_setIfInBounds
abbrev aR:=@Nat.zero_le
abbrev aV:=@List.setIfInBounds_toArray
abbrev aW:=@Bool.and_eq_true
abbrev aX:=@Nat.le_trans
abbrev bA:=@List.mem_cons_self
abbrev bB:=@Array.getD_eq_getD_getElem?
abbrev bC:=@List.length_take
abbrev bD:=@List.mem_cons
abbrev bE:=@List.all_eq_true
abbrev bF:=@Array.getElem?_toList
abbrev bG:=@List.drop_eq_getElem_cons
abbrev bI:=@List.mem_singleton
abbrev bJ:=@List.map_append
abbrev bK:=@List.getElem?_map
abbrev bL:=@Lib.heap_setCell_same
abbrev bO:=@List.mem_map
abbrev bP:=@Nat.lt_of_lt_of_le
abbrev bQ:=@Lib.frozen_of_heap
abbrev bR:=@List.getElem?_eq_none
abbrev bS:=@List.set_cons_zero
abbrev bV:=@List.set_cons_succ
abbrev bX:=@List.mem_append
abbrev cD:=@Array.getElem?_eq_getElem
abbrev cH:=@List.take_of_length_le
abbrev cL:=@List.foldl_cons
abbrev cM:=@World.ownsRow_nil
abbrev cO:=@Array.getElem?_replicate
abbrev cQ:=@List.eq_nil_of_length_eq_zero
abbrev cR:=@List.getElem_mem
abbrev cV:=@Nat.zero_add
abbrev cW:=@List.drop_zero
abbrev cY:=@List.take_add_one
abbrev cZ:=@List.mem_range
abbrev dA:=@List.getElem?_eq_some_iff
abbrev dB:=@List.foldl_nil
abbrev dF:=@Nat.lt_or_ge
abbrev dG:=@Option.map_some
abbrev dH:=@Option.getD_some
abbrev dI:=@Int.toNat_natCast
abbrev dK:=@List.length_cons
abbrev dL:=@List.mem_of_getElem?
abbrev dM:=@List.mem_filterMap
abbrev dN:=@List.getElem?_take
abbrev dO:=@Below.heap_setCell
abbrev dS:=@List.getElem?_set
abbrev dT:=@List.append_assoc
abbrev dV:=@Array.getElem?_eq_none_iff
abbrev dX:=@World.block_lt_of_cell?
abbrev dZ:=@List.flatten_append
abbrev eA:=@Bool.or_eq_true
abbrev eB:=@List.getElem?_append_right
abbrev eD:=@List.pairwise_cons
abbrev eE:=@List.length_set
abbrev eF:=@Bool.false_eq_true
abbrev eH:=@List.getElem?_append_left
abbrev eI:=@Array.all_eq_true_iff_forall_mem
abbrev eM:=@List.mem_of_mem_take
abbrev eN:=@List.not_mem_nil
abbrev eT:=@List.map_cons
abbrev eV:=@List.take_append_drop
abbrev eW:=@List.nil_append
abbrev eX:=@List.mem_filter
abbrev eZ:=@List.ext_getElem?
abbrev fD:=@Nat.not_lt_zero
abbrev fE:=@List.append_nil
abbrev fL:=@World.ownsRow_made
abbrev fM:=@List.pairwise_singleton
abbrev fP:=@World.cell?_of_block
abbrev fT:=@List.length_drop
abbrev fU:=@Array.getElem?_append_left
abbrev fW:=@List.filterMap_cons
abbrev fZ:=@List.filter_append
abbrev gA:=@List.filter_cons
abbrev gB:=@List.pairwise_append
abbrev gC:=@List.mem_of_mem_drop
abbrev gG:=@List.length_eq_zero_iff
abbrev gH:=@Bool.or_true
abbrev gM:=@Array.getElem?_eq_none
abbrev gR:=@List.take_length
abbrev gS:=@List.cons_append
abbrev gT:=@List.any_eq_true
abbrev gU:=@List.length_filter_le
abbrev gV:=@Bool.or_self
abbrev iB:=@Nat.le_succ
abbrev iC:=@List.pairwise_iff_getElem
abbrev iK:=@Lib.byteCells_length
abbrev iL:=@Bool.or_eq_false_iff
abbrev iM:=@List.flatten_cons
abbrev iN:=@List.Pairwise.imp_of_mem
abbrev iU:=@Nat.sub_self
abbrev iV:=@Nat.add_zero
abbrev iW:=@List.map_set
abbrev iX:=@List.Nodup.length_le_of_subset
abbrev jC:=@Nat.add_sub_cancel_left
abbrev jD:=@Nat.add_assoc
abbrev jE:=@List.mem_map_of_mem
abbrev jF:=@List.getElem_of_mem
abbrev jG:=@List.getElem?_cons_succ
abbrev jH:=@Array.getElem?_push
abbrev jI:=@List.mem_flatMap
abbrev jM:=@Calls.quiet_of
abbrev jT:=@Nat.zero_mul
abbrev jU:=@Nat.succ_pos
abbrev jV:=@Nat.min_eq_left
abbrev jW:=@List.length_singleton
abbrev jX:=@Array.getElem?_modify
abbrev kE:=@List.pairwise_map
abbrev kF:=@List.foldl_append
abbrev kJ:=@List.perm_ext_iff_of_nodup
abbrev kX:=@Nat.succ_le_succ
abbrev kZ:=@List.getElem?_range
abbrev lA:=@Int.le_trans
abbrev lJ:=@Nat.add_sub_cancel
abbrev lK:=@List.getElem?_replicate
abbrev lQ:=@List.take_succ_eq_append_getElem
abbrev mG:=@World.drewN_drewN
abbrev mX:=@Nat.succ_lt_succ
abbrev mZ:=@List.mem_iff_getElem
abbrev nR:=@Nat.add_mul
abbrev nU:=@List.take_succ_cons
abbrev nV:=@Bool.eq_iff_iff
abbrev nW:=@Array.length_toList
end Go.Proofs.YthenjegmigeieaaGreat
namespace Go.Proofs.YthenjegmigeieaaGreat
namespace Tk
def small(n:Int):Bool:=decide (97≤n)&&decide (n≤122)
def great(n:Int):Bool:=decide (65≤n)&&decide (n≤90)
def digit(n:Int):Bool:=decide (48≤n)&&decide (n≤57)
def alnum(n:Int):Bool:=small n||great n||digit n
def noLf(n:Int):Bool:=n != 10
def pre(p:Int→Bool):List UInt8→Nat
 |[]=>0
 |c::r=>if p (c.toNat:Int)then pre p r+1 else 0
theorem pre_le(p:Int→Bool)(l:List UInt8):pre p l≤l.length:=by
 induction l with
 |nil=>exact aF 0
 |cons c r ih=>unfold pre;split<;>simp <;>omega
theorem drop_cons(l:List UInt8)(k:Nat)(h:k<l.length):l.drop k=l[k]::l.drop (k+1):=bG h
theorem pre_drop_yes(p:Int→Bool)(l:List UInt8)(k:Nat)(h:k<l.length)(hp:p (l[k].toNat:Int)=true):pre p (l.drop k)=pre p (l.drop (k+1))+1:=by rw[drop_cons l k h,pre,if_pos hp]
theorem pre_drop_no(p:Int→Bool)(l:List UInt8)(k:Nat)(h:k<l.length)(hp:p (l[k].toNat:Int)=false):pre p (l.drop k)=0:=by rw[drop_cons l k h,pre,if_neg (by simp[hp])]
theorem pre_drop_end(p:Int→Bool)(l:List UInt8)(k:Nat)(h:l.length≤k):pre p (l.drop k)=0:=by rw[aL h,pre]
def sep:Bool→List UInt8→Nat
 |_,[]=>0
 |true,c::r=>if(c.toNat:Int)=10 then sep false r+1 else sep true r+1
 |false,c::r=>if(c.toNat:Int)=37 then sep true r+1 else if(c.toNat:Int)=32∨(c.toNat:Int)=9∨(c.toNat:Int)=10 then sep false r+1 else 0
def isSign(c:UInt8):Bool:=[40,41,44,46,60,61,43,45,42].contains c
def signLen(l:List UInt8):Nat:=
 if [58,45].isPrefixOf l||[60,61].isPrefixOf l||[33,61].isPrefixOf l then 2 else
 match l with
 |[]=>0
 |c::_=>if isSign c then 1 else 0
def kindOf(l:List UInt8):Int:=
 match l with
 |[]=>4
 |c::_=>if small c.toNat then 1 else if great c.toNat then 2 else if digit c.toNat then 3 else 4
def lenOf(l:List UInt8):Nat:=
 match l with
 |[]=>0
 |c::_=>if small c.toNat||great c.toNat then pre alnum l else if digit c.toNat then pre digit l else signLen l
def errOf(l:List UInt8):Int:=
 match l with
 |[]=>0
 |c::_=>
  if small c.toNat||great c.toNat then(if pre alnum l>12 then 2 else 0)
  else if digit c.toNat then(if pre digit l>7 then 2 else if(c.toNat:Int)=48∧pre digit l>1 then 1 else 0)
  else if signLen l=0 then 1 else 0
structure Tok where
 kind:Int
 at_:Int
 text:List UInt8
def tokAt(L:List UInt8)(p:Nat):Tok:={kind:=kindOf (L.drop p),at_:=p,text:=(L.drop p).take (lenOf (L.drop p))}
def scanP(L:List UInt8):Nat→Nat→List Tok→List Tok×Nat×Int
 |0,_,acc=>(acc,0,0)
 |f+1,p,acc=>
  if L.length≤p then(acc,0,0)
  else if errOf (L.drop p)=0 then scanP L f (p+lenOf (L.drop p)+sep false (L.drop (p+lenOf (L.drop p)))) (acc++[tokAt L p])
  else([],p,errOf (L.drop p))
def scan(L:List UInt8):List Tok×Nat×Int:=
 if 5000<L.length then([],0,2)else scanP L L.length (sep false L) []
theorem scanP_end(L:List UInt8)(f p:Nat)(acc:List Tok)(h:L.length≤p):scanP L f p acc=(acc,0,0):=by
 cases f with
 |zero=>rfl
 |succ f=>rw[scanP,if_pos h]
theorem scanP_no(L:List UInt8)(f p:Nat)(acc:List Tok)(h:p<L.length)(hf:L.length≤p+f)(he:¬errOf (L.drop p)=0):scanP L f p acc=([],p,errOf (L.drop p)):=by
 cases f with
 |zero=>omega
 |succ f=>rw[scanP,if_neg (by omega),if_neg he]
theorem scanP_yes(L:List UInt8)(f p:Nat)(acc:List Tok)(h:p<L.length)(he:errOf (L.drop p)=0):
 scanP L (f+1) p acc=scanP L f (p+lenOf (L.drop p)+sep false (L.drop (p+lenOf (L.drop p)))) (acc++[tokAt L p]):=by
 rw[scanP,if_neg (by omega),if_pos he]
theorem pre_pos{p:Int→Bool}{c:UInt8}{r:List UInt8}(h:p c.toNat=true):1≤pre p (c::r):=by rw[pre,if_pos h];omega
theorem lenOf_pos(l:List UInt8)(h:l≠[])(he:errOf l=0):1≤lenOf l:=by
 match l,h with
 |c::r,_=>
  have e1:errOf (c::r)=if small c.toNat||great c.toNat then(if pre alnum (c::r)>12 then 2 else 0)
   else if digit c.toNat then(if pre digit (c::r)>7 then 2 else if(c.toNat:Int)=48∧pre digit (c::r)>1 then 1 else 0)
   else if signLen (c::r)=0 then 1 else 0:=rfl
  have e2:lenOf (c::r)=if small c.toNat||great c.toNat then pre alnum (c::r)else if digit c.toNat then pre digit (c::r)else signLen (c::r):=rfl;rw[he]at e1;rw[e2];by_cases h1:(small c.toNat||great c.toNat)=true
  ·rw[if_pos h1];exact pre_pos (by unfold alnum;rw[h1];rfl)
  rw[if_neg h1]at e1 ⊢;by_cases h2:digit c.toNat=true
  ·rw[if_pos h2];exact pre_pos h2
  rw[if_neg h2]at e1 ⊢;by_cases h3:signLen (c::r)=0
  ·rw[if_pos h3]at e1;exact absurd e1 (by decide)
  omega
theorem signLen_le(l:List UInt8):signLen l≤l.length:=by
 unfold signLen;split
 ·rename_i h;simp only[eA]at h;(rcases h with(h|h)|h);all_goals (have h2:=(List.isPrefixOf_iff_prefix.1 h).length_le;simpa using h2)
 split
 ·simp
 split<;>simp
theorem lenOf_le(l:List UInt8):lenOf l≤l.length:=by
 match l with
 |[]=>exact aF 0
 |c::r=>
  have e2:lenOf (c::r)=if small c.toNat||great c.toNat then pre alnum (c::r)else if digit c.toNat then pre digit (c::r)else signLen (c::r):=rfl;rw[e2];split
  ·exact pre_le _ _
  split
  ·exact pre_le _ _
  exact signLen_le _
theorem sep_le(b:Bool)(l:List UInt8):sep b l≤l.length:=by
 induction l generalizing b with
 |nil=>cases b<;>simp[sep]
 |cons c r ih=>
  have h1:=ih true;have h2:=ih false;cases b
  ·simp only[sep,dK];split
   ·omega
   split<;>omega
  simp only[sep,dK];split<;>omega
theorem sep_note(l:List UInt8):sep true l=pre noLf l+sep false (l.drop (pre noLf l)):=by
 induction l with
 |nil=>rfl
 |cons c r ih=>
  by_cases h:(c.toNat:Int)=10
  ·(have hp:pre noLf (c::r)=0:=by simp[pre,noLf,h]);(have h37:¬((c.toNat:Int)=37):=by omega);rw[hp,cW];simp only[sep,if_pos h,if_neg h37,if_pos (show(c.toNat:Int)=32∨(c.toNat:Int)=9∨(c.toNat:Int)=10 from .inr (.inr h))];omega
  (have hp:pre noLf (c::r)=pre noLf r+1:=by simp[pre,noLf,h]);rw[hp,List.drop_succ_cons];simp only[sep,if_neg h];omega
end Tk
end Go.Proofs.YthenjegmigeieaaGreat
namespace Go.Proofs.YthenjegmigeieaaGreat
open Go.RowKit
theorem fA(n:Int)(w:World):Calls Tryz.prog 254 #[.int .u8 n] w fun e w'=>e=.returned (.bool (Tk.small n))∧w'=w:=by
 by_cases h:97≤n
 ·go_enter Tryz.func254,Tryz.ntmps254
  go_wp2;go_ret;exact⟨by simp[Tk.small,h],rfl⟩
 have hd:decide (97≤n)=false:=by simpa using h
 go_enter Tryz.func254,Tryz.ntmps254
 go_wp2;go_ret;exact⟨by simp only[Tk.small,hd,Bool.false_and];rfl,rfl⟩
theorem fB(n:Int)(w:World):Calls Tryz.prog 256 #[.int .u8 n] w fun e w'=>e=.returned (.bool (Tk.great n))∧w'=w:=by
 by_cases h:65≤n
 ·go_enter Tryz.func256,Tryz.ntmps256
  go_wp2;go_ret;exact⟨by simp[Tk.great,h],rfl⟩
 have hd:decide (65≤n)=false:=by simpa using h
 go_enter Tryz.func256,Tryz.ntmps256
 go_wp2;go_ret;exact⟨by simp only[Tk.great,hd,Bool.false_and];rfl,rfl⟩
theorem eL(n:Int)(w:World):Calls Tryz.prog 257 #[.int .u8 n] w fun e w'=>e=.returned (.bool (Tk.digit n))∧w'=w:=by
 by_cases h:48≤n
 ·go_enter Tryz.func257,Tryz.ntmps257
  go_wp2;go_ret;exact⟨by simp[Tk.digit,h],rfl⟩
 have hd:decide (48≤n)=false:=by simpa using h
 go_enter Tryz.func257,Tryz.ntmps257
 go_wp2;go_ret;exact⟨by simp only[Tk.digit,hd,Bool.false_and];rfl,rfl⟩
theorem aCm(n:Int)(w:World):Calls Tryz.prog 253 #[.int .u8 n] w fun e w'=>e=.returned (.bool (Tk.noLf n))∧w'=w:=by
 go_enter Tryz.func253,Tryz.ntmps253
 go_wp2;go_ret;exact⟨by simp[Tk.noLf],rfl⟩
theorem uR(n:Int)(w:World):Calls Tryz.prog 260 #[.int .u8 n] w fun e w'=>e=.returned (.bool (Tk.alnum n))∧w'=w:=by
 unfold Tk.alnum;cases h1:Tk.small n
 ·cases h2:Tk.great n
  ·go_enter Tryz.func260,Tryz.ntmps260
   go_wp2_with(first|(go_at_call 254;refine(fA _ _).mono ?_;rintro e w' ⟨rfl,rfl⟩)|(go_at_call 256;refine(fB _ _).mono ?_;rintro e w' ⟨rfl,rfl⟩)|(go_at_call 257;refine(eL _ _).mono ?_;rintro e w' ⟨rfl,rfl⟩));go_ret;exact⟨by simp,rfl⟩
  go_enter Tryz.func260,Tryz.ntmps260
  go_wp2_with(first|(go_at_call 254;refine(fA _ _).mono ?_;rintro e w' ⟨rfl,rfl⟩)|(go_at_call 256;refine(fB _ _).mono ?_;rintro e w' ⟨rfl,rfl⟩)|(go_at_call 257;refine(eL _ _).mono ?_;rintro e w' ⟨rfl,rfl⟩));go_ret;exact⟨by simp,rfl⟩
 go_enter Tryz.func260,Tryz.ntmps260
 go_wp2_with(first|(go_at_call 254;refine(fA _ _).mono ?_;rintro e w' ⟨rfl,rfl⟩)|(go_at_call 256;refine(fB _ _).mono ?_;rintro e w' ⟨rfl,rfl⟩)|(go_at_call 257;refine(eL _ _).mono ?_;rintro e w' ⟨rfl,rfl⟩));go_ret;exact⟨by simp,rfl⟩
theorem iP{k:IntKind}{a b:Int}(h:a=b):Ending.returned (.int k a)=.returned (.int k b):=by rw[h]
def Tests(g:Nat)(p:Int→Bool):Prop:=∀(n:Int)(w:World),Calls Tryz.prog g #[.int .u8 n] w fun e w'=>e=.returned (.bool (p n))∧w'=w
def Enters(g:Nat):Prop:=∀(a:Array Value)(w:World),(callFunc g a).run Tryz.prog w=.ok (.enter g a) w
theorem lR(g:Nat)(p:Int→Bool)(hg:Tests g p)(hcf:Enters g)(s:ByteArray)(at0:Nat)(w:World)(hs:s.size≤maxLen)(ha:at0≤s.size):
 Calls Tryz.prog 252 #[.string s, .int .i64 at0, .func (.func g) #[] #[]] w fun e w'=>e=.returned (.int .i64 ((at0+Tk.pre p (s.data.toList.drop at0):Nat):Int))∧w'=w:=by
 unfold maxLen at hs
 go_enter Tryz.func252,Tryz.ntmps252
 go_wp2;go_loop [1] (fun i=>∃k:Nat,k≤s.size∧i=.int .i64 k∧at0+Tk.pre p (s.data.toList.drop at0)=k+Tk.pre p (s.data.toList.drop k)) (fun i=>s.size-(intOf i).toNat);case atStart=>exact⟨at0,ha,rfl,rfl⟩
 case round=>
  obtain⟨k,hk,rfl,hk2⟩:=hrel;have HK:Hid (at0+Tk.pre p (s.data.toList.drop at0)=k+Tk.pre p (s.data.toList.drop k)):=hk2;clear hk2;by_cases hlt:k<s.size
  ·go_wp2_with fail;rw[hcf,Oper.upon_enter];refine(hg _ _).mono ?_;rintro e w' ⟨rfl,rfl⟩;(have hl:k<s.data.toList.length:=by simpa using hlt);cases hp:p (s[k].toNat:Int)
   ·have HE:Hid (Tk.pre p (s.data.toList.drop k)=0):=Tk.pre_drop_no p s.data.toList k hl hp;clear hp;go_wp2;go_ret;exact⟨iP (by have h1:=HK.out;have h2:=HE.out;omega),rfl⟩
   have HE:Hid (Tk.pre p (s.data.toList.drop k)=Tk.pre p (s.data.toList.drop (k+1))+1):=Tk.pre_drop_yes p s.data.toList k hl hp;clear hp;go_wp2;go_round;(case rel=>exact⟨k+1,by omega,by go_num,by rw[HK.out,HE.out];omega⟩);case measure=>simp[intOf];omega
  have HE:Hid (Tk.pre p (s.data.toList.drop k)=0):=Tk.pre_drop_end p s.data.toList k (by simp;omega);go_wp2;go_ret;exact⟨iP (by have h1:=HK.out;have h2:=HE.out;omega),rfl⟩
theorem eQ{f:FuncId}{fn:Func}{c:Code}(hf:Tryz.prog.funcs[f]?=some fn)(hname:(fn.name== "runtime.NumGoroutine")=false)(hb:fn.body=some c):Enters f:=by intro a w;(have h1:fn.name≠ "runtime.NumGoroutine" :=by simpa using hname);simp[callFunc,hf,h1,hb]
theorem enters253:Enters 253:=eQ Tryz.func253 (by kernel_rfl) rfl
theorem enters257:Enters 257:=eQ Tryz.func257 (by kernel_rfl) rfl
theorem enters260:Enters 260:=eQ Tryz.func260 (by kernel_rfl) rfl
theorem evc (a:Act) (v:Value):a.eval (.const v)=v:=rfl
theorem evf (a:Act) (f:FuncId):a.eval (.func f)=.func (.func f) #[] #[]:=rfl
theorem oM{P:Prop}(h:P:=by omega):P:=h
theorem kR{P:Prop}(h:P:=by kernel_rfl):P:=h
theorem dE{P:Prop}(h:P:=by decide):P:=h
theorem sI{P:Prop}(h:P:=by simp):P:=h
theorem sO{P:Prop}(h:P:=by simp;omega):P:=h
theorem rF{P:Prop}(h:P:=by rfl):P:=h
theorem tR{P:Prop}(h:P:=by intro t ht;cases ht;exact rfl):P:=h
theorem gN{P:Prop}(h:P:=by go_num):P:=h
theorem rV{P:Prop}(h:P:=by rw[HV.out];rfl):P:=h
theorem mI{P:Prop}(h:P:=by simp[intOf];omega):P:=h
end Go.Proofs.YthenjegmigeieaaGreat
namespace Go.Proofs
open Go.Shelf
def Tryz.lays170_ren:Go.Shelf.Ren:=⟨fun |170=>243|n=>n,fun |70=>273|3=>3|0=>0|72=>276|37=>274|5=>5|n=>n,fun |n=>n⟩
theorem Tryz.lays170:Go.Proofs.Lays.n170 Tryz.prog Tryz.lays170_ren:={
 mixed:=by kernel_rfl
 f170:=Tryz.func243.trans (congrArg some (by kernel_rfl))
 t0:=Tryz.underlying0
 a0:=Tryz.isAgg0
 z0:=Tryz.sizeOf0
 v0:=Tryz.zeroValue0
 t3:=Tryz.underlying3
 a3:=Tryz.isAgg3
 z3:=Tryz.sizeOf3
 v3:=Tryz.zeroValue3
 t37:=Tryz.underlying274
 a37:=Tryz.isAgg274
 z37:=Tryz.sizeOf274
 v37:=Tryz.zeroValue274
 t70:=Tryz.underlying273
 a70:=Tryz.isAgg273
 z70:=Tryz.sizeOf273
 v70:=Tryz.zeroValue273
 t72:=Tryz.underlying276
 a72:=Tryz.isAgg276
 z72:=Tryz.sizeOf276
 v72:=Tryz.zeroValue276}
open Go.RowKit in
theorem Tryz.Builder_Len(B b:Nat)(bs:List Value)(w:World)(h:Lib.IsBuilder 276 5 B b bs w):
 Calls Tryz.prog 243 #[.pointer (some ⟨b,0,none⟩)] w fun e w'=>e=.returned (.int .i64 bs.length)∧w'=w:=Any.Builder_Len Tryz.lays170 B b bs w h
def Tryz.lays169_ren:Go.Shelf.Ren:=⟨fun |169=>244|n=>n,fun |70=>273|9=>9|0=>0|72=>276|37=>274|127=>287|3=>3|5=>5|n=>n,fun |n=>n⟩
theorem Tryz.lays169:Go.Proofs.Lays.n169 Tryz.prog Tryz.lays169_ren:={
 mixed:=by kernel_rfl
 f169:=Tryz.func244.trans (congrArg some (by kernel_rfl))
 t0:=Tryz.underlying0
 a0:=Tryz.isAgg0
 z0:=Tryz.sizeOf0
 v0:=Tryz.zeroValue0
 t3:=Tryz.underlying3
 a3:=Tryz.isAgg3
 z3:=Tryz.sizeOf3
 v3:=Tryz.zeroValue3
 t9:=Tryz.underlying9
 a9:=Tryz.isAgg9
 z9:=Tryz.sizeOf9
 v9:=Tryz.zeroValue9
 t37:=Tryz.underlying274
 a37:=Tryz.isAgg274
 z37:=Tryz.sizeOf274
 v37:=Tryz.zeroValue274
 t70:=Tryz.underlying273
 a70:=Tryz.isAgg273
 z70:=Tryz.sizeOf273
 v70:=Tryz.zeroValue273
 t72:=Tryz.underlying276
 a72:=Tryz.isAgg276
 z72:=Tryz.sizeOf276
 v72:=Tryz.zeroValue276
 t127:=Tryz.underlying287
 a127:=Tryz.isAgg287
 z127:=Tryz.sizeOf287
 v127:=Tryz.zeroValue287}
theorem Tryz.Builder_Extra_169:Builder.Extra Tryz.prog Tryz.lays169_ren:={
 sizeBuilder:=by kernel_rfl
 liesBuilder:=by kernel_rfl
 t5:=Tryz.underlying5
 a5:=Tryz.isAgg5
 z5:=Tryz.sizeOf5
 v5:=Tryz.zeroValue5
 infoByte:=by kernel_rfl
 cellsByte:=by kernel_rfl
 sizeByte:=by kernel_rfl
 neB5:=by decide}
open Go.RowKit in
theorem Tryz.Builder_String(B b:Nat)(l:List UInt8)(w:World)(h:Lib.IsBuilder 276 5 B b (Lib.byteCells l) w)(h0:l≠[]):
 Calls Tryz.prog 244 #[.pointer (some ⟨b,0,none⟩)] w fun e w'=>e=.returned (.string ⟨l.toArray⟩)∧Below B w w':=Any.Builder_String Tryz.lays169 Tryz.Builder_Extra_169 B b l w h h0
open Go.RowKit in
theorem Tryz.Builder_String_empty(B b:Nat)(w:World)(h:Lib.IsBuilder 276 5 B b [] w)(hBw:B≤w.heap.size):
 Calls Tryz.prog 244 #[.pointer (some ⟨b,0,none⟩)] w fun e w'=>e=.returned (.string ⟨#[]⟩)∧Below B w w':=Any.Builder_String_empty Tryz.lays169 Tryz.Builder_Extra_169 B b w h hBw
open Go.RowKit in
theorem Tryz.Builder_String_any(B b:Nat)(l:List UInt8)(w:World)(h:Lib.IsBuilder 276 5 B b (Lib.byteCells l) w)(hBw:B≤w.heap.size):
 Calls Tryz.prog 244 #[.pointer (some ⟨b,0,none⟩)] w fun e w'=>e=.returned (.string ⟨l.toArray⟩)∧Below B w w':=Any.Builder_String_any Tryz.lays169 Tryz.Builder_Extra_169 B b l w h hBw
def Tryz.lays137_ren:Go.Shelf.Ren:=⟨fun |137=>265|217=>268|266=>269|n=>n,fun |9=>9|5=>5|3=>3|n=>n,fun |n=>n⟩
theorem Tryz.lays137:Go.Proofs.Lays.n137 Tryz.prog Tryz.lays137_ren:={
 mixed:=by kernel_rfl
 f137:=Tryz.func265.trans (congrArg some (by kernel_rfl))
 f217:=Tryz.func268.trans (congrArg some (by kernel_rfl))
 f266:=Tryz.func269.trans (congrArg some (by kernel_rfl))
 t3:=Tryz.underlying3
 a3:=Tryz.isAgg3
 z3:=Tryz.sizeOf3
 v3:=Tryz.zeroValue3
 t5:=Tryz.underlying5
 a5:=Tryz.isAgg5
 z5:=Tryz.sizeOf5
 v5:=Tryz.zeroValue5
 t9:=Tryz.underlying9
 a9:=Tryz.isAgg9
 z9:=Tryz.sizeOf9
 v9:=Tryz.zeroValue9}
open Go.RowKit in
theorem Tryz.strings_IndexByte(s:ByteArray)(c:Int)(w:World):
 Calls Tryz.prog 265 #[.string s, .int .u8 c] w fun e w'=>e=.returned (.int .i64 (Lib.indexByte s.data.toList c.toNat.toUInt8))∧w'=w:=Any.strings_IndexByte Tryz.lays137 s c w
def Tryz.laysM316_ren:Go.Shelf.Ren:=⟨fun |316=>266|n=>n,fun |9=>9|3=>3|4=>4|37=>274|0=>0|127=>287|5=>5|n=>n,fun |n=>n⟩
theorem Tryz.laysM316:Go.Proofs.LaysM.n316 Tryz.prog Tryz.laysM316_ren:={
 mixed:=by kernel_rfl
 f316:=Tryz.func266.trans (congrArg some (by kernel_rfl))
 t0:=Tryz.underlying0
 a0:=Tryz.isAgg0
 z0:=Tryz.sizeOf0
 v0:=Tryz.zeroValue0
 t3:=Tryz.underlying3
 a3:=Tryz.isAgg3
 z3:=Tryz.sizeOf3
 v3:=Tryz.zeroValue3
 t4:=Tryz.underlying4
 a4:=Tryz.isAgg4
 z4:=Tryz.sizeOf4
 v4:=Tryz.zeroValue4
 t9:=Tryz.underlying9
 a9:=Tryz.isAgg9
 z9:=Tryz.sizeOf9
 v9:=Tryz.zeroValue9
 t37:=Tryz.underlying274
 a37:=Tryz.isAgg274
 z37:=Tryz.sizeOf274
 v37:=Tryz.zeroValue274
 t127:=Tryz.underlying287
 a127:=Tryz.isAgg287
 z127:=Tryz.sizeOf287
 v127:=Tryz.zeroValue287
 t5:=Tryz.underlying5
 a5:=Tryz.isAgg5
 z5:=Tryz.sizeOf5
 v5:=Tryz.zeroValue5
 i0:=by kernel_rfl
 i3:=by kernel_rfl
 i4:=by kernel_rfl
 i5:=by kernel_rfl
 i9:=by kernel_rfl
 i37:=by kernel_rfl
 i127:=by kernel_rfl}
open Go.RowKit in
theorem Tryz.stringslite_Clone(s:ByteArray)(w:World)(hlim:s.size≤281474976710656):
 Calls Tryz.prog 266 #[.string s] w fun e w'=>e=.returned (.string s)∧Below w.heap.size w w':=Any.stringslite_Clone Tryz.laysM316 s w hlim
def Tryz.lays217_ren:Go.Shelf.Ren:=⟨fun |217=>268|266=>269|n=>n,fun |9=>9|5=>5|3=>3|n=>n,fun |n=>n⟩
theorem Tryz.lays217:Go.Proofs.Lays.n217 Tryz.prog Tryz.lays217_ren:={
 mixed:=by kernel_rfl
 f217:=Tryz.func268.trans (congrArg some (by kernel_rfl))
 f266:=Tryz.func269.trans (congrArg some (by kernel_rfl))
 t3:=Tryz.underlying3
 a3:=Tryz.isAgg3
 z3:=Tryz.sizeOf3
 v3:=Tryz.zeroValue3
 t5:=Tryz.underlying5
 a5:=Tryz.isAgg5
 z5:=Tryz.sizeOf5
 v5:=Tryz.zeroValue5
 t9:=Tryz.underlying9
 a9:=Tryz.isAgg9
 z9:=Tryz.sizeOf9
 v9:=Tryz.zeroValue9}
open Go.RowKit Go.Lib in
theorem Tryz.stringslite_IndexByte(s:ByteArray)(c:Int)(w:World):
 Calls Tryz.prog 268 #[.string s, .int .u8 c] w fun e w'=>e=.returned (.int .i64 (Lib.indexByte s.data.toList c.toNat.toUInt8))∧w'=w:=Any.stringslite_IndexByte Tryz.lays217 s c w
def Tryz.lays206_ren:Go.Shelf.Ren:=⟨fun |206=>267|n=>n,fun |9=>9|4=>4|3=>3|n=>n,fun |n=>n⟩
theorem Tryz.lays206:Go.Proofs.Lays.n206 Tryz.prog Tryz.lays206_ren:={
 mixed:=by kernel_rfl
 f206:=Tryz.func267.trans (congrArg some (by kernel_rfl))
 t3:=Tryz.underlying3
 a3:=Tryz.isAgg3
 z3:=Tryz.sizeOf3
 v3:=Tryz.zeroValue3
 t4:=Tryz.underlying4
 a4:=Tryz.isAgg4
 z4:=Tryz.sizeOf4
 v4:=Tryz.zeroValue4
 t9:=Tryz.underlying9
 a9:=Tryz.isAgg9
 z9:=Tryz.sizeOf9
 v9:=Tryz.zeroValue9}
open Go.RowKit Go.Lib in
theorem Tryz.stringslite_HasPrefix(s p:ByteArray)(w:World):
 Calls Tryz.prog 267 #[.string s, .string p] w fun e w'=>e=.returned (.bool (Lib.hasPrefix s.data.toList p.data.toList))∧w'=w:=Any.stringslite_HasPrefix Tryz.lays206 s p w
def Tryz.lays99_ren:Go.Shelf.Ren:=⟨fun |99=>264|206=>267|n=>n,fun |9=>9|4=>4|3=>3|n=>n,fun |n=>n⟩
theorem Tryz.lays99:Go.Proofs.Lays.n99 Tryz.prog Tryz.lays99_ren:={
 mixed:=by kernel_rfl
 f99:=Tryz.func264.trans (congrArg some (by kernel_rfl))
 f206:=Tryz.func267.trans (congrArg some (by kernel_rfl))
 t3:=Tryz.underlying3
 a3:=Tryz.isAgg3
 z3:=Tryz.sizeOf3
 v3:=Tryz.zeroValue3
 t4:=Tryz.underlying4
 a4:=Tryz.isAgg4
 z4:=Tryz.sizeOf4
 v4:=Tryz.zeroValue4
 t9:=Tryz.underlying9
 a9:=Tryz.isAgg9
 z9:=Tryz.sizeOf9
 v9:=Tryz.zeroValue9}
open Go.RowKit Go.Lib in
theorem Tryz.strings_HasPrefix(s p:ByteArray)(w:World):
 Calls Tryz.prog 264 #[.string s, .string p] w fun e w'=>e=.returned (.bool (Lib.hasPrefix s.data.toList p.data.toList))∧w'=w:=Any.strings_HasPrefix Tryz.lays99 s p w
end Go.Proofs
namespace Go.Proofs.YthenjegmigeieaaGreat
open Go.RowKit
theorem aBK(s:ByteArray)(w:World)(hs:s.size≤281474976710656):
 Calls Tryz.prog 263 #[.string s] w fun e w'=>e=.returned (.string s)∧Below w.heap.size w w':=by
 go_enter Tryz.func263,Tryz.ntmps263
 go_wp2_with(go_at_call 266;refine(Tryz.stringslite_Clone _ _ hs).mono ?_;rintro e w' ⟨rfl,hb⟩);go_ret;exact⟨rfl,hb⟩
theorem bcell{W w1:World}(hb:Below W.heap.size W w1):(∀b o,b<W.heap.size→w1.cell? ⟨b,o,none⟩=W.cell? ⟨b,o,none⟩)∧(∀b o,b<W.heap.size→w1.frozen? ⟨b,o,none⟩=W.frozen? ⟨b,o,none⟩):=
 ⟨fun b o h=>hb.cell (p:=⟨b,o,none⟩) h,fun b o h=>hb.frozen (p:=⟨b,o,none⟩) h⟩
abbrev tokObj:Obj:=.cells #[.int .i64 0, .int .i64 0, .string {data:=#[]}] 271
theorem tokCell{w w1:World}(hb:Below (w.alloc tokObj).heap.size (w.alloc tokObj) w1):
 (w1.cell? ⟨w.heap.size,0,none⟩=some (.int .i64 0)∧w1.cell? ⟨w.heap.size,1,none⟩=some (.int .i64 0)∧w1.cell? ⟨w.heap.size,2,none⟩=some (.string {data:=#[]}))∧
 w1.frozen? ⟨w.heap.size,0,none⟩=false∧w1.frozen? ⟨w.heap.size,1,none⟩=false∧w1.frozen? ⟨w.heap.size,2,none⟩=false:=by
 obtain⟨hc,hf⟩:=bcell hb;(have h:w.heap.size<(w.alloc tokObj).heap.size:=by simp);refine⟨⟨?_,?_,?_⟩,?_,?_,?_⟩
 ·rw[hc _ _ h];simp[go_sem]
 ·rw[hc _ _ h];simp[go_sem]
 ·rw[hc _ _ h];simp[go_sem]
 ·rw[hf _ _ h];simp[go_sem]
 ·rw[hf _ _ h];simp[go_sem]
 rw[hf _ _ h];simp[go_sem]
theorem iJ{w w1:World}(hb:Below (w.alloc tokObj).heap.size (w.alloc tokObj) w1)(x y z:Value):
 Below w.heap.size w (((w1.setCell ⟨w.heap.size,0,none⟩ x).setCell ⟨w.heap.size,1,none⟩ y).setCell ⟨w.heap.size,2,none⟩ z):=by
 have h0:Below w.heap.size w w1:=((aH _ _).alloc (aF _) _).trans (hb.mono sI);exact((h0.setCell (p:=⟨w.heap.size,0,none⟩) (aF _) _).setCell (p:=⟨w.heap.size,1,none⟩) (aF _) _).setCell (p:=⟨w.heap.size,2,none⟩) (aF _) _
theorem qB(s:ByteArray)(a b k:Int)(w:World)(hs:s.size≤281474976710656)(ha:0≤a)(hab:a≤b)(hb:b≤s.size):
 Calls Tryz.prog 261 #[.string s, .int .i64 a, .int .i64 b, .int .i64 k] w fun e w'=>e=.returned (.agg #[.int .i64 k, .int .i64 a, .string (s.extract a.toNat b.toNat)])∧Below w.heap.size w w':=by
 go_enter Tryz.func261,Tryz.ntmps261
 go_wp2_with fail;refine(aBK _ _ sO).mono ?_;rintro e w1 ⟨rfl,hb1⟩;obtain⟨⟨c0,c1,c2⟩,f0,f1,f2⟩:=tokCell hb1;go_wp2;refine bodyPost_ret (v:=.agg #[.int .i64 k, .int .i64 a, .string (s.extract a.toNat b.toNat)]) (by simp[results,Tryz.results261,go_sem,c0,c1,c2]) rfl ⟨rfl,?_⟩;exact iJ hb1 _ _ _
theorem mT(p:Int→Bool)(s:ByteArray)(a:Nat)(h:a≤s.size):a+Tk.pre p (s.data.toList.drop a)≤s.size:=by have h1:=Tk.pre_le p (s.data.toList.drop a);(have h2:(s.data.toList.drop a).length=s.size-a:=by simp);omega
theorem kL(s:ByteArray)(a n:Nat):s.extract ((a:Nat):Int).toNat ((a:Int)+(n:Int)).toNat=s.extract a (a+n):=by rw[dI,show((a:Int)+(n:Int)).toNat=a+n from by omega]
abbrev gaveUp(a c:Int):Ending:=.panicked [{v:=.iface 289 (.agg #[.int .i64 a, .int .i64 c]),recovered:=false}]
theorem aAX(s:ByteArray)(at0:Nat)(k:Int)(w:World)(hs:s.size≤281474976710656)(ha:at0≤s.size)(hn:12<Tk.pre Tk.alnum (s.data.toList.drop at0)):
 Calls Tryz.prog 255 #[.string s, .int .i64 at0, .int .i64 k] w fun e w'=>e=gaveUp at0 2∧Below w.heap.size w w':=by
 go_enter Tryz.func255,Tryz.ntmps255
 go_wp2_with fail;refine(lR 260 Tk.alnum uR enters260 s at0 _ (by unfold maxLen;omega) ha).mono ?_;rintro e w1 ⟨rfl,rfl⟩;have hle:=mT Tk.alnum s at0 ha;go_wp2_with fail;exact⟨rfl,rfl,(aH _ _).alloc (aF _) _⟩
theorem wX(s:ByteArray)(at0:Nat)(k:Int)(w:World)(hs:s.size≤281474976710656)(ha:at0≤s.size)(hn:Tk.pre Tk.alnum (s.data.toList.drop at0)≤12):
 Calls Tryz.prog 255 #[.string s, .int .i64 at0, .int .i64 k] w fun e w'=>e=.returned (.agg #[.int .i64 k, .int .i64 at0, .string (s.extract at0 (at0+Tk.pre Tk.alnum (s.data.toList.drop at0)))])∧Below w.heap.size w w':=by
 go_enter Tryz.func255,Tryz.ntmps255
 go_wp2_with fail;refine(lR 260 Tk.alnum uR enters260 s at0 _ (by unfold maxLen;omega) ha).mono ?_;rintro e w1 ⟨rfl,rfl⟩;have hle:=mT Tk.alnum s at0 ha;go_wp2_with fail;refine(qB s _ _ k _ hs oM oM oM).mono ?_;rintro e w1 ⟨he,hb1⟩;rw[kL]at he;subst he;obtain⟨⟨c0,c1,c2⟩,f0,f1,f2⟩:=tokCell hb1;go_wp2;exact bodyPost_ret (v:=.agg #[.int .i64 k, .int .i64 at0, .string (s.extract at0 (at0+Tk.pre Tk.alnum (s.data.toList.drop at0)))]) (by simp[results,Tryz.results255,go_sem,c0,c1,c2]) rfl ⟨rfl,iJ hb1 _ _ _⟩
theorem yI(s:ByteArray)(at0:Nat)(w:World)(hs:s.size≤281474976710656)(ha:at0<s.size)(hn:7<Tk.pre Tk.digit (s.data.toList.drop at0)):
 Calls Tryz.prog 258 #[.string s, .int .i64 at0] w fun e w'=>e=gaveUp at0 2∧Below w.heap.size w w':=by
 go_enter Tryz.func258,Tryz.ntmps258
 go_wp2_with fail;refine(lR 257 Tk.digit eL enters257 s at0 _ (by unfold maxLen;omega) oM).mono ?_;rintro e w1 ⟨rfl,rfl⟩;have hle:=mT Tk.digit s at0 oM;go_wp2_with fail;exact⟨rfl,rfl,(aH _ _).alloc (aF _) _⟩
theorem yJ(s:ByteArray)(at0:Nat)(w:World)(hs:s.size≤281474976710656)(ha:at0<s.size)(hn:Tk.pre Tk.digit (s.data.toList.drop at0)≤7)(hm:1<Tk.pre Tk.digit (s.data.toList.drop at0))(h0:((s[at0].toNat:Int)==48)=true):
 Calls Tryz.prog 258 #[.string s, .int .i64 at0] w fun e w'=>e=gaveUp at0 1∧Below w.heap.size w w':=by
 go_enter Tryz.func258,Tryz.ntmps258
 go_wp2_with fail;refine(lR 257 Tk.digit eL enters257 s at0 _ (by unfold maxLen;omega) oM).mono ?_;rintro e w1 ⟨rfl,rfl⟩;have hle:=mT Tk.digit s at0 oM;go_wp2_with fail;exact⟨rfl,rfl,(aH _ _).alloc (aF _) _⟩
theorem aAp(s:ByteArray)(at0:Nat)(w:World)(hs:s.size≤281474976710656)(ha:at0<s.size)(hn:Tk.pre Tk.digit (s.data.toList.drop at0)≤7)(hm:((s[at0].toNat:Int)==48)=false∨Tk.pre Tk.digit (s.data.toList.drop at0)≤1):
 Calls Tryz.prog 258 #[.string s, .int .i64 at0] w fun e w'=>e=.returned (.agg #[.int .i64 3, .int .i64 at0, .string (s.extract at0 (at0+Tk.pre Tk.digit (s.data.toList.drop at0)))])∧Below w.heap.size w w':=by
 have hle:=mT Tk.digit s at0 oM;rcases Bool.eq_false_or_eq_true ((s[at0].toNat:Int)==48)with h0|h0
 ·(have h1:Tk.pre Tk.digit (s.data.toList.drop at0)≤1:=by rcases hm with h|h;rw[h0]at h;cases h;exact h);clear hm
  go_enter Tryz.func258,Tryz.ntmps258
  go_wp2_with fail;refine(lR 257 Tk.digit eL enters257 s at0 _ (by unfold maxLen;omega) oM).mono ?_;rintro e w1 ⟨rfl,rfl⟩;go_wp2_with fail;refine(qB s _ _ 3 _ hs oM oM oM).mono ?_;rintro e w1 ⟨he,hb1⟩;rw[kL]at he;subst he;obtain⟨⟨c0,c1,c2⟩,f0,f1,f2⟩:=tokCell hb1;go_wp2;exact bodyPost_ret (v:=.agg #[.int .i64 3, .int .i64 at0, .string (s.extract at0 (at0+Tk.pre Tk.digit (s.data.toList.drop at0)))]) (by simp[results,Tryz.results258,go_sem,c0,c1,c2]) rfl ⟨rfl,iJ hb1 _ _ _⟩
 clear hm
 go_enter Tryz.func258,Tryz.ntmps258
 go_wp2_with fail;refine(lR 257 Tk.digit eL enters257 s at0 _ (by unfold maxLen;omega) oM).mono ?_;rintro e w1 ⟨rfl,rfl⟩;go_wp2_with fail;refine(qB s _ _ 3 _ hs oM oM oM).mono ?_;rintro e w1 ⟨he,hb1⟩;rw[kL]at he;subst he;obtain⟨⟨c0,c1,c2⟩,f0,f1,f2⟩:=tokCell hb1;go_wp2;exact bodyPost_ret (v:=.agg #[.int .i64 3, .int .i64 at0, .string (s.extract at0 (at0+Tk.pre Tk.digit (s.data.toList.drop at0)))]) (by simp[results,Tryz.results258,go_sem,c0,c1,c2]) rfl ⟨rfl,iJ hb1 _ _ _⟩
theorem qH:∀n:Fin 256,Tk.isSign (UInt8.ofNat n.val)=decide (0≤Lib.indexByte [40,41,44,46,60,61,43,45,42] (UInt8.ofNat n.val)):=by decide+kernel
theorem zZ(x:UInt8):Tk.isSign x=decide (0≤Lib.indexByte [40,41,44,46,60,61,43,45,42] x):=by have h:=qH ⟨x.toNat,x.toNat_lt⟩;simpa using h
theorem mJ(t:ByteArray)(w:World)(ht:0<t.size):
 Calls Tryz.prog 262 #[.string t] w fun e w'=>e=.returned (.int .i64 (Tk.signLen t.data.toList))∧w'=w:=by
 have i0:∀w:World,(Instr.index 300 (.agg #[.string {data:=#[58,45]}, .string {data:=#[60,61]}, .string {data:=#[33,61]}]) (.int .i64 0)).run Tryz.prog w=.ok (.string {data:=#[58,45]}) w:=fun _=>kR;have i1:∀w:World,(Instr.index 300 (.agg #[.string {data:=#[58,45]}, .string {data:=#[60,61]}, .string {data:=#[33,61]}]) (.int .i64 1)).run Tryz.prog w=.ok (.string {data:=#[60,61]}) w:=fun _=>kR;have i2:∀w:World,(Instr.index 300 (.agg #[.string {data:=#[58,45]}, .string {data:=#[60,61]}, .string {data:=#[33,61]}]) (.int .i64 2)).run Tryz.prog w=.ok (.string {data:=#[33,61]}) w:=fun _=>kR;(have hd:t.data.toList=t[0]::t.data.toList.drop 1:=by have h:=Tk.drop_cons t.data.toList 0 (by simpa using ht);rw[cW]at h;exact h);(have hu:((t[0].toNat:Int).toNat.toUInt8)=t[0]:=by simp[Nat.toUInt8]);have hS:=zZ t[0];cases h0:Lib.hasPrefix t.data.toList [58,45]
 ·cases h1:Lib.hasPrefix t.data.toList [60,61]
  ·cases h2:Lib.hasPrefix t.data.toList [33,61]
   ·(have HS:Hid (Tk.signLen t.data.toList=if Tk.isSign t[0] then 1 else 0):=by(have e1:Tk.signLen t.data.toList=if [58,45].isPrefixOf t.data.toList||[60,61].isPrefixOf t.data.toList||[33,61].isPrefixOf t.data.toList then 2 else match t.data.toList with |[]=>0|c::_=>if Tk.isSign c then 1 else 0:=rfl);rw[Lib.hasPrefix]at h0 h1 h2;rw[h0,h1,h2]at e1;rw[hd]at e1;rw[hd];exact e1);clear hd;cases h3:Tk.isSign t[0]
    ·rw[h3]at hS;(have hlt:Lib.indexByte [40,41,44,46,60,61,43,45,42] t[0]<0:=by simpa using hS.symm);(have HS':Hid (Tk.signLen t.data.toList=0):=by have :=HS.out;rw[h3]at this;exact this);clear HS hS h3
     go_enter Tryz.func262,Tryz.ntmps262
     go_wp2;refine wp_loop_rounds 4 ?_;rw[rounds_succ];go_wp2_with(go_at_call 264;refine(Tryz.strings_HasPrefix _ _ _).mono ?_;rintro e w' ⟨rfl,rfl⟩);rw[rounds_succ];go_wp2_with(go_at_call 264;refine(Tryz.strings_HasPrefix _ _ _).mono ?_;rintro e w' ⟨rfl,rfl⟩);rw[rounds_succ];go_wp2_with(go_at_call 264;refine(Tryz.strings_HasPrefix _ _ _).mono ?_;rintro e w' ⟨rfl,rfl⟩);rw[rounds_succ];go_wp2_with fail;refine(Tryz.strings_IndexByte _ _ _).mono ?_;rintro e w' ⟨he,rfl⟩;rw[hu]at he;subst he;go_wp2;go_ret;exact⟨iP (by rw[HS'.out];rfl),rfl⟩
    rw[h3]at hS;(have hlt:0≤Lib.indexByte [40,41,44,46,60,61,43,45,42] t[0]:=by simpa using hS.symm);(have HS':Hid (Tk.signLen t.data.toList=1):=by have :=HS.out;rw[h3]at this;exact this);clear HS hS h3
    go_enter Tryz.func262,Tryz.ntmps262
    go_wp2;refine wp_loop_rounds 4 ?_;rw[rounds_succ];go_wp2_with(go_at_call 264;refine(Tryz.strings_HasPrefix _ _ _).mono ?_;rintro e w' ⟨rfl,rfl⟩);rw[rounds_succ];go_wp2_with(go_at_call 264;refine(Tryz.strings_HasPrefix _ _ _).mono ?_;rintro e w' ⟨rfl,rfl⟩);rw[rounds_succ];go_wp2_with(go_at_call 264;refine(Tryz.strings_HasPrefix _ _ _).mono ?_;rintro e w' ⟨rfl,rfl⟩);rw[rounds_succ];go_wp2_with fail;refine(Tryz.strings_IndexByte _ _ _).mono ?_;rintro e w' ⟨he,rfl⟩;rw[hu]at he;subst he;go_wp2;go_ret;exact⟨iP (by rw[HS'.out];rfl),rfl⟩
   (have HS:Hid (Tk.signLen t.data.toList=2):=by rw[Lib.hasPrefix]at h2;simp[Hid,Tk.signLen,h2]);clear hd hS hu
   go_enter Tryz.func262,Tryz.ntmps262
   go_wp2;refine wp_loop_rounds 4 ?_;rw[rounds_succ];go_wp2_with(go_at_call 264;refine(Tryz.strings_HasPrefix _ _ _).mono ?_;rintro e w' ⟨rfl,rfl⟩);rw[rounds_succ];go_wp2_with(go_at_call 264;refine(Tryz.strings_HasPrefix _ _ _).mono ?_;rintro e w' ⟨rfl,rfl⟩);rw[rounds_succ];go_wp2_with(go_at_call 264;refine(Tryz.strings_HasPrefix _ _ _).mono ?_;rintro e w' ⟨rfl,rfl⟩);go_ret;exact⟨iP (by rw[HS.out];rfl),rfl⟩
  (have HS:Hid (Tk.signLen t.data.toList=2):=by rw[Lib.hasPrefix]at h1;simp[Hid,Tk.signLen,h1]);clear hd hS hu
  go_enter Tryz.func262,Tryz.ntmps262
  go_wp2;refine wp_loop_rounds 4 ?_;rw[rounds_succ];go_wp2_with(go_at_call 264;refine(Tryz.strings_HasPrefix _ _ _).mono ?_;rintro e w' ⟨rfl,rfl⟩);rw[rounds_succ];go_wp2_with(go_at_call 264;refine(Tryz.strings_HasPrefix _ _ _).mono ?_;rintro e w' ⟨rfl,rfl⟩);go_ret;exact⟨iP (by rw[HS.out];rfl),rfl⟩
 (have HS:Hid (Tk.signLen t.data.toList=2):=by rw[Lib.hasPrefix]at h0;simp[Hid,Tk.signLen,h0]);clear hd hS hu
 go_enter Tryz.func262,Tryz.ntmps262
 go_wp2;refine wp_loop_rounds 4 ?_;rw[rounds_succ];go_wp2_with(go_at_call 264;refine(Tryz.strings_HasPrefix _ _ _).mono ?_;rintro e w' ⟨rfl,rfl⟩);go_ret;exact⟨iP (by rw[HS.out];rfl),rfl⟩
theorem aCQ(s:ByteArray)(at0:Nat)(w:World)(_hs:s.size≤281474976710656)(ha:at0<s.size)(hn:Tk.signLen (s.data.toList.drop at0)=0):
 Calls Tryz.prog 259 #[.string s, .int .i64 at0] w fun e w'=>e=gaveUp at0 1∧Below w.heap.size w w':=by
 have HN:Hid (Tk.signLen (s.data.toList.drop at0)=0):=hn;clear hn
 go_enter Tryz.func259,Tryz.ntmps259
 go_wp2_with fail;refine(mJ _ _ sO).mono ?_;rintro e w1 ⟨he,rfl⟩;rw[Lib.extract_to_end,HN.out]at he;subst he;go_wp2_with fail;exact⟨rfl,rfl,(aH _ _).alloc (aF _) _⟩
theorem aCd(s:ByteArray)(at0:Nat)(w:World)(hs:s.size≤281474976710656)(ha:at0<s.size)(hn:0<Tk.signLen (s.data.toList.drop at0)):
 Calls Tryz.prog 259 #[.string s, .int .i64 at0] w fun e w'=>e=.returned (.agg #[.int .i64 4, .int .i64 at0, .string (s.extract at0 (at0+Tk.signLen (s.data.toList.drop at0)))])∧Below w.heap.size w w':=by
 (have hle:at0+Tk.signLen (s.data.toList.drop at0)≤s.size:=by have h1:=Tk.signLen_le (s.data.toList.drop at0);(have h2:(s.data.toList.drop at0).length=s.size-at0:=by simp);omega);generalize hX:Tk.signLen (s.data.toList.drop at0)=n at *;have HX:Hid (Tk.signLen (s.data.toList.drop at0)=n):=hX;clear hX;have hb:((n:Int)==0)=false:=by simp;omega
 go_enter Tryz.func259,Tryz.ntmps259
 go_wp2_with fail;refine(mJ _ _ sO).mono ?_;rintro e w1 ⟨he,rfl⟩;rw[Lib.extract_to_end,HX.out]at he;subst he;go_wp2_with fail;refine(qB s _ _ 4 _ hs oM oM oM).mono ?_;rintro e w1 ⟨he,hb1⟩;rw[kL]at he;subst he;obtain⟨⟨c0,c1,c2⟩,f0,f1,f2⟩:=tokCell hb1;go_wp2;exact bodyPost_ret (v:=.agg #[.int .i64 4, .int .i64 at0, .string (s.extract at0 (at0+n))]) (by simp[results,Tryz.results259,go_sem,c0,c1,c2]) rfl ⟨rfl,iJ hb1 _ _ _⟩
theorem jS(s:ByteArray)(a:Nat)(h:a<s.size):s.data.toList.drop a=s[a]::s.data.toList.drop (a+1):=Tk.drop_cons s.data.toList a (by simpa using h)
theorem wM(s:ByteArray)(a n:Nat):s.extract a (a+n)=⟨((s.data.toList.drop a).take n).toArray⟩:=by rw[Lib.extract_eq,jC]
abbrev tokVal(t:Tk.Tok):Value:=.agg #[.int .i64 t.kind, .int .i64 t.at_, .string ⟨t.text.toArray⟩]
theorem lV(c:UInt8)(r:List UInt8):Tk.errOf (c::r)=if Tk.small c.toNat||Tk.great c.toNat then(if Tk.pre Tk.alnum (c::r)>12 then 2 else 0)
 else if Tk.digit c.toNat then(if Tk.pre Tk.digit (c::r)>7 then 2 else if(c.toNat:Int)=48∧Tk.pre Tk.digit (c::r)>1 then 1 else 0)
 else if Tk.signLen (c::r)=0 then 1 else 0:=rfl
theorem lD(c:UInt8)(r:List UInt8):Tk.kindOf (c::r)=if Tk.small c.toNat then 1 else if Tk.great c.toNat then 2 else if Tk.digit c.toNat then 3 else 4:=rfl
theorem lS(c:UInt8)(r:List UInt8):Tk.lenOf (c::r)=if Tk.small c.toNat||Tk.great c.toNat then Tk.pre Tk.alnum (c::r)else if Tk.digit c.toNat then Tk.pre Tk.digit (c::r)else Tk.signLen (c::r):=rfl
theorem kW{w w1:World}(hb:Below (w.alloc tokObj).heap.size (w.alloc tokObj) w1):Below w.heap.size w w1:=
 ((aH _ _).alloc (aF _) _).trans (hb.mono sI)
theorem zS(s:ByteArray)(at0:Nat)(w:World)(hs:s.size≤281474976710656)(ha:at0<s.size)(he:¬Tk.errOf (s.data.toList.drop at0)=0):
 Calls Tryz.prog 251 #[.string s, .int .i64 at0] w fun e w'=>e=gaveUp at0 (Tk.errOf (s.data.toList.drop at0))∧Below w.heap.size w w':=by
 have hd:=jS s at0 ha
 have e0:Tk.errOf (s.data.toList.drop at0)=if Tk.small s[at0].toNat||Tk.great s[at0].toNat then(if Tk.pre Tk.alnum (s.data.toList.drop at0)>12 then 2 else 0)
  else if Tk.digit s[at0].toNat then(if Tk.pre Tk.digit (s.data.toList.drop at0)>7 then 2 else if(s[at0].toNat:Int)=48∧Tk.pre Tk.digit (s.data.toList.drop at0)>1 then 1 else 0)
  else if Tk.signLen (s.data.toList.drop at0)=0 then 1 else 0:=by
  rw[hd];exact lV _ _
 clear hd;cases h1:Tk.small (s[at0].toNat:Int)
 ·cases h2:Tk.great (s[at0].toNat:Int)
  ·cases h3:Tk.digit (s[at0].toNat:Int)
   ·rw[h1,h2,h3]at e0;simp only[gV,eF,if_false]at e0;have hn:Tk.signLen (s.data.toList.drop at0)=0:=by
     by_cases h:Tk.signLen (s.data.toList.drop at0)=0
     ·exact h
     rw[if_neg h]at e0;exact absurd e0 he
    rw[if_pos hn]at e0;rw[e0];have HN:Hid (Tk.signLen (s.data.toList.drop at0)=0):=hn;clear e0 he hn
    go_enter Tryz.func251,Tryz.ntmps251
    go_wp2_with(first|(go_at_call 254;refine(fA _ _).mono ?_;rintro e w' ⟨rfl,rfl⟩)|(go_at_call 256;refine(fB _ _).mono ?_;rintro e w' ⟨rfl,rfl⟩)|(go_at_call 257;refine(eL _ _).mono ?_;rintro e w' ⟨rfl,rfl⟩)|(go_at_call 259;refine(aCQ s at0 _ hs ha HN.out).mono ?_;rintro e w1 ⟨rfl,hb1⟩));exact⟨rfl,rfl,kW hb1⟩
   rw[h1,h2,h3]at e0;simp only[gV,eF,if_false,if_true]at e0;by_cases h:Tk.pre Tk.digit (s.data.toList.drop at0)>7
   ·rw[if_pos h]at e0;rw[e0];clear e0 he
    go_enter Tryz.func251,Tryz.ntmps251
    go_wp2_with(first|(go_at_call 254;refine(fA _ _).mono ?_;rintro e w' ⟨rfl,rfl⟩)|(go_at_call 256;refine(fB _ _).mono ?_;rintro e w' ⟨rfl,rfl⟩)|(go_at_call 257;refine(eL _ _).mono ?_;rintro e w' ⟨rfl,rfl⟩)|(go_at_call 258;refine(yI s at0 _ hs ha h).mono ?_;rintro e w1 ⟨rfl,hb1⟩));exact⟨rfl,rfl,kW hb1⟩
   rw[if_neg h]at e0;have hn:(s[at0].toNat:Int)=48∧Tk.pre Tk.digit (s.data.toList.drop at0)>1:=by
    by_cases h:(s[at0].toNat:Int)=48∧Tk.pre Tk.digit (s.data.toList.drop at0)>1
    ·exact h
    rw[if_neg h]at e0;exact absurd e0 he
   rw[if_pos hn]at e0;rw[e0];have HN:Hid ((s[at0].toNat:Int)=48∧Tk.pre Tk.digit (s.data.toList.drop at0)>1):=hn;clear e0 he hn
   go_enter Tryz.func251,Tryz.ntmps251
   go_wp2_with(first|(go_at_call 254;refine(fA _ _).mono ?_;rintro e w' ⟨rfl,rfl⟩)|(go_at_call 256;refine(fB _ _).mono ?_;rintro e w' ⟨rfl,rfl⟩)|(go_at_call 257;refine(eL _ _).mono ?_;rintro e w' ⟨rfl,rfl⟩)|(go_at_call 258;refine(yJ s at0 _ hs ha oM HN.out.2 (beq_iff_eq.2 HN.out.1)).mono ?_;rintro e w1 ⟨rfl,hb1⟩));exact⟨rfl,rfl,kW hb1⟩
  rw[h1,h2]at e0;simp only[gH,if_true]at e0;have hn:12<Tk.pre Tk.alnum (s.data.toList.drop at0):=by
   by_cases h:Tk.pre Tk.alnum (s.data.toList.drop at0)>12
   ·exact h
   rw[if_neg h]at e0;exact absurd e0 he
  rw[if_pos hn]at e0;rw[e0];clear e0 he
  go_enter Tryz.func251,Tryz.ntmps251
  go_wp2_with(first|(go_at_call 254;refine(fA _ _).mono ?_;rintro e w' ⟨rfl,rfl⟩)|(go_at_call 256;refine(fB _ _).mono ?_;rintro e w' ⟨rfl,rfl⟩)|(go_at_call 257;refine(eL _ _).mono ?_;rintro e w' ⟨rfl,rfl⟩)|(go_at_call 255;refine(aAX s at0 2 _ hs oM hn).mono ?_;rintro e w1 ⟨rfl,hb1⟩));exact⟨rfl,rfl,kW hb1⟩
 rw[h1]at e0;simp only[Bool.true_or,if_true]at e0;have hn:12<Tk.pre Tk.alnum (s.data.toList.drop at0):=by
  by_cases h:Tk.pre Tk.alnum (s.data.toList.drop at0)>12
  ·exact h
  rw[if_neg h]at e0;exact absurd e0 he
 rw[if_pos hn]at e0;rw[e0];clear e0 he
 go_enter Tryz.func251,Tryz.ntmps251
 go_wp2_with(first|(go_at_call 254;refine(fA _ _).mono ?_;rintro e w' ⟨rfl,rfl⟩)|(go_at_call 256;refine(fB _ _).mono ?_;rintro e w' ⟨rfl,rfl⟩)|(go_at_call 257;refine(eL _ _).mono ?_;rintro e w' ⟨rfl,rfl⟩)|(go_at_call 255;refine(aAX s at0 1 _ hs oM hn).mono ?_;rintro e w1 ⟨rfl,hb1⟩));exact⟨rfl,rfl,kW hb1⟩
theorem aCV{k k' a:Int}{s:ByteArray}{n n':Nat}{p:Nat}(hk:k=k')(hn:n=n')(l:List UInt8)(hl:l=s.data.toList.drop p):
 Ending.returned (.agg #[.int .i64 k, .int .i64 a, .string (s.extract p (p+n))])=.returned (.agg #[.int .i64 k', .int .i64 a, .string ⟨(l.take n').toArray⟩]):=by
 subst hk hn hl;rw[wM]
theorem xB(s:ByteArray)(at0:Nat)(w:World)(hs:s.size≤281474976710656)(ha:at0<s.size)(he:Tk.errOf (s.data.toList.drop at0)=0):
 Calls Tryz.prog 251 #[.string s, .int .i64 at0] w fun e w'=>e=.returned (tokVal (Tk.tokAt s.data.toList at0))∧Below w.heap.size w w':=by
 have hd:=jS s at0 ha
 have e0:Tk.errOf (s.data.toList.drop at0)=if Tk.small s[at0].toNat||Tk.great s[at0].toNat then(if Tk.pre Tk.alnum (s.data.toList.drop at0)>12 then 2 else 0)
  else if Tk.digit s[at0].toNat then(if Tk.pre Tk.digit (s.data.toList.drop at0)>7 then 2 else if(s[at0].toNat:Int)=48∧Tk.pre Tk.digit (s.data.toList.drop at0)>1 then 1 else 0)
  else if Tk.signLen (s.data.toList.drop at0)=0 then 1 else 0:=by
  rw[hd];exact lV _ _
 (have e1:Tk.kindOf (s.data.toList.drop at0)=if Tk.small s[at0].toNat then 1 else if Tk.great s[at0].toNat then 2 else if Tk.digit s[at0].toNat then 3 else 4:=by rw[hd];exact lD _ _);(have e2:Tk.lenOf (s.data.toList.drop at0)=if Tk.small s[at0].toNat||Tk.great s[at0].toNat then Tk.pre Tk.alnum (s.data.toList.drop at0)else if Tk.digit s[at0].toNat then Tk.pre Tk.digit (s.data.toList.drop at0)else Tk.signLen (s.data.toList.drop at0):=by rw[hd];exact lS _ _);(rw[he]at e0;clear hd he;have HV:Hid (∀(k:Int)(n:Nat),k=Tk.kindOf (s.data.toList.drop at0)→n=Tk.lenOf (s.data.toList.drop at0)→Ending.returned (.agg #[.int .i64 k, .int .i64 at0, .string (s.extract at0 (at0+n))])=.returned (tokVal (Tk.tokAt s.data.toList at0))):=by intro k n hk hn;exact aCV hk hn _ rfl);generalize tokVal (Tk.tokAt s.data.toList at0)=V at *;cases h1:Tk.small (s[at0].toNat:Int)
 ·cases h2:Tk.great (s[at0].toNat:Int)
  ·cases h3:Tk.digit (s[at0].toNat:Int)
   ·rw[h1,h2,h3]at e0 e1 e2;simp only[gV,eF,if_false]at e0 e1 e2;have hn:0<Tk.signLen (s.data.toList.drop at0):=by
     by_cases h:Tk.signLen (s.data.toList.drop at0)=0
     ·rw[if_pos h]at e0;exact absurd e0 dE
     omega
    have HF:Hid (_=_):=HV.out 4 (Tk.signLen (s.data.toList.drop at0)) e1.symm e2.symm;clear e0 e1 e2 HV
    go_enter Tryz.func251,Tryz.ntmps251
    go_wp2_with(first|(go_at_call 254;refine(fA _ _).mono ?_;rintro e w' ⟨rfl,rfl⟩)|(go_at_call 256;refine(fB _ _).mono ?_;rintro e w' ⟨rfl,rfl⟩)|(go_at_call 257;refine(eL _ _).mono ?_;rintro e w' ⟨rfl,rfl⟩)|(go_at_call 259;refine(aCd s at0 _ hs ha hn).mono ?_;rintro e w1 ⟨rfl,hb1⟩;obtain⟨⟨c0,c1,c2⟩,f0,f1,f2⟩:=tokCell hb1));exact bodyPost_ret (v:=.agg #[.int .i64 4, .int .i64 at0, .string (s.extract at0 (at0+Tk.signLen (s.data.toList.drop at0)))]) (by simp[results,Tryz.results251,go_sem,c0,c1,c2]) rfl ⟨HF.out,iJ hb1 _ _ _⟩
   rw[h1,h2,h3]at e0 e1 e2;simp only[gV,eF,if_false,if_true]at e0 e1 e2;have hm:Tk.pre Tk.digit (s.data.toList.drop at0)≤7:=by
    by_cases h:Tk.pre Tk.digit (s.data.toList.drop at0)>7
    ·rw[if_pos h]at e0;exact absurd e0 dE
    omega
   have hn:((s[at0].toNat:Int)==48)=false∨Tk.pre Tk.digit (s.data.toList.drop at0)≤1:=by
    rw[if_neg oM]at e0;by_cases h:(s[at0].toNat:Int)=48∧Tk.pre Tk.digit (s.data.toList.drop at0)>1
    ·rw[if_pos h]at e0;exact absurd e0 dE
    by_cases h4:(s[at0].toNat:Int)=48
    ·exact .inr oM
    exact .inl (beq_eq_false_iff_ne.2 h4)
   have HN:Hid (((s[at0].toNat:Int)==48)=false∨Tk.pre Tk.digit (s.data.toList.drop at0)≤1):=hn;have HF:Hid (_=_):=HV.out 3 (Tk.pre Tk.digit (s.data.toList.drop at0)) e1.symm e2.symm;clear e0 e1 e2 HV hn
   go_enter Tryz.func251,Tryz.ntmps251
   go_wp2_with(first|(go_at_call 254;refine(fA _ _).mono ?_;rintro e w' ⟨rfl,rfl⟩)|(go_at_call 256;refine(fB _ _).mono ?_;rintro e w' ⟨rfl,rfl⟩)|(go_at_call 257;refine(eL _ _).mono ?_;rintro e w' ⟨rfl,rfl⟩)|(go_at_call 258;refine(aAp s at0 _ hs ha hm HN.out).mono ?_;rintro e w1 ⟨rfl,hb1⟩;obtain⟨⟨c0,c1,c2⟩,f0,f1,f2⟩:=tokCell hb1));exact bodyPost_ret (v:=.agg #[.int .i64 3, .int .i64 at0, .string (s.extract at0 (at0+Tk.pre Tk.digit (s.data.toList.drop at0)))]) (by simp[results,Tryz.results251,go_sem,c0,c1,c2]) rfl ⟨HF.out,iJ hb1 _ _ _⟩
  rw[h1,h2]at e0 e1 e2;simp only[gH,eF,if_false,if_true]at e0 e1 e2;have hn:Tk.pre Tk.alnum (s.data.toList.drop at0)≤12:=by
   by_cases h:Tk.pre Tk.alnum (s.data.toList.drop at0)>12
   ·rw[if_pos h]at e0;exact absurd e0 dE
   omega
  have HF:Hid (_=_):=HV.out 2 (Tk.pre Tk.alnum (s.data.toList.drop at0)) e1.symm e2.symm;clear e0 e1 e2 HV
  go_enter Tryz.func251,Tryz.ntmps251
  go_wp2_with(first|(go_at_call 254;refine(fA _ _).mono ?_;rintro e w' ⟨rfl,rfl⟩)|(go_at_call 256;refine(fB _ _).mono ?_;rintro e w' ⟨rfl,rfl⟩)|(go_at_call 257;refine(eL _ _).mono ?_;rintro e w' ⟨rfl,rfl⟩)|(go_at_call 255;refine(wX s at0 2 _ hs oM hn).mono ?_;rintro e w1 ⟨rfl,hb1⟩;obtain⟨⟨c0,c1,c2⟩,f0,f1,f2⟩:=tokCell hb1));exact bodyPost_ret (v:=.agg #[.int .i64 2, .int .i64 at0, .string (s.extract at0 (at0+Tk.pre Tk.alnum (s.data.toList.drop at0)))]) (by simp[results,Tryz.results251,go_sem,c0,c1,c2]) rfl ⟨HF.out,iJ hb1 _ _ _⟩
 rw[h1]at e0 e1 e2;simp only[Bool.true_or,if_true]at e0 e1 e2;have hn:Tk.pre Tk.alnum (s.data.toList.drop at0)≤12:=by
  by_cases h:Tk.pre Tk.alnum (s.data.toList.drop at0)>12
  ·rw[if_pos h]at e0;exact absurd e0 dE
  omega
 have HF:Hid (_=_):=HV.out 1 (Tk.pre Tk.alnum (s.data.toList.drop at0)) e1.symm e2.symm;clear e0 e1 e2 HV
 go_enter Tryz.func251,Tryz.ntmps251
 go_wp2_with(first|(go_at_call 254;refine(fA _ _).mono ?_;rintro e w' ⟨rfl,rfl⟩)|(go_at_call 256;refine(fB _ _).mono ?_;rintro e w' ⟨rfl,rfl⟩)|(go_at_call 257;refine(eL _ _).mono ?_;rintro e w' ⟨rfl,rfl⟩)|(go_at_call 255;refine(wX s at0 1 _ hs oM hn).mono ?_;rintro e w1 ⟨rfl,hb1⟩;obtain⟨⟨c0,c1,c2⟩,f0,f1,f2⟩:=tokCell hb1));exact bodyPost_ret (v:=.agg #[.int .i64 1, .int .i64 at0, .string (s.extract at0 (at0+Tk.pre Tk.alnum (s.data.toList.drop at0)))]) (by simp[results,Tryz.results251,go_sem,c0,c1,c2]) rfl ⟨HF.out,iJ hb1 _ _ _⟩
theorem aBc(s:ByteArray)(k:Nat)(h:k<s.size)(hc:(s[k].toNat:Int)=32∨(s[k].toNat:Int)=9∨(s[k].toNat:Int)=10):
 Tk.sep false (s.data.toList.drop k)=Tk.sep false (s.data.toList.drop (k+1))+1:=by
 rw[jS s k h,Tk.sep,if_neg oM,if_pos hc]
theorem aCg(s:ByteArray)(k:Nat)(h:k<s.size)(h1:¬(s[k].toNat:Int)=37)(hc:¬((s[k].toNat:Int)=32∨(s[k].toNat:Int)=9∨(s[k].toNat:Int)=10)):
 Tk.sep false (s.data.toList.drop k)=0:=by
 rw[jS s k h,Tk.sep,if_neg h1,if_neg hc]
theorem aCS(b:Bool)(s:ByteArray)(k:Nat)(h:s.size≤k):Tk.sep b (s.data.toList.drop k)=0:=by rw[aL (by simpa using h)];cases b<;>rfl
theorem aCR(s:ByteArray)(k:Nat)(h:k<s.size)(h1:(s[k].toNat:Int)=37):
 Tk.sep false (s.data.toList.drop k)=Tk.pre Tk.noLf (s.data.toList.drop k)+Tk.sep false (s.data.toList.drop (k+Tk.pre Tk.noLf (s.data.toList.drop k)))∧1≤Tk.pre Tk.noLf (s.data.toList.drop k):=by
 (have hp:Tk.pre Tk.noLf (s.data.toList.drop k)=Tk.pre Tk.noLf (s.data.toList.drop (k+1))+1:=by rw[jS s k h,Tk.pre,if_pos (by rw[Tk.noLf,h1];rfl)]);refine⟨?_,oM⟩;(have e1:Tk.sep false (s.data.toList.drop k)=Tk.sep true (s.data.toList.drop (k+1))+1:=by rw[jS s k h,Tk.sep,if_pos h1]);rw[e1,Tk.sep_note,List.drop_drop,hp,show k+(Tk.pre Tk.noLf (s.data.toList.drop (k+1))+1)=k+1+Tk.pre Tk.noLf (s.data.toList.drop (k+1))from by omega];omega
theorem qI(b:Bool)(s:ByteArray)(a:Nat)(h:a≤s.size):a+Tk.sep b (s.data.toList.drop a)≤s.size:=by have h1:=Tk.sep_le b (s.data.toList.drop a);(have h2:(s.data.toList.drop a).length=s.size-a:=by simp);omega
theorem xG(s:ByteArray)(at0:Nat)(w:World)(hs:s.size≤281474976710656)(ha:at0≤s.size):
 Calls Tryz.prog 250 #[.string s, .int .i64 at0] w fun e w'=>e=.returned (.int .i64 ((at0+Tk.sep false (s.data.toList.drop at0):Nat):Int))∧w'=w:=by
 go_enter Tryz.func250,Tryz.ntmps250
 go_wp2;go_loop [1] (fun i=>∃k:Nat,k≤s.size∧i=.int .i64 k∧at0+Tk.sep false (s.data.toList.drop at0)=k+Tk.sep false (s.data.toList.drop k)) (fun i=>s.size-(intOf i).toNat);case atStart=>exact⟨at0,ha,rfl,rfl⟩
 case round=>
  obtain⟨k,hk,rfl,hk2⟩:=hrel;have HK:Hid (at0+Tk.sep false (s.data.toList.drop at0)=k+Tk.sep false (s.data.toList.drop k)):=hk2;clear hk2;by_cases hlt:k<s.size
  ·by_cases hb:(s[k].toNat:Int)=32∨(s[k].toNat:Int)=9∨(s[k].toNat:Int)=10
   ·have HE:Hid (Tk.sep false (s.data.toList.drop k)=Tk.sep false (s.data.toList.drop (k+1))+1):=aBc s k hlt hb;(have hrel2:Hid (at0+Tk.sep false (s.data.toList.drop at0)=(k+1)+Tk.sep false (s.data.toList.drop (k+1))):=by have h1:=HK.out;have h2:=HE.out;show _=_;omega);clear HE HK;by_cases b1:(s[k].toNat:Int)=32
    ·have t1:((s[k].toNat:Int)==32)=true:=beq_iff_eq.2 b1;clear b1 hb;go_wp2;go_round;(case rel=>exact⟨k+1,oM,gN,hrel2.out⟩);case measure=>exact mI
    have t1:((s[k].toNat:Int)==32)=false:=beq_eq_false_iff_ne.2 b1;by_cases b2:(s[k].toNat:Int)=9
    ·have t2:((s[k].toNat:Int)==9)=true:=beq_iff_eq.2 b2;clear b1 b2 hb;go_wp2;go_round;(case rel=>exact⟨k+1,oM,gN,hrel2.out⟩);case measure=>exact mI
    have t2:((s[k].toNat:Int)==9)=false:=beq_eq_false_iff_ne.2 b2;have t3:((s[k].toNat:Int)==10)=true:=beq_iff_eq.2 oM;clear b1 b2 hb;go_wp2;go_round;(case rel=>exact⟨k+1,oM,gN,hrel2.out⟩);case measure=>exact mI
   have t1:((s[k].toNat:Int)==32)=false:=beq_eq_false_iff_ne.2 oM;have t2:((s[k].toNat:Int)==9)=false:=beq_eq_false_iff_ne.2 oM;have t3:((s[k].toNat:Int)==10)=false:=beq_eq_false_iff_ne.2 oM;by_cases b4:(s[k].toNat:Int)=37
   ·obtain⟨h1,h2⟩:=aCR s k hlt b4;have hle:=mT Tk.noLf s k hk;(have HR:Hid (at0+Tk.sep false (s.data.toList.drop at0)=(k+Tk.pre Tk.noLf (s.data.toList.drop k))+Tk.sep false (s.data.toList.drop (k+Tk.pre Tk.noLf (s.data.toList.drop k)))):=by have h3:=HK.out;show _=_;omega);have t4:((s[k].toNat:Int)==37)=true:=beq_iff_eq.2 b4;clear h1 HK hb b4;go_wp2_with(go_at_call 252;refine(lR 253 Tk.noLf aCm enters253 s k _ (by unfold maxLen;omega) hk).mono ?_;rintro e w' ⟨rfl,rfl⟩);go_round;(case rel=>exact⟨k+Tk.pre Tk.noLf (s.data.toList.drop k),hle,gN,HR.out⟩);case measure=>exact mI
   have HE:Hid (Tk.sep false (s.data.toList.drop k)=0):=aCg s k hlt b4 hb;have t4:((s[k].toNat:Int)==37)=false:=beq_eq_false_iff_ne.2 b4;clear hb b4;go_wp2;go_ret;exact⟨iP (by have h1:=HK.out;have h2:=HE.out;omega),rfl⟩
  have HE:Hid (Tk.sep false (s.data.toList.drop k)=0):=aCS false s k oM;go_wp2;go_ret;exact⟨iP (by have h1:=HK.out;have h2:=HE.out;omega),rfl⟩
theorem aAO(pl pg:Addr)(w:World):
 CallsD Tryz.prog 249 #[.pointer (some pl), .pointer (some pg)] .returning w fun e u' w'=>e=.returned (.tuple #[])∧u'=.returning∧w'=w:=by
 refine callsD_of_wpS Tryz.func249 rfl fun c₀ cs hu=>?_;apply wpS_seq;apply wpS_region;simp[wpOpsS,go_sem,recoverD,hu,Tryz.ntmps249,Exit.thenS];refine wpS_of_wp ?_;rw[show(#[Value.pointer (some pl),Value.pointer (some pg)]++((Array.replicate 6 undef).setIfInBounds 1 Value.nilIface).setIfInBounds 0 Value.nilIface)=#[.pointer (some pl), .pointer (some pg), .nilIface, .nilIface,undef,undef,undef,undef] from rfl];go_wp2;refine⟨rfl, .returning,?_, .tuple #[],?_,rfl,rfl,rfl⟩
 ·rw[←hu]
 simp[results,Tryz.results249]
theorem pY(bl bg B:Nat)(lv g0 g1:Value)(a c:Int)(older:List PanicEntry)(w:World)
 (hl:w.cell? ⟨bl,0,none⟩=some lv) (fl:w.frozen? ⟨bl,0,none⟩=false) (hg0:w.cell? ⟨bg,0,none⟩=some g0) (hg1:w.cell? ⟨bg,1,none⟩=some g1)
 (fg0:w.frozen? ⟨bg,0,none⟩=false) (fg1:w.frozen? ⟨bg,1,none⟩=false) (hB1:B≤bl) (hB2:bl<bg):
 CallsD Tryz.prog 249 #[.pointer (some ⟨bl,0,none⟩), .pointer (some ⟨bg,0,none⟩)] (.panicking ({v:=.iface 289 (.agg #[.int .i64 a, .int .i64 c]),recovered:=false}::older)) w fun e u' w'=>
  e=.returned (.tuple #[])∧u'=.panicking ({v:=.iface 289 (.agg #[.int .i64 a, .int .i64 c]),recovered:=true}::older)∧
  w'.cell? ⟨bl,0,none⟩=some (.slice none 0 0)∧w'.cell? ⟨bg,0,none⟩=some (.int .i64 a)∧w'.cell? ⟨bg,1,none⟩=some (.int .i64 c)∧Below B w w':=by
 have hta:∀w:World,(Instr.typeAssert (.iface 289 (.agg #[.int .i64 a, .int .i64 c])) 20 289 false).run Tryz.prog w=.ok (.agg #[.int .i64 a, .int .i64 c]) w:=fun _=>kR;refine callsD_of_wpS Tryz.func249 rfl fun c₀ cs hu=>?_;apply wpS_seq;apply wpS_region;simp[wpOpsS,go_sem,recoverD,hu,Tryz.ntmps249,Exit.thenS];refine wpS_of_wp ?_
 rw[show(#[Value.pointer (some {block:=bl,off:=0}),Value.pointer (some {block:=bg,off:=0})]++
  ((Array.replicate 6 undef).setIfInBounds 1
   (Value.iface 289 (Value.agg #[Value.int IntKind.i64 a,Value.int IntKind.i64 c]))).setIfInBounds
   0 (Value.iface 289 (Value.agg #[Value.int IntKind.i64 a,Value.int IntKind.i64 c])))=#[Value.pointer (some {block:=bl,off:=0}),Value.pointer (some {block:=bg,off:=0}),(Value.iface 289 (Value.agg #[Value.int IntKind.i64 a,Value.int IntKind.i64 c])),(Value.iface 289 (Value.agg #[Value.int IntKind.i64 a,Value.int IntKind.i64 c])),undef,undef,undef,undef] from rfl]
 go_wp2;go_region;have hne:¬bl=bg:=oM;have hne':¬bg=bl:=oM;refine⟨rfl,_,rfl, .tuple #[],?_,rfl,rfl,?_,?_,?_,?_⟩
 ·simp[results,Tryz.results249]
 ·simp[go_sem,hl]
 ·simp[go_sem,hg0]
 ·simp[go_sem,hg1]
 exact((((aH _ _).setCell (p:=⟨bl,0,none⟩) hB1 _).setCell (p:=⟨bg,0,none⟩) (show B≤bg by omega) _).setCell (p:=⟨bg,1,none⟩) (show B≤bg by omega) _).drew
def tokCells (t : Tk.Tok) : List Value := [.int .i64 t.kind, .int .i64 t.at_, .string ⟨t.text.toArray⟩]
def allCells (l : List Tk.Tok) : List Value := l.flatMap tokCells
theorem tO (l : List Tk.Tok) (t : Tk.Tok) : allCells (l ++ [t]) = allCells l ++ tokCells t := by simp [allCells]
theorem pZ (l : List Tk.Tok) : (allCells l).length = l.length * 3 := by
  induction l with
  | nil => rfl
  | cons t r ih => simp only [allCells, List.flatMap_cons, aN] at ih ⊢; rw [ih]; simp [tokCells]; omega
theorem aU {w w' : World} {base : Nat} {e : TypeId} {size : Nat} {v : Value} {n : Nat} {xs : List Value} (h : w.ownsRow base e size v n xs) (hb : Below w.heap.size w w') : w'.ownsRow base e size v n xs := by
  obtain ⟨h1, h2⟩ := h
  refine ⟨h1, ?_⟩
  rcases h2 with h2 | ⟨g, cap, cur, hv, hg, hbk, r⟩
  · exact .inl h2
  · refine .inr ⟨g, cap, cur, hv, hg, ?_, r⟩
    have hlt : g < w.heap.size := by
      rcases dF g w.heap.size with h | h
      · exact h
      · rw [gM h] at hbk; cases hbk
    rw [hb.block g hlt]; exact hbk
theorem aZ {w : World} {base : Nat} {e : TypeId} {size : Nat} {v : Value} {n : Nat} {xs : List Value} (h : w.ownsRow base e size v n xs) : ∃ ao cap, v = .slice ao n cap := by
  rcases h.2 with ⟨hv, h0⟩ | ⟨g, cap, cur, hv, _⟩
  · exact ⟨none, 0, by rw [hv, h0]⟩
  · exact ⟨_, _, hv⟩
structure ScanInv (N : Nat) (w wr : World) (v : Value) (acc : List Tk.Tok) : Prop where
  cl : wr.cell? ⟨N, 0, none⟩ = some v
  own : wr.ownsRow (N + 2) 271 3 v acc.length (allCells acc)
  fl : wr.frozen? ⟨N, 0, none⟩ = false
  g0 : wr.cell? ⟨N + 1, 0, none⟩ = some (.int .i64 0)
  g1 : wr.cell? ⟨N + 1, 1, none⟩ = some (.int .i64 0)
  f0 : wr.frozen? ⟨N + 1, 0, none⟩ = false
  f1 : wr.frozen? ⟨N + 1, 1, none⟩ = false
  bel : Below N w wr
  size : N + 2 ≤ wr.heap.size
theorem ScanInv.below {N : Nat} {w wr w1 : World} {v : Value} {acc : List Tk.Tok} (h : ScanInv N w wr v acc) (hb : Below wr.heap.size wr w1) : ScanInv N w w1 v acc := by
  have hs := h.size
  have h1 : N < wr.heap.size := by omega
  have h2 : N + 1 < wr.heap.size := by omega
  obtain ⟨hc, hf⟩ := (⟨fun b o hh => hb.cell (p := ⟨b, o, none⟩) hh, fun b o hh => hb.frozen (p := ⟨b, o, none⟩) hh⟩ : (∀ b o, b < wr.heap.size → w1.cell? ⟨b, o, none⟩ = wr.cell? ⟨b, o, none⟩) ∧ (∀ b o, b < wr.heap.size → w1.frozen? ⟨b, o, none⟩ = wr.frozen? ⟨b, o, none⟩))
  exact { cl := by rw [hc _ _ h1]; exact h.cl
          own := aU h.own hb
          fl := by rw [hf _ _ h1]; exact h.fl
          g0 := by rw [hc _ _ h2]; exact h.g0
          g1 := by rw [hc _ _ h2]; exact h.g1
          f0 := by rw [hf _ _ h2]; exact h.f0
          f1 := by rw [hf _ _ h2]; exact h.f1
          bel := h.bel.trans (hb.mono (by omega))
          size := by have := hb.size; omega }
theorem ScanInv.alloc {N : Nat} {w wr : World} {v : Value} {acc : List Tk.Tok} (h : ScanInv N w wr v acc) (o : Obj) : ScanInv N w (wr.alloc o) v acc :=
  h.below ((aH _ _).alloc (aF _) _)
theorem ScanInv.grown {N : Nat} {w wr w1 : World} {v v' : Value} {acc acc' : List Tk.Tok} (h : ScanInv N w wr v acc) (hg : wr.grownBy w1 v.ownBlock)
    (hown : w1.ownsRow (N + 2) 271 3 v' acc'.length (allCells acc')) : ScanInv N w (w1.setCell ⟨N, 0, none⟩ v') v' acc' := by
  have hs := h.size
  have hne : ∀ k, k < N + 2 → some k ≠ v.ownBlock := fun k hk e => by
    have := (h.own.lt k e.symm).1
    omega
  have hb : ∀ k, k < N + 2 → w1.heap[k]? = wr.heap[k]? := fun k hk => hg.block k (by omega) (hne k hk)
  have hc : ∀ k o, k < N + 2 → w1.cell? ⟨k, o, none⟩ = wr.cell? ⟨k, o, none⟩ := fun k o hk => fP (a := ⟨k, o, none⟩) (hb k hk)
  have hf : ∀ k o, k < N + 2 → w1.frozen? ⟨k, o, none⟩ = wr.frozen? ⟨k, o, none⟩ := fun k o hk => World.frozen?_of_block (a := ⟨k, o, none⟩) (hb k hk)
  have c0 : w1.cell? ⟨N, 0, none⟩ = some v := by rw [hc _ _ (by omega)]; exact h.cl
  exact { cl := by simp [go_sem, c0]
          own := ownsRow_setCell_below hown (by simp) _
          fl := by simp [go_sem, hf N 0 (by omega), h.fl]
          g0 := by simp [go_sem, hc (N + 1) 0 (by omega), h.g0]
          g1 := by simp [go_sem, hc (N + 1) 1 (by omega), h.g1]
          f0 := by simp [go_sem, hf (N + 1) 0 (by omega), h.f0]
          f1 := by simp [go_sem, hf (N + 1) 1 (by omega), h.f1]
          bel := (h.bel.grown hg (by omega) (fun k hk => by have := (h.own.lt k hk).1; omega)).setCell (p := ⟨N, 0, none⟩) (aF _) _
          size := by have := hg.size; simp; omega }
theorem ScanInv.after {N : Nat} {w w1 w2 : World} {v : Value} {acc : List Tk.Tok} {o1 o2 : Obj} (h : ScanInv N w w1 v acc) (hg : ((w1.alloc o1).alloc o2).grownBy w2 v.ownBlock) :
    w2.cell? ⟨N, 0, none⟩ = some v ∧ w2.frozen? ⟨N, 0, none⟩ = false ∧ (∀ o, w2.cell? ⟨w1.heap.size, o, none⟩ = ((w1.alloc o1).alloc o2).cell? ⟨w1.heap.size, o, none⟩) := by
  have h2 := (h.alloc o1).alloc o2
  have hs := h.size
  have hz : ((w1.alloc o1).alloc o2).heap.size = w1.heap.size + 2 := by simp
  have hne : some N ≠ v.ownBlock := fun e => by have := (h.own.lt N e.symm).1; omega
  have hne' : some w1.heap.size ≠ v.ownBlock := fun e => by have := (h.own.lt _ e.symm).2; omega
  have hb1 := hg.block N (by omega) hne
  have hb2 := hg.block w1.heap.size (by omega) hne'
  refine ⟨?_, ?_, fun o => fP (a := ⟨w1.heap.size, o, none⟩) hb2⟩
  · rw [fP (a := ⟨N, 0, none⟩) hb1]; exact h2.cl
  · rw [World.frozen?_of_block (a := ⟨N, 0, none⟩) hb1]; exact h2.fl
theorem vX {w : World} {base base' : Nat} {e : TypeId} {size : Nat} {v : Value} {n : Nat} {xs : List Value} (h : w.ownsRow base e size v n xs) (hb : base' ≤ base) : w.ownsRow base' e size v n xs := by
  obtain ⟨h1, h2⟩ := h
  refine ⟨h1, ?_⟩
  rcases h2 with h2 | ⟨g, cap, cur, hv, hg, r⟩
  · exact .inl h2
  · exact .inr ⟨g, cap, cur, hv, by omega, r⟩
theorem ScanInv.start (w : World) : ScanInv w.heap.size w ((w.alloc (.cells #[.slice none 0 0] 272)).alloc (.cells #[.int .i64 0, .int .i64 0] 289)) (.slice none 0 0) [] where
  cl := by simp [go_sem, World.cell?_alloc_past]
  own := cM _ _ _ _
  fl := by simp [go_sem]
  g0 := by simp [go_sem]
  g1 := by simp [go_sem]
  f0 := by simp [go_sem]
  f1 := by simp [go_sem]
  bel := ((aH _ _).alloc (aF _) _).alloc (by simp) _
  size := by simp
def ScanEnd(L:List UInt8)(w:World)(e:Ending)(w':World):Prop:=
 ∃v,e=.returned (.tuple #[v, .agg #[.int .i64 ((Tk.scan L).2.1:Nat), .int .i64 (Tk.scan L).2.2]])∧w'.ownsRow w.heap.size 271 3 v (Tk.scan L).1.length (allCells (Tk.scan L).1)∧Below w.heap.size w w'
theorem qJ{w w1:World}{v:Value}{acc:List Tk.Tok}(h:ScanInv w.heap.size w w1 v acc)(L:List UInt8)(p:Nat)(c:Int)(hL:Tk.scan L=([],p,c))(tmps:Array Value)
 (h2:tmps[2]?=some (.pointer (some ⟨w.heap.size,0,none⟩))) (h3:tmps[3]?=some (.pointer (some ⟨w.heap.size+1,0,none⟩))):
 Leaves Tryz.prog Tryz.f247 tmps (ScanEnd L w) [{target:=.fn (.func 249) #[.pointer (some ⟨w.heap.size,0,none⟩), .pointer (some ⟨w.heap.size+1,0,none⟩)],args:=#[]}]
  (.panicking [{v:=.iface 289 (.agg #[.int .i64 p, .int .i64 c]),recovered:=false}]) w1:=by
 refine leaves_cons (f:=249) (args:=#[.pointer (some ⟨w.heap.size,0,none⟩), .pointer (some ⟨w.heap.size+1,0,none⟩)]) sI (by simp[go_sem]) ?_;refine(pY w.heap.size (w.heap.size+1) w.heap.size _ _ _ p c [] w1 h.cl h.fl h.g0 h.g1 h.f0 h.f1 (aF _) oM).mono ?_;rintro e u' w2 ⟨rfl,rfl,k1,k2,k3,hb⟩;(have hres:(results Tryz.f247 tmps).run Tryz.prog w2=.ok (.tuple #[.slice none 0 0, .agg #[.int .i64 p, .int .i64 c]]) w2:=by simp[results,Tryz.results247,go_sem,h2,h3,k1,k2,k3]);refine⟨_,hres, .slice none 0 0,?_,?_,h.bel.trans hb⟩
 ·rw[hL]
 rw[hL];exact cM _ _ _ _
theorem aBe{w wr:World}{v:Value}{acc:List Tk.Tok}(h:ScanInv w.heap.size w wr v acc)(L:List UInt8)(hL:Tk.scan L=(acc,0,0))(tmps:Array Value)
 (h2:tmps[2]?=some (.pointer (some ⟨w.heap.size,0,none⟩))) (h3:tmps[3]?=some (.pointer (some ⟨w.heap.size+1,0,none⟩))):
 Leaves Tryz.prog Tryz.f247 tmps (ScanEnd L w) [{target:=.fn (.func 249) #[.pointer (some ⟨w.heap.size,0,none⟩), .pointer (some ⟨w.heap.size+1,0,none⟩)],args:=#[]}]
  .returning (((wr.setCell ⟨w.heap.size,0,none⟩ v).setCell ⟨w.heap.size+1,0,none⟩ (.int .i64 0)).setCell ⟨w.heap.size+1,1,none⟩ (.int .i64 0)):=by
 refine leaves_cons (f:=249) (args:=#[.pointer (some ⟨w.heap.size,0,none⟩), .pointer (some ⟨w.heap.size+1,0,none⟩)]) sI (by simp[go_sem]) ?_;refine(aAO _ _ _).mono ?_;rintro e u' w2 ⟨rfl,rfl,rfl⟩;have c0:=h.cl;have c1:=h.g0;have c2:=h.g1
 have hres:(results Tryz.f247 tmps).run Tryz.prog (((wr.setCell ⟨w.heap.size,0,none⟩ v).setCell ⟨w.heap.size+1,0,none⟩ (.int .i64 0)).setCell ⟨w.heap.size+1,1,none⟩ (.int .i64 0))=
  .ok (.tuple #[v, .agg #[.int .i64 0, .int .i64 0]]) (((wr.setCell ⟨w.heap.size,0,none⟩ v).setCell ⟨w.heap.size+1,0,none⟩ (.int .i64 0)).setCell ⟨w.heap.size+1,1,none⟩ (.int .i64 0)):=by
  simp[results,Tryz.results247,go_sem,h2,h3,c0,c1,c2]
 refine⟨_,hres,v,?_,?_,?_⟩
 ·rw[hL];rfl
 ·rw[hL];exact vX (ownsRow_setCell_below (ownsRow_setCell_below (ownsRow_setCell_below h.own sI _) sI _) sI _) oM
 exact((h.bel.setCell (p:=⟨w.heap.size,0,none⟩) (aF _) _).setCell (p:=⟨w.heap.size+1,0,none⟩) (iB _) _).setCell (p:=⟨w.heap.size+1,1,none⟩) (iB _) _
theorem aBd(s:ByteArray)(w:World)(hs:5000<s.size):Calls Tryz.prog 247 #[.string s] w (ScanEnd s.data.toList w):=by
 have hmf:∀(fn:Fn)(first cap:Array Value)(w:World),(Instr.makeFunc fn first cap).run Tryz.prog w=.ok (.func fn first cap) w:=fun _ _ _ _=>rfl
 go_enter_defers Tryz.func247,Tryz.ntmps247
 go_wp2_with fail;refine qJ (ScanInv.start w) s.data.toList 0 2 ?_ _ rfl rfl;unfold Tk.scan;rw[if_pos (by simpa using hs)]
theorem aCc(s:ByteArray)(p n:Nat)(w:World)(hs:s.size≤281474976710656)(ha:p+n≤s.size):
 Calls Tryz.prog 250 #[.string s, .int .i64 ((p:Int)+(n:Int))] w fun e w'=>e=.returned (.int .i64 ((p+n+Tk.sep false (s.data.toList.drop (p+n)):Nat):Int))∧w'=w:=by
 have h:=xG s (p+n) w hs ha;rw[show((p+n:Nat):Int)=(p:Int)+(n:Int)from by omega]at h;exact h
theorem aCN:(Tryz.prog.info? 271).map (fun i=>(i.zero,i.size,i.bytes))=some (some (.agg #[.int .i64 0, .int .i64 0, .string ⟨#[]⟩]),3,32):=kR
theorem aAa(s:ByteArray)(w:World)(hs:s.size≤5000):Calls Tryz.prog 247 #[.string s] w (ScanEnd s.data.toList w):=by
 obtain⟨i0,hi,hz0,hz1,hz2⟩:=info_parts aCN;have hmf:∀(fn:Fn)(first cap:Array Value)(w:World),(Instr.makeFunc fn first cap).run Tryz.prog w=.ok (.func fn first cap) w:=fun _ _ _ _=>rfl;have hse:=qI false s 0 oM;rw[cW]at hse;have hst:=ScanInv.start w
 go_enter_defers Tryz.func247,Tryz.ntmps247
 go_wp2_with fail;refine(xG s 0 _ oM oM).mono ?_;rintro e w1 ⟨he,rfl⟩;rw[cW]at he;subst he;go_wp2_with fail
 go_loopw [4] (fun i wr=>∃(f p:Nat)(acc:List Tk.Tok)(v:Value),p≤s.size∧s.size≤p+f∧acc.length≤p∧i=.int .i64 p∧Tk.scanP s.data.toList f p acc=Tk.scan s.data.toList∧ScanInv w.heap.size w wr v acc)
  (fun i _=>s.size-(intOf i).toNat)
 case atStart=>
  refine⟨s.size,Tk.sep false s.data.toList,[], .slice none 0 0,oM,oM,aR _,?_,?_,hst⟩
  ·go_num
  unfold Tk.scan;rw[if_neg (by simpa using hs)];rfl
 case round=>
  obtain⟨f,p,acc,v,hp,hpf,hacc,rfl,hscan,hinv⟩:=hrel;have HS:Hid (Tk.scanP s.data.toList f p acc=Tk.scan s.data.toList):=hscan;clear hscan hst;obtain⟨ao,cap,rfl⟩:=aZ hinv.own;by_cases hlt:p<s.size
  ·by_cases he:Tk.errOf (s.data.toList.drop p)=0
   ·go_wp2_with fail;refine(xB s p _ oM hlt he).mono ?_;rintro e w1 ⟨rfl,hb1⟩;have hinv1:=hinv.below hb1;have hz:=hinv1.size;have c0:∀o,(w1.alloc o).cell? ⟨w.heap.size,0,none⟩=some (.slice ao acc.length cap):=fun o=>(hinv1.alloc o).cl;have hlen:=Tk.lenOf_le (s.data.toList.drop p);have hpos:=Tk.lenOf_pos (s.data.toList.drop p) (by rw[jS s p hlt];simp) he;(have hdl:(s.data.toList.drop p).length=s.size-p:=by simp);obtain⟨f,rfl⟩:∃f',f=f'+1:=⟨f-1,oM⟩
    have HN:Hid (Tk.scanP s.data.toList f (p+Tk.lenOf (s.data.toList.drop p)+Tk.sep false (s.data.toList.drop (p+Tk.lenOf (s.data.toList.drop p)))) (acc++[Tk.tokAt s.data.toList p])=Tk.scan s.data.toList):=
     (Tk.scanP_yes _ _ _ _ (by simpa using hlt) he).symm.trans HS.out
    (have hTl:(Tk.tokAt s.data.toList p).text.length=Tk.lenOf (s.data.toList.drop p):=by simp only[Tk.tokAt,bC];omega);have hse2:=qI false s (p+Tk.lenOf (s.data.toList.drop p)) oM;generalize Tk.tokAt s.data.toList p=T at *;rw[←hTl]at HN hse2 hlen hpos;clear hTl HS hse hdl;go_wp2_with(at_builtin;refine wpList_append_own _ rfl (.tmp 21) (.tmp 23) 272 rfl (w.heap.size+2) 271 i0 _ 3 32 Tryz.underlying272 hi hz0 hz1 hz2 rfl dE _ _ _ rfl ((hinv1.alloc _).alloc _).own ⟨w1.heap.size+1,0,none⟩ 1 1 (tokCells T) rfl rfl ?c1 ?c2 ?c3 ?c4 ?c5 ?_)
    case c1=>
     intro j u hj
     match j,hj with
     |0,hj=>simp[tokCells]at hj;subst hj;simp[Addr.add,go_sem]
     |1,hj=>simp[tokCells]at hj;subst hj;simp[Addr.add,go_sem]
     |2,hj=>simp[tokCells]at hj;subst hj;simp[Addr.add,go_sem]
    (case c2=>intro u hu;simp[tokCells]at hu;rcases hu with rfl|rfl|rfl<;>rfl);(case c3=>unfold maxLen;omega);(case c4=>omega);(case c5=>simp;omega);intro v' w2 hown hgrow _;obtain⟨ao',cap',rfl⟩:=aZ hown;obtain⟨k1,k2,k3⟩:=hinv1.after hgrow;have k4:=k3 2;simp[go_sem,World.cell?_alloc_past]at k4;have hinv2:=((hinv1.alloc _).alloc _).grown hgrow (acc':=acc++[T]) (by rw[tO,aN];exact hown);clear hgrow hown k3 hinv1 hinv c0 hi hz0 hz1 hz2;go_wp2_with fail;refine(aCc s p T.text.length _ oM oM).mono ?_;rintro e w3 ⟨rfl,rfl⟩;go_wp2;go_roundw;(case rel=>exact⟨f,_,acc++[T],_,hse2,oM,by rw[aN];simp;omega,gN,HN.out,hinv2⟩);case measure=>exact mI
   go_wp2_with fail;refine(zS s p _ oM hlt he).mono ?_;rintro e w1 ⟨rfl,hb1⟩;go_wp2_with fail;refine qJ (hinv.below hb1) s.data.toList p _ ?_ _ rfl rfl;exact HS.out.symm.trans (Tk.scanP_no _ _ _ _ (by simpa using hlt) (by simpa using hpf) he)
  have c0:=hinv.cl;have c1:=hinv.g0;have c2:=hinv.g1;have fl:=hinv.fl;have f0:=hinv.f0;have f1:=hinv.f1;go_wp2_with fail;exact aBe hinv s.data.toList (HS.out.symm.trans (Tk.scanP_end _ _ _ _ sO)) _ rfl rfl
theorem aCh(s:ByteArray)(w:World):Calls Tryz.prog 247 #[.string s] w (ScanEnd s.data.toList w):=by
 by_cases h:5000<s.size
 ·exact aBd s w h
 exact aAa s w oM
theorem sS{w:World}{base:Nat}{e:TypeId}{size:Nat}{v:Value}{n:Nat}{xs:List Value}(h:w.ownsRow base e size v n xs)(k:Nat):(w.drewN k).ownsRow base e size v n xs:=h
def ScanTop(L:List UInt8)(w:World)(e:Ending)(w':World):Prop:=
 ∃ao cap,e=.returned (.tuple #[.slice ao (Tk.scan L).1.length cap, .int .i64 ((Tk.scan L).2.1:Nat), .int .i64 (Tk.scan L).2.2])∧w'.ownsRow w.heap.size 271 3 (.slice ao (Tk.scan L).1.length cap) (Tk.scan L).1.length (allCells (Tk.scan L).1)∧Below w.heap.size w w'
theorem aCI(s:ByteArray)(w:World):Calls Tryz.prog 245 #[.string s] w (ScanTop s.data.toList w):=by
 go_enter Tryz.func245,Tryz.ntmps245
 go_wp2_with fail;refine(aCh s _).mono ?_;rintro e w1 ⟨v,rfl,hown,hb⟩;obtain⟨ao,cap,rfl⟩:=aZ hown;have hown2:∀o,(w1.alloc o).ownsRow w.heap.size 271 3 (.slice ao (Tk.scan s.data.toList).1.length cap) (Tk.scan s.data.toList).1.length (allCells (Tk.scan s.data.toList).1):=fun o=>hown.alloc o;have hz:=hb.size;have hb2:∀o,Below w.heap.size w (w1.alloc o):=fun o=>hb.alloc hz o;go_wp2;go_quiet(fail);go_wp2;go_ret3;exact⟨ao,cap,rfl,sS (hown2 _) _,below_drewN (hb2 _) _⟩
theorem kD(n a b:Int)(w:World):Calls Tryz.prog 66 #[.int .i64 n, .int .i64 a, .int .i64 b] w fun e w'=>e=.returned (.bool (decide (a≤n)&&decide (n≤b)))∧w'=w:=by
 by_cases h:a≤n
 ·go_enter Tryz.func66,Tryz.ntmps66
  go_wp2;go_ret;exact⟨by simp[h],rfl⟩
 have hd:decide (a≤n)=false:=by simpa using h
 go_enter Tryz.func66,Tryz.ntmps66
 go_wp2;go_ret;exact⟨rfl,rfl⟩
theorem iF(n:Int)(w:World)(h0:0≤n)(h1:n≤255):Calls Tryz.prog 220 #[.int .u8 n] w fun e w'=>e=.returned (.bool (Tk.small n))∧w'=w:=by
 unfold Tk.small
 go_enter Tryz.func220,Tryz.ntmps220
 go_wp2_with(go_at_call 66;refine(kD _ _ _ _).mono ?_;rintro e w' ⟨rfl,rfl⟩);go_ret;exact⟨rfl,rfl⟩
theorem eO(n:Int)(w:World)(h0:0≤n)(h1:n≤255):Calls Tryz.prog 219 #[.int .u8 n] w fun e w'=>e=.returned (.bool (Tk.digit n))∧w'=w:=by
 unfold Tk.digit
 go_enter Tryz.func219,Tryz.ntmps219
 go_wp2_with(go_at_call 66;refine(kD _ _ _ _).mono ?_;rintro e w' ⟨rfl,rfl⟩);go_ret;exact⟨rfl,rfl⟩
theorem eC(n:Int)(w:World)(h0:0≤n)(h1:n≤255):Calls Tryz.prog 218 #[.int .u8 n] w fun e w'=>e=.returned (.bool (Tk.small n||Tk.great n))∧w'=w:=by
 unfold Tk.great;cases h:Tk.small n
 ·go_enter Tryz.func218,Tryz.ntmps218
  go_wp2_with(first|(go_at_call 220;refine(iF _ _ h0 h1).mono ?_;rintro e w' ⟨rfl,rfl⟩)|(go_at_call 66;refine(kD _ _ _ _).mono ?_;rintro e w' ⟨rfl,rfl⟩));go_ret;exact⟨rfl,rfl⟩
 go_enter Tryz.func218,Tryz.ntmps218
 go_wp2_with(first|(go_at_call 220;refine(iF _ _ h0 h1).mono ?_;rintro e w' ⟨rfl,rfl⟩)|(go_at_call 66;refine(kD _ _ _ _).mono ?_;rintro e w' ⟨rfl,rfl⟩));go_ret;exact⟨rfl,rfl⟩
theorem lF(x:UInt8):(0:Int)≤(x.toNat:Int)∧(x.toNat:Int)≤255:=by have :=x.toNat_lt;omega
theorem mS{j k:IntKind}{a b c d:Int}(h:a=b)(h':c=d):Ending.returned (.tuple #[.int j a, .int k c])=.returned (.tuple #[.int j b, .int k d]):=by rw[h,h']
theorem aAi(s:ByteArray)(at0:Nat)(w:World)(hs:s.size≤281474976710656)(ha:at0<s.size)(hsm:Tk.small s[at0].toNat=true):
 Calls Tryz.prog 203 #[.string s, .int .i64 at0] w fun e w'=>e=.returned (.tuple #[.int .i64 1, .int .i64 (Tk.pre Tk.alnum (s.data.toList.drop at0):Nat)])∧w'=w:=by
 have hb0:=lF s[at0]
 go_enter Tryz.func203,Tryz.ntmps203
 go_wp2_with(go_at_call 218;refine(eC _ _ hb0.1 hb0.2).mono ?_;rintro e w' ⟨rfl,rfl⟩);go_loop [7] (fun i=>∃k:Nat,1≤k∧at0+k≤s.size∧i=.int .i64 k∧Tk.pre Tk.alnum (s.data.toList.drop at0)=k+Tk.pre Tk.alnum (s.data.toList.drop (at0+k))) (fun i=>s.size-(intOf i).toNat);case atStart=>refine⟨1,oM,oM,rfl,?_⟩;have :=Tk.pre_drop_yes Tk.alnum s.data.toList at0 (by simpa using ha) (by unfold Tk.alnum;rw[show s.data.toList[at0]=s[at0] from rfl,hsm];rfl);omega
 case round=>
  obtain⟨k,hk1,hk2,rfl,hk3⟩:=hrel;have HK:Hid (Tk.pre Tk.alnum (s.data.toList.drop at0)=k+Tk.pre Tk.alnum (s.data.toList.drop (at0+k))):=hk3;clear hk3;by_cases hlt:at0+k<s.size
  ·have hbk:=lF s[at0+k];(have hl:at0+k<s.data.toList.length:=by simpa using hlt);cases h1:(Tk.small s[at0+k].toNat||Tk.great s[at0+k].toNat)
   ·cases h2:Tk.digit s[at0+k].toNat
    ·have HE:Hid (Tk.pre Tk.alnum (s.data.toList.drop (at0+k))=0):=Tk.pre_drop_no Tk.alnum s.data.toList (at0+k) hl (by unfold Tk.alnum;rw[show s.data.toList[at0+k]=s[at0+k] from rfl,h1,h2];rfl);go_wp2_with(first|(go_at_call 218;refine(eC _ _ hbk.1 hbk.2).mono ?_;rintro e w' ⟨rfl,rfl⟩)|(go_at_call 219;refine(eO _ _ hbk.1 hbk.2).mono ?_;rintro e w' ⟨rfl,rfl⟩)|(go_at_call 220;refine(iF _ _ hb0.1 hb0.2).mono ?_;rintro e w' ⟨rfl,rfl⟩));go_ret2;exact⟨mS rfl (by have e1:=HK.out;have e2:=HE.out;omega),rfl⟩
    have HE:Hid (Tk.pre Tk.alnum (s.data.toList.drop (at0+k))=Tk.pre Tk.alnum (s.data.toList.drop (at0+k+1))+1):=Tk.pre_drop_yes Tk.alnum s.data.toList (at0+k) hl (by unfold Tk.alnum;rw[show s.data.toList[at0+k]=s[at0+k] from rfl,h1,h2];rfl);go_wp2_with(first|(go_at_call 218;refine(eC _ _ hbk.1 hbk.2).mono ?_;rintro e w' ⟨rfl,rfl⟩)|(go_at_call 219;refine(eO _ _ hbk.1 hbk.2).mono ?_;rintro e w' ⟨rfl,rfl⟩));go_round;(case rel=>exact⟨k+1,oM,oM,gN,by rw[HK.out,HE.out,show at0+(k+1)=at0+k+1 from by omega];omega⟩);case measure=>exact mI
   have HE:Hid (Tk.pre Tk.alnum (s.data.toList.drop (at0+k))=Tk.pre Tk.alnum (s.data.toList.drop (at0+k+1))+1):=Tk.pre_drop_yes Tk.alnum s.data.toList (at0+k) hl (by unfold Tk.alnum;rw[show s.data.toList[at0+k]=s[at0+k] from rfl,h1];rfl);go_wp2_with(first|(go_at_call 218;refine(eC _ _ hbk.1 hbk.2).mono ?_;rintro e w' ⟨rfl,rfl⟩)|(go_at_call 219;refine(eO _ _ hbk.1 hbk.2).mono ?_;rintro e w' ⟨rfl,rfl⟩));go_round;(case rel=>exact⟨k+1,oM,oM,gN,by rw[HK.out,HE.out,show at0+(k+1)=at0+k+1 from by omega];omega⟩);case measure=>exact mI
  have HE:Hid (Tk.pre Tk.alnum (s.data.toList.drop (at0+k))=0):=Tk.pre_drop_end Tk.alnum s.data.toList (at0+k) sO;(have hd:decide ((at0:Int)+(k:Int)<(s.size:Int))=false:=by simp;omega);go_wp2_with(go_at_call 220;refine(iF _ _ hb0.1 hb0.2).mono ?_;rintro e w' ⟨rfl,rfl⟩);go_ret2;exact⟨mS rfl (by have e1:=HK.out;have e2:=HE.out;omega),rfl⟩
theorem aBg(s:ByteArray)(at0:Nat)(w:World)(hs:s.size≤281474976710656)(ha:at0<s.size)(hsm:Tk.small s[at0].toNat=false)(hG:Tk.great s[at0].toNat=true):
 Calls Tryz.prog 203 #[.string s, .int .i64 at0] w fun e w'=>e=.returned (.tuple #[.int .i64 2, .int .i64 (Tk.pre Tk.alnum (s.data.toList.drop at0):Nat)])∧w'=w:=by
 have hb0:=lF s[at0]
 go_enter Tryz.func203,Tryz.ntmps203
 go_wp2_with(go_at_call 218;refine(eC _ _ hb0.1 hb0.2).mono ?_;rintro e w' ⟨rfl,rfl⟩);go_loop [7] (fun i=>∃k:Nat,1≤k∧at0+k≤s.size∧i=.int .i64 k∧Tk.pre Tk.alnum (s.data.toList.drop at0)=k+Tk.pre Tk.alnum (s.data.toList.drop (at0+k))) (fun i=>s.size-(intOf i).toNat);case atStart=>refine⟨1,oM,oM,rfl,?_⟩;have :=Tk.pre_drop_yes Tk.alnum s.data.toList at0 (by simpa using ha) (by unfold Tk.alnum;rw[show s.data.toList[at0]=s[at0] from rfl,hsm,hG];rfl);omega
 case round=>
  obtain⟨k,hk1,hk2,rfl,hk3⟩:=hrel;have HK:Hid (Tk.pre Tk.alnum (s.data.toList.drop at0)=k+Tk.pre Tk.alnum (s.data.toList.drop (at0+k))):=hk3;clear hk3;by_cases hlt:at0+k<s.size
  ·have hbk:=lF s[at0+k];(have hl:at0+k<s.data.toList.length:=by simpa using hlt);cases h1:(Tk.small s[at0+k].toNat||Tk.great s[at0+k].toNat)
   ·cases h2:Tk.digit s[at0+k].toNat
    ·have HE:Hid (Tk.pre Tk.alnum (s.data.toList.drop (at0+k))=0):=Tk.pre_drop_no Tk.alnum s.data.toList (at0+k) hl (by unfold Tk.alnum;rw[show s.data.toList[at0+k]=s[at0+k] from rfl,h1,h2];rfl);go_wp2_with(first|(go_at_call 218;refine(eC _ _ hbk.1 hbk.2).mono ?_;rintro e w' ⟨rfl,rfl⟩)|(go_at_call 219;refine(eO _ _ hbk.1 hbk.2).mono ?_;rintro e w' ⟨rfl,rfl⟩)|(go_at_call 220;refine(iF _ _ hb0.1 hb0.2).mono ?_;rintro e w' ⟨rfl,rfl⟩));go_ret2;exact⟨mS rfl (by have e1:=HK.out;have e2:=HE.out;omega),rfl⟩
    have HE:Hid (Tk.pre Tk.alnum (s.data.toList.drop (at0+k))=Tk.pre Tk.alnum (s.data.toList.drop (at0+k+1))+1):=Tk.pre_drop_yes Tk.alnum s.data.toList (at0+k) hl (by unfold Tk.alnum;rw[show s.data.toList[at0+k]=s[at0+k] from rfl,h1,h2];rfl);go_wp2_with(first|(go_at_call 218;refine(eC _ _ hbk.1 hbk.2).mono ?_;rintro e w' ⟨rfl,rfl⟩)|(go_at_call 219;refine(eO _ _ hbk.1 hbk.2).mono ?_;rintro e w' ⟨rfl,rfl⟩));go_round;(case rel=>exact⟨k+1,oM,oM,gN,by rw[HK.out,HE.out,show at0+(k+1)=at0+k+1 from by omega];omega⟩);case measure=>exact mI
   have HE:Hid (Tk.pre Tk.alnum (s.data.toList.drop (at0+k))=Tk.pre Tk.alnum (s.data.toList.drop (at0+k+1))+1):=Tk.pre_drop_yes Tk.alnum s.data.toList (at0+k) hl (by unfold Tk.alnum;rw[show s.data.toList[at0+k]=s[at0+k] from rfl,h1];rfl);go_wp2_with(first|(go_at_call 218;refine(eC _ _ hbk.1 hbk.2).mono ?_;rintro e w' ⟨rfl,rfl⟩)|(go_at_call 219;refine(eO _ _ hbk.1 hbk.2).mono ?_;rintro e w' ⟨rfl,rfl⟩));go_round;(case rel=>exact⟨k+1,oM,oM,gN,by rw[HK.out,HE.out,show at0+(k+1)=at0+k+1 from by omega];omega⟩);case measure=>exact mI
  have HE:Hid (Tk.pre Tk.alnum (s.data.toList.drop (at0+k))=0):=Tk.pre_drop_end Tk.alnum s.data.toList (at0+k) sO;(have hd:decide ((at0:Int)+(k:Int)<(s.size:Int))=false:=by simp;omega);go_wp2_with(go_at_call 220;refine(iF _ _ hb0.1 hb0.2).mono ?_;rintro e w' ⟨rfl,rfl⟩);go_ret2;exact⟨mS rfl (by have e1:=HK.out;have e2:=HE.out;omega),rfl⟩
theorem vT(s:ByteArray)(at0:Nat)(w:World)(hs:s.size≤281474976710656)(ha:at0<s.size)(hsm:Tk.small s[at0].toNat=false)(hG:Tk.great s[at0].toNat=false)(hD:Tk.digit s[at0].toNat=true):
 Calls Tryz.prog 203 #[.string s, .int .i64 at0] w fun e w'=>e=.returned (.tuple #[.int .i64 3, .int .i64 (Tk.pre Tk.digit (s.data.toList.drop at0):Nat)])∧w'=w:=by
 have hb0:=lF s[at0]
 go_enter Tryz.func203,Tryz.ntmps203
 go_wp2_with(first|(go_at_call 218;refine(eC _ _ hb0.1 hb0.2).mono ?_;rintro e w' ⟨rfl,rfl⟩)|(go_at_call 219;refine(eO _ _ hb0.1 hb0.2).mono ?_;rintro e w' ⟨rfl,rfl⟩));go_loop [7] (fun i=>∃k:Nat,1≤k∧at0+k≤s.size∧i=.int .i64 k∧Tk.pre Tk.digit (s.data.toList.drop at0)=k+Tk.pre Tk.digit (s.data.toList.drop (at0+k))) (fun i=>s.size-(intOf i).toNat);case atStart=>refine⟨1,oM,oM,rfl,?_⟩;have :=Tk.pre_drop_yes Tk.digit s.data.toList at0 (by simpa using ha) hD;omega
 case round=>
  obtain⟨k,hk1,hk2,rfl,hk3⟩:=hrel;have HK:Hid (Tk.pre Tk.digit (s.data.toList.drop at0)=k+Tk.pre Tk.digit (s.data.toList.drop (at0+k))):=hk3;clear hk3;by_cases hlt:at0+k<s.size
  ·have hbk:=lF s[at0+k];(have hl:at0+k<s.data.toList.length:=by simpa using hlt);cases h2:Tk.digit s[at0+k].toNat
   ·have HE:Hid (Tk.pre Tk.digit (s.data.toList.drop (at0+k))=0):=Tk.pre_drop_no Tk.digit s.data.toList (at0+k) hl h2;go_wp2_with(go_at_call 219;refine(eO _ _ hbk.1 hbk.2).mono ?_;rintro e w' ⟨rfl,rfl⟩);go_ret2;exact⟨mS rfl (by have e1:=HK.out;have e2:=HE.out;omega),rfl⟩
   have HE:Hid (Tk.pre Tk.digit (s.data.toList.drop (at0+k))=Tk.pre Tk.digit (s.data.toList.drop (at0+k+1))+1):=Tk.pre_drop_yes Tk.digit s.data.toList (at0+k) hl h2;go_wp2_with(go_at_call 219;refine(eO _ _ hbk.1 hbk.2).mono ?_;rintro e w' ⟨rfl,rfl⟩);go_round;(case rel=>exact⟨k+1,oM,oM,gN,by rw[HK.out,HE.out,show at0+(k+1)=at0+k+1 from by omega];omega⟩);case measure=>exact mI
  have HE:Hid (Tk.pre Tk.digit (s.data.toList.drop (at0+k))=0):=Tk.pre_drop_end Tk.digit s.data.toList (at0+k) sO;(have hd:decide ((at0:Int)+(k:Int)<(s.size:Int))=false:=by simp;omega);go_wp2_with fail;go_ret2;exact⟨mS rfl (by have e1:=HK.out;have e2:=HE.out;omega),rfl⟩
theorem aBh(s:ByteArray)(at0:Nat)(w:World)(hs:s.size≤281474976710656)(ha:at0<s.size)(hsm:Tk.small s[at0].toNat=false)(hG:Tk.great s[at0].toNat=false)(hD:Tk.digit s[at0].toNat=false)(hlt:at0+1<s.size)
 (h3:((s.extract at0 (at0+2)).toList==[58,45])=true∨((s.extract at0 (at0+2)).toList==[60,61])=true∨((s.extract at0 (at0+2)).toList==[33,61])=true):
 Calls Tryz.prog 203 #[.string s, .int .i64 at0] w fun e w'=>e=.returned (.tuple #[.int .i64 4, .int .i64 2])∧w'=w:=by
 have hb0:=lF s[at0];cases t1:((s.extract at0 (at0+2)).toList==[58,45])
 ·cases t2:((s.extract at0 (at0+2)).toList==[60,61])
  ·have t3:((s.extract at0 (at0+2)).toList==[33,61])=true:=by
    rcases h3 with h|h|h
    ·rw[h]at t1;cases t1
    ·rw[h]at t2;cases t2
    exact h
   clear h3
   go_enter Tryz.func203,Tryz.ntmps203
   go_wp2_with(first|(go_at_call 218;refine(eC _ _ hb0.1 hb0.2).mono ?_;rintro e w' ⟨rfl,rfl⟩)|(go_at_call 219;refine(eO _ _ hb0.1 hb0.2).mono ?_;rintro e w' ⟨rfl,rfl⟩));go_ret2;exact⟨rfl,rfl⟩
  clear h3
  go_enter Tryz.func203,Tryz.ntmps203
  go_wp2_with(first|(go_at_call 218;refine(eC _ _ hb0.1 hb0.2).mono ?_;rintro e w' ⟨rfl,rfl⟩)|(go_at_call 219;refine(eO _ _ hb0.1 hb0.2).mono ?_;rintro e w' ⟨rfl,rfl⟩));go_ret2;exact⟨rfl,rfl⟩
 clear h3
 go_enter Tryz.func203,Tryz.ntmps203
 go_wp2_with(first|(go_at_call 218;refine(eC _ _ hb0.1 hb0.2).mono ?_;rintro e w' ⟨rfl,rfl⟩)|(go_at_call 219;refine(eO _ _ hb0.1 hb0.2).mono ?_;rintro e w' ⟨rfl,rfl⟩));go_ret2;exact⟨rfl,rfl⟩
theorem xH(c:UInt8)(k:Nat)(hk:k<9)(h:((({data:=#[40,41,44,46,60,61,43,45,42]}:ByteArray)[k]'hk).toNat:Int)==(c.toNat:Int)):(List.drop k [40,41,44,46,60,61,43,45,42]).contains c=true:=by(have h1:({data:=#[40,41,44,46,60,61,43,45,42]}:ByteArray)[k]'hk=c:=by have :=beq_iff_eq.1 h;exact UInt8.toNat_inj.1 oM);have h2:([40,41,44,46,60,61,43,45,42]:List UInt8)[k]'hk=c:=h1;rw[Tk.drop_cons [40,41,44,46,60,61,43,45,42] k hk,h2];simp
theorem tX(c:UInt8)(k:Nat)(hk:k<9)(h:(((({data:=#[40,41,44,46,60,61,43,45,42]}:ByteArray)[k]'hk).toNat:Int)==(c.toNat:Int))=false):(List.drop k [40,41,44,46,60,61,43,45,42]).contains c=(List.drop (k+1) [40,41,44,46,60,61,43,45,42]).contains c:=by(have h1:¬({data:=#[40,41,44,46,60,61,43,45,42]}:ByteArray)[k]'hk=c:=by intro e;have :=beq_eq_false_iff_ne.1 h;exact this (by rw[e]));have h2:¬c=([40,41,44,46,60,61,43,45,42]:List UInt8)[k]'hk:=fun e=>h1 e.symm;rw[Tk.drop_cons [40,41,44,46,60,61,43,45,42] k hk,List.contains_cons,beq_eq_false_iff_ne.2 h2,Bool.false_or]
theorem aBi(s:ByteArray)(at0:Nat)(w:World)(hs:s.size≤281474976710656)(ha:at0<s.size)(hsm:Tk.small s[at0].toNat=false)(hG:Tk.great s[at0].toNat=false)(hD:Tk.digit s[at0].toNat=false)(h3:¬at0+1<s.size∨(at0+1<s.size∧((s.extract at0 (at0+2)).toList==[58,45])=false∧((s.extract at0 (at0+2)).toList==[60,61])=false∧((s.extract at0 (at0+2)).toList==[33,61])=false))
 (V:Ending) (hS:Tk.isSign s[at0]=true→V=.returned (.tuple #[.int .i64 4, .int .i64 1])) (hT:Tk.isSign s[at0]=false→V=.returned (.tuple #[.int .i64 0, .int .i64 0])):
 Calls Tryz.prog 203 #[.string s, .int .i64 at0] w fun e w'=>e=V∧w'=w:=by
 have hb0:=lF s[at0];have HS:Hid (Tk.isSign s[at0]=true→V=.returned (.tuple #[.int .i64 4, .int .i64 1])):=hS;have HT:Hid (Tk.isSign s[at0]=false→V=.returned (.tuple #[.int .i64 0, .int .i64 0])):=hT;clear hS hT;rcases h3 with h3|⟨hlt,t1,t2,t3⟩
 ·go_enter Tryz.func203,Tryz.ntmps203
  go_wp2_with(first|(go_at_call 218;refine(eC _ _ hb0.1 hb0.2).mono ?_;rintro e w' ⟨rfl,rfl⟩)|(go_at_call 219;refine(eO _ _ hb0.1 hb0.2).mono ?_;rintro e w' ⟨rfl,rfl⟩));go_loop [10] (fun i=>∃k:Nat,k≤9∧i=.int .i64 k∧Tk.isSign s[at0]=(List.drop k [40,41,44,46,60,61,43,45,42]).contains s[at0]) (fun i=>9-(intOf i).toNat);case atStart=>exact⟨0,oM,rfl,rfl⟩
  case round=>
   obtain⟨k,hk,rfl,hk2⟩:=hrel;have HK:Hid (Tk.isSign s[at0]=(List.drop k [40,41,44,46,60,61,43,45,42]).contains s[at0]):=hk2;clear hk2;by_cases hlt9:k<9
   ·cases hc:((({data:=#[40,41,44,46,60,61,43,45,42]}:ByteArray)[k]'hlt9).toNat:Int)==(s[at0].toNat:Int)
    ·have HC:Hid (Tk.isSign s[at0]=(List.drop (k+1) [40,41,44,46,60,61,43,45,42]).contains s[at0]):=HK.out.trans (tX _ k hlt9 hc);go_wp2;go_round;(case rel=>exact⟨k+1,oM,gN,HC.out⟩);case measure=>exact mI
    have HC:Hid (Tk.isSign s[at0]=true):=HK.out.trans (xH _ k hlt9 hc);go_wp2;go_ret2;exact⟨(HS.out HC.out).symm,rfl⟩
   (have HC:Hid (Tk.isSign s[at0]=false):=by rw[HK.out,aL sO];rfl);go_wp2;go_ret2;exact⟨(HT.out HC.out).symm,rfl⟩
 go_enter Tryz.func203,Tryz.ntmps203
 go_wp2_with(first|(go_at_call 218;refine(eC _ _ hb0.1 hb0.2).mono ?_;rintro e w' ⟨rfl,rfl⟩)|(go_at_call 219;refine(eO _ _ hb0.1 hb0.2).mono ?_;rintro e w' ⟨rfl,rfl⟩));go_loop [10] (fun i=>∃k:Nat,k≤9∧i=.int .i64 k∧Tk.isSign s[at0]=(List.drop k [40,41,44,46,60,61,43,45,42]).contains s[at0]) (fun i=>9-(intOf i).toNat);case atStart=>exact⟨0,oM,rfl,rfl⟩
 case round=>
  obtain⟨k,hk,rfl,hk2⟩:=hrel;have HK:Hid (Tk.isSign s[at0]=(List.drop k [40,41,44,46,60,61,43,45,42]).contains s[at0]):=hk2;clear hk2;by_cases hlt9:k<9
  ·cases hc:((({data:=#[40,41,44,46,60,61,43,45,42]}:ByteArray)[k]'hlt9).toNat:Int)==(s[at0].toNat:Int)
   ·have HC:Hid (Tk.isSign s[at0]=(List.drop (k+1) [40,41,44,46,60,61,43,45,42]).contains s[at0]):=HK.out.trans (tX _ k hlt9 hc);go_wp2;go_round;(case rel=>exact⟨k+1,oM,gN,HC.out⟩);case measure=>exact mI
   have HC:Hid (Tk.isSign s[at0]=true):=HK.out.trans (xH _ k hlt9 hc);go_wp2;go_ret2;exact⟨(HS.out HC.out).symm,rfl⟩
  (have HC:Hid (Tk.isSign s[at0]=false):=by rw[HK.out,aL sO];rfl);go_wp2;go_ret2;exact⟨(HT.out HC.out).symm,rfl⟩
theorem uZ(a b:UInt8)(l:List UInt8):[a,b].isPrefixOf l=(l.take 2==[a,b]):=by
 match l with
 |[]=>rfl
 |[x]=>simp[List.isPrefixOf]
 |x::y::r=>
  rw[nV];simp[List.isPrefixOf];constructor
  ·rintro⟨rfl,rfl⟩;exact⟨rfl,rfl⟩
  rintro⟨rfl,rfl⟩;exact⟨rfl,rfl⟩
theorem pA(s:ByteArray)(a:Nat):(s.extract a (a+2)).toList=(s.data.toList.drop a).take 2:=by rw[Lib.extract_toList,jC]
theorem aAh(s:ByteArray)(at0:Nat)(w:World)(hs:s.size≤281474976710656)(ha:at0<s.size)(hsm:Tk.small s[at0].toNat=false)(hG:Tk.great s[at0].toNat=false)(hD:Tk.digit s[at0].toNat=false):
 Calls Tryz.prog 203 #[.string s, .int .i64 at0] w fun e w'=>e=.returned (.tuple #[.int .i64 (if Tk.signLen (s.data.toList.drop at0)=0 then 0 else 4), .int .i64 (Tk.signLen (s.data.toList.drop at0):Nat)])∧w'=w:=by
 have hd:=jS s at0 ha;(have e1:Tk.signLen (s.data.toList.drop at0)=if [58,45].isPrefixOf (s.data.toList.drop at0)||[60,61].isPrefixOf (s.data.toList.drop at0)||[33,61].isPrefixOf (s.data.toList.drop at0)then 2 else if Tk.isSign s[at0] then 1 else 0:=by rw[hd];rfl);rw[uZ,uZ,uZ,←pA]at e1;by_cases h3:((s.extract at0 (at0+2)).toList==[58,45])=true∨((s.extract at0 (at0+2)).toList==[60,61])=true∨((s.extract at0 (at0+2)).toList==[33,61])=true
 ·(have hlt:at0+1<s.size:=by(have hl:(s.extract at0 (at0+2)).toList.length=2:=by rcases h3 with h|h|h<;>rw[beq_iff_eq.1 h]<;>rfl);rw[pA,bC]at hl;(have h2:(s.data.toList.drop at0).length=s.size-at0:=by simp);omega);rw[if_pos (by simp only[eA];rcases h3 with h|h|h;exact .inl (.inl h);exact .inl (.inr h);exact .inr h)]at e1;rw[e1];exact aBh s at0 w hs ha hsm hG hD hlt h3
 (have f1:((s.extract at0 (at0+2)).toList==[58,45])=false:=by simpa using fun h=>h3 (.inl (beq_iff_eq.2 h)));(have f2:((s.extract at0 (at0+2)).toList==[60,61])=false:=by simpa using fun h=>h3 (.inr (.inl (beq_iff_eq.2 h))));(have f3:((s.extract at0 (at0+2)).toList==[33,61])=false:=by simpa using fun h=>h3 (.inr (.inr (beq_iff_eq.2 h))));rw[f1,f2,f3,gV,gV,if_neg sI]at e1;refine aBi s at0 w hs ha hsm hG hD ?_ _ ?_ ?_
 ·by_cases h:at0+1<s.size
  ·exact .inr ⟨h,f1,f2,f3⟩
  exact .inl h
 ·intro h;rw[h]at e1;rw[e1];rfl
 intro h;rw[h]at e1;rw[e1];rfl
def refKind(l:List UInt8):Int:=if Tk.lenOf l=0 then 0 else Tk.kindOf l
theorem gD(s:ByteArray)(at0:Nat)(w:World)(hs:s.size≤281474976710656)(ha:at0<s.size):
 Calls Tryz.prog 203 #[.string s, .int .i64 at0] w fun e w'=>e=.returned (.tuple #[.int .i64 (refKind (s.data.toList.drop at0)), .int .i64 (Tk.lenOf (s.data.toList.drop at0):Nat)])∧w'=w:=by
 have hd:=jS s at0 ha;(have e1:Tk.kindOf (s.data.toList.drop at0)=if Tk.small s[at0].toNat then 1 else if Tk.great s[at0].toNat then 2 else if Tk.digit s[at0].toNat then 3 else 4:=by rw[hd];exact lD _ _);((have e2:Tk.lenOf (s.data.toList.drop at0)=if Tk.small s[at0].toNat||Tk.great s[at0].toNat then Tk.pre Tk.alnum (s.data.toList.drop at0)else if Tk.digit s[at0].toNat then Tk.pre Tk.digit (s.data.toList.drop at0)else Tk.signLen (s.data.toList.drop at0):=by rw[hd];exact lS _ _);have pw:(Tk.small s[at0].toNat||Tk.great s[at0].toNat)=true→¬Tk.pre Tk.alnum (s.data.toList.drop at0)=0:=fun h=>by have :=Tk.pre_drop_yes Tk.alnum s.data.toList at0 (by simpa using ha) (by unfold Tk.alnum;rw[show s.data.toList[at0]=s[at0] from rfl,h];rfl);omega);unfold refKind;rw[e1,e2];cases h1:Tk.small s[at0].toNat
 ·cases h2:Tk.great s[at0].toNat
  ·cases h3:Tk.digit s[at0].toNat
   ·simp only[gV,eF,if_false];exact aAh s at0 w hs ha h1 h2 h3
   (have h4:¬Tk.pre Tk.digit (s.data.toList.drop at0)=0:=by have :=Tk.pre_drop_yes Tk.digit s.data.toList at0 (by simpa using ha) h3;omega);simp only[gV,eF,if_false,if_true,h4];exact vT s at0 w hs ha h1 h2 h3
  have h4:=pw (by rw[h1,h2];rfl);simp only[gH,eF,if_false,if_true,h4];exact aBg s at0 w hs ha h1 h2
 have h4:=pw (by rw[h1];rfl);simp only[Bool.true_or,if_false,if_true,h4];exact aAi s at0 w hs ha h1
theorem oO(c:UInt8)(r:List UInt8):
 (Tk.lenOf (c::r)=0∧Tk.errOf (c::r)=1)∨
 (1≤Tk.lenOf (c::r)∧(Tk.kindOf (c::r)=1∨Tk.kindOf (c::r)=2)∧12<Tk.lenOf (c::r)∧Tk.errOf (c::r)=2)∨
 (1≤Tk.lenOf (c::r)∧(Tk.kindOf (c::r)=1∨Tk.kindOf (c::r)=2)∧Tk.lenOf (c::r)≤12∧Tk.errOf (c::r)=0)∨
 (1≤Tk.lenOf (c::r)∧Tk.kindOf (c::r)=3∧7<Tk.lenOf (c::r)∧Tk.errOf (c::r)=2)∨
 (1≤Tk.lenOf (c::r)∧Tk.kindOf (c::r)=3∧1<Tk.lenOf (c::r)∧Tk.lenOf (c::r)≤7∧(c.toNat:Int)=48∧Tk.errOf (c::r)=1)∨
 (1≤Tk.lenOf (c::r)∧Tk.kindOf (c::r)=3∧Tk.lenOf (c::r)≤1∧Tk.errOf (c::r)=0)∨
 (1≤Tk.lenOf (c::r)∧Tk.kindOf (c::r)=3∧1<Tk.lenOf (c::r)∧Tk.lenOf (c::r)≤7∧¬(c.toNat:Int)=48∧Tk.errOf (c::r)=0)∨
 (1≤Tk.lenOf (c::r)∧Tk.kindOf (c::r)=4∧Tk.errOf (c::r)=0):=by
 rw[lS,lD,lV];have pw:(Tk.small c.toNat||Tk.great c.toNat)=true→1≤Tk.pre Tk.alnum (c::r):=fun h=>Tk.pre_pos (by unfold Tk.alnum;rw[h];rfl);have pd:Tk.digit c.toNat=true→1≤Tk.pre Tk.digit (c::r):=fun h=>Tk.pre_pos h;cases h1:Tk.small c.toNat
 ·cases h2:Tk.great c.toNat
  ·cases h3:Tk.digit c.toNat
   ·simp only[gV,eF,if_false];by_cases h:Tk.signLen (c::r)=0
    ·exact .inl ⟨h,by rw[if_pos h]⟩
    exact .inr (.inr (.inr (.inr (.inr (.inr (.inr ⟨oM,trivial,by rw[if_neg h]⟩))))))
   have p3:=pd h3;simp only[gV,eF,if_false,if_true];by_cases h:Tk.pre Tk.digit (c::r)>7
   ·exact .inr (.inr (.inr (.inl ⟨p3,trivial,h,by rw[if_pos h]⟩)))
   by_cases h':Tk.pre Tk.digit (c::r)>1
   ·by_cases h4:(c.toNat:Int)=48
    ·exact .inr (.inr (.inr (.inr (.inl ⟨p3,trivial,h',oM,h4,by rw[if_neg h,if_pos ⟨h4,h'⟩]⟩))))
    exact .inr (.inr (.inr (.inr (.inr (.inr (.inl ⟨p3,trivial,h',oM,h4,by rw[if_neg h,if_neg (fun x=>h4 x.1)]⟩))))))
   exact .inr (.inr (.inr (.inr (.inr (.inl ⟨p3,trivial,oM,by rw[if_neg h,if_neg (fun x=>h' x.2)]⟩)))))
  have p2:=pw (by rw[h1,h2];rfl);simp only[gH,eF,if_false,if_true];by_cases h:Tk.pre Tk.alnum (c::r)>12
  ·exact .inr (.inl ⟨p2, .inr trivial,h,by rw[if_pos h]⟩)
  exact .inr (.inr (.inl ⟨p2, .inr trivial,oM,by rw[if_neg h]⟩))
 have p1:=pw (by rw[h1];rfl);simp only[Bool.true_or,if_true];by_cases h:Tk.pre Tk.alnum (c::r)>12
 ·exact .inr (.inl ⟨p1, .inl trivial,h,by rw[if_pos h]⟩)
 exact .inr (.inr (.inl ⟨p1, .inl trivial,oM,by rw[if_neg h]⟩))
theorem dQ{a b:Bool}(h:a=b):Ending.returned (.bool a)=.returned (.bool b):=by rw[h]
def TokIn(w:World)(b off:Nat)(t:Tk.Tok):Prop:=
 w.cell? ⟨b,off,none⟩=some (.int .i64 t.kind)∧w.cell? ⟨b,off+1,none⟩=some (.int .i64 t.at_)∧w.cell? ⟨b,off+2,none⟩=some (.string ⟨t.text.toArray⟩)
def tokD(l:List Tk.Tok)(i:Nat):Tk.Tok:=l.getD i ⟨0,0,[]⟩
theorem wU:∀(l:List Tk.Tok)(i j:Nat),i<l.length→j<3→(allCells l)[i*3+j]?=(tokCells (tokD l i))[j]?:=by
 intro l
 induction l with
 |nil=>intro i j h;exact absurd h sI
 |cons t r ih=>
  intro i j hi hj;(have e:allCells (t::r)=tokCells t++allCells r:=by simp[allCells]);have hl:(tokCells t).length=3:=rfl;rw[e]
  cases i with
  |zero=>rw[jT,cV,eH oM];rfl
  |succ i=>
   rw[eB oM,hl,show(i+1)*3+j-3=i*3+j from by omega,ih i j (by simpa using hi) hj];rfl
def ToksAt(w:World)(ao:Option Addr)(l:List Tk.Tok):Prop:=
 l=[]∨∃b off,ao=some ⟨b,off,none⟩∧∀i,i<l.length→TokIn w b (off+i*3) (tokD l i)
theorem zR{w:World}{base n:Nat}{ao:Option Addr}{cap:Nat}{l:List Tk.Tok}(h:w.ownsRow base 271 3 (.slice ao n cap) n (allCells l)):ToksAt w ao l:=by
 rcases h.2 with⟨hv,h0⟩|⟨g,cap',cur,hv,hg,hbk,r⟩
 ·left;have h1:=h.1;rw[h0,pZ]at h1;exact cQ oM
 right;(have hv':ao=some ⟨g,0,none⟩:=by injection hv);subst hv';refine⟨g,0,rfl,fun i hi=>?_⟩;have hc:=h.cells (g:=g) rfl;have hget:∀j,j<3→(allCells l)[i*3+j]?=(tokCells (tokD l i))[j]?:=fun j hj=>wU l i j hi hj;(have hadd:∀k,((⟨g,0,none⟩:Addr).add k)=⟨g,0+k,none⟩:=fun _=>by simp[Addr.add];exact fun h=>h.symm);refine⟨?_,?_,?_⟩
 ·have :=hc (i*3+0) _ ((hget 0 oM).trans rfl);rw[hadd]at this;simpa using this
 ·have :=hc (i*3+1) _ ((hget 1 oM).trans rfl);rw[hadd]at this;simpa[Nat.add_assoc]using this
 have :=hc (i*3+2) _ ((hget 2 oM).trans rfl);rw[hadd]at this;simpa[Nat.add_assoc]using this
namespace Tk
def alone(k:Int)(t:List UInt8):Bool:=((scan t).2.2==0)&&(((scan t).1.length:Int)==1)&&((tokD (scan t).1 0).kind==k)&&((tokD (scan t).1 0).text==t)
def isTok(k:Int)(t:List UInt8):Bool:=decide (t≠[]∧t.length≤5000∧errOf t=0∧kindOf t=k∧lenOf t=t.length)
end Tk
theorem aCf(c:UInt8)(r:List UInt8)(he:Tk.errOf (c::r)=0):Tk.sep false (c::r)=0:=by
 have h:=oO c r;have hk:¬((c.toNat:Int)=37∨(c.toNat:Int)=32∨(c.toNat:Int)=9∨(c.toNat:Int)=10):=by
  intro hc;(have h1:Tk.small c.toNat=false:=by unfold Tk.small;rcases hc with h|h|h|h<;>rw[h]<;>rfl);(have h2:Tk.great c.toNat=false:=by unfold Tk.great;rcases hc with h|h|h|h<;>rw[h]<;>rfl);(have h3:Tk.digit c.toNat=false:=by unfold Tk.digit;rcases hc with h|h|h|h<;>rw[h]<;>rfl);have h4:Tk.signLen (c::r)=0:=by
   have hn:c.toNat=37∨c.toNat=32∨c.toNat=9∨c.toNat=10:=oM;have hc':c=37∨c=32∨c=9∨c=10:=by
    rcases hn with h|h|h|h
    ·exact .inl (UInt8.toNat_inj.1 h)
    ·exact .inr (.inl (UInt8.toNat_inj.1 h))
    ·exact .inr (.inr (.inl (UInt8.toNat_inj.1 h)))
    exact .inr (.inr (.inr (UInt8.toNat_inj.1 h)))
   rcases hc' with rfl|rfl|rfl|rfl<;>simp[Tk.signLen,Tk.isSign,List.isPrefixOf]
  rw[lV,h1,h2,h3]at he;simp[h4]at he
 rw[Tk.sep,if_neg (fun h=>hk (.inl h)),if_neg (fun h=>hk (.inr h))]
theorem aAv(k:Int)(t:List UInt8)(h:Tk.isTok k t=true):Tk.scan t=([{kind:=k,at_:=0,text:=t}],0,0):=by
 have h:=of_decide_eq_true h;obtain⟨h1,h2,h3,h4,h5⟩:=h
 match t,h1 with
 |c::r,_=>
  unfold Tk.scan;rw[if_neg oM,aCf c r h3];have hl:(c::r).length=r.length+1:=rfl;rw[hl,Tk.scanP,if_neg sI,cW,if_pos h3,Tk.scanP_end _ _ _ _ oM];simp only[eW,Tk.tokAt,cW,h4,h5];rw[gR];rfl
theorem sC(k:Int)(t:List UInt8)(h:Tk.isTok k t=true):Tk.alone k t=true:=by unfold Tk.alone;rw[aAv k t h];simp[tokD]
theorem xI(L:List UInt8):∀(f p:Nat)(acc:List Tk.Tok),(Tk.scanP L f p acc).2.2=0→∃r,(Tk.scanP L f p acc).1=acc++r:=by
 intro f
 induction f with
 |zero=>intro p acc _;exact⟨[],by simp[Tk.scanP]⟩
 |succ f ih=>
  intro p acc h;rw[Tk.scanP]at h ⊢;split
  ·exact⟨[],by simp⟩
  rename_i h1;rw[if_neg h1]at h;split
  ·rename_i h2;rw[if_pos h2]at h;obtain⟨r,hr⟩:=ih _ _ h;exact⟨Tk.tokAt L p::r,by rw[hr];simp⟩
  rename_i h2;rw[if_neg h2]at h;exact absurd h h2
theorem qS(k:Int)(t:List UInt8)(h:Tk.alone k t=true):Tk.isTok k t=true:=by
 unfold Tk.alone at h;simp only[aW,beq_iff_eq]at h;obtain⟨⟨⟨h1,h2⟩,h3⟩,h4⟩:=h;have hl:t.length≤5000:=by
  by_cases hh:5000<t.length
  ·exfalso;rw[Tk.scan,if_pos hh]at h1;exact absurd h1 dE
  omega
 (have hs:Tk.scan t=Tk.scanP t t.length (Tk.sep false t) []:=by rw[Tk.scan,if_neg oM]);have hsl:=Tk.sep_le false t;rw[hs]at h1 h2 h3 h4;generalize hp:Tk.sep false t=p at *;have hlt:p<t.length:=by
  rcases dF p t.length with hh|hh
  ·exact hh
  exfalso;rw[Tk.scanP_end _ _ _ _ hh]at h2;exact absurd h2 dE
 have he:Tk.errOf (t.drop p)=0:=by
  by_cases hh:Tk.errOf (t.drop p)=0
  ·exact hh
  exfalso;rw[Tk.scanP_no _ _ _ _ hlt oM hh]at h1;exact hh h1
 obtain⟨f,hf⟩:∃f,t.length=f+1:=⟨t.length-1,oM⟩;rw[hf,Tk.scanP_yes _ _ _ _ hlt he]at h1 h3 h4;obtain⟨r,hr⟩:=xI t _ _ _ h1;rw[hr]at h3 h4;have e3:(Tk.tokAt t p).kind=k:=h3;have e4:(Tk.tokAt t p).text=t:=h4;have e5:(t.drop p).take (Tk.lenOf (t.drop p))=t:=e4;have e6:=congrArg List.length e5;rw[bC,fT]at e6;have p0:p=0:=oM;subst p0;rw[cW]at e6 he;(have e7:Tk.kindOf t=k:=by have :=e3;rw[Tk.tokAt,cW]at this;exact this);have hle:=Tk.lenOf_le t;refine decide_eq_true ⟨?_,hl,he,e7,oM⟩;intro hn;rw[hn]at hlt;exact absurd hlt sI
theorem aCG(k:Int)(t:List UInt8):Tk.alone k t=Tk.isTok k t:=by rw[nV];exact⟨qS k t,sC k t⟩
end Go.Proofs.YthenjegmigeieaaGreat
namespace Go.Proofs.YthenjegmigeieaaGreat
namespace Tr
structure Term where
 var:List UInt8
 n:Int
structure Lit where
 kind:Int
 at_:Int
 op:Int
 name:List UInt8
 terms:List Term
structure Rule where
 at_:Int
 name:List UInt8
 terms:List Term
 fold:Int
 body:List Lit
def foldOf(s:List UInt8):Int:=
 if s==[99,111,117,110,116] then 1 else if s==[115,117,109] then 2 else if s==[108,101,97,115,116] then 3 else if s==[109,111,115,116] then 4 else 0
def isWord(s:List UInt8):Bool:=(s==[110,111,116])||(foldOf s != 0)
def isName(s:List UInt8):Bool:=Tk.isTok 1 s&& !isWord s
def between(n a b:Int):Bool:=decide (a≤n)&&decide (n≤b)
def termOk(t:Term):Bool:=if t.var.isEmpty then between t.n (-9999999) 9999999 else(t.n==0)&&Tk.isTok 2 t.var
def termsOk(l:List Term):Bool:=l.all termOk
def foldOk(f:Int)(terms body:Nat):Bool:=(f==0)||(between f 1 4&&decide (0<terms)&&decide (0<body))
def litOk(l:Lit):Bool:=
 termsOk l.terms&&(if l.kind=1∨l.kind=2 then(l.op==0)&&isName l.name
  else if l.kind=3 then between l.op 1 4&&l.name.isEmpty&&((l.terms.length:Int)==2)
  else if l.kind=4 then between l.op 5 7&&l.name.isEmpty&&((l.terms.length:Int)==3)else false)
def litsOk(l:List Lit):Bool:=l.all litOk
def ruleOk(r:Rule):Bool:=isName r.name&&termsOk r.terms&&foldOk r.fold r.terms.length r.body.length&&litsOk r.body
def litsMany(l:List Lit):Bool:=l.any fun x=>decide (3<x.terms.length)
def ruleMany(r:Rule):Bool:=decide (4<r.body.length)||decide (3<r.terms.length)||litsMany r.body
def many(l:List Rule):Bool:=decide (12<l.length)||l.any ruleMany
def check(l:List Rule):Int:=if many l then 2 else if l.all ruleOk then 0 else 1
def termD(l:List Term)(i:Nat):Term:=l.getD i ⟨[],0⟩
def litD(l:List Lit)(i:Nat):Lit:=l.getD i ⟨0,0,0,[],[]⟩
def ruleD(l:List Rule)(i:Nat):Rule:=l.getD i ⟨0,[],[],0,[]⟩
end Tr
theorem all_drop{α:Type}(p:α→Bool)(l:List α)(d:α)(k:Nat)(h:k<l.length):(l.drop k).all p=(p (l.getD k d)&&(l.drop (k+1)).all p):=by rw[bG h,List.all_cons,aE,aG h];rfl
theorem zK{α:Type}(p:α→Bool)(l:List α)(d:α)(k:Nat)(h:k<l.length):(l.drop k).any p=(p (l.getD k d)||(l.drop (k+1)).any p):=by rw[bG h,List.any_cons,aE,aG h];rfl
end Go.Proofs.YthenjegmigeieaaGreat
namespace Go.Proofs.YthenjegmigeieaaGreat
namespace Sc
structure Term where
 var:Int
 n:Int
structure Lit where
 kind:Int
 op:Int
 pred:Int
 terms:List Term
structure Rule where
 pred:Int
 terms:List Term
 fold:Int
 body:List Lit
 vars:Int
structure Prog where
 arity:List Int
 names:List (List UInt8)
 rules:List Rule
def termD(l:List Term)(i:Nat):Term:=l.getD i ⟨0,0⟩
def litD(l:List Lit)(i:Nat):Lit:=l.getD i ⟨0,0,0,[]⟩
def ruleD(l:List Rule)(i:Nat):Rule:=l.getD i ⟨0,[],0,[],0⟩
def intD(l:List Int)(i:Nat):Int:=l.getD i 0
def strD(l:List (List UInt8))(i:Nat):List UInt8:=l.getD i []
def first{α:Type}(f:α→Int):List α→Int
 |[]=>0
 |x::r=>if f x=0 then first f r else f x
def thn(a b:Int):Int:=if a=0 then b else a
def isNum(n:Int):Bool:=Tr.between n (-1000000) 1000000
def termErr(vars:Int)(t:Term):Int:=
 if Tr.between t.var (-1) (vars-1)then(if !isNum t.n||(decide (0≤t.var)&&t.n != 0)then 3 else 0)else 5
def termsErr(vars:Int)(l:List Term):Int:=first (termErr vars) l
def isPred(ar:List Int)(k:Int):Bool:=Tr.between k 0 ((ar.length:Int)-1)
def litErr(ar:List Int)(l:Lit):Int:=
 if l.kind=1∨l.kind=2 then
  (if l.op≠0 then 3 else if isPred ar l.pred then(if(l.terms.length:Int)≠intD ar l.pred.toNat then 1 else 0)else 5)
 else if l.kind=3 then(if Tr.between l.op 1 4 then(if l.pred≠0∨¬l.terms.length=2 then 1 else 0)else 3)
 else if l.kind=4 then(if Tr.between l.op 5 7 then(if l.pred≠0∨¬l.terms.length=3 then 1 else 0)else 3)
 else 7
def litAll(ar:List Int)(vars:Int)(l:Lit):Int:=thn (litErr ar l) (termsErr vars l.terms)
def known(b:List Bool)(t:Term):Bool:=decide (t.var<0)||b.getD t.var.toNat false
def bind1(b:List Bool)(t:Term):List Bool:=if 0≤t.var then b.set t.var.toNat true else b
def bindAll(b:List Bool)(l:List Term):List Bool:=l.foldl bind1 b
def binds(b:List Bool)(l:Lit):List Term:=
 if l.kind=1 then l.terms else if l.kind=4∧known b (termD l.terms 0)=true∧known b (termD l.terms 1)=true then l.terms.drop 2 else []
def bindLit(b:List Bool)(l:Lit):List Bool:=bindAll b (binds b l)
def round(body:List Lit)(b:List Bool):List Bool:=body.foldl bindLit b
def rounds(body:List Lit):Nat→List Bool→List Bool
 |0,b=>b
 |n+1,b=>rounds body n (round body b)
def safe(r:Rule):Bool:=(rounds r.body r.body.length (List.replicate r.vars.toNat false)).all id
def ruleErr(ar:List Int)(r:Rule):Int:=
 if isPred ar r.pred then
  thn (if(r.terms.length:Int)≠intD ar r.pred.toNat then 1 else 0) (
  thn (if Tr.between r.vars 0 8 then 0 else 3) (
  thn (termsErr r.vars r.terms) (
  thn (if Tr.between r.fold 0 4 then 0 else 7) (
  thn (if r.fold≠0∧(r.terms.length=0∨r.body.length=0)then 1 else 0) (
  thn (if 4<r.body.length then 2 else 0) (
  thn (first (litAll ar r.vars) r.body) (if safe r then 0 else 4)))))))
 else 5
def predErr(ar:List Int)(names:List (List UInt8))(i:Nat):Int:=
 thn (if Tr.between (intD ar i) 0 3 then 0 else 3) (thn (if Tr.isName (strD names i)then 0 else 1) (if(names.take i).contains (strD names i)then 6 else 0))
def check(p:Prog):Int:=
 if 10<p.arity.length∨12<p.rules.length then 2
 else if¬p.names.length=p.arity.length then 1
 else thn (first (predErr p.arity p.names) (List.range p.names.length)) (first (ruleErr p.arity) p.rules)
def factErr(p:Prog)(pred:Int)(args:List Int):Int:=
 if isPred p.arity pred then thn (if(args.length:Int)≠intD p.arity pred.toNat then 1 else 0) (if args.all isNum then 0 else 3)else 5
def fact(p:Prog)(pred:Int)(args:List Int):Int:=thn (check p) (factErr p pred args)
theorem thn_zero(b:Int):thn 0 b=b:=rfl
theorem thn_ne{a:Int}(b:Int)(h:¬a=0):thn a b=a:=by unfold thn;rw[if_neg h]
theorem first_drop{α:Type}(f:α→Int)(d:α)(l:List α)(k:Nat)(h:k<l.length):first f (l.drop k)=thn (f (l.getD k d)) (first f (l.drop (k+1))):=by rw[bG h,first,thn];simp[List.getD_eq_getElem?_getD,List.getElem?_eq_getElem h]
theorem known_le{b c:List Bool}(h:∀i:Nat,b.getD i false=true→c.getD i false=true)(t:Term)(hk:known b t=true):known c t=true:=by
 unfold known at hk ⊢;rcases eA _ _▸hk with h1|h1
 ·simp[h1]
 rw[h _ h1,gH]
def Le(b c:List Bool):Prop:=b.length=c.length∧∀i:Nat,b.getD i false=true→c.getD i false=true
theorem Le.refl(b:List Bool):Le b b:=⟨rfl,fun _ h=>h⟩
theorem Le.trans{a b c:List Bool}(h:Le a b)(k:Le b c):Le a c:=⟨h.1.trans k.1,fun i hi=>k.2 i (h.2 i hi)⟩
theorem bind1_le(b:List Bool)(t:Term):Le b (bind1 b t):=by
 unfold bind1;split
 ·refine⟨by simp,fun i hi=>?_⟩;rw[aE]at hi ⊢;rw[dS];split
  ·rename_i h;subst h;split
   ·rfl
   rename_i h2;rw[bR oM]at hi;exact hi
  exact hi
 exact Le.refl b
theorem bindAll_le(l:List Term):∀b:List Bool,Le b (bindAll b l):=by
 induction l with
 |nil=>exact Le.refl
 |cons t r ih=>exact fun b=>(bind1_le b t).trans (ih (bind1 b t))
theorem bindLit_le(b:List Bool)(l:Lit):Le b (bindLit b l):=bindAll_le _ b
theorem round_le(body:List Lit):∀b:List Bool,Le b (round body b):=by
 induction body with
 |nil=>exact Le.refl
 |cons t r ih=>exact fun b=>(bindLit_le b t).trans (ih (bindLit b t))
def Has(b:List Bool)(l:List Term):Prop:=∀t,t∈l→0≤t.var→t.var.toNat<b.length→b.getD t.var.toNat false=true
theorem Has.le{b c:List Bool}{l:List Term}(h:Has b l)(k:Le b c):Has c l:=fun t ht h0 hl=>k.2 _ (h t ht h0 (by rw[k.1];exact hl))
theorem bind1_has{b:List Bool}{t:Term}(h:0≤t.var→t.var.toNat<b.length→b.getD t.var.toNat false=true):bind1 b t=b:=by
 unfold bind1;split
 ·rename_i h0;apply eZ;intro i;rw[dS];split
  ·rename_i hi;subst hi;split
   ·rename_i hl;have :=h h0 hl;rw[aE,aG hl]at this;rw[aG hl];simp at this;rw[this]
   rename_i hl;rw[bR oM]
  rfl
 rfl
theorem bindAll_has(l:List Term):∀{b:List Bool},Has b l→bindAll b l=b:=by
 induction l with
 |nil=>exact fun _=>rfl
 |cons t r ih=>
  intro b h;show bindAll (bind1 b t) r=b;rw[bind1_has (h t bA)];exact ih fun x hx=>h x (aP _ hx)
theorem has_bind1(b:List Bool)(t:Term)(h0:0≤t.var)(hl:t.var.toNat<b.length):(bind1 b t).getD t.var.toNat false=true:=by unfold bind1;rw[if_pos h0,aE,List.getElem?_set_self hl];rfl
theorem has_bindAll(l:List Term):∀b:List Bool,Has (bindAll b l) l:=by
 induction l with
 |nil=>exact fun _ t ht=>absurd ht sI
 |cons t r ih=>
  intro b x hx h0 hl;have hle:Le (bind1 b t) (bindAll (bind1 b t) r):=bindAll_le r _;rcases bD.mp hx with rfl|hx
  ·refine hle.2 _ (has_bind1 b x h0 ?_);have h1:=(bind1_le b x).1;have h2:=hle.1;show x.var.toNat<b.length;rw[h1,h2];exact hl
  exact ih (bind1 b t) x hx h0 hl
def ready(b:List Bool)(l:Lit):Bool:=(l.kind==1)||((l.kind==4)&&known b (termD l.terms 0)&&known b (termD l.terms 1))
def out(l:Lit):List Term:=if l.kind=1 then l.terms else l.terms.drop 2
theorem binds_ready(b:List Bool)(l:Lit):binds b l=if ready b l then out l else []:=by
 unfold binds ready out;by_cases h1:l.kind=1
 ·simp[h1]
 by_cases h4:l.kind=4
 ·cases hk0:known b (termD l.terms 0)<;>cases hk1:known b (termD l.terms 1)<;>simp[h4]
 simp[h1,h4]
theorem ready_le{b c:List Bool}(h:Le b c){l:Lit}(hr:ready b l=true):ready c l=true:=by
 unfold ready at hr ⊢;rcases eA _ _▸hr with h1|h1
 ·simp[h1]
 simp only[aW]at h1;simp[h1.1.1,known_le h.2 _ h1.1.2,known_le h.2 _ h1.2]
theorem round_has(body:List Lit):∀(b:List Bool)(l:Lit),l∈body→ready b l=true→Has (round body b) (out l):=by
 induction body with
 |nil=>exact fun _ l hl=>absurd hl sI
 |cons x r ih=>
  intro b l hl hr;rcases bD.mp hl with rfl|hl
  ·refine Has.le ?_ (round_le r (bindLit b l));unfold bindLit;rw[binds_ready,if_pos hr];exact has_bindAll _ _
  exact ih (bindLit b x) l hl (ready_le (bindLit_le b x) hr)
theorem round_fix(body:List Lit):∀(b:List Bool),(∀l,l∈body→ready b l=true→Has b (out l))→round body b=b:=by
 induction body with
 |nil=>exact fun _ _=>rfl
 |cons x r ih=>
  intro b h;have hx:bindLit b x=b:=by
   unfold bindLit;rw[binds_ready];split
   ·rename_i hr;exact bindAll_has _ (h x bA hr)
   rfl
  show round r (bindLit b x)=b;rw[hx];exact ih b fun l hl=>h l (aP _ hl)
def many(body:List Lit)(b:List Bool):Nat:=body.countP (ready b)
theorem many_le{body:List Lit}{b c:List Bool}(h:Le b c):many body b≤many body c:=List.countP_mono_left fun _ _=>ready_le h
theorem many_eq{b c:List Bool}(h:Le b c):∀{body:List Lit},many body c≤many body b→∀l,l∈body→ready c l=true→ready b l=true:=by
 intro body
 induction body with
 |nil=>exact fun _ l hl=>absurd hl sI
 |cons x r ih=>
  intro hm l hl hr;have h1:many r b≤many r c:=many_le h;simp only[many,List.countP_cons]at hm h1;have h2:ready b x=true→ready c x=true:=ready_le h;rcases bD.mp hl with rfl|hl
  ·cases hb:ready b l with
   |true=>rfl
   |false=>rw[hb,hr]at hm;simp at hm;omega
  refine ih ?_ l hl hr;show List.countP (ready c) r≤List.countP (ready b) r
  cases hb:ready b x with
  |true=>rw[hb,h2 hb]at hm;simpa using hm
  |false=>
   cases hc:ready c x with
   |true=>rw[hb,hc]at hm;simp at hm;omega
   |false=>rw[hb,hc]at hm;simpa using hm
theorem round_still(body:List Lit)(b:List Bool)(h:many body (round body b)≤many body b):round body (round body b)=round body b:=
 round_fix body _ fun l hl hr=>round_has body b l hl (many_eq (round_le body b) h l hl hr)
theorem rounds_fix(body:List Lit):∀(n:Nat)(b:List Bool),round body b=b→rounds body n b=b:=by
 intro n
 induction n with
 |zero=>exact fun _ _=>rfl
 |succ n ih=>intro b h;rw[rounds,h];exact ih b h
theorem rounds_more(body:List Lit):∀(n:Nat)(b:List Bool),body.length≤n+many body b→rounds body (n+2) b=rounds body (n+1) b:=by
 intro n
 induction n with
 |zero=>
  intro b h;have hc:many body (round body b)≤many body b:=aX List.countP_le_length (by simpa using h);exact round_still body b hc
 |succ n ih=>
  intro b h;by_cases hm:many body (round body b)≤many body b
  ·have hf:=round_still body b hm;show rounds body (n+2) (round body b)=rounds body (n+1) (round body b);rw[rounds_fix body _ _ hf,rounds_fix body _ _ hf]
  exact ih (round body b) oM
theorem rounds_enough(body:List Lit)(b:List Bool):rounds body (body.length+1) b=rounds body body.length b:=by
 by_cases h0:many body b=0
 ·(have hf:round body b=b:=round_fix body b fun l hl hr=>by have :=List.countP_eq_zero.mp h0 l hl;exact absurd hr this);rw[rounds_fix body _ _ hf,rounds_fix body _ _ hf]
 have hl:many body b≤body.length:=List.countP_le_length;obtain⟨n,hn⟩:∃n,body.length=n+1:=⟨body.length-1,oM⟩;rw[hn];exact rounds_more body n b oM
end Sc
end Go.Proofs.YthenjegmigeieaaGreat
namespace Go.Proofs.YthenjegmigeieaaGreat
namespace Rl
structure Fc where
 pred:Int
 args:List Int
def cmpI(a b:Int):Int:=if a<b then -1 else if b<a then 1 else 0
def cmpL:List Int→List Int→Int
 |[],[]=>0
 |[],_::_=> -1
 |_::_,[]=>1
 |a::x,b::y=>if cmpI a b=0 then cmpL x y else cmpI a b
def ord(f g:Fc):Int:=if cmpI f.pred g.pred=0 then cmpL f.args g.args else cmpI f.pred g.pred
theorem cmpI_zero{a b:Int}:cmpI a b=0↔a=b:=by
 unfold cmpI;split
 ·constructor
  ·intro h;exact absurd h (by decide)
  intro h;omega
 split
 ·constructor
  ·intro h;exact absurd h (by decide)
  intro h;omega
 constructor
 ·intro _;omega
 intro _;rfl
theorem cmpI_lt{a b:Int}:cmpI a b<0↔a<b:=by
 unfold cmpI;split
 ·constructor
  ·intro _;assumption
  intro _;decide
 split
 ·constructor
  ·intro h;exact absurd h (by decide)
  intro h;omega
 constructor
 ·intro h;exact absurd h (by decide)
 intro h;omega
theorem cmpI_flip(a b:Int):cmpI b a= -cmpI a b:=by
 unfold cmpI;by_cases h1:a<b
 ·rw[if_pos h1,if_neg (by omega),if_pos h1];rfl
 by_cases h2:b<a
 ·rw[if_pos h2,if_neg h1,if_pos h2]
 rw[if_neg h2,if_neg h1,if_neg h1,if_neg h2];rfl
theorem cmpI_self(a:Int):cmpI a a=0:=cmpI_zero.mpr rfl
theorem cmpL_zero:∀{x y:List Int},cmpL x y=0↔x=y:=by
 intro x
 induction x with
 |nil=>
  intro y
  cases y with
  |nil=>simp[cmpL]
  |cons b y=>simp[cmpL]
 |cons a x ih=>
  intro y
  cases y with
  |nil=>simp[cmpL]
  |cons b y=>
   simp only[cmpL];split
   ·rename_i h;rw[cmpI_zero]at h;rw[ih,h];simp
   rename_i h;constructor
   ·intro h2;exact absurd h2 h
   intro h2;injection h2 with h2 _;exact absurd (cmpI_zero.mpr h2) h
theorem cmpL_flip:∀(x y:List Int),cmpL y x= -cmpL x y:=by
 intro x
 induction x with
 |nil=>
  intro y
  cases y with
  |nil=>rfl
  |cons b y=>rfl
 |cons a x ih=>
  intro y
  cases y with
  |nil=>rfl
  |cons b y=>
   simp only[cmpL];by_cases h:cmpI a b=0
   ·rw[if_pos h,if_pos (by rw[cmpI_flip,h];rfl)];exact ih y
   rw[if_neg h,if_neg (by rw[cmpI_flip];omega)];exact cmpI_flip a b
theorem cmpL_trans:∀{x y z:List Int},cmpL x y<0→cmpL y z<0→cmpL x z<0:=by
 intro x
 induction x with
 |nil=>
  intro y z h1 h2
  cases y with
  |nil=>exact absurd h1 (by decide)
  |cons b y=>
   cases z with
   |nil=>exact absurd (show(1:Int)<0 from h2) (by decide)
   |cons c z=>show(-1:Int)<0;decide
 |cons a x ih=>
  intro y z h1 h2
  cases y with
  |nil=>exact absurd (show(1:Int)<0 from h1) (by decide)
  |cons b y=>
   cases z with
   |nil=>exact absurd (show(1:Int)<0 from h2) (by decide)
   |cons c z=>
    simp only[cmpL]at h1 h2 ⊢;by_cases e1:cmpI a b=0
    ·rw[if_pos e1]at h1;rw[cmpI_zero]at e1;subst e1;by_cases e2:cmpI a c=0
     ·rw[if_pos e2]at h2 ⊢;exact ih h1 h2
     rw[if_neg e2]at h2 ⊢;exact h2
    rw[if_neg e1,cmpI_lt]at h1;by_cases e2:cmpI b c=0
    ·rw[cmpI_zero]at e2;subst e2;rw[if_neg e1,cmpI_lt];exact h1
    rw[if_neg e2,cmpI_lt]at h2;rw[if_neg (by rw[cmpI_zero];omega),cmpI_lt];omega
theorem ord_zero{f g:Fc}:ord f g=0↔f=g:=by
 obtain⟨p,x⟩:=f;obtain⟨q,y⟩:=g;unfold ord;simp only;by_cases h:cmpI p q=0
 ·rw[if_pos h,cmpL_zero];rw[cmpI_zero]at h;subst h;simp
 rw[if_neg h];constructor
 ·intro h2;exact absurd h2 h
 intro h2;injection h2 with h2 _;exact absurd (cmpI_zero.mpr h2) h
theorem ord_self(f:Fc):ord f f=0:=ord_zero.mpr rfl
theorem ord_flip(f g:Fc):ord g f= -ord f g:=by
 unfold ord;by_cases h:cmpI f.pred g.pred=0
 ·rw[if_pos h,if_pos (by rw[cmpI_flip,h];rfl)];exact cmpL_flip _ _
 rw[if_neg h,if_neg (by rw[cmpI_flip];omega)];exact cmpI_flip _ _
theorem ord_trans{f g h:Fc}(h1:ord f g<0)(h2:ord g h<0):ord f h<0:=by
 obtain⟨p,x⟩:=f;obtain⟨q,y⟩:=g;obtain⟨r,z⟩:=h;unfold ord at h1 h2 ⊢;simp only at h1 h2 ⊢;by_cases e1:cmpI p q=0
 ·rw[if_pos e1]at h1;rw[cmpI_zero]at e1;subst e1;by_cases e2:cmpI p r=0
  ·rw[if_pos e2]at h2 ⊢;exact cmpL_trans h1 h2
  rw[if_neg e2]at h2 ⊢;exact h2
 rw[if_neg e1,cmpI_lt]at h1;by_cases e2:cmpI q r=0
 ·rw[cmpI_zero]at e2;subst e2;rw[if_neg e1,cmpI_lt];exact h1
 rw[if_neg e2,cmpI_lt]at h2;rw[if_neg (by rw[cmpI_zero];omega),cmpI_lt];omega
def Lt(f g:Fc):Prop:=ord f g<0
theorem Lt.trans{f g h:Fc}(h1:Lt f g)(h2:Lt g h):Lt f h:=ord_trans h1 h2
theorem Lt.irrefl(f:Fc):¬Lt f f:=by unfold Lt;rw[ord_self];decide
theorem lt_or(f g:Fc):Lt f g∨f=g∨Lt g f:=by unfold Lt;rw[ord_flip f g,←ord_zero];omega
def Up(l:List Fc):Prop:=l.Pairwise Lt
def IsSet(s l:List Fc):Prop:=Up s∧∀x,x∈s↔x∈l
theorem up_ext:∀{s t:List Fc},Up s→Up t→(∀x,x∈s↔x∈t)→s=t:=by
 intro s
 induction s with
 |nil=>
  intro t _ _ h
  cases t with
  |nil=>rfl
  |cons b t=>exact absurd ((h b).mpr (by simp)) (by simp)
 |cons a s ih=>
  intro t hs ht h
  cases t with
  |nil=>exact absurd ((h a).mp (by simp)) (by simp)
  |cons b t=>
   have hs':=eD.mp hs;have ht':=eD.mp ht;have hab:a=b:=by
    rcases bD.mp ((h a).mp (by simp))with h1|h1
    ·exact h1
    rcases bD.mp ((h b).mpr (by simp))with h2|h2
    ·exact h2.symm
    exact absurd ((ht'.1 a h1).trans (hs'.1 b h2)) (Lt.irrefl b)
   subst hab;rw[ih hs'.2 ht'.2 (fun x=>?_)];constructor
   ·intro hx;rcases bD.mp ((h x).mp (by simp[hx]))with h1|h1
    ·subst h1;exact absurd (hs'.1 x hx) (Lt.irrefl x)
    exact h1
   intro hx;rcases bD.mp ((h x).mpr (by simp[hx]))with h1|h1
   ·subst h1;exact absurd (ht'.1 x hx) (Lt.irrefl x)
   exact h1
def ins(f:Fc):List Fc→List Fc
 |[]=>[f]
 |a::r=>if ord f a<0 then f::a::r else if ord f a=0 then a::r else a::ins f r
theorem mem_ins(f x:Fc):∀(l:List Fc),x∈ins f l↔x=f∨x∈l:=by
 intro l
 induction l with
 |nil=>simp[ins]
 |cons a r ih=>
  simp only[ins];split
  ·simp
  split
  ·rename_i h;rw[ord_zero]at h;subst h;constructor
   ·intro h;exact .inr h
   rintro(h|h)
   ·simp[h]
   exact h
  rw[bD,ih,bD];constructor
  ·rintro(h|h|h)
   ·exact .inr (.inl h)
   ·exact .inl h
   exact .inr (.inr h)
  rintro(h|h|h)
  ·exact .inr (.inl h)
  ·exact .inl h
  exact .inr (.inr h)
theorem up_ins(f:Fc):∀{l:List Fc},Up l→Up (ins f l):=by
 intro l
 induction l with
 |nil=>intro _;exact fM _ _
 |cons a r ih=>
  intro h;have h':=eD.mp h;simp only[ins];split
  ·rename_i h1;refine eD.mpr ⟨fun x hx=>?_,h⟩;rcases bD.mp hx with rfl|hx
   ·exact h1
   exact Lt.trans h1 (h'.1 x hx)
  split
  ·exact h
  rename_i h1 h2;refine eD.mpr ⟨fun x hx=>?_,ih h'.2⟩;rcases(mem_ins f x r).mp hx with rfl|hx
  ·rcases lt_or a x with h3|h3|h3
   ·exact h3
   ·subst h3;exact absurd (ord_self a) h2
   exact absurd h3 h1
  exact h'.1 x hx
def set:List Fc→List Fc
 |[]=>[]
 |a::r=>ins a (set r)
theorem set_isSet:∀(l:List Fc),IsSet (set l) l:=by
 intro l
 induction l with
 |nil=>exact⟨List.Pairwise.nil,fun x=>Iff.rfl⟩
 |cons a r ih=>
  refine⟨up_ins a ih.1,fun x=>?_⟩;show x∈ins a (set r)↔_;rw[mem_ins,ih.2,bD]
theorem isSet_eq{s l:List Fc}(h:IsSet s l):s=set l:=up_ext h.1 (set_isSet l).1 fun x=>(h.2 x).trans ((set_isSet l).2 x).symm
theorem mem_set{l:List Fc}{x:Fc}:x∈set l↔x∈l:=(set_isSet l).2 x
theorem set_same{l m:List Fc}(h:∀x,x∈l↔x∈m):set l=set m:=isSet_eq ⟨(set_isSet l).1,fun x=>mem_set.trans (h x)⟩
def has(l:List Fc)(f:Fc):Bool:=l.any fun x=>ord x f==0
theorem has_iff{l:List Fc}{f:Fc}:has l f=true↔f∈l:=by
 unfold has;rw[gT];constructor
 ·rintro⟨x,hx,h⟩;have h2:x=f:=ord_zero.mp (by simpa using h);rw[←h2];exact hx
 intro h;exact⟨f,h,by simp[ord_self]⟩
def minus(l m:List Fc):List Fc:=set (l.filter fun x=> !has m x)
def union(l m:List Fc):List Fc:=set (l++m)
theorem up_put{acc:List Fc}{f:Fc}{k:Nat}(h:Up acc)(hf:f∉acc)(hk:k≤acc.length)(hd:∀x,x∈acc.drop k→ord x f>0)(ht:k=0∨∃x,acc[k-1]?=some x∧¬ord x f>0):Up (acc.take k++f::acc.drop k):=by
 have hsplit:acc.take k++acc.drop k=acc:=eV k acc;have h0:=h;rw[←hsplit]at h0;obtain⟨u1,u2,u3⟩:=gB.mp h0;refine gB.mpr ⟨u1,eD.mpr ⟨fun x hx=>?_,u2⟩,fun x hx y hy=>?_⟩
 ·have :=hd x hx;show ord f x<0;rw[ord_flip x f];omega
 have hxf:Lt x f:=by
  rcases ht with h1|⟨z,hz,hzf⟩
  ·subst h1;simp at hx
  have hzl:Lt z f:=by
   rcases lt_or z f with h2|h2|h2
   ·exact h2
   ·subst h2;exact absurd (dL hz) hf
   have h3:ord f z<0:=h2;rw[ord_flip z f]at h3;omega
  by_cases hxz:x=z
  ·rw[hxz];exact hzl
  obtain⟨i,hi,hix⟩:=jF hx;(have hi1:i<k:=by rw[bC]at hi;omega);(have hi2:i<acc.length:=by omega);(have hk1:k-1<acc.length:=by omega);(have hxi:acc[i]=x:=by rw[←hix,List.getElem_take]);(have hzi:acc[k-1]=z:=by rw[aG hk1]at hz;exact Option.some.inj hz);have hne:¬i=k-1:=fun e=>hxz (by rw[←hxi,←hzi];simp only[e]);have :=iC.mp h i (k-1) hi2 hk1 (by omega);rw[hxi,hzi]at this;exact this.trans hzl
 rcases bD.mp hy with rfl|hy
 ·exact hxf
 exact u3 x hx y hy
theorem mem_put{acc:List Fc}{f x:Fc}{k:Nat}:x∈acc.take k++f::acc.drop k↔x=f∨x∈acc:=by
 have hsplit:acc.take k++acc.drop k=acc:=eV k acc;(conv=>rhs;rw[←hsplit]);simp only[bX,bD];constructor
 ·rintro(h|h|h)
  ·exact .inr (.inl h)
  ·exact .inl h
  exact .inr (.inr h)
 rintro(h|h|h)
 ·exact .inr (.inl h)
 ·exact .inl h
 exact .inr (.inr h)
end Rl
end Go.Proofs.YthenjegmigeieaaGreat
namespace Go.Proofs.YthenjegmigeieaaGreat
namespace Ru
open Sc (Term)
structure Way where
 nums:List Int
 known:List Bool
def num(x:List Int)(t:Term):Int:=if t.var<0 then t.n else x.getD t.var.toNat 0
def fill(ts:List Term)(x:List Int):List Int:=ts.map (num x)
def with1(w:Way)(t:Term)(n:Int):Option Way:=
 if Sc.known w.known t=true then(if num w.nums t=n then some w else none)
 else some ⟨w.nums.set t.var.toNat n,w.known.set t.var.toNat true⟩
def withW:Way→List Term→List Int→Option Way
 |w,[],_=>some w
 |w,t::ts,ns=>match with1 w t (ns.headD 0)with
  |none=>none
  |some w'=>withW w' ts ns.tail
def Ext(w:Way)(x:List Int):Prop:=∀i:Nat,w.known.getD i false=true→w.nums.getD i 0=x.getD i 0
structure Wf (m:Nat) (w:Way):Prop where
 n:w.nums.length=m
 k:w.known.length=m
def TermIn(m:Nat)(t:Term):Prop:=t.var<0∨t.var.toNat<m
def TermsIn(m:Nat)(l:List Term):Prop:=∀t,t∈l→TermIn m t
theorem getD_set_eq{α:Type}(l:List α)(i:Nat)(v d:α)(h:i<l.length):(l.set i v).getD i d=v:=by rw[aE,List.getElem?_set_self h];rfl
theorem getD_set_ne{α:Type}(l:List α)(i j:Nat)(v d:α)(h:¬i=j):(l.set i v).getD j d=l.getD j d:=by rw[aE,List.getElem?_set_ne h,aE]
theorem num_known{w:Way}{x:List Int}(h:Ext w x){t:Term}(hk:Sc.known w.known t=true):num w.nums t=num x t:=by
 unfold num;split
 ·rfl
 rename_i h0;refine h _ ?_;unfold Sc.known at hk;simpa[h0]using hk
theorem known_in{w:Way}{t:Term}(hk:¬Sc.known w.known t=true):0≤t.var∧w.known.getD t.var.toNat false=false:=by unfold Sc.known at hk;simp only[eA,not_or,decide_eq_true_eq,Bool.not_eq_true]at hk;exact⟨oM,hk.2⟩
theorem with1_wf{m:Nat}{w w':Way}{t:Term}{n:Int}(hw:Wf m w)(h:with1 w t n=some w'):Wf m w':=by
 unfold with1 at h;split at h
 ·split at h
  ·injection h with h;subst h;exact hw
  cases h
 injection h with h;subst h;exact⟨by simpa using hw.n,by simpa using hw.k⟩
theorem with1_known{w w':Way}{t:Term}{n:Int}(h:with1 w t n=some w'):w'.known=Sc.bind1 w.known t:=by
 unfold with1 at h;split at h
 ·rename_i hk;split at h
  ·injection h with h;subst h;symm;refine Sc.bind1_has fun h0 _=>?_;unfold Sc.known at hk;simpa[show¬t.var<0 by omega]using hk
  cases h
 rename_i hk;injection h with h;subst h;unfold Sc.bind1;rw[if_pos (known_in hk).1]
theorem with1_ext{m:Nat}{w:Way}{t:Term}{n:Int}{x:List Int}(hw:Wf m w)(ht:TermIn m t):(∃w',with1 w t n=some w'∧Ext w' x)↔Ext w x∧num x t=n:=by
 unfold with1;by_cases hk:Sc.known w.known t=true
 ·rw[if_pos hk];constructor
  ·rintro⟨w',h,he⟩;split at h
   ·rename_i hn;injection h with h;subst h;exact⟨he,by rw[←num_known he hk];exact hn⟩
   cases h
  rintro⟨he,hn⟩;refine⟨w,?_,he⟩;rw[if_pos ((num_known he hk).trans hn)]
 rw[if_neg hk];obtain⟨h0,hf⟩:=known_in hk;(have hv:t.var.toNat<m:=by rcases ht with h|h;omega;exact h);(have hx:num x t=x.getD t.var.toNat 0:=by unfold num;rw[if_neg oM]);rw[hx];constructor
 ·rintro⟨w',h,he⟩;injection h with h;subst h;refine⟨fun i hi=>?_,?_⟩
  ·by_cases hvi:t.var.toNat=i
   ·subst hvi;rw[hf]at hi;cases hi
   have :=he i (by show(w.known.set _ true).getD i false=true;rw[getD_set_ne _ _ _ _ _ hvi];exact hi);rw[←this];show _=(w.nums.set _ n).getD i 0;rw[getD_set_ne _ _ _ _ _ hvi]
  have :=he t.var.toNat (by show(w.known.set _ true).getD _ false=true;rw[getD_set_eq _ _ _ _ (by rw[hw.k];exact hv)]);rw[←this];show(w.nums.set _ n).getD _ 0=n;rw[getD_set_eq _ _ _ _ (by rw[hw.n];exact hv)]
 rintro⟨he,hn⟩;refine⟨_,rfl,fun i hi=>?_⟩;by_cases hvi:t.var.toNat=i
 ·subst hvi;show(w.nums.set _ n).getD _ 0=_;rw[getD_set_eq _ _ _ _ (by rw[hw.n];exact hv),hn]
 show(w.nums.set _ n).getD i 0=_;rw[getD_set_ne _ _ _ _ _ hvi];refine he i ?_;have :(w.known.set t.var.toNat true).getD i false=true:=hi;rwa[getD_set_ne _ _ _ _ _ hvi]at this
theorem withW_wf{m:Nat}:∀{ts:List Term}{ns:List Int}{w w':Way},Wf m w→withW w ts ns=some w'→Wf m w'
 |[],_,_,_,hw,h=>by unfold withW at h;injection h with h;subst h;exact hw
 |t::ts,ns,w,w',hw,h=>by
  unfold withW at h
  cases h1:with1 w t (ns.headD 0)with
  |none=>rw[h1]at h;cases h
  |some w1=>rw[h1]at h;exact withW_wf (with1_wf hw h1) h
theorem withW_known:∀{ts:List Term}{ns:List Int}{w w':Way},withW w ts ns=some w'→w'.known=Sc.bindAll w.known ts
 |[],_,_,_,h=>by unfold withW at h;injection h with h;subst h;rfl
 |t::ts,ns,w,w',h=>by
  unfold withW at h
  cases h1:with1 w t (ns.headD 0)with
  |none=>rw[h1]at h;cases h
  |some w1=>
   rw[h1]at h;rw[withW_known h,with1_known h1];rfl
theorem withW_ext{m:Nat}{x:List Int}:∀{ts:List Term}{ns:List Int}{w:Way},Wf m w→TermsIn m ts→ts.length=ns.length→((∃w',withW w ts ns=some w'∧Ext w' x)↔Ext w x∧fill ts x=ns)
 |[],ns,w,_,_,hl=>by
  have :ns=[]:=gG.mp hl.symm;subst this;constructor
  ·rintro⟨w',h,he⟩;unfold withW at h;injection h with h;subst h;exact⟨he,rfl⟩
  rintro⟨he,_⟩;exact⟨w,rfl,he⟩
 |t::ts,[],_,_,_,hl=>by cases hl
 |t::ts,n::ns,w,hw,hT,hl=>by
  have h1:=with1_ext (n:=n) (x:=x) hw (hT t bA);have hTs:TermsIn m ts:=fun t ht=>hT t (aP _ ht);(have hls:ts.length=ns.length:=by simpa using hl);show(∃w',(match with1 w t n with |none=>none|some w1=>withW w1 ts ns)=some w'∧Ext w' x)↔_;constructor
  ·rintro⟨w',h,he⟩
   cases hw1:with1 w t n with
   |none=>rw[hw1]at h;cases h
   |some w1=>
    rw[hw1]at h;obtain⟨he1,hf⟩:=(withW_ext (with1_wf hw hw1) hTs hls).mp ⟨w',h,he⟩;obtain⟨he0,hn⟩:=h1.mp ⟨w1,hw1,he1⟩;exact⟨he0,by show num x t::fill ts x=_;rw[hn,hf]⟩
  rintro⟨he,hf⟩;have hf':num x t::fill ts x=n::ns:=hf;injection hf' with hn hf';obtain⟨w1,hw1,he1⟩:=h1.mpr ⟨he,hn⟩;obtain⟨w',h,he'⟩:=(withW_ext (with1_wf hw hw1) hTs hls).mpr ⟨he1,hf'⟩;refine⟨w',?_,he'⟩;rw[hw1];exact h
def isSo(op a b:Int):Bool:=if op=1 then decide (a<b)else if op=2 then decide (a≤b)else if op=3 then decide (a=b)else decide (a≠b)
def reck(op a b:Int):Int:=if op=5 then a+b else if op=6 then a-b else a*b
def calc3(l:Sc.Lit)(x:List Int):Int:=reck l.op (num x (Sc.termD l.terms 0)) (num x (Sc.termD l.terms 1))
def holds(facts:List Rl.Fc)(l:Sc.Lit)(x:List Int):Bool:=
 if l.kind=1 then Rl.has facts ⟨l.pred,fill l.terms x⟩
 else if l.kind=2 then !Rl.has facts ⟨l.pred,fill l.terms x⟩
 else if l.kind=3 then isSo l.op (num x (Sc.termD l.terms 0)) (num x (Sc.termD l.terms 1))
 else Sc.isNum (calc3 l x)&&decide (calc3 l x=num x (Sc.termD l.terms 2))
def on(facts:List Rl.Fc)(l:Sc.Lit)(w:Way):List Way:=
 if l.kind=1 then facts.filterMap (fun f=>if f.pred=l.pred then withW w l.terms f.args else none)
 else if l.kind=2 then(if Rl.has facts ⟨l.pred,fill l.terms w.nums⟩=true then [] else [w])
 else if l.kind=3 then(if isSo l.op (num w.nums (Sc.termD l.terms 0)) (num w.nums (Sc.termD l.terms 1))=true then [w] else [])
 else match withW w (l.terms.drop 2) [calc3 l w.nums]with
  |none=>[]
  |some w'=>if Sc.isNum (calc3 l w.nums)=true then [w'] else []
def ready(w:Way)(l:Sc.Lit):Bool:=
 if l.kind=1 then true
 else if l.kind=4 then Sc.known w.known (Sc.termD l.terms 0)&&Sc.known w.known (Sc.termD l.terms 1)
 else l.terms.all (Sc.known w.known)
structure LitIn (m:Nat) (facts:List Rl.Fc) (l:Sc.Lit):Prop where
 t:TermsIn m l.terms
 k:l.kind=1∨l.kind=2∨l.kind=3∨l.kind=4
 k3:l.kind=3→l.terms.length=2
 k4:l.kind=4→l.terms.length=3
 a:l.kind=1→∀f,f∈facts→f.pred=l.pred→l.terms.length=f.args.length
theorem fill_known{w:Way}{x:List Int}(he:Ext w x){ts:List Term}(h:ts.all (Sc.known w.known)=true):fill ts w.nums=fill ts x:=by unfold fill;refine List.map_congr_left fun t ht=>num_known he ?_;exact bE.mp h t ht
theorem termD_mem{l:List Term}{i:Nat}(h:i<l.length):Sc.termD l i∈l:=by unfold Sc.termD;rw[aE,aG h];exact cR h
theorem drop2_three{l:List Term}(h:l.length=3):l.drop 2=[Sc.termD l 2]:=by
 match l,h with
 |[a,b,c],_=>rfl
theorem on_ext{m:Nat}{facts:List Rl.Fc}{l:Sc.Lit}{w:Way}{x:List Int}(hw:Wf m w)(hl:LitIn m facts l)(hr:ready w l=true):(∃w',w'∈on facts l w∧Ext w' x)↔Ext w x∧holds facts l x=true:=by
 unfold on holds;by_cases h1:l.kind=1
 ·rw[if_pos h1,if_pos h1,Rl.has_iff];constructor
  ·rintro⟨w',hm,he⟩;obtain⟨f,hf,hfw⟩:=dM.mp hm;split at hfw
   ·rename_i hp;obtain⟨he0,hfi⟩:=(withW_ext hw hl.t (hl.a h1 f hf hp)).mp ⟨w',hfw,he⟩;refine⟨he0,?_⟩;rw[hfi,←hp];exact hf
   cases hfw
  rintro⟨he,hf⟩;obtain⟨w',hw',he'⟩:=(withW_ext (ns:=fill l.terms x) (x:=x) hw hl.t (by unfold fill;simp)).mpr ⟨he,rfl⟩;refine⟨w',dM.mpr ⟨_,hf,?_⟩,he'⟩;rw[if_pos rfl];exact hw'
 rw[if_neg h1,if_neg h1];unfold ready at hr;rw[if_neg h1]at hr;by_cases h2:l.kind=2
 ·rw[if_pos h2,if_pos h2];rw[if_neg oM]at hr;constructor
  ·rintro⟨w',hm,he⟩;split at hm
   ·cases hm
   rename_i hh;rcases bI.mp hm with rfl;refine⟨he,?_⟩;rw[←fill_known he hr];simpa using hh
  rintro⟨he,hh⟩;refine⟨w,?_,he⟩;rw[←fill_known he hr]at hh;rw[if_neg (by simpa using hh)];exact bI.mpr rfl
 rw[if_neg h2,if_neg h2];by_cases h3:l.kind=3
 ·rw[if_pos h3,if_pos h3];rw[if_neg oM]at hr;have hk:=bE.mp hr;have h20:=termD_mem (l:=l.terms) (i:=0) (by rw[hl.k3 h3];omega);have h21:=termD_mem (l:=l.terms) (i:=1) (by rw[hl.k3 h3];omega);constructor
  ·rintro⟨w',hm,he⟩;split at hm
   ·rename_i hh;rcases bI.mp hm with rfl;refine⟨he,?_⟩;rw[←num_known he (hk _ h20),←num_known he (hk _ h21)];exact hh
   cases hm
  rintro⟨he,hh⟩;refine⟨w,?_,he⟩;rw[←num_known he (hk _ h20),←num_known he (hk _ h21)]at hh;rw[if_pos hh];exact bI.mpr rfl
 rw[if_neg h3,if_neg h3];(have h4:l.kind=4:=by rcases hl.k with h|h|h|h<;>first|exact h|contradiction);rw[if_pos h4,aW]at hr;(have hcal:Ext w x→calc3 l w.nums=calc3 l x:=fun he=>by unfold calc3;rw[num_known he hr.1,num_known he hr.2]);have hd:=drop2_three (hl.k4 h4);have hT:TermsIn m (l.terms.drop 2):=fun t ht=>hl.t t (gC ht);have hE:=withW_ext (ns:=[calc3 l w.nums]) (x:=x) hw hT (by rw[hd];rfl);(have hfd:fill (l.terms.drop 2) x=[num x (Sc.termD l.terms 2)]:=by rw[hd];rfl);rw[hfd]at hE;constructor
 ·rintro⟨w',hm,he⟩;split at hm
  ·cases hm
  rename_i w1 hw1;split at hm
  ·rename_i hn;rcases bI.mp hm with rfl;obtain⟨he0,hf⟩:=hE.mp ⟨_,hw1,he⟩;injection hf with hf _;refine⟨he0,?_⟩;rw[hcal he0]at hn hf;rw[hn,hf];simp
  cases hm
 rintro⟨he,hh⟩;rw[aW,decide_eq_true_eq]at hh;obtain⟨w',hw',he'⟩:=hE.mpr ⟨he,by rw[hcal he,hh.2]⟩;refine⟨w',?_,he'⟩;rw[hw'];show w'∈if Sc.isNum (calc3 l w.nums)=true then [w'] else [];rw[if_pos (by rw[hcal he];exact hh.1)];exact bI.mpr rfl
theorem on_wf{m:Nat}{facts:List Rl.Fc}{l:Sc.Lit}{w w':Way}(hw:Wf m w)(h:w'∈on facts l w):Wf m w':=by
 unfold on at h;split at h
 ·obtain⟨f,_,hf⟩:=dM.mp h;split at hf
  ·exact withW_wf hw hf
  cases hf
 split at h
 ·split at h
  ·cases h
  rcases bI.mp h with rfl;exact hw
 split at h
 ·split at h
  ·rcases bI.mp h with rfl;exact hw
  cases h
 split at h
 ·cases h
 rename_i w1 hw1;split at h
 ·rcases bI.mp h with rfl;exact withW_wf hw hw1
 cases h
theorem on_known{m:Nat}{facts:List Rl.Fc}{l:Sc.Lit}{w w':Way}(hl:LitIn m facts l)(hr:ready w l=true)(h:w'∈on facts l w):w'.known=Sc.bindLit w.known l:=by
 unfold on at h;unfold Sc.bindLit Sc.binds;split at h
 ·rename_i h1;rw[if_pos h1];obtain⟨f,_,hf⟩:=dM.mp h;split at hf
  ·exact withW_known hf
  cases hf
 rename_i h1;rw[if_neg h1];split at h
 ·rename_i h2;rw[if_neg oM];split at h
  ·cases h
  rcases bI.mp h with rfl;rfl
 rename_i h2;split at h
 ·rename_i h3;rw[if_neg oM];split at h
  ·rcases bI.mp h with rfl;rfl
  cases h
 rename_i h3;(have h4:l.kind=4:=by rcases hl.k with h|h|h|h<;>first|exact h|contradiction);unfold ready at hr;rw[if_neg h1,if_pos h4,aW]at hr;rw[if_pos ⟨h4,hr.1,hr.2⟩];split at h
 ·cases h
 rename_i w1 hw1;split at h
 ·rcases bI.mp h with rfl;exact withW_known hw1
 cases h
def Apart(a b:Way):Prop:=∀x:List Int,Ext a x→Ext b x→False
theorem on_apart{m:Nat}{facts:List Rl.Fc}{l:Sc.Lit}{w:Way}(hw:Wf m w)(hl:LitIn m facts l)(hn:facts.Nodup):(on facts l w).Pairwise Apart:=by
 unfold on;split
 ·rename_i h1;rw[List.pairwise_filterMap];refine iN ?_ hn;intro f g hf hg hfg a ha b hb x hea heb;split at ha
  ·rename_i hp;split at hb
   ·rename_i hq;have e1:=((withW_ext hw hl.t (hl.a h1 f hf hp)).mp ⟨a,ha,hea⟩).2;have e2:=((withW_ext hw hl.t (hl.a h1 g hg hq)).mp ⟨b,hb,heb⟩).2;apply hfg;obtain⟨fp,fa⟩:=f;obtain⟨gp,ga⟩:=g;dsimp only at *;rw[hp,hq,←e1,←e2]
   cases hb
  cases ha
 split
 ·split
  ·exact List.Pairwise.nil
  exact fM _ _
 split
 ·split
  ·exact fM _ _
  exact List.Pairwise.nil
 split
 ·exact List.Pairwise.nil
 split
 ·exact fM _ _
 exact List.Pairwise.nil
end Ru
end Go.Proofs.YthenjegmigeieaaGreat
