/- Own texts, one behind the other (part 1). -/
import Derived.Test.YthenjegmigeieaaGreatRows
import Derived.WalkKit
import Derived.WalkSpells
import Derived.WalkLawsBesides
import Derived.Deep.QuietTactic
import Derived.BigQuiet
import Derived.Shelf.Strings.Builder1
import Derived.Shelf.Small.Strs
import Derived.Shelf.LaysM
import Derived.Shelf.Strconv.Clone
import Derived.Shelf.Strings.Search1
import Derived.Shelf.Strings.Prefix
import Derived.Ground.SlsfProg
import Derived.Test.YthenjegmigeieaaGreatProg
import Derived.LoopN
import Derived.Lib.IndexBytes
import Derived.Defers
import Derived.Recover
import Derived.RegionTactic
import Derived.ChangeAlike
import Derived.WalkSmall
set_option maxRecDepth 100000
set_option maxHeartbeats 8000000
namespace Go.Proofs.YthenjegmigeieaaGreat
namespace Tk
def small(n:Int):Bool:=decide (97≤n)&&decide (n≤122)
def great(n:Int):Bool:=decide (65≤n)&&decide (n≤90)
def digit(n:Int):Bool:=decide (48≤n)&&decide (n≤57)
def alnum(n:Int):Bool:=small n||great n||digit n
def noLf(n:Int):Bool:=n != 10
def pre(p:Int→Bool):List UInt8→Nat
 |[]=>0
 |c::r=>if p (c.toNat:Int)then pre p r+1 else 0
theorem pre_le(p:Int→Bool)(l:List UInt8):pre p l≤l.length:=by
 induction l with
 |nil=>exact Nat.le_refl 0
 |cons c r ih=>unfold pre;split<;>simp <;>omega
theorem drop_cons(l:List UInt8)(k:Nat)(h:k<l.length):l.drop k=l[k]::l.drop (k+1):=List.drop_eq_getElem_cons h
theorem pre_drop_yes(p:Int→Bool)(l:List UInt8)(k:Nat)(h:k<l.length)(hp:p (l[k].toNat:Int)=true):pre p (l.drop k)=pre p (l.drop (k+1))+1:=by rw[drop_cons l k h,pre,if_pos hp]
theorem pre_drop_no(p:Int→Bool)(l:List UInt8)(k:Nat)(h:k<l.length)(hp:p (l[k].toNat:Int)=false):pre p (l.drop k)=0:=by rw[drop_cons l k h,pre,if_neg (by simp[hp])]
theorem pre_drop_end(p:Int→Bool)(l:List UInt8)(k:Nat)(h:l.length≤k):pre p (l.drop k)=0:=by rw[List.drop_of_length_le h,pre]
def sep:Bool→List UInt8→Nat
 |_,[]=>0
 |true,c::r=>if(c.toNat:Int)=10 then sep false r+1 else sep true r+1
 |false,c::r=>if(c.toNat:Int)=37 then sep true r+1 else if(c.toNat:Int)=32∨(c.toNat:Int)=9∨(c.toNat:Int)=10 then sep false r+1 else 0
def isSign(c:UInt8):Bool:=[40,41,44,46,60,61,43,45,42].contains c
def signLen(l:List UInt8):Nat:=
 if [58,45].isPrefixOf l||[60,61].isPrefixOf l||[33,61].isPrefixOf l then 2 else
 match l with
 |[]=>0
 |c::_=>if isSign c then 1 else 0
def kindOf(l:List UInt8):Int:=
 match l with
 |[]=>4
 |c::_=>if small c.toNat then 1 else if great c.toNat then 2 else if digit c.toNat then 3 else 4
def lenOf(l:List UInt8):Nat:=
 match l with
 |[]=>0
 |c::_=>if small c.toNat||great c.toNat then pre alnum l else if digit c.toNat then pre digit l else signLen l
def errOf(l:List UInt8):Int:=
 match l with
 |[]=>0
 |c::_=>
  if small c.toNat||great c.toNat then(if pre alnum l>12 then 2 else 0)
  else if digit c.toNat then(if pre digit l>7 then 2 else if(c.toNat:Int)=48∧pre digit l>1 then 1 else 0)
  else if signLen l=0 then 1 else 0
structure Tok where
 kind:Int
 at_:Int
 text:List UInt8
def tokAt(L:List UInt8)(p:Nat):Tok:={kind:=kindOf (L.drop p),at_:=p,text:=(L.drop p).take (lenOf (L.drop p))}
def scanP(L:List UInt8):Nat→Nat→List Tok→List Tok×Nat×Int
 |0,_,acc=>(acc,0,0)
 |f+1,p,acc=>
  if L.length≤p then(acc,0,0)
  else if errOf (L.drop p)=0 then scanP L f (p+lenOf (L.drop p)+sep false (L.drop (p+lenOf (L.drop p)))) (acc++[tokAt L p])
  else([],p,errOf (L.drop p))
def scan(L:List UInt8):List Tok×Nat×Int:=
 if 5000<L.length then([],0,2)else scanP L L.length (sep false L) []
theorem scanP_end(L:List UInt8)(f p:Nat)(acc:List Tok)(h:L.length≤p):scanP L f p acc=(acc,0,0):=by
 cases f with
 |zero=>rfl
 |succ f=>rw[scanP,if_pos h]
theorem scanP_no(L:List UInt8)(f p:Nat)(acc:List Tok)(h:p<L.length)(hf:L.length≤p+f)(he:¬errOf (L.drop p)=0):scanP L f p acc=([],p,errOf (L.drop p)):=by
 cases f with
 |zero=>omega
 |succ f=>rw[scanP,if_neg (by omega),if_neg he]
theorem scanP_yes(L:List UInt8)(f p:Nat)(acc:List Tok)(h:p<L.length)(he:errOf (L.drop p)=0):
 scanP L (f+1) p acc=scanP L f (p+lenOf (L.drop p)+sep false (L.drop (p+lenOf (L.drop p)))) (acc++[tokAt L p]):=by
 rw[scanP,if_neg (by omega),if_pos he]
theorem pre_pos{p:Int→Bool}{c:UInt8}{r:List UInt8}(h:p c.toNat=true):1≤pre p (c::r):=by rw[pre,if_pos h];omega
theorem lenOf_pos(l:List UInt8)(h:l≠[])(he:errOf l=0):1≤lenOf l:=by
 match l,h with
 |c::r,_=>
  have e1:errOf (c::r)=if small c.toNat||great c.toNat then(if pre alnum (c::r)>12 then 2 else 0)
   else if digit c.toNat then(if pre digit (c::r)>7 then 2 else if(c.toNat:Int)=48∧pre digit (c::r)>1 then 1 else 0)
   else if signLen (c::r)=0 then 1 else 0:=rfl
  have e2:lenOf (c::r)=if small c.toNat||great c.toNat then pre alnum (c::r)else if digit c.toNat then pre digit (c::r)else signLen (c::r):=rfl;rw[he]at e1;rw[e2];by_cases h1:(small c.toNat||great c.toNat)=true
  ·rw[if_pos h1];exact pre_pos (by unfold alnum;rw[h1];rfl)
  rw[if_neg h1]at e1 ⊢;by_cases h2:digit c.toNat=true
  ·rw[if_pos h2];exact pre_pos h2
  rw[if_neg h2]at e1 ⊢;by_cases h3:signLen (c::r)=0
  ·rw[if_pos h3]at e1;exact absurd e1 (by decide)
  omega
theorem signLen_le(l:List UInt8):signLen l≤l.length:=by
 unfold signLen;split
 ·rename_i h;simp only[Bool.or_eq_true]at h;(rcases h with(h|h)|h);all_goals (have h2:=(List.isPrefixOf_iff_prefix.1 h).length_le;simpa using h2)
 split
 ·simp
 split<;>simp
theorem lenOf_le(l:List UInt8):lenOf l≤l.length:=by
 match l with
 |[]=>exact Nat.le_refl 0
 |c::r=>
  have e2:lenOf (c::r)=if small c.toNat||great c.toNat then pre alnum (c::r)else if digit c.toNat then pre digit (c::r)else signLen (c::r):=rfl;rw[e2];split
  ·exact pre_le _ _
  split
  ·exact pre_le _ _
  exact signLen_le _
theorem sep_le(b:Bool)(l:List UInt8):sep b l≤l.length:=by
 induction l generalizing b with
 |nil=>cases b<;>simp[sep]
 |cons c r ih=>
  have h1:=ih true;have h2:=ih false;cases b
  ·simp only[sep,List.length_cons];split
   ·omega
   split<;>omega
  simp only[sep,List.length_cons];split<;>omega
theorem sep_note(l:List UInt8):sep true l=pre noLf l+sep false (l.drop (pre noLf l)):=by
 induction l with
 |nil=>rfl
 |cons c r ih=>
  by_cases h:(c.toNat:Int)=10
  ·(have hp:pre noLf (c::r)=0:=by simp[pre,noLf,h]);(have h37:¬((c.toNat:Int)=37):=by omega);rw[hp,List.drop_zero];simp only[sep,if_pos h,if_neg h37,if_pos (show(c.toNat:Int)=32∨(c.toNat:Int)=9∨(c.toNat:Int)=10 from .inr (.inr h))];omega
  (have hp:pre noLf (c::r)=pre noLf r+1:=by simp[pre,noLf,h]);rw[hp,List.drop_succ_cons];simp only[sep,if_neg h];omega
end Tk
end Go.Proofs.YthenjegmigeieaaGreat
namespace Go.Proofs.YthenjegmigeieaaGreat
open Go.RowKit
theorem isSmall_any(n:Int)(w:World):Calls Tryz.prog 254 #[.int .u8 n] w fun e w'=>e=.returned (.bool (Tk.small n))∧w'=w:=by
 by_cases h:97≤n
 ·go_enter Tryz.func254,Tryz.ntmps254
  go_wp2;go_ret;exact⟨by simp[Tk.small,h],rfl⟩
 have hd:decide (97≤n)=false:=by simpa using h
 go_enter Tryz.func254,Tryz.ntmps254
 go_wp2;go_ret;exact⟨by simp only[Tk.small,hd,Bool.false_and];rfl,rfl⟩
theorem isGreat_any(n:Int)(w:World):Calls Tryz.prog 256 #[.int .u8 n] w fun e w'=>e=.returned (.bool (Tk.great n))∧w'=w:=by
 by_cases h:65≤n
 ·go_enter Tryz.func256,Tryz.ntmps256
  go_wp2;go_ret;exact⟨by simp[Tk.great,h],rfl⟩
 have hd:decide (65≤n)=false:=by simpa using h
 go_enter Tryz.func256,Tryz.ntmps256
 go_wp2;go_ret;exact⟨by simp only[Tk.great,hd,Bool.false_and];rfl,rfl⟩
theorem isDigit_any(n:Int)(w:World):Calls Tryz.prog 257 #[.int .u8 n] w fun e w'=>e=.returned (.bool (Tk.digit n))∧w'=w:=by
 by_cases h:48≤n
 ·go_enter Tryz.func257,Tryz.ntmps257
  go_wp2;go_ret;exact⟨by simp[Tk.digit,h],rfl⟩
 have hd:decide (48≤n)=false:=by simpa using h
 go_enter Tryz.func257,Tryz.ntmps257
 go_wp2;go_ret;exact⟨by simp only[Tk.digit,hd,Bool.false_and];rfl,rfl⟩
theorem noLf_any(n:Int)(w:World):Calls Tryz.prog 253 #[.int .u8 n] w fun e w'=>e=.returned (.bool (Tk.noLf n))∧w'=w:=by
 go_enter Tryz.func253,Tryz.ntmps253
 go_wp2;go_ret;exact⟨by simp[Tk.noLf],rfl⟩
theorem alnum_any(n:Int)(w:World):Calls Tryz.prog 260 #[.int .u8 n] w fun e w'=>e=.returned (.bool (Tk.alnum n))∧w'=w:=by
 unfold Tk.alnum;cases h1:Tk.small n
 ·cases h2:Tk.great n
  ·go_enter Tryz.func260,Tryz.ntmps260
   go_wp2_with(first|(go_at_call 254;refine(isSmall_any _ _).mono ?_;rintro e w' ⟨rfl,rfl⟩)|(go_at_call 256;refine(isGreat_any _ _).mono ?_;rintro e w' ⟨rfl,rfl⟩)|(go_at_call 257;refine(isDigit_any _ _).mono ?_;rintro e w' ⟨rfl,rfl⟩));go_ret;exact⟨by simp,rfl⟩
  go_enter Tryz.func260,Tryz.ntmps260
  go_wp2_with(first|(go_at_call 254;refine(isSmall_any _ _).mono ?_;rintro e w' ⟨rfl,rfl⟩)|(go_at_call 256;refine(isGreat_any _ _).mono ?_;rintro e w' ⟨rfl,rfl⟩)|(go_at_call 257;refine(isDigit_any _ _).mono ?_;rintro e w' ⟨rfl,rfl⟩));go_ret;exact⟨by simp,rfl⟩
 go_enter Tryz.func260,Tryz.ntmps260
 go_wp2_with(first|(go_at_call 254;refine(isSmall_any _ _).mono ?_;rintro e w' ⟨rfl,rfl⟩)|(go_at_call 256;refine(isGreat_any _ _).mono ?_;rintro e w' ⟨rfl,rfl⟩)|(go_at_call 257;refine(isDigit_any _ _).mono ?_;rintro e w' ⟨rfl,rfl⟩));go_ret;exact⟨by simp,rfl⟩
theorem ret_int{k:IntKind}{a b:Int}(h:a=b):Ending.returned (.int k a)=.returned (.int k b):=by rw[h]
def Tests(g:Nat)(p:Int→Bool):Prop:=∀(n:Int)(w:World),Calls Tryz.prog g #[.int .u8 n] w fun e w'=>e=.returned (.bool (p n))∧w'=w
def Enters(g:Nat):Prop:=∀(a:Array Value)(w:World),(callFunc g a).run Tryz.prog w=.ok (.enter g a) w
theorem run_any(g:Nat)(p:Int→Bool)(hg:Tests g p)(hcf:Enters g)(s:ByteArray)(at0:Nat)(w:World)(hs:s.size≤maxLen)(ha:at0≤s.size):
 Calls Tryz.prog 252 #[.string s, .int .i64 at0, .func (.func g) #[] #[]] w fun e w'=>e=.returned (.int .i64 ((at0+Tk.pre p (s.data.toList.drop at0):Nat):Int))∧w'=w:=by
 unfold maxLen at hs
 go_enter Tryz.func252,Tryz.ntmps252
 go_wp2;go_loop [1] (fun i=>∃k:Nat,k≤s.size∧i=.int .i64 k∧at0+Tk.pre p (s.data.toList.drop at0)=k+Tk.pre p (s.data.toList.drop k)) (fun i=>s.size-(intOf i).toNat);case atStart=>exact⟨at0,ha,rfl,rfl⟩
 case round=>
  obtain⟨k,hk,rfl,hk2⟩:=hrel;have HK:Hid (at0+Tk.pre p (s.data.toList.drop at0)=k+Tk.pre p (s.data.toList.drop k)):=hk2;clear hk2;by_cases hlt:k<s.size
  ·go_wp2_with fail;rw[hcf,Oper.upon_enter];refine(hg _ _).mono ?_;rintro e w' ⟨rfl,rfl⟩;(have hl:k<s.data.toList.length:=by simpa using hlt);cases hp:p (s[k].toNat:Int)
   ·have HE:Hid (Tk.pre p (s.data.toList.drop k)=0):=Tk.pre_drop_no p s.data.toList k hl hp;clear hp;go_wp2;go_ret;exact⟨ret_int (by have h1:=HK.out;have h2:=HE.out;omega),rfl⟩
   have HE:Hid (Tk.pre p (s.data.toList.drop k)=Tk.pre p (s.data.toList.drop (k+1))+1):=Tk.pre_drop_yes p s.data.toList k hl hp;clear hp;go_wp2;go_round;(case rel=>exact⟨k+1,by omega,by go_num,by rw[HK.out,HE.out];omega⟩);case measure=>simp[intOf];omega
  have HE:Hid (Tk.pre p (s.data.toList.drop k)=0):=Tk.pre_drop_end p s.data.toList k (by simp;omega);go_wp2;go_ret;exact⟨ret_int (by have h1:=HK.out;have h2:=HE.out;omega),rfl⟩
theorem enters_of{f:FuncId}{fn:Func}{c:Code}(hf:Tryz.prog.funcs[f]?=some fn)(hname:(fn.name== "runtime.NumGoroutine")=false)(hb:fn.body=some c):Enters f:=by intro a w;(have h1:fn.name≠ "runtime.NumGoroutine" :=by simpa using hname);simp[callFunc,hf,h1,hb]
theorem enters253:Enters 253:=enters_of Tryz.func253 (by kernel_rfl) rfl
theorem enters257:Enters 257:=enters_of Tryz.func257 (by kernel_rfl) rfl
theorem enters260:Enters 260:=enters_of Tryz.func260 (by kernel_rfl) rfl
theorem evc (a:Act) (v:Value):a.eval (.const v)=v:=rfl
theorem evf (a:Act) (f:FuncId):a.eval (.func f)=.func (.func f) #[] #[]:=rfl
theorem oM{P:Prop}(h:P:=by omega):P:=h
theorem kR{P:Prop}(h:P:=by kernel_rfl):P:=h
theorem dE{P:Prop}(h:P:=by decide):P:=h
theorem sI{P:Prop}(h:P:=by simp):P:=h
theorem sO{P:Prop}(h:P:=by simp;omega):P:=h
theorem rF{P:Prop}(h:P:=by rfl):P:=h
theorem tR{P:Prop}(h:P:=by intro t ht;cases ht;exact rfl):P:=h
theorem gN{P:Prop}(h:P:=by go_num):P:=h
theorem rV{P:Prop}(h:P:=by rw[HV.out];rfl):P:=h
theorem mI{P:Prop}(h:P:=by simp[intOf];omega):P:=h
end Go.Proofs.YthenjegmigeieaaGreat
namespace Go.Proofs
open Go.Shelf
def Tryz.lays170_ren:Go.Shelf.Ren:=⟨fun |170=>243|n=>n,fun |70=>273|3=>3|0=>0|72=>276|37=>274|5=>5|n=>n,fun |n=>n⟩
theorem Tryz.lays170:Go.Proofs.Lays.n170 Tryz.prog Tryz.lays170_ren:={
 mixed:=by kernel_rfl
 f170:=Tryz.func243.trans (congrArg some (by kernel_rfl))
 t0:=Tryz.underlying0
 a0:=Tryz.isAgg0
 z0:=Tryz.sizeOf0
 v0:=Tryz.zeroValue0
 t3:=Tryz.underlying3
 a3:=Tryz.isAgg3
 z3:=Tryz.sizeOf3
 v3:=Tryz.zeroValue3
 t37:=Tryz.underlying274
 a37:=Tryz.isAgg274
 z37:=Tryz.sizeOf274
 v37:=Tryz.zeroValue274
 t70:=Tryz.underlying273
 a70:=Tryz.isAgg273
 z70:=Tryz.sizeOf273
 v70:=Tryz.zeroValue273
 t72:=Tryz.underlying276
 a72:=Tryz.isAgg276
 z72:=Tryz.sizeOf276
 v72:=Tryz.zeroValue276}
open Go.RowKit in
theorem Tryz.Builder_Len(B b:Nat)(bs:List Value)(w:World)(h:Lib.IsBuilder 276 5 B b bs w):
 Calls Tryz.prog 243 #[.pointer (some ⟨b,0,none⟩)] w fun e w'=>e=.returned (.int .i64 bs.length)∧w'=w:=Any.Builder_Len Tryz.lays170 B b bs w h
def Tryz.lays169_ren:Go.Shelf.Ren:=⟨fun |169=>244|n=>n,fun |70=>273|9=>9|0=>0|72=>276|37=>274|127=>287|3=>3|5=>5|n=>n,fun |n=>n⟩
theorem Tryz.lays169:Go.Proofs.Lays.n169 Tryz.prog Tryz.lays169_ren:={
 mixed:=by kernel_rfl
 f169:=Tryz.func244.trans (congrArg some (by kernel_rfl))
 t0:=Tryz.underlying0
 a0:=Tryz.isAgg0
 z0:=Tryz.sizeOf0
 v0:=Tryz.zeroValue0
 t3:=Tryz.underlying3
 a3:=Tryz.isAgg3
 z3:=Tryz.sizeOf3
 v3:=Tryz.zeroValue3
 t9:=Tryz.underlying9
 a9:=Tryz.isAgg9
 z9:=Tryz.sizeOf9
 v9:=Tryz.zeroValue9
 t37:=Tryz.underlying274
 a37:=Tryz.isAgg274
 z37:=Tryz.sizeOf274
 v37:=Tryz.zeroValue274
 t70:=Tryz.underlying273
 a70:=Tryz.isAgg273
 z70:=Tryz.sizeOf273
 v70:=Tryz.zeroValue273
 t72:=Tryz.underlying276
 a72:=Tryz.isAgg276
 z72:=Tryz.sizeOf276
 v72:=Tryz.zeroValue276
 t127:=Tryz.underlying287
 a127:=Tryz.isAgg287
 z127:=Tryz.sizeOf287
 v127:=Tryz.zeroValue287}
theorem Tryz.Builder_Extra_169:Builder.Extra Tryz.prog Tryz.lays169_ren:={
 sizeBuilder:=by kernel_rfl
 liesBuilder:=by kernel_rfl
 t5:=Tryz.underlying5
 a5:=Tryz.isAgg5
 z5:=Tryz.sizeOf5
 v5:=Tryz.zeroValue5
 infoByte:=by kernel_rfl
 cellsByte:=by kernel_rfl
 sizeByte:=by kernel_rfl
 neB5:=by decide}
open Go.RowKit in
theorem Tryz.Builder_String(B b:Nat)(l:List UInt8)(w:World)(h:Lib.IsBuilder 276 5 B b (Lib.byteCells l) w)(h0:l≠[]):
 Calls Tryz.prog 244 #[.pointer (some ⟨b,0,none⟩)] w fun e w'=>e=.returned (.string ⟨l.toArray⟩)∧Below B w w':=Any.Builder_String Tryz.lays169 Tryz.Builder_Extra_169 B b l w h h0
open Go.RowKit in
theorem Tryz.Builder_String_empty(B b:Nat)(w:World)(h:Lib.IsBuilder 276 5 B b [] w)(hBw:B≤w.heap.size):
 Calls Tryz.prog 244 #[.pointer (some ⟨b,0,none⟩)] w fun e w'=>e=.returned (.string ⟨#[]⟩)∧Below B w w':=Any.Builder_String_empty Tryz.lays169 Tryz.Builder_Extra_169 B b w h hBw
open Go.RowKit in
theorem Tryz.Builder_String_any(B b:Nat)(l:List UInt8)(w:World)(h:Lib.IsBuilder 276 5 B b (Lib.byteCells l) w)(hBw:B≤w.heap.size):
 Calls Tryz.prog 244 #[.pointer (some ⟨b,0,none⟩)] w fun e w'=>e=.returned (.string ⟨l.toArray⟩)∧Below B w w':=Any.Builder_String_any Tryz.lays169 Tryz.Builder_Extra_169 B b l w h hBw
def Tryz.lays137_ren:Go.Shelf.Ren:=⟨fun |137=>265|217=>268|266=>269|n=>n,fun |9=>9|5=>5|3=>3|n=>n,fun |n=>n⟩
theorem Tryz.lays137:Go.Proofs.Lays.n137 Tryz.prog Tryz.lays137_ren:={
 mixed:=by kernel_rfl
 f137:=Tryz.func265.trans (congrArg some (by kernel_rfl))
 f217:=Tryz.func268.trans (congrArg some (by kernel_rfl))
 f266:=Tryz.func269.trans (congrArg some (by kernel_rfl))
 t3:=Tryz.underlying3
 a3:=Tryz.isAgg3
 z3:=Tryz.sizeOf3
 v3:=Tryz.zeroValue3
 t5:=Tryz.underlying5
 a5:=Tryz.isAgg5
 z5:=Tryz.sizeOf5
 v5:=Tryz.zeroValue5
 t9:=Tryz.underlying9
 a9:=Tryz.isAgg9
 z9:=Tryz.sizeOf9
 v9:=Tryz.zeroValue9}
open Go.RowKit in
theorem Tryz.strings_IndexByte(s:ByteArray)(c:Int)(w:World):
 Calls Tryz.prog 265 #[.string s, .int .u8 c] w fun e w'=>e=.returned (.int .i64 (Lib.indexByte s.data.toList c.toNat.toUInt8))∧w'=w:=Any.strings_IndexByte Tryz.lays137 s c w
def Tryz.laysM316_ren:Go.Shelf.Ren:=⟨fun |316=>266|n=>n,fun |9=>9|3=>3|4=>4|37=>274|0=>0|127=>287|5=>5|n=>n,fun |n=>n⟩
theorem Tryz.laysM316:Go.Proofs.LaysM.n316 Tryz.prog Tryz.laysM316_ren:={
 mixed:=by kernel_rfl
 f316:=Tryz.func266.trans (congrArg some (by kernel_rfl))
 t0:=Tryz.underlying0
 a0:=Tryz.isAgg0
 z0:=Tryz.sizeOf0
 v0:=Tryz.zeroValue0
 t3:=Tryz.underlying3
 a3:=Tryz.isAgg3
 z3:=Tryz.sizeOf3
 v3:=Tryz.zeroValue3
 t4:=Tryz.underlying4
 a4:=Tryz.isAgg4
 z4:=Tryz.sizeOf4
 v4:=Tryz.zeroValue4
 t9:=Tryz.underlying9
 a9:=Tryz.isAgg9
 z9:=Tryz.sizeOf9
 v9:=Tryz.zeroValue9
 t37:=Tryz.underlying274
 a37:=Tryz.isAgg274
 z37:=Tryz.sizeOf274
 v37:=Tryz.zeroValue274
 t127:=Tryz.underlying287
 a127:=Tryz.isAgg287
 z127:=Tryz.sizeOf287
 v127:=Tryz.zeroValue287
 t5:=Tryz.underlying5
 a5:=Tryz.isAgg5
 z5:=Tryz.sizeOf5
 v5:=Tryz.zeroValue5
 i0:=by kernel_rfl
 i3:=by kernel_rfl
 i4:=by kernel_rfl
 i5:=by kernel_rfl
 i9:=by kernel_rfl
 i37:=by kernel_rfl
 i127:=by kernel_rfl}
open Go.RowKit in
theorem Tryz.stringslite_Clone(s:ByteArray)(w:World)(hlim:s.size≤281474976710656):
 Calls Tryz.prog 266 #[.string s] w fun e w'=>e=.returned (.string s)∧Below w.heap.size w w':=Any.stringslite_Clone Tryz.laysM316 s w hlim
def Tryz.lays217_ren:Go.Shelf.Ren:=⟨fun |217=>268|266=>269|n=>n,fun |9=>9|5=>5|3=>3|n=>n,fun |n=>n⟩
theorem Tryz.lays217:Go.Proofs.Lays.n217 Tryz.prog Tryz.lays217_ren:={
 mixed:=by kernel_rfl
 f217:=Tryz.func268.trans (congrArg some (by kernel_rfl))
 f266:=Tryz.func269.trans (congrArg some (by kernel_rfl))
 t3:=Tryz.underlying3
 a3:=Tryz.isAgg3
 z3:=Tryz.sizeOf3
 v3:=Tryz.zeroValue3
 t5:=Tryz.underlying5
 a5:=Tryz.isAgg5
 z5:=Tryz.sizeOf5
 v5:=Tryz.zeroValue5
 t9:=Tryz.underlying9
 a9:=Tryz.isAgg9
 z9:=Tryz.sizeOf9
 v9:=Tryz.zeroValue9}
open Go.RowKit Go.Lib in
theorem Tryz.stringslite_IndexByte(s:ByteArray)(c:Int)(w:World):
 Calls Tryz.prog 268 #[.string s, .int .u8 c] w fun e w'=>e=.returned (.int .i64 (Lib.indexByte s.data.toList c.toNat.toUInt8))∧w'=w:=Any.stringslite_IndexByte Tryz.lays217 s c w
def Tryz.lays206_ren:Go.Shelf.Ren:=⟨fun |206=>267|n=>n,fun |9=>9|4=>4|3=>3|n=>n,fun |n=>n⟩
theorem Tryz.lays206:Go.Proofs.Lays.n206 Tryz.prog Tryz.lays206_ren:={
 mixed:=by kernel_rfl
 f206:=Tryz.func267.trans (congrArg some (by kernel_rfl))
 t3:=Tryz.underlying3
 a3:=Tryz.isAgg3
 z3:=Tryz.sizeOf3
 v3:=Tryz.zeroValue3
 t4:=Tryz.underlying4
 a4:=Tryz.isAgg4
 z4:=Tryz.sizeOf4
 v4:=Tryz.zeroValue4
 t9:=Tryz.underlying9
 a9:=Tryz.isAgg9
 z9:=Tryz.sizeOf9
 v9:=Tryz.zeroValue9}
open Go.RowKit Go.Lib in
theorem Tryz.stringslite_HasPrefix(s p:ByteArray)(w:World):
 Calls Tryz.prog 267 #[.string s, .string p] w fun e w'=>e=.returned (.bool (Lib.hasPrefix s.data.toList p.data.toList))∧w'=w:=Any.stringslite_HasPrefix Tryz.lays206 s p w
def Tryz.lays99_ren:Go.Shelf.Ren:=⟨fun |99=>264|206=>267|n=>n,fun |9=>9|4=>4|3=>3|n=>n,fun |n=>n⟩
theorem Tryz.lays99:Go.Proofs.Lays.n99 Tryz.prog Tryz.lays99_ren:={
 mixed:=by kernel_rfl
 f99:=Tryz.func264.trans (congrArg some (by kernel_rfl))
 f206:=Tryz.func267.trans (congrArg some (by kernel_rfl))
 t3:=Tryz.underlying3
 a3:=Tryz.isAgg3
 z3:=Tryz.sizeOf3
 v3:=Tryz.zeroValue3
 t4:=Tryz.underlying4
 a4:=Tryz.isAgg4
 z4:=Tryz.sizeOf4
 v4:=Tryz.zeroValue4
 t9:=Tryz.underlying9
 a9:=Tryz.isAgg9
 z9:=Tryz.sizeOf9
 v9:=Tryz.zeroValue9}
open Go.RowKit Go.Lib in
theorem Tryz.strings_HasPrefix(s p:ByteArray)(w:World):
 Calls Tryz.prog 264 #[.string s, .string p] w fun e w'=>e=.returned (.bool (Lib.hasPrefix s.data.toList p.data.toList))∧w'=w:=Any.strings_HasPrefix Tryz.lays99 s p w
end Go.Proofs
namespace Go.Proofs.YthenjegmigeieaaGreat
open Go.RowKit
theorem clone_any(s:ByteArray)(w:World)(hs:s.size≤281474976710656):
 Calls Tryz.prog 263 #[.string s] w fun e w'=>e=.returned (.string s)∧Below w.heap.size w w':=by
 go_enter Tryz.func263,Tryz.ntmps263
 go_wp2_with(go_at_call 266;refine(Tryz.stringslite_Clone _ _ hs).mono ?_;rintro e w' ⟨rfl,hb⟩);go_ret;exact⟨rfl,hb⟩
theorem bcell{W w1:World}(hb:Below W.heap.size W w1):(∀b o,b<W.heap.size→w1.cell? ⟨b,o,none⟩=W.cell? ⟨b,o,none⟩)∧(∀b o,b<W.heap.size→w1.frozen? ⟨b,o,none⟩=W.frozen? ⟨b,o,none⟩):=
 ⟨fun b o h=>hb.cell (p:=⟨b,o,none⟩) h,fun b o h=>hb.frozen (p:=⟨b,o,none⟩) h⟩
abbrev tokObj:Obj:=.cells #[.int .i64 0, .int .i64 0, .string {data:=#[]}] 271
theorem tokCell{w w1:World}(hb:Below (w.alloc tokObj).heap.size (w.alloc tokObj) w1):
 (w1.cell? ⟨w.heap.size,0,none⟩=some (.int .i64 0)∧w1.cell? ⟨w.heap.size,1,none⟩=some (.int .i64 0)∧w1.cell? ⟨w.heap.size,2,none⟩=some (.string {data:=#[]}))∧
 w1.frozen? ⟨w.heap.size,0,none⟩=false∧w1.frozen? ⟨w.heap.size,1,none⟩=false∧w1.frozen? ⟨w.heap.size,2,none⟩=false:=by
 obtain⟨hc,hf⟩:=bcell hb;(have h:w.heap.size<(w.alloc tokObj).heap.size:=by simp);refine⟨⟨?_,?_,?_⟩,?_,?_,?_⟩
 ·rw[hc _ _ h];simp[go_sem]
 ·rw[hc _ _ h];simp[go_sem]
 ·rw[hc _ _ h];simp[go_sem]
 ·rw[hf _ _ h];simp[go_sem]
 ·rw[hf _ _ h];simp[go_sem]
 rw[hf _ _ h];simp[go_sem]
theorem below_tok{w w1:World}(hb:Below (w.alloc tokObj).heap.size (w.alloc tokObj) w1)(x y z:Value):
 Below w.heap.size w (((w1.setCell ⟨w.heap.size,0,none⟩ x).setCell ⟨w.heap.size,1,none⟩ y).setCell ⟨w.heap.size,2,none⟩ z):=by
 have h0:Below w.heap.size w w1:=((Below.refl _ _).alloc (Nat.le_refl _) _).trans (hb.mono sI);exact((h0.setCell (p:=⟨w.heap.size,0,none⟩) (Nat.le_refl _) _).setCell (p:=⟨w.heap.size,1,none⟩) (Nat.le_refl _) _).setCell (p:=⟨w.heap.size,2,none⟩) (Nat.le_refl _) _
theorem cut_any(s:ByteArray)(a b k:Int)(w:World)(hs:s.size≤281474976710656)(ha:0≤a)(hab:a≤b)(hb:b≤s.size):
 Calls Tryz.prog 261 #[.string s, .int .i64 a, .int .i64 b, .int .i64 k] w fun e w'=>e=.returned (.agg #[.int .i64 k, .int .i64 a, .string (s.extract a.toNat b.toNat)])∧Below w.heap.size w w':=by
 go_enter Tryz.func261,Tryz.ntmps261
 go_wp2_with fail;refine(clone_any _ _ sO).mono ?_;rintro e w1 ⟨rfl,hb1⟩;obtain⟨⟨c0,c1,c2⟩,f0,f1,f2⟩:=tokCell hb1;go_wp2;refine bodyPost_ret (v:=.agg #[.int .i64 k, .int .i64 a, .string (s.extract a.toNat b.toNat)]) (by simp[results,Tryz.results261,go_sem,c0,c1,c2]) rfl ⟨rfl,?_⟩;exact below_tok hb1 _ _ _
theorem pre_end(p:Int→Bool)(s:ByteArray)(a:Nat)(h:a≤s.size):a+Tk.pre p (s.data.toList.drop a)≤s.size:=by have h1:=Tk.pre_le p (s.data.toList.drop a);(have h2:(s.data.toList.drop a).length=s.size-a:=by simp);omega
theorem extract_cast(s:ByteArray)(a n:Nat):s.extract ((a:Nat):Int).toNat ((a:Int)+(n:Int)).toNat=s.extract a (a+n):=by rw[Int.toNat_natCast,show((a:Int)+(n:Int)).toNat=a+n from by omega]
abbrev gaveUp(a c:Int):Ending:=.panicked [{v:=.iface 289 (.agg #[.int .i64 a, .int .i64 c]),recovered:=false}]
theorem word_no(s:ByteArray)(at0:Nat)(k:Int)(w:World)(hs:s.size≤281474976710656)(ha:at0≤s.size)(hn:12<Tk.pre Tk.alnum (s.data.toList.drop at0)):
 Calls Tryz.prog 255 #[.string s, .int .i64 at0, .int .i64 k] w fun e w'=>e=gaveUp at0 2∧Below w.heap.size w w':=by
 go_enter Tryz.func255,Tryz.ntmps255
 go_wp2_with fail;refine(run_any 260 Tk.alnum alnum_any enters260 s at0 _ (by unfold maxLen;omega) ha).mono ?_;rintro e w1 ⟨rfl,rfl⟩;have hle:=pre_end Tk.alnum s at0 ha;go_wp2_with fail;exact⟨rfl,rfl,(Below.refl _ _).alloc (Nat.le_refl _) _⟩
theorem word_yes(s:ByteArray)(at0:Nat)(k:Int)(w:World)(hs:s.size≤281474976710656)(ha:at0≤s.size)(hn:Tk.pre Tk.alnum (s.data.toList.drop at0)≤12):
 Calls Tryz.prog 255 #[.string s, .int .i64 at0, .int .i64 k] w fun e w'=>e=.returned (.agg #[.int .i64 k, .int .i64 at0, .string (s.extract at0 (at0+Tk.pre Tk.alnum (s.data.toList.drop at0)))])∧Below w.heap.size w w':=by
 go_enter Tryz.func255,Tryz.ntmps255
 go_wp2_with fail;refine(run_any 260 Tk.alnum alnum_any enters260 s at0 _ (by unfold maxLen;omega) ha).mono ?_;rintro e w1 ⟨rfl,rfl⟩;have hle:=pre_end Tk.alnum s at0 ha;go_wp2_with fail;refine(cut_any s _ _ k _ hs oM oM oM).mono ?_;rintro e w1 ⟨he,hb1⟩;rw[extract_cast]at he;subst he;obtain⟨⟨c0,c1,c2⟩,f0,f1,f2⟩:=tokCell hb1;go_wp2;exact bodyPost_ret (v:=.agg #[.int .i64 k, .int .i64 at0, .string (s.extract at0 (at0+Tk.pre Tk.alnum (s.data.toList.drop at0)))]) (by simp[results,Tryz.results255,go_sem,c0,c1,c2]) rfl ⟨rfl,below_tok hb1 _ _ _⟩
theorem number_many(s:ByteArray)(at0:Nat)(w:World)(hs:s.size≤281474976710656)(ha:at0<s.size)(hn:7<Tk.pre Tk.digit (s.data.toList.drop at0)):
 Calls Tryz.prog 258 #[.string s, .int .i64 at0] w fun e w'=>e=gaveUp at0 2∧Below w.heap.size w w':=by
 go_enter Tryz.func258,Tryz.ntmps258
 go_wp2_with fail;refine(run_any 257 Tk.digit isDigit_any enters257 s at0 _ (by unfold maxLen;omega) oM).mono ?_;rintro e w1 ⟨rfl,rfl⟩;have hle:=pre_end Tk.digit s at0 oM;go_wp2_with fail;exact⟨rfl,rfl,(Below.refl _ _).alloc (Nat.le_refl _) _⟩
theorem number_form(s:ByteArray)(at0:Nat)(w:World)(hs:s.size≤281474976710656)(ha:at0<s.size)(hn:Tk.pre Tk.digit (s.data.toList.drop at0)≤7)(hm:1<Tk.pre Tk.digit (s.data.toList.drop at0))(h0:((s[at0].toNat:Int)==48)=true):
 Calls Tryz.prog 258 #[.string s, .int .i64 at0] w fun e w'=>e=gaveUp at0 1∧Below w.heap.size w w':=by
 go_enter Tryz.func258,Tryz.ntmps258
 go_wp2_with fail;refine(run_any 257 Tk.digit isDigit_any enters257 s at0 _ (by unfold maxLen;omega) oM).mono ?_;rintro e w1 ⟨rfl,rfl⟩;have hle:=pre_end Tk.digit s at0 oM;go_wp2_with fail;exact⟨rfl,rfl,(Below.refl _ _).alloc (Nat.le_refl _) _⟩
theorem number_yes(s:ByteArray)(at0:Nat)(w:World)(hs:s.size≤281474976710656)(ha:at0<s.size)(hn:Tk.pre Tk.digit (s.data.toList.drop at0)≤7)(hm:((s[at0].toNat:Int)==48)=false∨Tk.pre Tk.digit (s.data.toList.drop at0)≤1):
 Calls Tryz.prog 258 #[.string s, .int .i64 at0] w fun e w'=>e=.returned (.agg #[.int .i64 3, .int .i64 at0, .string (s.extract at0 (at0+Tk.pre Tk.digit (s.data.toList.drop at0)))])∧Below w.heap.size w w':=by
 have hle:=pre_end Tk.digit s at0 oM;rcases Bool.eq_false_or_eq_true ((s[at0].toNat:Int)==48)with h0|h0
 ·(have h1:Tk.pre Tk.digit (s.data.toList.drop at0)≤1:=by rcases hm with h|h;rw[h0]at h;cases h;exact h);clear hm
  go_enter Tryz.func258,Tryz.ntmps258
  go_wp2_with fail;refine(run_any 257 Tk.digit isDigit_any enters257 s at0 _ (by unfold maxLen;omega) oM).mono ?_;rintro e w1 ⟨rfl,rfl⟩;go_wp2_with fail;refine(cut_any s _ _ 3 _ hs oM oM oM).mono ?_;rintro e w1 ⟨he,hb1⟩;rw[extract_cast]at he;subst he;obtain⟨⟨c0,c1,c2⟩,f0,f1,f2⟩:=tokCell hb1;go_wp2;exact bodyPost_ret (v:=.agg #[.int .i64 3, .int .i64 at0, .string (s.extract at0 (at0+Tk.pre Tk.digit (s.data.toList.drop at0)))]) (by simp[results,Tryz.results258,go_sem,c0,c1,c2]) rfl ⟨rfl,below_tok hb1 _ _ _⟩
 clear hm
 go_enter Tryz.func258,Tryz.ntmps258
 go_wp2_with fail;refine(run_any 257 Tk.digit isDigit_any enters257 s at0 _ (by unfold maxLen;omega) oM).mono ?_;rintro e w1 ⟨rfl,rfl⟩;go_wp2_with fail;refine(cut_any s _ _ 3 _ hs oM oM oM).mono ?_;rintro e w1 ⟨he,hb1⟩;rw[extract_cast]at he;subst he;obtain⟨⟨c0,c1,c2⟩,f0,f1,f2⟩:=tokCell hb1;go_wp2;exact bodyPost_ret (v:=.agg #[.int .i64 3, .int .i64 at0, .string (s.extract at0 (at0+Tk.pre Tk.digit (s.data.toList.drop at0)))]) (by simp[results,Tryz.results258,go_sem,c0,c1,c2]) rfl ⟨rfl,below_tok hb1 _ _ _⟩
theorem sign_index_fin:∀n:Fin 256,Tk.isSign (UInt8.ofNat n.val)=decide (0≤Lib.indexByte [40,41,44,46,60,61,43,45,42] (UInt8.ofNat n.val)):=by decide+kernel
theorem sign_index(x:UInt8):Tk.isSign x=decide (0≤Lib.indexByte [40,41,44,46,60,61,43,45,42] x):=by have h:=sign_index_fin ⟨x.toNat,x.toNat_lt⟩;simpa using h
theorem signLength_any(t:ByteArray)(w:World)(ht:0<t.size):
 Calls Tryz.prog 262 #[.string t] w fun e w'=>e=.returned (.int .i64 (Tk.signLen t.data.toList))∧w'=w:=by
 have i0:∀w:World,(Instr.index 300 (.agg #[.string {data:=#[58,45]}, .string {data:=#[60,61]}, .string {data:=#[33,61]}]) (.int .i64 0)).run Tryz.prog w=.ok (.string {data:=#[58,45]}) w:=fun _=>kR;have i1:∀w:World,(Instr.index 300 (.agg #[.string {data:=#[58,45]}, .string {data:=#[60,61]}, .string {data:=#[33,61]}]) (.int .i64 1)).run Tryz.prog w=.ok (.string {data:=#[60,61]}) w:=fun _=>kR;have i2:∀w:World,(Instr.index 300 (.agg #[.string {data:=#[58,45]}, .string {data:=#[60,61]}, .string {data:=#[33,61]}]) (.int .i64 2)).run Tryz.prog w=.ok (.string {data:=#[33,61]}) w:=fun _=>kR;(have hd:t.data.toList=t[0]::t.data.toList.drop 1:=by have h:=Tk.drop_cons t.data.toList 0 (by simpa using ht);rw[List.drop_zero]at h;exact h);(have hu:((t[0].toNat:Int).toNat.toUInt8)=t[0]:=by simp[Nat.toUInt8]);have hS:=sign_index t[0];cases h0:Lib.hasPrefix t.data.toList [58,45]
 ·cases h1:Lib.hasPrefix t.data.toList [60,61]
  ·cases h2:Lib.hasPrefix t.data.toList [33,61]
   ·(have HS:Hid (Tk.signLen t.data.toList=if Tk.isSign t[0] then 1 else 0):=by(have e1:Tk.signLen t.data.toList=if [58,45].isPrefixOf t.data.toList||[60,61].isPrefixOf t.data.toList||[33,61].isPrefixOf t.data.toList then 2 else match t.data.toList with |[]=>0|c::_=>if Tk.isSign c then 1 else 0:=rfl);rw[Lib.hasPrefix]at h0 h1 h2;rw[h0,h1,h2]at e1;rw[hd]at e1;rw[hd];exact e1);clear hd;cases h3:Tk.isSign t[0]
    ·rw[h3]at hS;(have hlt:Lib.indexByte [40,41,44,46,60,61,43,45,42] t[0]<0:=by simpa using hS.symm);(have HS':Hid (Tk.signLen t.data.toList=0):=by have :=HS.out;rw[h3]at this;exact this);clear HS hS h3
     go_enter Tryz.func262,Tryz.ntmps262
     go_wp2;refine wp_loop_rounds 4 ?_;rw[rounds_succ];go_wp2_with(go_at_call 264;refine(Tryz.strings_HasPrefix _ _ _).mono ?_;rintro e w' ⟨rfl,rfl⟩);rw[rounds_succ];go_wp2_with(go_at_call 264;refine(Tryz.strings_HasPrefix _ _ _).mono ?_;rintro e w' ⟨rfl,rfl⟩);rw[rounds_succ];go_wp2_with(go_at_call 264;refine(Tryz.strings_HasPrefix _ _ _).mono ?_;rintro e w' ⟨rfl,rfl⟩);rw[rounds_succ];go_wp2_with fail;refine(Tryz.strings_IndexByte _ _ _).mono ?_;rintro e w' ⟨he,rfl⟩;rw[hu]at he;subst he;go_wp2;go_ret;exact⟨ret_int (by rw[HS'.out];rfl),rfl⟩
    rw[h3]at hS;(have hlt:0≤Lib.indexByte [40,41,44,46,60,61,43,45,42] t[0]:=by simpa using hS.symm);(have HS':Hid (Tk.signLen t.data.toList=1):=by have :=HS.out;rw[h3]at this;exact this);clear HS hS h3
    go_enter Tryz.func262,Tryz.ntmps262
    go_wp2;refine wp_loop_rounds 4 ?_;rw[rounds_succ];go_wp2_with(go_at_call 264;refine(Tryz.strings_HasPrefix _ _ _).mono ?_;rintro e w' ⟨rfl,rfl⟩);rw[rounds_succ];go_wp2_with(go_at_call 264;refine(Tryz.strings_HasPrefix _ _ _).mono ?_;rintro e w' ⟨rfl,rfl⟩);rw[rounds_succ];go_wp2_with(go_at_call 264;refine(Tryz.strings_HasPrefix _ _ _).mono ?_;rintro e w' ⟨rfl,rfl⟩);rw[rounds_succ];go_wp2_with fail;refine(Tryz.strings_IndexByte _ _ _).mono ?_;rintro e w' ⟨he,rfl⟩;rw[hu]at he;subst he;go_wp2;go_ret;exact⟨ret_int (by rw[HS'.out];rfl),rfl⟩
   (have HS:Hid (Tk.signLen t.data.toList=2):=by rw[Lib.hasPrefix]at h2;simp[Hid,Tk.signLen,h2]);clear hd hS hu
   go_enter Tryz.func262,Tryz.ntmps262
   go_wp2;refine wp_loop_rounds 4 ?_;rw[rounds_succ];go_wp2_with(go_at_call 264;refine(Tryz.strings_HasPrefix _ _ _).mono ?_;rintro e w' ⟨rfl,rfl⟩);rw[rounds_succ];go_wp2_with(go_at_call 264;refine(Tryz.strings_HasPrefix _ _ _).mono ?_;rintro e w' ⟨rfl,rfl⟩);rw[rounds_succ];go_wp2_with(go_at_call 264;refine(Tryz.strings_HasPrefix _ _ _).mono ?_;rintro e w' ⟨rfl,rfl⟩);go_ret;exact⟨ret_int (by rw[HS.out];rfl),rfl⟩
  (have HS:Hid (Tk.signLen t.data.toList=2):=by rw[Lib.hasPrefix]at h1;simp[Hid,Tk.signLen,h1]);clear hd hS hu
  go_enter Tryz.func262,Tryz.ntmps262
  go_wp2;refine wp_loop_rounds 4 ?_;rw[rounds_succ];go_wp2_with(go_at_call 264;refine(Tryz.strings_HasPrefix _ _ _).mono ?_;rintro e w' ⟨rfl,rfl⟩);rw[rounds_succ];go_wp2_with(go_at_call 264;refine(Tryz.strings_HasPrefix _ _ _).mono ?_;rintro e w' ⟨rfl,rfl⟩);go_ret;exact⟨ret_int (by rw[HS.out];rfl),rfl⟩
 (have HS:Hid (Tk.signLen t.data.toList=2):=by rw[Lib.hasPrefix]at h0;simp[Hid,Tk.signLen,h0]);clear hd hS hu
 go_enter Tryz.func262,Tryz.ntmps262
 go_wp2;refine wp_loop_rounds 4 ?_;rw[rounds_succ];go_wp2_with(go_at_call 264;refine(Tryz.strings_HasPrefix _ _ _).mono ?_;rintro e w' ⟨rfl,rfl⟩);go_ret;exact⟨ret_int (by rw[HS.out];rfl),rfl⟩
theorem sign_no(s:ByteArray)(at0:Nat)(w:World)(_hs:s.size≤281474976710656)(ha:at0<s.size)(hn:Tk.signLen (s.data.toList.drop at0)=0):
 Calls Tryz.prog 259 #[.string s, .int .i64 at0] w fun e w'=>e=gaveUp at0 1∧Below w.heap.size w w':=by
 have HN:Hid (Tk.signLen (s.data.toList.drop at0)=0):=hn;clear hn
 go_enter Tryz.func259,Tryz.ntmps259
 go_wp2_with fail;refine(signLength_any _ _ sO).mono ?_;rintro e w1 ⟨he,rfl⟩;rw[Lib.extract_to_end,HN.out]at he;subst he;go_wp2_with fail;exact⟨rfl,rfl,(Below.refl _ _).alloc (Nat.le_refl _) _⟩
theorem sign_yes(s:ByteArray)(at0:Nat)(w:World)(hs:s.size≤281474976710656)(ha:at0<s.size)(hn:0<Tk.signLen (s.data.toList.drop at0)):
 Calls Tryz.prog 259 #[.string s, .int .i64 at0] w fun e w'=>e=.returned (.agg #[.int .i64 4, .int .i64 at0, .string (s.extract at0 (at0+Tk.signLen (s.data.toList.drop at0)))])∧Below w.heap.size w w':=by
 (have hle:at0+Tk.signLen (s.data.toList.drop at0)≤s.size:=by have h1:=Tk.signLen_le (s.data.toList.drop at0);(have h2:(s.data.toList.drop at0).length=s.size-at0:=by simp);omega);generalize hX:Tk.signLen (s.data.toList.drop at0)=n at *;have HX:Hid (Tk.signLen (s.data.toList.drop at0)=n):=hX;clear hX;have hb:((n:Int)==0)=false:=by simp;omega
 go_enter Tryz.func259,Tryz.ntmps259
 go_wp2_with fail;refine(signLength_any _ _ sO).mono ?_;rintro e w1 ⟨he,rfl⟩;rw[Lib.extract_to_end,HX.out]at he;subst he;go_wp2_with fail;refine(cut_any s _ _ 4 _ hs oM oM oM).mono ?_;rintro e w1 ⟨he,hb1⟩;rw[extract_cast]at he;subst he;obtain⟨⟨c0,c1,c2⟩,f0,f1,f2⟩:=tokCell hb1;go_wp2;exact bodyPost_ret (v:=.agg #[.int .i64 4, .int .i64 at0, .string (s.extract at0 (at0+n))]) (by simp[results,Tryz.results259,go_sem,c0,c1,c2]) rfl ⟨rfl,below_tok hb1 _ _ _⟩
theorem drop_at(s:ByteArray)(a:Nat)(h:a<s.size):s.data.toList.drop a=s[a]::s.data.toList.drop (a+1):=Tk.drop_cons s.data.toList a (by simpa using h)
theorem extract_take(s:ByteArray)(a n:Nat):s.extract a (a+n)=⟨((s.data.toList.drop a).take n).toArray⟩:=by rw[Lib.extract_eq,Nat.add_sub_cancel_left]
abbrev tokVal(t:Tk.Tok):Value:=.agg #[.int .i64 t.kind, .int .i64 t.at_, .string ⟨t.text.toArray⟩]
theorem errOf_cons(c:UInt8)(r:List UInt8):Tk.errOf (c::r)=if Tk.small c.toNat||Tk.great c.toNat then(if Tk.pre Tk.alnum (c::r)>12 then 2 else 0)
 else if Tk.digit c.toNat then(if Tk.pre Tk.digit (c::r)>7 then 2 else if(c.toNat:Int)=48∧Tk.pre Tk.digit (c::r)>1 then 1 else 0)
 else if Tk.signLen (c::r)=0 then 1 else 0:=rfl
theorem kindOf_cons(c:UInt8)(r:List UInt8):Tk.kindOf (c::r)=if Tk.small c.toNat then 1 else if Tk.great c.toNat then 2 else if Tk.digit c.toNat then 3 else 4:=rfl
theorem lenOf_cons(c:UInt8)(r:List UInt8):Tk.lenOf (c::r)=if Tk.small c.toNat||Tk.great c.toNat then Tk.pre Tk.alnum (c::r)else if Tk.digit c.toNat then Tk.pre Tk.digit (c::r)else Tk.signLen (c::r):=rfl
theorem below_made{w w1:World}(hb:Below (w.alloc tokObj).heap.size (w.alloc tokObj) w1):Below w.heap.size w w1:=
 ((Below.refl _ _).alloc (Nat.le_refl _) _).trans (hb.mono sI)
theorem tokenAt_no(s:ByteArray)(at0:Nat)(w:World)(hs:s.size≤281474976710656)(ha:at0<s.size)(he:¬Tk.errOf (s.data.toList.drop at0)=0):
 Calls Tryz.prog 251 #[.string s, .int .i64 at0] w fun e w'=>e=gaveUp at0 (Tk.errOf (s.data.toList.drop at0))∧Below w.heap.size w w':=by
 have hd:=drop_at s at0 ha
 have e0:Tk.errOf (s.data.toList.drop at0)=if Tk.small s[at0].toNat||Tk.great s[at0].toNat then(if Tk.pre Tk.alnum (s.data.toList.drop at0)>12 then 2 else 0)
  else if Tk.digit s[at0].toNat then(if Tk.pre Tk.digit (s.data.toList.drop at0)>7 then 2 else if(s[at0].toNat:Int)=48∧Tk.pre Tk.digit (s.data.toList.drop at0)>1 then 1 else 0)
  else if Tk.signLen (s.data.toList.drop at0)=0 then 1 else 0:=by
  rw[hd];exact errOf_cons _ _
 clear hd;cases h1:Tk.small (s[at0].toNat:Int)
 ·cases h2:Tk.great (s[at0].toNat:Int)
  ·cases h3:Tk.digit (s[at0].toNat:Int)
   ·rw[h1,h2,h3]at e0;simp only[Bool.or_self,Bool.false_eq_true,if_false]at e0;have hn:Tk.signLen (s.data.toList.drop at0)=0:=by
     by_cases h:Tk.signLen (s.data.toList.drop at0)=0
     ·exact h
     rw[if_neg h]at e0;exact absurd e0 he
    rw[if_pos hn]at e0;rw[e0];have HN:Hid (Tk.signLen (s.data.toList.drop at0)=0):=hn;clear e0 he hn
    go_enter Tryz.func251,Tryz.ntmps251
    go_wp2_with(first|(go_at_call 254;refine(isSmall_any _ _).mono ?_;rintro e w' ⟨rfl,rfl⟩)|(go_at_call 256;refine(isGreat_any _ _).mono ?_;rintro e w' ⟨rfl,rfl⟩)|(go_at_call 257;refine(isDigit_any _ _).mono ?_;rintro e w' ⟨rfl,rfl⟩)|(go_at_call 259;refine(sign_no s at0 _ hs ha HN.out).mono ?_;rintro e w1 ⟨rfl,hb1⟩));exact⟨rfl,rfl,below_made hb1⟩
   rw[h1,h2,h3]at e0;simp only[Bool.or_self,Bool.false_eq_true,if_false,if_true]at e0;by_cases h:Tk.pre Tk.digit (s.data.toList.drop at0)>7
   ·rw[if_pos h]at e0;rw[e0];clear e0 he
    go_enter Tryz.func251,Tryz.ntmps251
    go_wp2_with(first|(go_at_call 254;refine(isSmall_any _ _).mono ?_;rintro e w' ⟨rfl,rfl⟩)|(go_at_call 256;refine(isGreat_any _ _).mono ?_;rintro e w' ⟨rfl,rfl⟩)|(go_at_call 257;refine(isDigit_any _ _).mono ?_;rintro e w' ⟨rfl,rfl⟩)|(go_at_call 258;refine(number_many s at0 _ hs ha h).mono ?_;rintro e w1 ⟨rfl,hb1⟩));exact⟨rfl,rfl,below_made hb1⟩
   rw[if_neg h]at e0;have hn:(s[at0].toNat:Int)=48∧Tk.pre Tk.digit (s.data.toList.drop at0)>1:=by
    by_cases h:(s[at0].toNat:Int)=48∧Tk.pre Tk.digit (s.data.toList.drop at0)>1
    ·exact h
    rw[if_neg h]at e0;exact absurd e0 he
   rw[if_pos hn]at e0;rw[e0];have HN:Hid ((s[at0].toNat:Int)=48∧Tk.pre Tk.digit (s.data.toList.drop at0)>1):=hn;clear e0 he hn
   go_enter Tryz.func251,Tryz.ntmps251
   go_wp2_with(first|(go_at_call 254;refine(isSmall_any _ _).mono ?_;rintro e w' ⟨rfl,rfl⟩)|(go_at_call 256;refine(isGreat_any _ _).mono ?_;rintro e w' ⟨rfl,rfl⟩)|(go_at_call 257;refine(isDigit_any _ _).mono ?_;rintro e w' ⟨rfl,rfl⟩)|(go_at_call 258;refine(number_form s at0 _ hs ha oM HN.out.2 (beq_iff_eq.2 HN.out.1)).mono ?_;rintro e w1 ⟨rfl,hb1⟩));exact⟨rfl,rfl,below_made hb1⟩
  rw[h1,h2]at e0;simp only[Bool.or_true,if_true]at e0;have hn:12<Tk.pre Tk.alnum (s.data.toList.drop at0):=by
   by_cases h:Tk.pre Tk.alnum (s.data.toList.drop at0)>12
   ·exact h
   rw[if_neg h]at e0;exact absurd e0 he
  rw[if_pos hn]at e0;rw[e0];clear e0 he
  go_enter Tryz.func251,Tryz.ntmps251
  go_wp2_with(first|(go_at_call 254;refine(isSmall_any _ _).mono ?_;rintro e w' ⟨rfl,rfl⟩)|(go_at_call 256;refine(isGreat_any _ _).mono ?_;rintro e w' ⟨rfl,rfl⟩)|(go_at_call 257;refine(isDigit_any _ _).mono ?_;rintro e w' ⟨rfl,rfl⟩)|(go_at_call 255;refine(word_no s at0 2 _ hs oM hn).mono ?_;rintro e w1 ⟨rfl,hb1⟩));exact⟨rfl,rfl,below_made hb1⟩
 rw[h1]at e0;simp only[Bool.true_or,if_true]at e0;have hn:12<Tk.pre Tk.alnum (s.data.toList.drop at0):=by
  by_cases h:Tk.pre Tk.alnum (s.data.toList.drop at0)>12
  ·exact h
  rw[if_neg h]at e0;exact absurd e0 he
 rw[if_pos hn]at e0;rw[e0];clear e0 he
 go_enter Tryz.func251,Tryz.ntmps251
 go_wp2_with(first|(go_at_call 254;refine(isSmall_any _ _).mono ?_;rintro e w' ⟨rfl,rfl⟩)|(go_at_call 256;refine(isGreat_any _ _).mono ?_;rintro e w' ⟨rfl,rfl⟩)|(go_at_call 257;refine(isDigit_any _ _).mono ?_;rintro e w' ⟨rfl,rfl⟩)|(go_at_call 255;refine(word_no s at0 1 _ hs oM hn).mono ?_;rintro e w1 ⟨rfl,hb1⟩));exact⟨rfl,rfl,below_made hb1⟩
theorem ret_tok{k k' a:Int}{s:ByteArray}{n n':Nat}{p:Nat}(hk:k=k')(hn:n=n')(l:List UInt8)(hl:l=s.data.toList.drop p):
 Ending.returned (.agg #[.int .i64 k, .int .i64 a, .string (s.extract p (p+n))])=.returned (.agg #[.int .i64 k', .int .i64 a, .string ⟨(l.take n').toArray⟩]):=by
 subst hk hn hl;rw[extract_take]
theorem tokenAt_yes(s:ByteArray)(at0:Nat)(w:World)(hs:s.size≤281474976710656)(ha:at0<s.size)(he:Tk.errOf (s.data.toList.drop at0)=0):
 Calls Tryz.prog 251 #[.string s, .int .i64 at0] w fun e w'=>e=.returned (tokVal (Tk.tokAt s.data.toList at0))∧Below w.heap.size w w':=by
 have hd:=drop_at s at0 ha
 have e0:Tk.errOf (s.data.toList.drop at0)=if Tk.small s[at0].toNat||Tk.great s[at0].toNat then(if Tk.pre Tk.alnum (s.data.toList.drop at0)>12 then 2 else 0)
  else if Tk.digit s[at0].toNat then(if Tk.pre Tk.digit (s.data.toList.drop at0)>7 then 2 else if(s[at0].toNat:Int)=48∧Tk.pre Tk.digit (s.data.toList.drop at0)>1 then 1 else 0)
  else if Tk.signLen (s.data.toList.drop at0)=0 then 1 else 0:=by
  rw[hd];exact errOf_cons _ _
 (have e1:Tk.kindOf (s.data.toList.drop at0)=if Tk.small s[at0].toNat then 1 else if Tk.great s[at0].toNat then 2 else if Tk.digit s[at0].toNat then 3 else 4:=by rw[hd];exact kindOf_cons _ _);(have e2:Tk.lenOf (s.data.toList.drop at0)=if Tk.small s[at0].toNat||Tk.great s[at0].toNat then Tk.pre Tk.alnum (s.data.toList.drop at0)else if Tk.digit s[at0].toNat then Tk.pre Tk.digit (s.data.toList.drop at0)else Tk.signLen (s.data.toList.drop at0):=by rw[hd];exact lenOf_cons _ _);(rw[he]at e0;clear hd he;have HV:Hid (∀(k:Int)(n:Nat),k=Tk.kindOf (s.data.toList.drop at0)→n=Tk.lenOf (s.data.toList.drop at0)→Ending.returned (.agg #[.int .i64 k, .int .i64 at0, .string (s.extract at0 (at0+n))])=.returned (tokVal (Tk.tokAt s.data.toList at0))):=by intro k n hk hn;exact ret_tok hk hn _ rfl);generalize tokVal (Tk.tokAt s.data.toList at0)=V at *;cases h1:Tk.small (s[at0].toNat:Int)
 ·cases h2:Tk.great (s[at0].toNat:Int)
  ·cases h3:Tk.digit (s[at0].toNat:Int)
   ·rw[h1,h2,h3]at e0 e1 e2;simp only[Bool.or_self,Bool.false_eq_true,if_false]at e0 e1 e2;have hn:0<Tk.signLen (s.data.toList.drop at0):=by
     by_cases h:Tk.signLen (s.data.toList.drop at0)=0
     ·rw[if_pos h]at e0;exact absurd e0 dE
     omega
    have HF:Hid (_=_):=HV.out 4 (Tk.signLen (s.data.toList.drop at0)) e1.symm e2.symm;clear e0 e1 e2 HV
    go_enter Tryz.func251,Tryz.ntmps251
    go_wp2_with(first|(go_at_call 254;refine(isSmall_any _ _).mono ?_;rintro e w' ⟨rfl,rfl⟩)|(go_at_call 256;refine(isGreat_any _ _).mono ?_;rintro e w' ⟨rfl,rfl⟩)|(go_at_call 257;refine(isDigit_any _ _).mono ?_;rintro e w' ⟨rfl,rfl⟩)|(go_at_call 259;refine(sign_yes s at0 _ hs ha hn).mono ?_;rintro e w1 ⟨rfl,hb1⟩;obtain⟨⟨c0,c1,c2⟩,f0,f1,f2⟩:=tokCell hb1));exact bodyPost_ret (v:=.agg #[.int .i64 4, .int .i64 at0, .string (s.extract at0 (at0+Tk.signLen (s.data.toList.drop at0)))]) (by simp[results,Tryz.results251,go_sem,c0,c1,c2]) rfl ⟨HF.out,below_tok hb1 _ _ _⟩
   rw[h1,h2,h3]at e0 e1 e2;simp only[Bool.or_self,Bool.false_eq_true,if_false,if_true]at e0 e1 e2;have hm:Tk.pre Tk.digit (s.data.toList.drop at0)≤7:=by
    by_cases h:Tk.pre Tk.digit (s.data.toList.drop at0)>7
    ·rw[if_pos h]at e0;exact absurd e0 dE
    omega
   have hn:((s[at0].toNat:Int)==48)=false∨Tk.pre Tk.digit (s.data.toList.drop at0)≤1:=by
    rw[if_neg oM]at e0;by_cases h:(s[at0].toNat:Int)=48∧Tk.pre Tk.digit (s.data.toList.drop at0)>1
    ·rw[if_pos h]at e0;exact absurd e0 dE
    by_cases h4:(s[at0].toNat:Int)=48
    ·exact .inr oM
    exact .inl (beq_eq_false_iff_ne.2 h4)
   have HN:Hid (((s[at0].toNat:Int)==48)=false∨Tk.pre Tk.digit (s.data.toList.drop at0)≤1):=hn;have HF:Hid (_=_):=HV.out 3 (Tk.pre Tk.digit (s.data.toList.drop at0)) e1.symm e2.symm;clear e0 e1 e2 HV hn
   go_enter Tryz.func251,Tryz.ntmps251
   go_wp2_with(first|(go_at_call 254;refine(isSmall_any _ _).mono ?_;rintro e w' ⟨rfl,rfl⟩)|(go_at_call 256;refine(isGreat_any _ _).mono ?_;rintro e w' ⟨rfl,rfl⟩)|(go_at_call 257;refine(isDigit_any _ _).mono ?_;rintro e w' ⟨rfl,rfl⟩)|(go_at_call 258;refine(number_yes s at0 _ hs ha hm HN.out).mono ?_;rintro e w1 ⟨rfl,hb1⟩;obtain⟨⟨c0,c1,c2⟩,f0,f1,f2⟩:=tokCell hb1));exact bodyPost_ret (v:=.agg #[.int .i64 3, .int .i64 at0, .string (s.extract at0 (at0+Tk.pre Tk.digit (s.data.toList.drop at0)))]) (by simp[results,Tryz.results251,go_sem,c0,c1,c2]) rfl ⟨HF.out,below_tok hb1 _ _ _⟩
  rw[h1,h2]at e0 e1 e2;simp only[Bool.or_true,Bool.false_eq_true,if_false,if_true]at e0 e1 e2;have hn:Tk.pre Tk.alnum (s.data.toList.drop at0)≤12:=by
   by_cases h:Tk.pre Tk.alnum (s.data.toList.drop at0)>12
   ·rw[if_pos h]at e0;exact absurd e0 dE
   omega
  have HF:Hid (_=_):=HV.out 2 (Tk.pre Tk.alnum (s.data.toList.drop at0)) e1.symm e2.symm;clear e0 e1 e2 HV
  go_enter Tryz.func251,Tryz.ntmps251
  go_wp2_with(first|(go_at_call 254;refine(isSmall_any _ _).mono ?_;rintro e w' ⟨rfl,rfl⟩)|(go_at_call 256;refine(isGreat_any _ _).mono ?_;rintro e w' ⟨rfl,rfl⟩)|(go_at_call 257;refine(isDigit_any _ _).mono ?_;rintro e w' ⟨rfl,rfl⟩)|(go_at_call 255;refine(word_yes s at0 2 _ hs oM hn).mono ?_;rintro e w1 ⟨rfl,hb1⟩;obtain⟨⟨c0,c1,c2⟩,f0,f1,f2⟩:=tokCell hb1));exact bodyPost_ret (v:=.agg #[.int .i64 2, .int .i64 at0, .string (s.extract at0 (at0+Tk.pre Tk.alnum (s.data.toList.drop at0)))]) (by simp[results,Tryz.results251,go_sem,c0,c1,c2]) rfl ⟨HF.out,below_tok hb1 _ _ _⟩
 rw[h1]at e0 e1 e2;simp only[Bool.true_or,if_true]at e0 e1 e2;have hn:Tk.pre Tk.alnum (s.data.toList.drop at0)≤12:=by
  by_cases h:Tk.pre Tk.alnum (s.data.toList.drop at0)>12
  ·rw[if_pos h]at e0;exact absurd e0 dE
  omega
 have HF:Hid (_=_):=HV.out 1 (Tk.pre Tk.alnum (s.data.toList.drop at0)) e1.symm e2.symm;clear e0 e1 e2 HV
 go_enter Tryz.func251,Tryz.ntmps251
 go_wp2_with(first|(go_at_call 254;refine(isSmall_any _ _).mono ?_;rintro e w' ⟨rfl,rfl⟩)|(go_at_call 256;refine(isGreat_any _ _).mono ?_;rintro e w' ⟨rfl,rfl⟩)|(go_at_call 257;refine(isDigit_any _ _).mono ?_;rintro e w' ⟨rfl,rfl⟩)|(go_at_call 255;refine(word_yes s at0 1 _ hs oM hn).mono ?_;rintro e w1 ⟨rfl,hb1⟩;obtain⟨⟨c0,c1,c2⟩,f0,f1,f2⟩:=tokCell hb1));exact bodyPost_ret (v:=.agg #[.int .i64 1, .int .i64 at0, .string (s.extract at0 (at0+Tk.pre Tk.alnum (s.data.toList.drop at0)))]) (by simp[results,Tryz.results251,go_sem,c0,c1,c2]) rfl ⟨HF.out,below_tok hb1 _ _ _⟩
theorem sep_blank(s:ByteArray)(k:Nat)(h:k<s.size)(hc:(s[k].toNat:Int)=32∨(s[k].toNat:Int)=9∨(s[k].toNat:Int)=10):
 Tk.sep false (s.data.toList.drop k)=Tk.sep false (s.data.toList.drop (k+1))+1:=by
 rw[drop_at s k h,Tk.sep,if_neg oM,if_pos hc]
theorem sep_stop(s:ByteArray)(k:Nat)(h:k<s.size)(h1:¬(s[k].toNat:Int)=37)(hc:¬((s[k].toNat:Int)=32∨(s[k].toNat:Int)=9∨(s[k].toNat:Int)=10)):
 Tk.sep false (s.data.toList.drop k)=0:=by
 rw[drop_at s k h,Tk.sep,if_neg h1,if_neg hc]
theorem sep_end(b:Bool)(s:ByteArray)(k:Nat)(h:s.size≤k):Tk.sep b (s.data.toList.drop k)=0:=by rw[List.drop_of_length_le (by simpa using h)];cases b<;>rfl
theorem sep_rem(s:ByteArray)(k:Nat)(h:k<s.size)(h1:(s[k].toNat:Int)=37):
 Tk.sep false (s.data.toList.drop k)=Tk.pre Tk.noLf (s.data.toList.drop k)+Tk.sep false (s.data.toList.drop (k+Tk.pre Tk.noLf (s.data.toList.drop k)))∧1≤Tk.pre Tk.noLf (s.data.toList.drop k):=by
 (have hp:Tk.pre Tk.noLf (s.data.toList.drop k)=Tk.pre Tk.noLf (s.data.toList.drop (k+1))+1:=by rw[drop_at s k h,Tk.pre,if_pos (by rw[Tk.noLf,h1];rfl)]);refine⟨?_,oM⟩;(have e1:Tk.sep false (s.data.toList.drop k)=Tk.sep true (s.data.toList.drop (k+1))+1:=by rw[drop_at s k h,Tk.sep,if_pos h1]);rw[e1,Tk.sep_note,List.drop_drop,hp,show k+(Tk.pre Tk.noLf (s.data.toList.drop (k+1))+1)=k+1+Tk.pre Tk.noLf (s.data.toList.drop (k+1))from by omega];omega
theorem sep_end_le(b:Bool)(s:ByteArray)(a:Nat)(h:a≤s.size):a+Tk.sep b (s.data.toList.drop a)≤s.size:=by have h1:=Tk.sep_le b (s.data.toList.drop a);(have h2:(s.data.toList.drop a).length=s.size-a:=by simp);omega
theorem skip_any(s:ByteArray)(at0:Nat)(w:World)(hs:s.size≤281474976710656)(ha:at0≤s.size):
 Calls Tryz.prog 250 #[.string s, .int .i64 at0] w fun e w'=>e=.returned (.int .i64 ((at0+Tk.sep false (s.data.toList.drop at0):Nat):Int))∧w'=w:=by
 go_enter Tryz.func250,Tryz.ntmps250
 go_wp2;go_loop [1] (fun i=>∃k:Nat,k≤s.size∧i=.int .i64 k∧at0+Tk.sep false (s.data.toList.drop at0)=k+Tk.sep false (s.data.toList.drop k)) (fun i=>s.size-(intOf i).toNat);case atStart=>exact⟨at0,ha,rfl,rfl⟩
 case round=>
  obtain⟨k,hk,rfl,hk2⟩:=hrel;have HK:Hid (at0+Tk.sep false (s.data.toList.drop at0)=k+Tk.sep false (s.data.toList.drop k)):=hk2;clear hk2;by_cases hlt:k<s.size
  ·by_cases hb:(s[k].toNat:Int)=32∨(s[k].toNat:Int)=9∨(s[k].toNat:Int)=10
   ·have HE:Hid (Tk.sep false (s.data.toList.drop k)=Tk.sep false (s.data.toList.drop (k+1))+1):=sep_blank s k hlt hb;(have hrel2:Hid (at0+Tk.sep false (s.data.toList.drop at0)=(k+1)+Tk.sep false (s.data.toList.drop (k+1))):=by have h1:=HK.out;have h2:=HE.out;show _=_;omega);clear HE HK;by_cases b1:(s[k].toNat:Int)=32
    ·have t1:((s[k].toNat:Int)==32)=true:=beq_iff_eq.2 b1;clear b1 hb;go_wp2;go_round;(case rel=>exact⟨k+1,oM,gN,hrel2.out⟩);case measure=>exact mI
    have t1:((s[k].toNat:Int)==32)=false:=beq_eq_false_iff_ne.2 b1;by_cases b2:(s[k].toNat:Int)=9
    ·have t2:((s[k].toNat:Int)==9)=true:=beq_iff_eq.2 b2;clear b1 b2 hb;go_wp2;go_round;(case rel=>exact⟨k+1,oM,gN,hrel2.out⟩);case measure=>exact mI
    have t2:((s[k].toNat:Int)==9)=false:=beq_eq_false_iff_ne.2 b2;have t3:((s[k].toNat:Int)==10)=true:=beq_iff_eq.2 oM;clear b1 b2 hb;go_wp2;go_round;(case rel=>exact⟨k+1,oM,gN,hrel2.out⟩);case measure=>exact mI
   have t1:((s[k].toNat:Int)==32)=false:=beq_eq_false_iff_ne.2 oM;have t2:((s[k].toNat:Int)==9)=false:=beq_eq_false_iff_ne.2 oM;have t3:((s[k].toNat:Int)==10)=false:=beq_eq_false_iff_ne.2 oM;by_cases b4:(s[k].toNat:Int)=37
   ·obtain⟨h1,h2⟩:=sep_rem s k hlt b4;have hle:=pre_end Tk.noLf s k hk;(have HR:Hid (at0+Tk.sep false (s.data.toList.drop at0)=(k+Tk.pre Tk.noLf (s.data.toList.drop k))+Tk.sep false (s.data.toList.drop (k+Tk.pre Tk.noLf (s.data.toList.drop k)))):=by have h3:=HK.out;show _=_;omega);have t4:((s[k].toNat:Int)==37)=true:=beq_iff_eq.2 b4;clear h1 HK hb b4;go_wp2_with(go_at_call 252;refine(run_any 253 Tk.noLf noLf_any enters253 s k _ (by unfold maxLen;omega) hk).mono ?_;rintro e w' ⟨rfl,rfl⟩);go_round;(case rel=>exact⟨k+Tk.pre Tk.noLf (s.data.toList.drop k),hle,gN,HR.out⟩);case measure=>exact mI
   have HE:Hid (Tk.sep false (s.data.toList.drop k)=0):=sep_stop s k hlt b4 hb;have t4:((s[k].toNat:Int)==37)=false:=beq_eq_false_iff_ne.2 b4;clear hb b4;go_wp2;go_ret;exact⟨ret_int (by have h1:=HK.out;have h2:=HE.out;omega),rfl⟩
  have HE:Hid (Tk.sep false (s.data.toList.drop k)=0):=sep_end false s k oM;go_wp2;go_ret;exact⟨ret_int (by have h1:=HK.out;have h2:=HE.out;omega),rfl⟩
theorem catch_idle(pl pg:Addr)(w:World):
 CallsD Tryz.prog 249 #[.pointer (some pl), .pointer (some pg)] .returning w fun e u' w'=>e=.returned (.tuple #[])∧u'=.returning∧w'=w:=by
 refine callsD_of_wpS Tryz.func249 rfl fun c₀ cs hu=>?_;apply wpS_seq;apply wpS_region;simp[wpOpsS,go_sem,recoverD,hu,Tryz.ntmps249,Exit.thenS];refine wpS_of_wp ?_;rw[show(#[Value.pointer (some pl),Value.pointer (some pg)]++((Array.replicate 6 undef).setIfInBounds 1 Value.nilIface).setIfInBounds 0 Value.nilIface)=#[.pointer (some pl), .pointer (some pg), .nilIface, .nilIface,undef,undef,undef,undef] from rfl];go_wp2;refine⟨rfl, .returning,?_, .tuple #[],?_,rfl,rfl,rfl⟩
 ·rw[←hu]
 simp[results,Tryz.results249]
theorem catch_panicking(bl bg B:Nat)(lv g0 g1:Value)(a c:Int)(older:List PanicEntry)(w:World)
 (hl:w.cell? ⟨bl,0,none⟩=some lv) (fl:w.frozen? ⟨bl,0,none⟩=false) (hg0:w.cell? ⟨bg,0,none⟩=some g0) (hg1:w.cell? ⟨bg,1,none⟩=some g1)
 (fg0:w.frozen? ⟨bg,0,none⟩=false) (fg1:w.frozen? ⟨bg,1,none⟩=false) (hB1:B≤bl) (hB2:bl<bg):
 CallsD Tryz.prog 249 #[.pointer (some ⟨bl,0,none⟩), .pointer (some ⟨bg,0,none⟩)] (.panicking ({v:=.iface 289 (.agg #[.int .i64 a, .int .i64 c]),recovered:=false}::older)) w fun e u' w'=>
  e=.returned (.tuple #[])∧u'=.panicking ({v:=.iface 289 (.agg #[.int .i64 a, .int .i64 c]),recovered:=true}::older)∧
  w'.cell? ⟨bl,0,none⟩=some (.slice none 0 0)∧w'.cell? ⟨bg,0,none⟩=some (.int .i64 a)∧w'.cell? ⟨bg,1,none⟩=some (.int .i64 c)∧Below B w w':=by
 have hta:∀w:World,(Instr.typeAssert (.iface 289 (.agg #[.int .i64 a, .int .i64 c])) 20 289 false).run Tryz.prog w=.ok (.agg #[.int .i64 a, .int .i64 c]) w:=fun _=>kR;refine callsD_of_wpS Tryz.func249 rfl fun c₀ cs hu=>?_;apply wpS_seq;apply wpS_region;simp[wpOpsS,go_sem,recoverD,hu,Tryz.ntmps249,Exit.thenS];refine wpS_of_wp ?_
 rw[show(#[Value.pointer (some {block:=bl,off:=0}),Value.pointer (some {block:=bg,off:=0})]++
  ((Array.replicate 6 undef).setIfInBounds 1
   (Value.iface 289 (Value.agg #[Value.int IntKind.i64 a,Value.int IntKind.i64 c]))).setIfInBounds
   0 (Value.iface 289 (Value.agg #[Value.int IntKind.i64 a,Value.int IntKind.i64 c])))=#[Value.pointer (some {block:=bl,off:=0}),Value.pointer (some {block:=bg,off:=0}),(Value.iface 289 (Value.agg #[Value.int IntKind.i64 a,Value.int IntKind.i64 c])),(Value.iface 289 (Value.agg #[Value.int IntKind.i64 a,Value.int IntKind.i64 c])),undef,undef,undef,undef] from rfl]
 go_wp2;go_region;have hne:¬bl=bg:=oM;have hne':¬bg=bl:=oM;refine⟨rfl,_,rfl, .tuple #[],?_,rfl,rfl,?_,?_,?_,?_⟩
 ·simp[results,Tryz.results249]
 ·simp[go_sem,hl]
 ·simp[go_sem,hg0]
 ·simp[go_sem,hg1]
 exact((((Below.refl _ _).setCell (p:=⟨bl,0,none⟩) hB1 _).setCell (p:=⟨bg,0,none⟩) (show B≤bg by omega) _).setCell (p:=⟨bg,1,none⟩) (show B≤bg by omega) _).drew
def tokCells (t : Tk.Tok) : List Value := [.int .i64 t.kind, .int .i64 t.at_, .string ⟨t.text.toArray⟩]
def allCells (l : List Tk.Tok) : List Value := l.flatMap tokCells
theorem allCells_snoc (l : List Tk.Tok) (t : Tk.Tok) : allCells (l ++ [t]) = allCells l ++ tokCells t := by simp [allCells]
theorem allCells_length (l : List Tk.Tok) : (allCells l).length = l.length * 3 := by
  induction l with
  | nil => rfl
  | cons t r ih => simp only [allCells, List.flatMap_cons, List.length_append] at ih ⊢; rw [ih]; simp [tokCells]; omega
theorem ownsRow_below {w w' : World} {base : Nat} {e : TypeId} {size : Nat} {v : Value} {n : Nat} {xs : List Value} (h : w.ownsRow base e size v n xs) (hb : Below w.heap.size w w') : w'.ownsRow base e size v n xs := by
  obtain ⟨h1, h2⟩ := h
  refine ⟨h1, ?_⟩
  rcases h2 with h2 | ⟨g, cap, cur, hv, hg, hbk, r⟩
  · exact .inl h2
  · refine .inr ⟨g, cap, cur, hv, hg, ?_, r⟩
    have hlt : g < w.heap.size := by
      rcases Nat.lt_or_ge g w.heap.size with h | h
      · exact h
      · rw [Array.getElem?_eq_none h] at hbk; cases hbk
    rw [hb.block g hlt]; exact hbk
theorem own_slice {w : World} {base : Nat} {e : TypeId} {size : Nat} {v : Value} {n : Nat} {xs : List Value} (h : w.ownsRow base e size v n xs) : ∃ ao cap, v = .slice ao n cap := by
  rcases h.2 with ⟨hv, h0⟩ | ⟨g, cap, cur, hv, _⟩
  · exact ⟨none, 0, by rw [hv, h0]⟩
  · exact ⟨_, _, hv⟩
structure ScanInv (N : Nat) (w wr : World) (v : Value) (acc : List Tk.Tok) : Prop where
  cl : wr.cell? ⟨N, 0, none⟩ = some v
  own : wr.ownsRow (N + 2) 271 3 v acc.length (allCells acc)
  fl : wr.frozen? ⟨N, 0, none⟩ = false
  g0 : wr.cell? ⟨N + 1, 0, none⟩ = some (.int .i64 0)
  g1 : wr.cell? ⟨N + 1, 1, none⟩ = some (.int .i64 0)
  f0 : wr.frozen? ⟨N + 1, 0, none⟩ = false
  f1 : wr.frozen? ⟨N + 1, 1, none⟩ = false
  bel : Below N w wr
  size : N + 2 ≤ wr.heap.size
theorem ScanInv.below {N : Nat} {w wr w1 : World} {v : Value} {acc : List Tk.Tok} (h : ScanInv N w wr v acc) (hb : Below wr.heap.size wr w1) : ScanInv N w w1 v acc := by
  have hs := h.size
  have h1 : N < wr.heap.size := by omega
  have h2 : N + 1 < wr.heap.size := by omega
  obtain ⟨hc, hf⟩ := (⟨fun b o hh => hb.cell (p := ⟨b, o, none⟩) hh, fun b o hh => hb.frozen (p := ⟨b, o, none⟩) hh⟩ : (∀ b o, b < wr.heap.size → w1.cell? ⟨b, o, none⟩ = wr.cell? ⟨b, o, none⟩) ∧ (∀ b o, b < wr.heap.size → w1.frozen? ⟨b, o, none⟩ = wr.frozen? ⟨b, o, none⟩))
  exact { cl := by rw [hc _ _ h1]; exact h.cl
          own := ownsRow_below h.own hb
          fl := by rw [hf _ _ h1]; exact h.fl
          g0 := by rw [hc _ _ h2]; exact h.g0
          g1 := by rw [hc _ _ h2]; exact h.g1
          f0 := by rw [hf _ _ h2]; exact h.f0
          f1 := by rw [hf _ _ h2]; exact h.f1
          bel := h.bel.trans (hb.mono (by omega))
          size := by have := hb.size; omega }
theorem ScanInv.alloc {N : Nat} {w wr : World} {v : Value} {acc : List Tk.Tok} (h : ScanInv N w wr v acc) (o : Obj) : ScanInv N w (wr.alloc o) v acc :=
  h.below ((Below.refl _ _).alloc (Nat.le_refl _) _)
theorem ScanInv.grown {N : Nat} {w wr w1 : World} {v v' : Value} {acc acc' : List Tk.Tok} (h : ScanInv N w wr v acc) (hg : wr.grownBy w1 v.ownBlock)
    (hown : w1.ownsRow (N + 2) 271 3 v' acc'.length (allCells acc')) : ScanInv N w (w1.setCell ⟨N, 0, none⟩ v') v' acc' := by
  have hs := h.size
  have hne : ∀ k, k < N + 2 → some k ≠ v.ownBlock := fun k hk e => by
    have := (h.own.lt k e.symm).1
    omega
  have hb : ∀ k, k < N + 2 → w1.heap[k]? = wr.heap[k]? := fun k hk => hg.block k (by omega) (hne k hk)
  have hc : ∀ k o, k < N + 2 → w1.cell? ⟨k, o, none⟩ = wr.cell? ⟨k, o, none⟩ := fun k o hk => World.cell?_of_block (a := ⟨k, o, none⟩) (hb k hk)
  have hf : ∀ k o, k < N + 2 → w1.frozen? ⟨k, o, none⟩ = wr.frozen? ⟨k, o, none⟩ := fun k o hk => World.frozen?_of_block (a := ⟨k, o, none⟩) (hb k hk)
  have c0 : w1.cell? ⟨N, 0, none⟩ = some v := by rw [hc _ _ (by omega)]; exact h.cl
  exact { cl := by simp [go_sem, c0]
          own := ownsRow_setCell_below hown (by simp) _
          fl := by simp [go_sem, hf N 0 (by omega), h.fl]
          g0 := by simp [go_sem, hc (N + 1) 0 (by omega), h.g0]
          g1 := by simp [go_sem, hc (N + 1) 1 (by omega), h.g1]
          f0 := by simp [go_sem, hf (N + 1) 0 (by omega), h.f0]
          f1 := by simp [go_sem, hf (N + 1) 1 (by omega), h.f1]
          bel := (h.bel.grown hg (by omega) (fun k hk => by have := (h.own.lt k hk).1; omega)).setCell (p := ⟨N, 0, none⟩) (Nat.le_refl _) _
          size := by have := hg.size; simp; omega }
theorem ScanInv.after {N : Nat} {w w1 w2 : World} {v : Value} {acc : List Tk.Tok} {o1 o2 : Obj} (h : ScanInv N w w1 v acc) (hg : ((w1.alloc o1).alloc o2).grownBy w2 v.ownBlock) :
    w2.cell? ⟨N, 0, none⟩ = some v ∧ w2.frozen? ⟨N, 0, none⟩ = false ∧ (∀ o, w2.cell? ⟨w1.heap.size, o, none⟩ = ((w1.alloc o1).alloc o2).cell? ⟨w1.heap.size, o, none⟩) := by
  have h2 := (h.alloc o1).alloc o2
  have hs := h.size
  have hz : ((w1.alloc o1).alloc o2).heap.size = w1.heap.size + 2 := by simp
  have hne : some N ≠ v.ownBlock := fun e => by have := (h.own.lt N e.symm).1; omega
  have hne' : some w1.heap.size ≠ v.ownBlock := fun e => by have := (h.own.lt _ e.symm).2; omega
  have hb1 := hg.block N (by omega) hne
  have hb2 := hg.block w1.heap.size (by omega) hne'
  refine ⟨?_, ?_, fun o => World.cell?_of_block (a := ⟨w1.heap.size, o, none⟩) hb2⟩
  · rw [World.cell?_of_block (a := ⟨N, 0, none⟩) hb1]; exact h2.cl
  · rw [World.frozen?_of_block (a := ⟨N, 0, none⟩) hb1]; exact h2.fl
theorem ownsRow_base {w : World} {base base' : Nat} {e : TypeId} {size : Nat} {v : Value} {n : Nat} {xs : List Value} (h : w.ownsRow base e size v n xs) (hb : base' ≤ base) : w.ownsRow base' e size v n xs := by
  obtain ⟨h1, h2⟩ := h
  refine ⟨h1, ?_⟩
  rcases h2 with h2 | ⟨g, cap, cur, hv, hg, r⟩
  · exact .inl h2
  · exact .inr ⟨g, cap, cur, hv, by omega, r⟩
theorem ScanInv.start (w : World) : ScanInv w.heap.size w ((w.alloc (.cells #[.slice none 0 0] 272)).alloc (.cells #[.int .i64 0, .int .i64 0] 289)) (.slice none 0 0) [] where
  cl := by simp [go_sem, World.cell?_alloc_past]
  own := World.ownsRow_nil _ _ _ _
  fl := by simp [go_sem]
  g0 := by simp [go_sem]
  g1 := by simp [go_sem]
  f0 := by simp [go_sem]
  f1 := by simp [go_sem]
  bel := ((Below.refl _ _).alloc (Nat.le_refl _) _).alloc (by simp) _
  size := by simp
def ScanEnd(L:List UInt8)(w:World)(e:Ending)(w':World):Prop:=
 ∃v,e=.returned (.tuple #[v, .agg #[.int .i64 ((Tk.scan L).2.1:Nat), .int .i64 (Tk.scan L).2.2]])∧w'.ownsRow w.heap.size 271 3 v (Tk.scan L).1.length (allCells (Tk.scan L).1)∧Below w.heap.size w w'
theorem scan_gives{w w1:World}{v:Value}{acc:List Tk.Tok}(h:ScanInv w.heap.size w w1 v acc)(L:List UInt8)(p:Nat)(c:Int)(hL:Tk.scan L=([],p,c))(tmps:Array Value)
 (h2:tmps[2]?=some (.pointer (some ⟨w.heap.size,0,none⟩))) (h3:tmps[3]?=some (.pointer (some ⟨w.heap.size+1,0,none⟩))):
 Leaves Tryz.prog Tryz.f247 tmps (ScanEnd L w) [{target:=.fn (.func 249) #[.pointer (some ⟨w.heap.size,0,none⟩), .pointer (some ⟨w.heap.size+1,0,none⟩)],args:=#[]}]
  (.panicking [{v:=.iface 289 (.agg #[.int .i64 p, .int .i64 c]),recovered:=false}]) w1:=by
 refine leaves_cons (f:=249) (args:=#[.pointer (some ⟨w.heap.size,0,none⟩), .pointer (some ⟨w.heap.size+1,0,none⟩)]) sI (by simp[go_sem]) ?_;refine(catch_panicking w.heap.size (w.heap.size+1) w.heap.size _ _ _ p c [] w1 h.cl h.fl h.g0 h.g1 h.f0 h.f1 (Nat.le_refl _) oM).mono ?_;rintro e u' w2 ⟨rfl,rfl,k1,k2,k3,hb⟩;(have hres:(results Tryz.f247 tmps).run Tryz.prog w2=.ok (.tuple #[.slice none 0 0, .agg #[.int .i64 p, .int .i64 c]]) w2:=by simp[results,Tryz.results247,go_sem,h2,h3,k1,k2,k3]);refine⟨_,hres, .slice none 0 0,?_,?_,h.bel.trans hb⟩
 ·rw[hL]
 rw[hL];exact World.ownsRow_nil _ _ _ _
theorem scan_done{w wr:World}{v:Value}{acc:List Tk.Tok}(h:ScanInv w.heap.size w wr v acc)(L:List UInt8)(hL:Tk.scan L=(acc,0,0))(tmps:Array Value)
 (h2:tmps[2]?=some (.pointer (some ⟨w.heap.size,0,none⟩))) (h3:tmps[3]?=some (.pointer (some ⟨w.heap.size+1,0,none⟩))):
 Leaves Tryz.prog Tryz.f247 tmps (ScanEnd L w) [{target:=.fn (.func 249) #[.pointer (some ⟨w.heap.size,0,none⟩), .pointer (some ⟨w.heap.size+1,0,none⟩)],args:=#[]}]
  .returning (((wr.setCell ⟨w.heap.size,0,none⟩ v).setCell ⟨w.heap.size+1,0,none⟩ (.int .i64 0)).setCell ⟨w.heap.size+1,1,none⟩ (.int .i64 0)):=by
 refine leaves_cons (f:=249) (args:=#[.pointer (some ⟨w.heap.size,0,none⟩), .pointer (some ⟨w.heap.size+1,0,none⟩)]) sI (by simp[go_sem]) ?_;refine(catch_idle _ _ _).mono ?_;rintro e u' w2 ⟨rfl,rfl,rfl⟩;have c0:=h.cl;have c1:=h.g0;have c2:=h.g1
 have hres:(results Tryz.f247 tmps).run Tryz.prog (((wr.setCell ⟨w.heap.size,0,none⟩ v).setCell ⟨w.heap.size+1,0,none⟩ (.int .i64 0)).setCell ⟨w.heap.size+1,1,none⟩ (.int .i64 0))=
  .ok (.tuple #[v, .agg #[.int .i64 0, .int .i64 0]]) (((wr.setCell ⟨w.heap.size,0,none⟩ v).setCell ⟨w.heap.size+1,0,none⟩ (.int .i64 0)).setCell ⟨w.heap.size+1,1,none⟩ (.int .i64 0)):=by
  simp[results,Tryz.results247,go_sem,h2,h3,c0,c1,c2]
 refine⟨_,hres,v,?_,?_,?_⟩
 ·rw[hL];rfl
 ·rw[hL];exact ownsRow_base (ownsRow_setCell_below (ownsRow_setCell_below (ownsRow_setCell_below h.own sI _) sI _) sI _) oM
 exact((h.bel.setCell (p:=⟨w.heap.size,0,none⟩) (Nat.le_refl _) _).setCell (p:=⟨w.heap.size+1,0,none⟩) (Nat.le_succ _) _).setCell (p:=⟨w.heap.size+1,1,none⟩) (Nat.le_succ _) _
theorem scan_long(s:ByteArray)(w:World)(hs:5000<s.size):Calls Tryz.prog 247 #[.string s] w (ScanEnd s.data.toList w):=by
 have hmf:∀(fn:Fn)(first cap:Array Value)(w:World),(Instr.makeFunc fn first cap).run Tryz.prog w=.ok (.func fn first cap) w:=fun _ _ _ _=>rfl
 go_enter_defers Tryz.func247,Tryz.ntmps247
 go_wp2_with fail;refine scan_gives (ScanInv.start w) s.data.toList 0 2 ?_ _ rfl rfl;unfold Tk.scan;rw[if_pos (by simpa using hs)]
theorem skip_sum(s:ByteArray)(p n:Nat)(w:World)(hs:s.size≤281474976710656)(ha:p+n≤s.size):
 Calls Tryz.prog 250 #[.string s, .int .i64 ((p:Int)+(n:Int))] w fun e w'=>e=.returned (.int .i64 ((p+n+Tk.sep false (s.data.toList.drop (p+n)):Nat):Int))∧w'=w:=by
 have h:=skip_any s (p+n) w hs ha;rw[show((p+n:Nat):Int)=(p:Int)+(n:Int)from by omega]at h;exact h
theorem A_info34:(Tryz.prog.info? 271).map (fun i=>(i.zero,i.size,i.bytes))=some (some (.agg #[.int .i64 0, .int .i64 0, .string ⟨#[]⟩]),3,32):=kR
theorem scan_short(s:ByteArray)(w:World)(hs:s.size≤5000):Calls Tryz.prog 247 #[.string s] w (ScanEnd s.data.toList w):=by
 obtain⟨i0,hi,hz0,hz1,hz2⟩:=info_parts A_info34;have hmf:∀(fn:Fn)(first cap:Array Value)(w:World),(Instr.makeFunc fn first cap).run Tryz.prog w=.ok (.func fn first cap) w:=fun _ _ _ _=>rfl;have hse:=sep_end_le false s 0 oM;rw[List.drop_zero]at hse;have hst:=ScanInv.start w
 go_enter_defers Tryz.func247,Tryz.ntmps247
 go_wp2_with fail;refine(skip_any s 0 _ oM oM).mono ?_;rintro e w1 ⟨he,rfl⟩;rw[List.drop_zero]at he;subst he;go_wp2_with fail
 go_loopw [4] (fun i wr=>∃(f p:Nat)(acc:List Tk.Tok)(v:Value),p≤s.size∧s.size≤p+f∧acc.length≤p∧i=.int .i64 p∧Tk.scanP s.data.toList f p acc=Tk.scan s.data.toList∧ScanInv w.heap.size w wr v acc)
  (fun i _=>s.size-(intOf i).toNat)
 case atStart=>
  refine⟨s.size,Tk.sep false s.data.toList,[], .slice none 0 0,oM,oM,Nat.zero_le _,?_,?_,hst⟩
  ·go_num
  unfold Tk.scan;rw[if_neg (by simpa using hs)];rfl
 case round=>
  obtain⟨f,p,acc,v,hp,hpf,hacc,rfl,hscan,hinv⟩:=hrel;have HS:Hid (Tk.scanP s.data.toList f p acc=Tk.scan s.data.toList):=hscan;clear hscan hst;obtain⟨ao,cap,rfl⟩:=own_slice hinv.own;by_cases hlt:p<s.size
  ·by_cases he:Tk.errOf (s.data.toList.drop p)=0
   ·go_wp2_with fail;refine(tokenAt_yes s p _ oM hlt he).mono ?_;rintro e w1 ⟨rfl,hb1⟩;have hinv1:=hinv.below hb1;have hz:=hinv1.size;have c0:∀o,(w1.alloc o).cell? ⟨w.heap.size,0,none⟩=some (.slice ao acc.length cap):=fun o=>(hinv1.alloc o).cl;have hlen:=Tk.lenOf_le (s.data.toList.drop p);have hpos:=Tk.lenOf_pos (s.data.toList.drop p) (by rw[drop_at s p hlt];simp) he;(have hdl:(s.data.toList.drop p).length=s.size-p:=by simp);obtain⟨f,rfl⟩:∃f',f=f'+1:=⟨f-1,oM⟩
    have HN:Hid (Tk.scanP s.data.toList f (p+Tk.lenOf (s.data.toList.drop p)+Tk.sep false (s.data.toList.drop (p+Tk.lenOf (s.data.toList.drop p)))) (acc++[Tk.tokAt s.data.toList p])=Tk.scan s.data.toList):=
     (Tk.scanP_yes _ _ _ _ (by simpa using hlt) he).symm.trans HS.out
    (have hTl:(Tk.tokAt s.data.toList p).text.length=Tk.lenOf (s.data.toList.drop p):=by simp only[Tk.tokAt,List.length_take];omega);have hse2:=sep_end_le false s (p+Tk.lenOf (s.data.toList.drop p)) oM;generalize Tk.tokAt s.data.toList p=T at *;rw[←hTl]at HN hse2 hlen hpos;clear hTl HS hse hdl;go_wp2_with(at_builtin;refine wpList_append_own _ rfl (.tmp 21) (.tmp 23) 272 rfl (w.heap.size+2) 271 i0 _ 3 32 Tryz.underlying272 hi hz0 hz1 hz2 rfl dE _ _ _ rfl ((hinv1.alloc _).alloc _).own ⟨w1.heap.size+1,0,none⟩ 1 1 (tokCells T) rfl rfl ?c1 ?c2 ?c3 ?c4 ?c5 ?_)
    case c1=>
     intro j u hj
     match j,hj with
     |0,hj=>simp[tokCells]at hj;subst hj;simp[Addr.add,go_sem]
     |1,hj=>simp[tokCells]at hj;subst hj;simp[Addr.add,go_sem]
     |2,hj=>simp[tokCells]at hj;subst hj;simp[Addr.add,go_sem]
    (case c2=>intro u hu;simp[tokCells]at hu;rcases hu with rfl|rfl|rfl<;>rfl);(case c3=>unfold maxLen;omega);(case c4=>omega);(case c5=>simp;omega);intro v' w2 hown hgrow _;obtain⟨ao',cap',rfl⟩:=own_slice hown;obtain⟨k1,k2,k3⟩:=hinv1.after hgrow;have k4:=k3 2;simp[go_sem,World.cell?_alloc_past]at k4;have hinv2:=((hinv1.alloc _).alloc _).grown hgrow (acc':=acc++[T]) (by rw[allCells_snoc,List.length_append];exact hown);clear hgrow hown k3 hinv1 hinv c0 hi hz0 hz1 hz2;go_wp2_with fail;refine(skip_sum s p T.text.length _ oM oM).mono ?_;rintro e w3 ⟨rfl,rfl⟩;go_wp2;go_roundw;(case rel=>exact⟨f,_,acc++[T],_,hse2,oM,by rw[List.length_append];simp;omega,gN,HN.out,hinv2⟩);case measure=>exact mI
   go_wp2_with fail;refine(tokenAt_no s p _ oM hlt he).mono ?_;rintro e w1 ⟨rfl,hb1⟩;go_wp2_with fail;refine scan_gives (hinv.below hb1) s.data.toList p _ ?_ _ rfl rfl;exact HS.out.symm.trans (Tk.scanP_no _ _ _ _ (by simpa using hlt) (by simpa using hpf) he)
  have c0:=hinv.cl;have c1:=hinv.g0;have c2:=hinv.g1;have fl:=hinv.fl;have f0:=hinv.f0;have f1:=hinv.f1;go_wp2_with fail;exact scan_done hinv s.data.toList (HS.out.symm.trans (Tk.scanP_end _ _ _ _ sO)) _ rfl rfl
theorem scan_any(s:ByteArray)(w:World):Calls Tryz.prog 247 #[.string s] w (ScanEnd s.data.toList w):=by
 by_cases h:5000<s.size
 ·exact scan_long s w h
 exact scan_short s w oM
theorem ownsRow_drewN{w:World}{base:Nat}{e:TypeId}{size:Nat}{v:Value}{n:Nat}{xs:List Value}(h:w.ownsRow base e size v n xs)(k:Nat):(w.drewN k).ownsRow base e size v n xs:=h
def ScanTop(L:List UInt8)(w:World)(e:Ending)(w':World):Prop:=
 ∃ao cap,e=.returned (.tuple #[.slice ao (Tk.scan L).1.length cap, .int .i64 ((Tk.scan L).2.1:Nat), .int .i64 (Tk.scan L).2.2])∧w'.ownsRow w.heap.size 271 3 (.slice ao (Tk.scan L).1.length cap) (Tk.scan L).1.length (allCells (Tk.scan L).1)∧Below w.heap.size w w'
theorem Scan_any(s:ByteArray)(w:World):Calls Tryz.prog 245 #[.string s] w (ScanTop s.data.toList w):=by
 go_enter Tryz.func245,Tryz.ntmps245
 go_wp2_with fail;refine(scan_any s _).mono ?_;rintro e w1 ⟨v,rfl,hown,hb⟩;obtain⟨ao,cap,rfl⟩:=own_slice hown;have hown2:∀o,(w1.alloc o).ownsRow w.heap.size 271 3 (.slice ao (Tk.scan s.data.toList).1.length cap) (Tk.scan s.data.toList).1.length (allCells (Tk.scan s.data.toList).1):=fun o=>hown.alloc o;have hz:=hb.size;have hb2:∀o,Below w.heap.size w (w1.alloc o):=fun o=>hb.alloc hz o;go_wp2;go_quiet(fail);go_wp2;go_ret3;exact⟨ao,cap,rfl,ownsRow_drewN (hown2 _) _,below_drewN (hb2 _) _⟩


theorem tok_cases(c:UInt8)(r:List UInt8):
 (Tk.lenOf (c::r)=0∧Tk.errOf (c::r)=1)∨
 (1≤Tk.lenOf (c::r)∧(Tk.kindOf (c::r)=1∨Tk.kindOf (c::r)=2)∧12<Tk.lenOf (c::r)∧Tk.errOf (c::r)=2)∨
 (1≤Tk.lenOf (c::r)∧(Tk.kindOf (c::r)=1∨Tk.kindOf (c::r)=2)∧Tk.lenOf (c::r)≤12∧Tk.errOf (c::r)=0)∨
 (1≤Tk.lenOf (c::r)∧Tk.kindOf (c::r)=3∧7<Tk.lenOf (c::r)∧Tk.errOf (c::r)=2)∨
 (1≤Tk.lenOf (c::r)∧Tk.kindOf (c::r)=3∧1<Tk.lenOf (c::r)∧Tk.lenOf (c::r)≤7∧(c.toNat:Int)=48∧Tk.errOf (c::r)=1)∨
 (1≤Tk.lenOf (c::r)∧Tk.kindOf (c::r)=3∧Tk.lenOf (c::r)≤1∧Tk.errOf (c::r)=0)∨
 (1≤Tk.lenOf (c::r)∧Tk.kindOf (c::r)=3∧1<Tk.lenOf (c::r)∧Tk.lenOf (c::r)≤7∧¬(c.toNat:Int)=48∧Tk.errOf (c::r)=0)∨
 (1≤Tk.lenOf (c::r)∧Tk.kindOf (c::r)=4∧Tk.errOf (c::r)=0):=by
 rw[lenOf_cons,kindOf_cons,errOf_cons];have pw:(Tk.small c.toNat||Tk.great c.toNat)=true→1≤Tk.pre Tk.alnum (c::r):=fun h=>Tk.pre_pos (by unfold Tk.alnum;rw[h];rfl);have pd:Tk.digit c.toNat=true→1≤Tk.pre Tk.digit (c::r):=fun h=>Tk.pre_pos h;cases h1:Tk.small c.toNat
 ·cases h2:Tk.great c.toNat
  ·cases h3:Tk.digit c.toNat
   ·simp only[Bool.or_self,Bool.false_eq_true,if_false];by_cases h:Tk.signLen (c::r)=0
    ·exact .inl ⟨h,by rw[if_pos h]⟩
    exact .inr (.inr (.inr (.inr (.inr (.inr (.inr ⟨oM,trivial,by rw[if_neg h]⟩))))))
   have p3:=pd h3;simp only[Bool.or_self,Bool.false_eq_true,if_false,if_true];by_cases h:Tk.pre Tk.digit (c::r)>7
   ·exact .inr (.inr (.inr (.inl ⟨p3,trivial,h,by rw[if_pos h]⟩)))
   by_cases h':Tk.pre Tk.digit (c::r)>1
   ·by_cases h4:(c.toNat:Int)=48
    ·exact .inr (.inr (.inr (.inr (.inl ⟨p3,trivial,h',oM,h4,by rw[if_neg h,if_pos ⟨h4,h'⟩]⟩))))
    exact .inr (.inr (.inr (.inr (.inr (.inr (.inl ⟨p3,trivial,h',oM,h4,by rw[if_neg h,if_neg (fun x=>h4 x.1)]⟩))))))
   exact .inr (.inr (.inr (.inr (.inr (.inl ⟨p3,trivial,oM,by rw[if_neg h,if_neg (fun x=>h' x.2)]⟩)))))
  have p2:=pw (by rw[h1,h2];rfl);simp only[Bool.or_true,Bool.false_eq_true,if_false,if_true];by_cases h:Tk.pre Tk.alnum (c::r)>12
  ·exact .inr (.inl ⟨p2, .inr trivial,h,by rw[if_pos h]⟩)
  exact .inr (.inr (.inl ⟨p2, .inr trivial,oM,by rw[if_neg h]⟩))
 have p1:=pw (by rw[h1];rfl);simp only[Bool.true_or,if_true];by_cases h:Tk.pre Tk.alnum (c::r)>12
 ·exact .inr (.inl ⟨p1, .inl trivial,h,by rw[if_pos h]⟩)
 exact .inr (.inr (.inl ⟨p1, .inl trivial,oM,by rw[if_neg h]⟩))
theorem ret_bool{a b:Bool}(h:a=b):Ending.returned (.bool a)=.returned (.bool b):=by rw[h]
def TokIn(w:World)(b off:Nat)(t:Tk.Tok):Prop:=
 w.cell? ⟨b,off,none⟩=some (.int .i64 t.kind)∧w.cell? ⟨b,off+1,none⟩=some (.int .i64 t.at_)∧w.cell? ⟨b,off+2,none⟩=some (.string ⟨t.text.toArray⟩)
def tokD(l:List Tk.Tok)(i:Nat):Tk.Tok:=l.getD i ⟨0,0,[]⟩
theorem allCells_get:∀(l:List Tk.Tok)(i j:Nat),i<l.length→j<3→(allCells l)[i*3+j]?=(tokCells (tokD l i))[j]?:=by
 intro l
 induction l with
 |nil=>intro i j h;exact absurd h sI
 |cons t r ih=>
  intro i j hi hj;(have e:allCells (t::r)=tokCells t++allCells r:=by simp[allCells]);have hl:(tokCells t).length=3:=rfl;rw[e]
  cases i with
  |zero=>rw[Nat.zero_mul,Nat.zero_add,List.getElem?_append_left oM];rfl
  |succ i=>
   rw[List.getElem?_append_right oM,hl,show(i+1)*3+j-3=i*3+j from by omega,ih i j (by simpa using hi) hj];rfl
def ToksAt(w:World)(ao:Option Addr)(l:List Tk.Tok):Prop:=
 l=[]∨∃b off,ao=some ⟨b,off,none⟩∧∀i,i<l.length→TokIn w b (off+i*3) (tokD l i)
theorem toksAt_own{w:World}{base n:Nat}{ao:Option Addr}{cap:Nat}{l:List Tk.Tok}(h:w.ownsRow base 271 3 (.slice ao n cap) n (allCells l)):ToksAt w ao l:=by
 rcases h.2 with⟨hv,h0⟩|⟨g,cap',cur,hv,hg,hbk,r⟩
 ·left;have h1:=h.1;rw[h0,allCells_length]at h1;exact List.eq_nil_of_length_eq_zero oM
 right;(have hv':ao=some ⟨g,0,none⟩:=by injection hv);subst hv';refine⟨g,0,rfl,fun i hi=>?_⟩;have hc:=h.cells (g:=g) rfl;have hget:∀j,j<3→(allCells l)[i*3+j]?=(tokCells (tokD l i))[j]?:=fun j hj=>allCells_get l i j hi hj;(have hadd:∀k,((⟨g,0,none⟩:Addr).add k)=⟨g,0+k,none⟩:=fun _=>by simp[Addr.add];exact fun h=>h.symm);refine⟨?_,?_,?_⟩
 ·have :=hc (i*3+0) _ ((hget 0 oM).trans rfl);rw[hadd]at this;simpa using this
 ·have :=hc (i*3+1) _ ((hget 1 oM).trans rfl);rw[hadd]at this;simpa[Nat.add_assoc]using this
 have :=hc (i*3+2) _ ((hget 2 oM).trans rfl);rw[hadd]at this;simpa[Nat.add_assoc]using this
namespace Tk
def alone(k:Int)(t:List UInt8):Bool:=((scan t).2.2==0)&&(((scan t).1.length:Int)==1)&&((tokD (scan t).1 0).kind==k)&&((tokD (scan t).1 0).text==t)
def isTok(k:Int)(t:List UInt8):Bool:=decide (t≠[]∧t.length≤5000∧errOf t=0∧kindOf t=k∧lenOf t=t.length)
end Tk
theorem sep_zero(c:UInt8)(r:List UInt8)(he:Tk.errOf (c::r)=0):Tk.sep false (c::r)=0:=by
 have h:=tok_cases c r;have hk:¬((c.toNat:Int)=37∨(c.toNat:Int)=32∨(c.toNat:Int)=9∨(c.toNat:Int)=10):=by
  intro hc;(have h1:Tk.small c.toNat=false:=by unfold Tk.small;rcases hc with h|h|h|h<;>rw[h]<;>rfl);(have h2:Tk.great c.toNat=false:=by unfold Tk.great;rcases hc with h|h|h|h<;>rw[h]<;>rfl);(have h3:Tk.digit c.toNat=false:=by unfold Tk.digit;rcases hc with h|h|h|h<;>rw[h]<;>rfl);have h4:Tk.signLen (c::r)=0:=by
   have hn:c.toNat=37∨c.toNat=32∨c.toNat=9∨c.toNat=10:=oM;have hc':c=37∨c=32∨c=9∨c=10:=by
    rcases hn with h|h|h|h
    ·exact .inl (UInt8.toNat_inj.1 h)
    ·exact .inr (.inl (UInt8.toNat_inj.1 h))
    ·exact .inr (.inr (.inl (UInt8.toNat_inj.1 h)))
    exact .inr (.inr (.inr (UInt8.toNat_inj.1 h)))
   rcases hc' with rfl|rfl|rfl|rfl<;>simp[Tk.signLen,Tk.isSign,List.isPrefixOf]
  rw[errOf_cons,h1,h2,h3]at he;simp[h4]at he
 rw[Tk.sep,if_neg (fun h=>hk (.inl h)),if_neg (fun h=>hk (.inr h))]
theorem isTok_scan(k:Int)(t:List UInt8)(h:Tk.isTok k t=true):Tk.scan t=([{kind:=k,at_:=0,text:=t}],0,0):=by
 have h:=of_decide_eq_true h;obtain⟨h1,h2,h3,h4,h5⟩:=h
 match t,h1 with
 |c::r,_=>
  unfold Tk.scan;rw[if_neg oM,sep_zero c r h3];have hl:(c::r).length=r.length+1:=rfl;rw[hl,Tk.scanP,if_neg sI,List.drop_zero,if_pos h3,Tk.scanP_end _ _ _ _ oM];simp only[List.nil_append,Tk.tokAt,List.drop_zero,h4,h5];rw[List.take_length];rfl
theorem alone_of_isTok(k:Int)(t:List UInt8)(h:Tk.isTok k t=true):Tk.alone k t=true:=by unfold Tk.alone;rw[isTok_scan k t h];simp[tokD]
theorem scanP_front(L:List UInt8):∀(f p:Nat)(acc:List Tk.Tok),(Tk.scanP L f p acc).2.2=0→∃r,(Tk.scanP L f p acc).1=acc++r:=by
 intro f
 induction f with
 |zero=>intro p acc _;exact⟨[],by simp[Tk.scanP]⟩
 |succ f ih=>
  intro p acc h;rw[Tk.scanP]at h ⊢;split
  ·exact⟨[],by simp⟩
  rename_i h1;rw[if_neg h1]at h;split
  ·rename_i h2;rw[if_pos h2]at h;obtain⟨r,hr⟩:=ih _ _ h;exact⟨Tk.tokAt L p::r,by rw[hr];simp⟩
  rename_i h2;rw[if_neg h2]at h;exact absurd h h2
theorem isTok_of_alone(k:Int)(t:List UInt8)(h:Tk.alone k t=true):Tk.isTok k t=true:=by
 unfold Tk.alone at h;simp only[Bool.and_eq_true,beq_iff_eq]at h;obtain⟨⟨⟨h1,h2⟩,h3⟩,h4⟩:=h;have hl:t.length≤5000:=by
  by_cases hh:5000<t.length
  ·exfalso;rw[Tk.scan,if_pos hh]at h1;exact absurd h1 dE
  omega
 (have hs:Tk.scan t=Tk.scanP t t.length (Tk.sep false t) []:=by rw[Tk.scan,if_neg oM]);have hsl:=Tk.sep_le false t;rw[hs]at h1 h2 h3 h4;generalize hp:Tk.sep false t=p at *;have hlt:p<t.length:=by
  rcases Nat.lt_or_ge p t.length with hh|hh
  ·exact hh
  exfalso;rw[Tk.scanP_end _ _ _ _ hh]at h2;exact absurd h2 dE
 have he:Tk.errOf (t.drop p)=0:=by
  by_cases hh:Tk.errOf (t.drop p)=0
  ·exact hh
  exfalso;rw[Tk.scanP_no _ _ _ _ hlt oM hh]at h1;exact hh h1
 obtain⟨f,hf⟩:∃f,t.length=f+1:=⟨t.length-1,oM⟩;rw[hf,Tk.scanP_yes _ _ _ _ hlt he]at h1 h3 h4;obtain⟨r,hr⟩:=scanP_front t _ _ _ h1;rw[hr]at h3 h4;have e3:(Tk.tokAt t p).kind=k:=h3;have e4:(Tk.tokAt t p).text=t:=h4;have e5:(t.drop p).take (Tk.lenOf (t.drop p))=t:=e4;have e6:=congrArg List.length e5;rw[List.length_take,List.length_drop]at e6;have p0:p=0:=oM;subst p0;rw[List.drop_zero]at e6 he;(have e7:Tk.kindOf t=k:=by have :=e3;rw[Tk.tokAt,List.drop_zero]at this;exact this);have hle:=Tk.lenOf_le t;refine decide_eq_true ⟨?_,hl,he,e7,oM⟩;intro hn;rw[hn]at hlt;exact absurd hlt sI
theorem alone_eq(k:Int)(t:List UInt8):Tk.alone k t=Tk.isTok k t:=by rw[Bool.eq_iff_iff];exact⟨isTok_of_alone k t,alone_of_isTok k t⟩
end Go.Proofs.YthenjegmigeieaaGreat
namespace Go.Proofs.YthenjegmigeieaaGreat
namespace Tr
structure Term where
 var:List UInt8
 n:Int
structure Lit where
 kind:Int
 at_:Int
 op:Int
 name:List UInt8
 terms:List Term
structure Rule where
 at_:Int
 name:List UInt8
 terms:List Term
 fold:Int
 body:List Lit
def foldOf(s:List UInt8):Int:=
 if s==[99,111,117,110,116] then 1 else if s==[115,117,109] then 2 else if s==[108,101,97,115,116] then 3 else if s==[109,111,115,116] then 4 else 0
def isWord(s:List UInt8):Bool:=(s==[110,111,116])||(foldOf s != 0)
def isName(s:List UInt8):Bool:=Tk.isTok 1 s&& !isWord s
def between(n a b:Int):Bool:=decide (a≤n)&&decide (n≤b)
def termOk(t:Term):Bool:=if t.var.isEmpty then between t.n (-9999999) 9999999 else(t.n==0)&&Tk.isTok 2 t.var
def termsOk(l:List Term):Bool:=l.all termOk
def foldOk(f:Int)(terms body:Nat):Bool:=(f==0)||(between f 1 4&&decide (0<terms)&&decide (0<body))
def litOk(l:Lit):Bool:=
 termsOk l.terms&&(if l.kind=1∨l.kind=2 then(l.op==0)&&isName l.name
  else if l.kind=3 then between l.op 1 4&&l.name.isEmpty&&((l.terms.length:Int)==2)
  else if l.kind=4 then between l.op 5 7&&l.name.isEmpty&&((l.terms.length:Int)==3)else false)
def litsOk(l:List Lit):Bool:=l.all litOk
def ruleOk(r:Rule):Bool:=isName r.name&&termsOk r.terms&&foldOk r.fold r.terms.length r.body.length&&litsOk r.body
def litsMany(l:List Lit):Bool:=l.any fun x=>decide (3<x.terms.length)
def ruleMany(r:Rule):Bool:=decide (4<r.body.length)||decide (3<r.terms.length)||litsMany r.body
def many(l:List Rule):Bool:=decide (12<l.length)||l.any ruleMany
def check(l:List Rule):Int:=if many l then 2 else if l.all ruleOk then 0 else 1
def termD(l:List Term)(i:Nat):Term:=l.getD i ⟨[],0⟩
def litD(l:List Lit)(i:Nat):Lit:=l.getD i ⟨0,0,0,[],[]⟩
def ruleD(l:List Rule)(i:Nat):Rule:=l.getD i ⟨0,[],[],0,[]⟩
end Tr
theorem all_drop{α:Type}(p:α→Bool)(l:List α)(d:α)(k:Nat)(h:k<l.length):(l.drop k).all p=(p (l.getD k d)&&(l.drop (k+1)).all p):=by rw[List.drop_eq_getElem_cons h,List.all_cons,List.getD_eq_getElem?_getD,List.getElem?_eq_getElem h];rfl
theorem any_drop{α:Type}(p:α→Bool)(l:List α)(d:α)(k:Nat)(h:k<l.length):(l.drop k).any p=(p (l.getD k d)||(l.drop (k+1)).any p):=by rw[List.drop_eq_getElem_cons h,List.any_cons,List.getD_eq_getElem?_getD,List.getElem?_eq_getElem h];rfl
end Go.Proofs.YthenjegmigeieaaGreat
namespace Go.Proofs.YthenjegmigeieaaGreat
namespace Sc
structure Term where
 var:Int
 n:Int
structure Lit where
 kind:Int
 op:Int
 pred:Int
 terms:List Term
structure Rule where
 pred:Int
 terms:List Term
 fold:Int
 body:List Lit
 vars:Int
structure Prog where
 arity:List Int
 names:List (List UInt8)
 rules:List Rule
def termD(l:List Term)(i:Nat):Term:=l.getD i ⟨0,0⟩
def litD(l:List Lit)(i:Nat):Lit:=l.getD i ⟨0,0,0,[]⟩
def ruleD(l:List Rule)(i:Nat):Rule:=l.getD i ⟨0,[],0,[],0⟩
def intD(l:List Int)(i:Nat):Int:=l.getD i 0
def strD(l:List (List UInt8))(i:Nat):List UInt8:=l.getD i []
def first{α:Type}(f:α→Int):List α→Int
 |[]=>0
 |x::r=>if f x=0 then first f r else f x
def thn(a b:Int):Int:=if a=0 then b else a
def isNum(n:Int):Bool:=Tr.between n (-1000000) 1000000
def termErr(vars:Int)(t:Term):Int:=
 if Tr.between t.var (-1) (vars-1)then(if !isNum t.n||(decide (0≤t.var)&&t.n != 0)then 3 else 0)else 5
def termsErr(vars:Int)(l:List Term):Int:=first (termErr vars) l
def isPred(ar:List Int)(k:Int):Bool:=Tr.between k 0 ((ar.length:Int)-1)
def litErr(ar:List Int)(l:Lit):Int:=
 if l.kind=1∨l.kind=2 then
  (if l.op≠0 then 3 else if isPred ar l.pred then(if(l.terms.length:Int)≠intD ar l.pred.toNat then 1 else 0)else 5)
 else if l.kind=3 then(if Tr.between l.op 1 4 then(if l.pred≠0∨¬l.terms.length=2 then 1 else 0)else 3)
 else if l.kind=4 then(if Tr.between l.op 5 7 then(if l.pred≠0∨¬l.terms.length=3 then 1 else 0)else 3)
 else 7
def litAll(ar:List Int)(vars:Int)(l:Lit):Int:=thn (litErr ar l) (termsErr vars l.terms)
def known(b:List Bool)(t:Term):Bool:=decide (t.var<0)||b.getD t.var.toNat false
def bind1(b:List Bool)(t:Term):List Bool:=if 0≤t.var then b.set t.var.toNat true else b
def bindAll(b:List Bool)(l:List Term):List Bool:=l.foldl bind1 b
def binds(b:List Bool)(l:Lit):List Term:=
 if l.kind=1 then l.terms else if l.kind=4∧known b (termD l.terms 0)=true∧known b (termD l.terms 1)=true then l.terms.drop 2 else []
def bindLit(b:List Bool)(l:Lit):List Bool:=bindAll b (binds b l)
def round(body:List Lit)(b:List Bool):List Bool:=body.foldl bindLit b
def rounds(body:List Lit):Nat→List Bool→List Bool
 |0,b=>b
 |n+1,b=>rounds body n (round body b)
def safe(r:Rule):Bool:=(rounds r.body r.body.length (List.replicate r.vars.toNat false)).all id
def ruleErr(ar:List Int)(r:Rule):Int:=
 if isPred ar r.pred then
  thn (if(r.terms.length:Int)≠intD ar r.pred.toNat then 1 else 0) (
  thn (if Tr.between r.vars 0 8 then 0 else 3) (
  thn (termsErr r.vars r.terms) (
  thn (if Tr.between r.fold 0 4 then 0 else 7) (
  thn (if r.fold≠0∧(r.terms.length=0∨r.body.length=0)then 1 else 0) (
  thn (if 4<r.body.length then 2 else 0) (
  thn (first (litAll ar r.vars) r.body) (if safe r then 0 else 4)))))))
 else 5
def predErr(ar:List Int)(names:List (List UInt8))(i:Nat):Int:=
 thn (if Tr.between (intD ar i) 0 3 then 0 else 3) (thn (if Tr.isName (strD names i)then 0 else 1) (if(names.take i).contains (strD names i)then 6 else 0))
def check(p:Prog):Int:=
 if 10<p.arity.length∨12<p.rules.length then 2
 else if¬p.names.length=p.arity.length then 1
 else thn (first (predErr p.arity p.names) (List.range p.names.length)) (first (ruleErr p.arity) p.rules)
def factErr(p:Prog)(pred:Int)(args:List Int):Int:=
 if isPred p.arity pred then thn (if(args.length:Int)≠intD p.arity pred.toNat then 1 else 0) (if args.all isNum then 0 else 3)else 5
def fact(p:Prog)(pred:Int)(args:List Int):Int:=thn (check p) (factErr p pred args)
theorem thn_zero(b:Int):thn 0 b=b:=rfl
theorem thn_ne{a:Int}(b:Int)(h:¬a=0):thn a b=a:=by unfold thn;rw[if_neg h]
theorem first_drop{α:Type}(f:α→Int)(d:α)(l:List α)(k:Nat)(h:k<l.length):first f (l.drop k)=thn (f (l.getD k d)) (first f (l.drop (k+1))):=by rw[List.drop_eq_getElem_cons h,first,thn];simp[List.getD_eq_getElem?_getD,List.getElem?_eq_getElem h]
theorem known_le{b c:List Bool}(h:∀i:Nat,b.getD i false=true→c.getD i false=true)(t:Term)(hk:known b t=true):known c t=true:=by
 unfold known at hk ⊢;rcases Bool.or_eq_true _ _▸hk with h1|h1
 ·simp[h1]
 rw[h _ h1,Bool.or_true]
def Le(b c:List Bool):Prop:=b.length=c.length∧∀i:Nat,b.getD i false=true→c.getD i false=true
theorem Le.refl(b:List Bool):Le b b:=⟨rfl,fun _ h=>h⟩
theorem Le.trans{a b c:List Bool}(h:Le a b)(k:Le b c):Le a c:=⟨h.1.trans k.1,fun i hi=>k.2 i (h.2 i hi)⟩
theorem bind1_le(b:List Bool)(t:Term):Le b (bind1 b t):=by
 unfold bind1;split
 ·refine⟨by simp,fun i hi=>?_⟩;rw[List.getD_eq_getElem?_getD]at hi ⊢;rw[List.getElem?_set];split
  ·rename_i h;subst h;split
   ·rfl
   rename_i h2;rw[List.getElem?_eq_none oM]at hi;exact hi
  exact hi
 exact Le.refl b
theorem bindAll_le(l:List Term):∀b:List Bool,Le b (bindAll b l):=by
 induction l with
 |nil=>exact Le.refl
 |cons t r ih=>exact fun b=>(bind1_le b t).trans (ih (bind1 b t))
theorem bindLit_le(b:List Bool)(l:Lit):Le b (bindLit b l):=bindAll_le _ b
theorem round_le(body:List Lit):∀b:List Bool,Le b (round body b):=by
 induction body with
 |nil=>exact Le.refl
 |cons t r ih=>exact fun b=>(bindLit_le b t).trans (ih (bindLit b t))
def Has(b:List Bool)(l:List Term):Prop:=∀t,t∈l→0≤t.var→t.var.toNat<b.length→b.getD t.var.toNat false=true
theorem Has.le{b c:List Bool}{l:List Term}(h:Has b l)(k:Le b c):Has c l:=fun t ht h0 hl=>k.2 _ (h t ht h0 (by rw[k.1];exact hl))
theorem bind1_has{b:List Bool}{t:Term}(h:0≤t.var→t.var.toNat<b.length→b.getD t.var.toNat false=true):bind1 b t=b:=by
 unfold bind1;split
 ·rename_i h0;apply List.ext_getElem?;intro i;rw[List.getElem?_set];split
  ·rename_i hi;subst hi;split
   ·rename_i hl;have :=h h0 hl;rw[List.getD_eq_getElem?_getD,List.getElem?_eq_getElem hl]at this;rw[List.getElem?_eq_getElem hl];simp at this;rw[this]
   rename_i hl;rw[List.getElem?_eq_none oM]
  rfl
 rfl
theorem bindAll_has(l:List Term):∀{b:List Bool},Has b l→bindAll b l=b:=by
 induction l with
 |nil=>exact fun _=>rfl
 |cons t r ih=>
  intro b h;show bindAll (bind1 b t) r=b;rw[bind1_has (h t List.mem_cons_self)];exact ih fun x hx=>h x (List.mem_cons_of_mem _ hx)
theorem has_bind1(b:List Bool)(t:Term)(h0:0≤t.var)(hl:t.var.toNat<b.length):(bind1 b t).getD t.var.toNat false=true:=by unfold bind1;rw[if_pos h0,List.getD_eq_getElem?_getD,List.getElem?_set_self hl];rfl
theorem has_bindAll(l:List Term):∀b:List Bool,Has (bindAll b l) l:=by
 induction l with
 |nil=>exact fun _ t ht=>absurd ht sI
 |cons t r ih=>
  intro b x hx h0 hl;have hle:Le (bind1 b t) (bindAll (bind1 b t) r):=bindAll_le r _;rcases List.mem_cons.mp hx with rfl|hx
  ·refine hle.2 _ (has_bind1 b x h0 ?_);have h1:=(bind1_le b x).1;have h2:=hle.1;show x.var.toNat<b.length;rw[h1,h2];exact hl
  exact ih (bind1 b t) x hx h0 hl
def ready(b:List Bool)(l:Lit):Bool:=(l.kind==1)||((l.kind==4)&&known b (termD l.terms 0)&&known b (termD l.terms 1))
def out(l:Lit):List Term:=if l.kind=1 then l.terms else l.terms.drop 2
theorem binds_ready(b:List Bool)(l:Lit):binds b l=if ready b l then out l else []:=by
 unfold binds ready out;by_cases h1:l.kind=1
 ·simp[h1]
 by_cases h4:l.kind=4
 ·cases hk0:known b (termD l.terms 0)<;>cases hk1:known b (termD l.terms 1)<;>simp[h4]
 simp[h1,h4]
theorem round_fix(body:List Lit):∀(b:List Bool),(∀l,l∈body→ready b l=true→Has b (out l))→round body b=b:=by
 induction body with
 |nil=>exact fun _ _=>rfl
 |cons x r ih=>
  intro b h;have hx:bindLit b x=b:=by
   unfold bindLit;rw[binds_ready];split
   ·rename_i hr;exact bindAll_has _ (h x List.mem_cons_self hr)
   rfl
  show round r (bindLit b x)=b;rw[hx];exact ih b fun l hl=>h l (List.mem_cons_of_mem _ hl)
theorem rounds_fix(body:List Lit):∀(n:Nat)(b:List Bool),round body b=b→rounds body n b=b:=by
 intro n
 induction n with
 |zero=>exact fun _ _=>rfl
 |succ n ih=>intro b h;rw[rounds,h];exact ih b h
end Sc
end Go.Proofs.YthenjegmigeieaaGreat
namespace Go.Proofs.YthenjegmigeieaaGreat
namespace Rl
structure Fc where
 pred:Int
 args:List Int
def cmpI(a b:Int):Int:=if a<b then -1 else if b<a then 1 else 0
def cmpL:List Int→List Int→Int
 |[],[]=>0
 |[],_::_=> -1
 |_::_,[]=>1
 |a::x,b::y=>if cmpI a b=0 then cmpL x y else cmpI a b
def ord(f g:Fc):Int:=if cmpI f.pred g.pred=0 then cmpL f.args g.args else cmpI f.pred g.pred
theorem cmpI_zero{a b:Int}:cmpI a b=0↔a=b:=by
 unfold cmpI;split
 ·constructor
  ·intro h;exact absurd h (by decide)
  intro h;omega
 split
 ·constructor
  ·intro h;exact absurd h (by decide)
  intro h;omega
 constructor
 ·intro _;omega
 intro _;rfl
theorem cmpI_lt{a b:Int}:cmpI a b<0↔a<b:=by
 unfold cmpI;split
 ·constructor
  ·intro _;assumption
  intro _;decide
 split
 ·constructor
  ·intro h;exact absurd h (by decide)
  intro h;omega
 constructor
 ·intro h;exact absurd h (by decide)
 intro h;omega
theorem cmpI_flip(a b:Int):cmpI b a= -cmpI a b:=by
 unfold cmpI;by_cases h1:a<b
 ·rw[if_pos h1,if_neg (by omega),if_pos h1];rfl
 by_cases h2:b<a
 ·rw[if_pos h2,if_neg h1,if_pos h2]
 rw[if_neg h2,if_neg h1,if_neg h1,if_neg h2];rfl
theorem cmpI_self(a:Int):cmpI a a=0:=cmpI_zero.mpr rfl
theorem cmpL_zero:∀{x y:List Int},cmpL x y=0↔x=y:=by
 intro x
 induction x with
 |nil=>
  intro y
  cases y with
  |nil=>simp[cmpL]
  |cons b y=>simp[cmpL]
 |cons a x ih=>
  intro y
  cases y with
  |nil=>simp[cmpL]
  |cons b y=>
   simp only[cmpL];split
   ·rename_i h;rw[cmpI_zero]at h;rw[ih,h];simp
   rename_i h;constructor
   ·intro h2;exact absurd h2 h
   intro h2;injection h2 with h2 _;exact absurd (cmpI_zero.mpr h2) h
theorem cmpL_flip:∀(x y:List Int),cmpL y x= -cmpL x y:=by
 intro x
 induction x with
 |nil=>
  intro y
  cases y with
  |nil=>rfl
  |cons b y=>rfl
 |cons a x ih=>
  intro y
  cases y with
  |nil=>rfl
  |cons b y=>
   simp only[cmpL];by_cases h:cmpI a b=0
   ·rw[if_pos h,if_pos (by rw[cmpI_flip,h];rfl)];exact ih y
   rw[if_neg h,if_neg (by rw[cmpI_flip];omega)];exact cmpI_flip a b
theorem cmpL_trans:∀{x y z:List Int},cmpL x y<0→cmpL y z<0→cmpL x z<0:=by
 intro x
 induction x with
 |nil=>
  intro y z h1 h2
  cases y with
  |nil=>exact absurd h1 (by decide)
  |cons b y=>
   cases z with
   |nil=>exact absurd (show(1:Int)<0 from h2) (by decide)
   |cons c z=>show(-1:Int)<0;decide
 |cons a x ih=>
  intro y z h1 h2
  cases y with
  |nil=>exact absurd (show(1:Int)<0 from h1) (by decide)
  |cons b y=>
   cases z with
   |nil=>exact absurd (show(1:Int)<0 from h2) (by decide)
   |cons c z=>
    simp only[cmpL]at h1 h2 ⊢;by_cases e1:cmpI a b=0
    ·rw[if_pos e1]at h1;rw[cmpI_zero]at e1;subst e1;by_cases e2:cmpI a c=0
     ·rw[if_pos e2]at h2 ⊢;exact ih h1 h2
     rw[if_neg e2]at h2 ⊢;exact h2
    rw[if_neg e1,cmpI_lt]at h1;by_cases e2:cmpI b c=0
    ·rw[cmpI_zero]at e2;subst e2;rw[if_neg e1,cmpI_lt];exact h1
    rw[if_neg e2,cmpI_lt]at h2;rw[if_neg (by rw[cmpI_zero];omega),cmpI_lt];omega
theorem ord_zero{f g:Fc}:ord f g=0↔f=g:=by
 obtain⟨p,x⟩:=f;obtain⟨q,y⟩:=g;unfold ord;simp only;by_cases h:cmpI p q=0
 ·rw[if_pos h,cmpL_zero];rw[cmpI_zero]at h;subst h;simp
 rw[if_neg h];constructor
 ·intro h2;exact absurd h2 h
 intro h2;injection h2 with h2 _;exact absurd (cmpI_zero.mpr h2) h
theorem ord_self(f:Fc):ord f f=0:=ord_zero.mpr rfl
theorem ord_flip(f g:Fc):ord g f= -ord f g:=by
 unfold ord;by_cases h:cmpI f.pred g.pred=0
 ·rw[if_pos h,if_pos (by rw[cmpI_flip,h];rfl)];exact cmpL_flip _ _
 rw[if_neg h,if_neg (by rw[cmpI_flip];omega)];exact cmpI_flip _ _
theorem ord_trans{f g h:Fc}(h1:ord f g<0)(h2:ord g h<0):ord f h<0:=by
 obtain⟨p,x⟩:=f;obtain⟨q,y⟩:=g;obtain⟨r,z⟩:=h;unfold ord at h1 h2 ⊢;simp only at h1 h2 ⊢;by_cases e1:cmpI p q=0
 ·rw[if_pos e1]at h1;rw[cmpI_zero]at e1;subst e1;by_cases e2:cmpI p r=0
  ·rw[if_pos e2]at h2 ⊢;exact cmpL_trans h1 h2
  rw[if_neg e2]at h2 ⊢;exact h2
 rw[if_neg e1,cmpI_lt]at h1;by_cases e2:cmpI q r=0
 ·rw[cmpI_zero]at e2;subst e2;rw[if_neg e1,cmpI_lt];exact h1
 rw[if_neg e2,cmpI_lt]at h2;rw[if_neg (by rw[cmpI_zero];omega),cmpI_lt];omega
def Lt(f g:Fc):Prop:=ord f g<0
theorem Lt.trans{f g h:Fc}(h1:Lt f g)(h2:Lt g h):Lt f h:=ord_trans h1 h2
theorem Lt.irrefl(f:Fc):¬Lt f f:=by unfold Lt;rw[ord_self];decide
theorem lt_or(f g:Fc):Lt f g∨f=g∨Lt g f:=by unfold Lt;rw[ord_flip f g,←ord_zero];omega
def Up(l:List Fc):Prop:=l.Pairwise Lt
def IsSet(s l:List Fc):Prop:=Up s∧∀x,x∈s↔x∈l
theorem up_ext:∀{s t:List Fc},Up s→Up t→(∀x,x∈s↔x∈t)→s=t:=by
 intro s
 induction s with
 |nil=>
  intro t _ _ h
  cases t with
  |nil=>rfl
  |cons b t=>exact absurd ((h b).mpr (by simp)) (by simp)
 |cons a s ih=>
  intro t hs ht h
  cases t with
  |nil=>exact absurd ((h a).mp (by simp)) (by simp)
  |cons b t=>
   have hs':=List.pairwise_cons.mp hs;have ht':=List.pairwise_cons.mp ht;have hab:a=b:=by
    rcases List.mem_cons.mp ((h a).mp (by simp))with h1|h1
    ·exact h1
    rcases List.mem_cons.mp ((h b).mpr (by simp))with h2|h2
    ·exact h2.symm
    exact absurd ((ht'.1 a h1).trans (hs'.1 b h2)) (Lt.irrefl b)
   subst hab;rw[ih hs'.2 ht'.2 (fun x=>?_)];constructor
   ·intro hx;rcases List.mem_cons.mp ((h x).mp (by simp[hx]))with h1|h1
    ·subst h1;exact absurd (hs'.1 x hx) (Lt.irrefl x)
    exact h1
   intro hx;rcases List.mem_cons.mp ((h x).mpr (by simp[hx]))with h1|h1
   ·subst h1;exact absurd (ht'.1 x hx) (Lt.irrefl x)
   exact h1
def ins(f:Fc):List Fc→List Fc
 |[]=>[f]
 |a::r=>if ord f a<0 then f::a::r else if ord f a=0 then a::r else a::ins f r
theorem mem_ins(f x:Fc):∀(l:List Fc),x∈ins f l↔x=f∨x∈l:=by
 intro l
 induction l with
 |nil=>simp[ins]
 |cons a r ih=>
  simp only[ins];split
  ·simp
  split
  ·rename_i h;rw[ord_zero]at h;subst h;constructor
   ·intro h;exact .inr h
   rintro(h|h)
   ·simp[h]
   exact h
  rw[List.mem_cons,ih,List.mem_cons];constructor
  ·rintro(h|h|h)
   ·exact .inr (.inl h)
   ·exact .inl h
   exact .inr (.inr h)
  rintro(h|h|h)
  ·exact .inr (.inl h)
  ·exact .inl h
  exact .inr (.inr h)
theorem up_ins(f:Fc):∀{l:List Fc},Up l→Up (ins f l):=by
 intro l
 induction l with
 |nil=>intro _;exact List.pairwise_singleton _ _
 |cons a r ih=>
  intro h;have h':=List.pairwise_cons.mp h;simp only[ins];split
  ·rename_i h1;refine List.pairwise_cons.mpr ⟨fun x hx=>?_,h⟩;rcases List.mem_cons.mp hx with rfl|hx
   ·exact h1
   exact Lt.trans h1 (h'.1 x hx)
  split
  ·exact h
  rename_i h1 h2;refine List.pairwise_cons.mpr ⟨fun x hx=>?_,ih h'.2⟩;rcases(mem_ins f x r).mp hx with rfl|hx
  ·rcases lt_or a x with h3|h3|h3
   ·exact h3
   ·subst h3;exact absurd (ord_self a) h2
   exact absurd h3 h1
  exact h'.1 x hx
def set:List Fc→List Fc
 |[]=>[]
 |a::r=>ins a (set r)
theorem set_isSet:∀(l:List Fc),IsSet (set l) l:=by
 intro l
 induction l with
 |nil=>exact⟨List.Pairwise.nil,fun x=>Iff.rfl⟩
 |cons a r ih=>
  refine⟨up_ins a ih.1,fun x=>?_⟩;show x∈ins a (set r)↔_;rw[mem_ins,ih.2,List.mem_cons]
theorem isSet_eq{s l:List Fc}(h:IsSet s l):s=set l:=up_ext h.1 (set_isSet l).1 fun x=>(h.2 x).trans ((set_isSet l).2 x).symm
theorem mem_set{l:List Fc}{x:Fc}:x∈set l↔x∈l:=(set_isSet l).2 x
theorem set_same{l m:List Fc}(h:∀x,x∈l↔x∈m):set l=set m:=isSet_eq ⟨(set_isSet l).1,fun x=>mem_set.trans (h x)⟩
def has(l:List Fc)(f:Fc):Bool:=l.any fun x=>ord x f==0
theorem has_iff{l:List Fc}{f:Fc}:has l f=true↔f∈l:=by
 unfold has;rw[List.any_eq_true];constructor
 ·rintro⟨x,hx,h⟩;have h2:x=f:=ord_zero.mp (by simpa using h);rw[←h2];exact hx
 intro h;exact⟨f,h,by simp[ord_self]⟩
def union(l m:List Fc):List Fc:=set (l++m)
def agree:List Int→List Int→List Bool→Bool
 |a::x,b::y,c::z=>(!c||a==b)&&agree x y z
 |_,_,_=>true
def fits(pred:Int)(args:List Int)(bound:List Bool)(f:Fc):Bool:=f.pred==pred&&(f.args.length==args.length)&&agree f.args args bound
def matchL(l:List Fc)(pred:Int)(args:List Int)(bound:List Bool):List Fc:=set (l.filter (fits pred args bound))
end Rl
end Go.Proofs.YthenjegmigeieaaGreat
namespace Go.Proofs.YthenjegmigeieaaGreat
namespace Ru
open Sc (Term)
structure Way where
 nums:List Int
 known:List Bool
def num(x:List Int)(t:Term):Int:=if t.var<0 then t.n else x.getD t.var.toNat 0
def fill(ts:List Term)(x:List Int):List Int:=ts.map (num x)
def with1(w:Way)(t:Term)(n:Int):Option Way:=
 if Sc.known w.known t=true then(if num w.nums t=n then some w else none)
 else some ⟨w.nums.set t.var.toNat n,w.known.set t.var.toNat true⟩
def withW:Way→List Term→List Int→Option Way
 |w,[],_=>some w
 |w,t::ts,ns=>match with1 w t (ns.headD 0)with
  |none=>none
  |some w'=>withW w' ts ns.tail
def Ext(w:Way)(x:List Int):Prop:=∀i:Nat,w.known.getD i false=true→w.nums.getD i 0=x.getD i 0
structure Wf (m:Nat) (w:Way):Prop where
 n:w.nums.length=m
 k:w.known.length=m
def TermIn(m:Nat)(t:Term):Prop:=t.var<0∨t.var.toNat<m
def TermsIn(m:Nat)(l:List Term):Prop:=∀t,t∈l→TermIn m t
theorem getD_set_eq{α:Type}(l:List α)(i:Nat)(v d:α)(h:i<l.length):(l.set i v).getD i d=v:=by rw[List.getD_eq_getElem?_getD,List.getElem?_set_self h];rfl
theorem getD_set_ne{α:Type}(l:List α)(i j:Nat)(v d:α)(h:¬i=j):(l.set i v).getD j d=l.getD j d:=by rw[List.getD_eq_getElem?_getD,List.getElem?_set_ne h,List.getD_eq_getElem?_getD]
theorem num_known{w:Way}{x:List Int}(h:Ext w x){t:Term}(hk:Sc.known w.known t=true):num w.nums t=num x t:=by
 unfold num;split
 ·rfl
 rename_i h0;refine h _ ?_;unfold Sc.known at hk;simpa[h0]using hk
theorem known_in{w:Way}{t:Term}(hk:¬Sc.known w.known t=true):0≤t.var∧w.known.getD t.var.toNat false=false:=by unfold Sc.known at hk;simp only[Bool.or_eq_true,not_or,decide_eq_true_eq,Bool.not_eq_true]at hk;exact⟨oM,hk.2⟩
theorem with1_wf{m:Nat}{w w':Way}{t:Term}{n:Int}(hw:Wf m w)(h:with1 w t n=some w'):Wf m w':=by
 unfold with1 at h;split at h
 ·split at h
  ·injection h with h;subst h;exact hw
  cases h
 injection h with h;subst h;exact⟨by simpa using hw.n,by simpa using hw.k⟩
theorem with1_known{w w':Way}{t:Term}{n:Int}(h:with1 w t n=some w'):w'.known=Sc.bind1 w.known t:=by
 unfold with1 at h;split at h
 ·rename_i hk;split at h
  ·injection h with h;subst h;symm;refine Sc.bind1_has fun h0 _=>?_;unfold Sc.known at hk;simpa[show¬t.var<0 by omega]using hk
  cases h
 rename_i hk;injection h with h;subst h;unfold Sc.bind1;rw[if_pos (known_in hk).1]
theorem with1_ext{m:Nat}{w:Way}{t:Term}{n:Int}{x:List Int}(hw:Wf m w)(ht:TermIn m t):(∃w',with1 w t n=some w'∧Ext w' x)↔Ext w x∧num x t=n:=by
 unfold with1;by_cases hk:Sc.known w.known t=true
 ·rw[if_pos hk];constructor
  ·rintro⟨w',h,he⟩;split at h
   ·rename_i hn;injection h with h;subst h;exact⟨he,by rw[←num_known he hk];exact hn⟩
   cases h
  rintro⟨he,hn⟩;refine⟨w,?_,he⟩;rw[if_pos ((num_known he hk).trans hn)]
 rw[if_neg hk];obtain⟨h0,hf⟩:=known_in hk;(have hv:t.var.toNat<m:=by rcases ht with h|h;omega;exact h);(have hx:num x t=x.getD t.var.toNat 0:=by unfold num;rw[if_neg oM]);rw[hx];constructor
 ·rintro⟨w',h,he⟩;injection h with h;subst h;refine⟨fun i hi=>?_,?_⟩
  ·by_cases hvi:t.var.toNat=i
   ·subst hvi;rw[hf]at hi;cases hi
   have :=he i (by show(w.known.set _ true).getD i false=true;rw[getD_set_ne _ _ _ _ _ hvi];exact hi);rw[←this];show _=(w.nums.set _ n).getD i 0;rw[getD_set_ne _ _ _ _ _ hvi]
  have :=he t.var.toNat (by show(w.known.set _ true).getD _ false=true;rw[getD_set_eq _ _ _ _ (by rw[hw.k];exact hv)]);rw[←this];show(w.nums.set _ n).getD _ 0=n;rw[getD_set_eq _ _ _ _ (by rw[hw.n];exact hv)]
 rintro⟨he,hn⟩;refine⟨_,rfl,fun i hi=>?_⟩;by_cases hvi:t.var.toNat=i
 ·subst hvi;show(w.nums.set _ n).getD _ 0=_;rw[getD_set_eq _ _ _ _ (by rw[hw.n];exact hv),hn]
 show(w.nums.set _ n).getD i 0=_;rw[getD_set_ne _ _ _ _ _ hvi];refine he i ?_;have :(w.known.set t.var.toNat true).getD i false=true:=hi;rwa[getD_set_ne _ _ _ _ _ hvi]at this
theorem withW_wf{m:Nat}:∀{ts:List Term}{ns:List Int}{w w':Way},Wf m w→withW w ts ns=some w'→Wf m w'
 |[],_,_,_,hw,h=>by unfold withW at h;injection h with h;subst h;exact hw
 |t::ts,ns,w,w',hw,h=>by
  unfold withW at h
  cases h1:with1 w t (ns.headD 0)with
  |none=>rw[h1]at h;cases h
  |some w1=>rw[h1]at h;exact withW_wf (with1_wf hw h1) h
theorem withW_known:∀{ts:List Term}{ns:List Int}{w w':Way},withW w ts ns=some w'→w'.known=Sc.bindAll w.known ts
 |[],_,_,_,h=>by unfold withW at h;injection h with h;subst h;rfl
 |t::ts,ns,w,w',h=>by
  unfold withW at h
  cases h1:with1 w t (ns.headD 0)with
  |none=>rw[h1]at h;cases h
  |some w1=>
   rw[h1]at h;rw[withW_known h,with1_known h1];rfl
theorem withW_ext{m:Nat}{x:List Int}:∀{ts:List Term}{ns:List Int}{w:Way},Wf m w→TermsIn m ts→ts.length=ns.length→((∃w',withW w ts ns=some w'∧Ext w' x)↔Ext w x∧fill ts x=ns)
 |[],ns,w,_,_,hl=>by
  have :ns=[]:=List.length_eq_zero_iff.mp hl.symm;subst this;constructor
  ·rintro⟨w',h,he⟩;unfold withW at h;injection h with h;subst h;exact⟨he,rfl⟩
  rintro⟨he,_⟩;exact⟨w,rfl,he⟩
 |t::ts,[],_,_,_,hl=>by cases hl
 |t::ts,n::ns,w,hw,hT,hl=>by
  have h1:=with1_ext (n:=n) (x:=x) hw (hT t List.mem_cons_self);have hTs:TermsIn m ts:=fun t ht=>hT t (List.mem_cons_of_mem _ ht);(have hls:ts.length=ns.length:=by simpa using hl);show(∃w',(match with1 w t n with |none=>none|some w1=>withW w1 ts ns)=some w'∧Ext w' x)↔_;constructor
  ·rintro⟨w',h,he⟩
   cases hw1:with1 w t n with
   |none=>rw[hw1]at h;cases h
   |some w1=>
    rw[hw1]at h;obtain⟨he1,hf⟩:=(withW_ext (with1_wf hw hw1) hTs hls).mp ⟨w',h,he⟩;obtain⟨he0,hn⟩:=h1.mp ⟨w1,hw1,he1⟩;exact⟨he0,by show num x t::fill ts x=_;rw[hn,hf]⟩
  rintro⟨he,hf⟩;have hf':num x t::fill ts x=n::ns:=hf;injection hf' with hn hf';obtain⟨w1,hw1,he1⟩:=h1.mpr ⟨he,hn⟩;obtain⟨w',h,he'⟩:=(withW_ext (with1_wf hw hw1) hTs hls).mpr ⟨he1,hf'⟩;refine⟨w',?_,he'⟩;rw[hw1];exact h
def isSo(op a b:Int):Bool:=if op=1 then decide (a<b)else if op=2 then decide (a≤b)else if op=3 then decide (a=b)else decide (a≠b)
def reck(op a b:Int):Int:=if op=5 then a+b else if op=6 then a-b else a*b
def calc3(l:Sc.Lit)(x:List Int):Int:=reck l.op (num x (Sc.termD l.terms 0)) (num x (Sc.termD l.terms 1))
def holds(facts:List Rl.Fc)(l:Sc.Lit)(x:List Int):Bool:=
 if l.kind=1 then Rl.has facts ⟨l.pred,fill l.terms x⟩
 else if l.kind=2 then !Rl.has facts ⟨l.pred,fill l.terms x⟩
 else if l.kind=3 then isSo l.op (num x (Sc.termD l.terms 0)) (num x (Sc.termD l.terms 1))
 else Sc.isNum (calc3 l x)&&decide (calc3 l x=num x (Sc.termD l.terms 2))
def on(facts:List Rl.Fc)(l:Sc.Lit)(w:Way):List Way:=
 if l.kind=1 then facts.filterMap (fun f=>if f.pred=l.pred then withW w l.terms f.args else none)
 else if l.kind=2 then(if Rl.has facts ⟨l.pred,fill l.terms w.nums⟩=true then [] else [w])
 else if l.kind=3 then(if isSo l.op (num w.nums (Sc.termD l.terms 0)) (num w.nums (Sc.termD l.terms 1))=true then [w] else [])
 else match withW w (l.terms.drop 2) [calc3 l w.nums]with
  |none=>[]
  |some w'=>if Sc.isNum (calc3 l w.nums)=true then [w'] else []
def ready(w:Way)(l:Sc.Lit):Bool:=
 if l.kind=1 then true
 else if l.kind=4 then Sc.known w.known (Sc.termD l.terms 0)&&Sc.known w.known (Sc.termD l.terms 1)
 else l.terms.all (Sc.known w.known)
structure LitIn (m:Nat) (facts:List Rl.Fc) (l:Sc.Lit):Prop where
 t:TermsIn m l.terms
 k:l.kind=1∨l.kind=2∨l.kind=3∨l.kind=4
 k3:l.kind=3→l.terms.length=2
 k4:l.kind=4→l.terms.length=3
 a:l.kind=1→∀f,f∈facts→f.pred=l.pred→l.terms.length=f.args.length
theorem fill_known{w:Way}{x:List Int}(he:Ext w x){ts:List Term}(h:ts.all (Sc.known w.known)=true):fill ts w.nums=fill ts x:=by unfold fill;refine List.map_congr_left fun t ht=>num_known he ?_;exact List.all_eq_true.mp h t ht
theorem termD_mem{l:List Term}{i:Nat}(h:i<l.length):Sc.termD l i∈l:=by unfold Sc.termD;rw[List.getD_eq_getElem?_getD,List.getElem?_eq_getElem h];exact List.getElem_mem h
theorem drop2_three{l:List Term}(h:l.length=3):l.drop 2=[Sc.termD l 2]:=by
 match l,h with
 |[a,b,c],_=>rfl
theorem on_ext{m:Nat}{facts:List Rl.Fc}{l:Sc.Lit}{w:Way}{x:List Int}(hw:Wf m w)(hl:LitIn m facts l)(hr:ready w l=true):(∃w',w'∈on facts l w∧Ext w' x)↔Ext w x∧holds facts l x=true:=by
 unfold on holds;by_cases h1:l.kind=1
 ·rw[if_pos h1,if_pos h1,Rl.has_iff];constructor
  ·rintro⟨w',hm,he⟩;obtain⟨f,hf,hfw⟩:=List.mem_filterMap.mp hm;split at hfw
   ·rename_i hp;obtain⟨he0,hfi⟩:=(withW_ext hw hl.t (hl.a h1 f hf hp)).mp ⟨w',hfw,he⟩;refine⟨he0,?_⟩;rw[hfi,←hp];exact hf
   cases hfw
  rintro⟨he,hf⟩;obtain⟨w',hw',he'⟩:=(withW_ext (ns:=fill l.terms x) (x:=x) hw hl.t (by unfold fill;simp)).mpr ⟨he,rfl⟩;refine⟨w',List.mem_filterMap.mpr ⟨_,hf,?_⟩,he'⟩;rw[if_pos rfl];exact hw'
 rw[if_neg h1,if_neg h1];unfold ready at hr;rw[if_neg h1]at hr;by_cases h2:l.kind=2
 ·rw[if_pos h2,if_pos h2];rw[if_neg oM]at hr;constructor
  ·rintro⟨w',hm,he⟩;split at hm
   ·cases hm
   rename_i hh;rcases List.mem_singleton.mp hm with rfl;refine⟨he,?_⟩;rw[←fill_known he hr];simpa using hh
  rintro⟨he,hh⟩;refine⟨w,?_,he⟩;rw[←fill_known he hr]at hh;rw[if_neg (by simpa using hh)];exact List.mem_singleton.mpr rfl
 rw[if_neg h2,if_neg h2];by_cases h3:l.kind=3
 ·rw[if_pos h3,if_pos h3];rw[if_neg oM]at hr;have hk:=List.all_eq_true.mp hr;have h20:=termD_mem (l:=l.terms) (i:=0) (by rw[hl.k3 h3];omega);have h21:=termD_mem (l:=l.terms) (i:=1) (by rw[hl.k3 h3];omega);constructor
  ·rintro⟨w',hm,he⟩;split at hm
   ·rename_i hh;rcases List.mem_singleton.mp hm with rfl;refine⟨he,?_⟩;rw[←num_known he (hk _ h20),←num_known he (hk _ h21)];exact hh
   cases hm
  rintro⟨he,hh⟩;refine⟨w,?_,he⟩;rw[←num_known he (hk _ h20),←num_known he (hk _ h21)]at hh;rw[if_pos hh];exact List.mem_singleton.mpr rfl
 rw[if_neg h3,if_neg h3];(have h4:l.kind=4:=by rcases hl.k with h|h|h|h<;>first|exact h|contradiction);rw[if_pos h4,Bool.and_eq_true]at hr;(have hcal:Ext w x→calc3 l w.nums=calc3 l x:=fun he=>by unfold calc3;rw[num_known he hr.1,num_known he hr.2]);have hd:=drop2_three (hl.k4 h4);have hT:TermsIn m (l.terms.drop 2):=fun t ht=>hl.t t (List.mem_of_mem_drop ht);have hE:=withW_ext (ns:=[calc3 l w.nums]) (x:=x) hw hT (by rw[hd];rfl);(have hfd:fill (l.terms.drop 2) x=[num x (Sc.termD l.terms 2)]:=by rw[hd];rfl);rw[hfd]at hE;constructor
 ·rintro⟨w',hm,he⟩;split at hm
  ·cases hm
  rename_i w1 hw1;split at hm
  ·rename_i hn;rcases List.mem_singleton.mp hm with rfl;obtain⟨he0,hf⟩:=hE.mp ⟨_,hw1,he⟩;injection hf with hf _;refine⟨he0,?_⟩;rw[hcal he0]at hn hf;rw[hn,hf];simp
  cases hm
 rintro⟨he,hh⟩;rw[Bool.and_eq_true,decide_eq_true_eq]at hh;obtain⟨w',hw',he'⟩:=hE.mpr ⟨he,by rw[hcal he,hh.2]⟩;refine⟨w',?_,he'⟩;rw[hw'];show w'∈if Sc.isNum (calc3 l w.nums)=true then [w'] else [];rw[if_pos (by rw[hcal he];exact hh.1)];exact List.mem_singleton.mpr rfl
theorem on_wf{m:Nat}{facts:List Rl.Fc}{l:Sc.Lit}{w w':Way}(hw:Wf m w)(h:w'∈on facts l w):Wf m w':=by
 unfold on at h;split at h
 ·obtain⟨f,_,hf⟩:=List.mem_filterMap.mp h;split at hf
  ·exact withW_wf hw hf
  cases hf
 split at h
 ·split at h
  ·cases h
  rcases List.mem_singleton.mp h with rfl;exact hw
 split at h
 ·split at h
  ·rcases List.mem_singleton.mp h with rfl;exact hw
  cases h
 split at h
 ·cases h
 rename_i w1 hw1;split at h
 ·rcases List.mem_singleton.mp h with rfl;exact withW_wf hw hw1
 cases h
theorem on_known{m:Nat}{facts:List Rl.Fc}{l:Sc.Lit}{w w':Way}(hl:LitIn m facts l)(hr:ready w l=true)(h:w'∈on facts l w):w'.known=Sc.bindLit w.known l:=by
 unfold on at h;unfold Sc.bindLit Sc.binds;split at h
 ·rename_i h1;rw[if_pos h1];obtain⟨f,_,hf⟩:=List.mem_filterMap.mp h;split at hf
  ·exact withW_known hf
  cases hf
 rename_i h1;rw[if_neg h1];split at h
 ·rename_i h2;rw[if_neg oM];split at h
  ·cases h
  rcases List.mem_singleton.mp h with rfl;rfl
 rename_i h2;split at h
 ·rename_i h3;rw[if_neg oM];split at h
  ·rcases List.mem_singleton.mp h with rfl;rfl
  cases h
 rename_i h3;(have h4:l.kind=4:=by rcases hl.k with h|h|h|h<;>first|exact h|contradiction);unfold ready at hr;rw[if_neg h1,if_pos h4,Bool.and_eq_true]at hr;rw[if_pos ⟨h4,hr.1,hr.2⟩];split at h
 ·cases h
 rename_i w1 hw1;split at h
 ·rcases List.mem_singleton.mp h with rfl;exact withW_known hw1
 cases h
def Apart(a b:Way):Prop:=∀x:List Int,Ext a x→Ext b x→False
theorem on_apart{m:Nat}{facts:List Rl.Fc}{l:Sc.Lit}{w:Way}(hw:Wf m w)(hl:LitIn m facts l)(hn:facts.Nodup):(on facts l w).Pairwise Apart:=by
 unfold on;split
 ·rename_i h1;rw[List.pairwise_filterMap];refine List.Pairwise.imp_of_mem ?_ hn;intro f g hf hg hfg a ha b hb x hea heb;split at ha
  ·rename_i hp;split at hb
   ·rename_i hq;have e1:=((withW_ext hw hl.t (hl.a h1 f hf hp)).mp ⟨a,ha,hea⟩).2;have e2:=((withW_ext hw hl.t (hl.a h1 g hg hq)).mp ⟨b,hb,heb⟩).2;apply hfg;obtain⟨fp,fa⟩:=f;obtain⟨gp,ga⟩:=g;dsimp only at *;rw[hp,hq,←e1,←e2]
   cases hb
  cases ha
 split
 ·split
  ·exact List.Pairwise.nil
  exact List.pairwise_singleton _ _
 split
 ·split
  ·exact List.pairwise_singleton _ _
  exact List.Pairwise.nil
 split
 ·exact List.Pairwise.nil
 split
 ·exact List.pairwise_singleton _ _
 exact List.Pairwise.nil
end Ru
end Go.Proofs.YthenjegmigeieaaGreat
namespace Go.Proofs.YthenjegmigeieaaGreat
namespace Ru
def nextStep(facts:List Rl.Fc)(w:Way)(l:Sc.Lit)(i:Nat)(a:Nat×Int):Nat×Int:=
 if ready w l=true then(if a.2<0∨((on facts l w).length:Int)<a.2 then(i,((on facts l w).length:Int))else a)else a
def nextAux(facts:List Rl.Fc)(w:Way):List Sc.Lit→Nat→Nat×Int→Nat×Int
 |[],_,a=>a
 |l::r,i,a=>nextAux facts w r (i+1) (nextStep facts w l i a)
def next(facts:List Rl.Fc)(body:List Sc.Lit)(w:Way):Nat:=(nextAux facts w body 0 (0, -1)).1
def eachN(facts:List Rl.Fc):Nat→List Sc.Lit→Way→List Way
 |0,_,w=>[w]
 |n+1,body,w=>(on facts (Sc.litD body (next facts body w)) w).flatMap (eachN facts n (body.eraseIdx (next facts body w)))
def each(facts:List Rl.Fc)(body:List Sc.Lit)(w:Way):List Way:=eachN facts body.length body w
def Picked(w:Way)(body:List Sc.Lit)(a:Nat×Int):Prop:=0≤a.2∧a.1<body.length∧ready w (Sc.litD body a.1)=true
theorem litD_append{a b:List Sc.Lit}{i:Nat}(h:i<a.length):Sc.litD (a++b) i=Sc.litD a i:=by unfold Sc.litD;rw[List.getD_eq_getElem?_getD,List.getD_eq_getElem?_getD,List.getElem?_append_left h]
theorem litD_snoc(a:List Sc.Lit)(x:Sc.Lit):Sc.litD (a++[x]) a.length=x:=by unfold Sc.litD;rw[List.getD_eq_getElem?_getD,List.getElem?_append_right (Nat.le_refl _)];simp
theorem nextAux_ok(facts:List Rl.Fc)(w:Way):∀(r pre:List Sc.Lit)(a:Nat×Int),(Picked w pre a∨(a.2<0∧a.1=0∧∀l,l∈pre→ready w l=false))→
 Picked w (pre++r) (nextAux facts w r pre.length a)∨((nextAux facts w r pre.length a).2<0∧(nextAux facts w r pre.length a).1=0∧∀l,l∈pre++r→ready w l=false)
 |[],pre,a,h=>by rw[List.append_nil];exact h
 |l::r,pre,a,h=>by
  (have e1:pre++l::r=(pre++[l])++r:=by simp);(have e2:pre.length+1=(pre++[l]).length:=by simp);show Picked w (pre++l::r) (nextAux facts w r (pre.length+1) (nextStep facts w l pre.length a))∨_;rw[e1];show _∨((nextAux facts w r (pre.length+1) (nextStep facts w l pre.length a)).2<0∧(nextAux facts w r (pre.length+1) (nextStep facts w l pre.length a)).1=0∧_);rw[e2];refine nextAux_ok facts w r (pre++[l]) _ ?_;unfold nextStep;by_cases hr:ready w l=true
  ·rw[if_pos hr];left;split
   ·exact⟨by simp,by simp,by show ready w (Sc.litD (pre++[l]) pre.length)=true;rw[litD_snoc];exact hr⟩
   rename_i hn;rcases h with h|h
   ·exact⟨h.1,by have :=h.2.1;simp;omega,by rw[litD_append h.2.1];exact h.2.2⟩
   exact absurd (Or.inl h.1) hn
  rw[if_neg hr];rcases h with h|h
  ·exact .inl ⟨h.1,by have :=h.2.1;simp;omega,by rw[litD_append h.2.1];exact h.2.2⟩
  refine .inr ⟨h.1,h.2.1,fun x hx=>?_⟩;rcases List.mem_append.mp hx with hx|hx
  ·exact h.2.2 x hx
  rcases List.mem_singleton.mp hx with rfl;simpa using hr
theorem next_ok(facts:List Rl.Fc)(body:List Sc.Lit)(w:Way)(h:∃l,l∈body∧ready w l=true):next facts body w<body.length∧ready w (Sc.litD body (next facts body w))=true:=by
 have h1:=nextAux_ok facts w body [] (0, -1) (.inr ⟨dE,rfl,fun l hl=>absurd hl sI⟩);rw[List.nil_append]at h1;rcases h1 with h1|h1
 ·exact h1.2
 obtain⟨l,hl,hr⟩:=h;rw[h1.2.2 l hl]at hr;cases hr
def Lo(b c:List Bool):Prop:=∀i:Nat,b.getD i false=true→c.getD i false=true
theorem bind1_lo{b c:List Bool}(h:Lo b c)(t:Sc.Term)(hl:b.length≤c.length):Lo (Sc.bind1 b t) (Sc.bind1 c t):=by
 unfold Sc.bind1;split
 ·intro i hi;by_cases hv:t.var.toNat=i
  ·subst hv;by_cases hb:t.var.toNat<b.length
   ·exact getD_set_eq _ _ _ _ oM
   rw[List.set_eq_of_length_le oM]at hi;rw[List.getD_eq_getElem?_getD,List.getElem?_eq_none oM]at hi;simp at hi
  rw[getD_set_ne _ _ _ _ _ hv]at hi ⊢;exact h i hi
 exact h
theorem bindAll_lo:∀(l:List Sc.Term){b c:List Bool},Lo b c→b.length≤c.length→Lo (Sc.bindAll b l) (Sc.bindAll c l)
 |[],_,_,h,_=>h
 |t::l,b,c,h,hl=>by show Lo (Sc.bindAll (Sc.bind1 b t) l) (Sc.bindAll (Sc.bind1 c t) l);refine bindAll_lo l (bind1_lo h t hl) ?_;rw[←(Sc.bind1_le b t).1,←(Sc.bind1_le c t).1];exact hl
theorem known_lo{b c:List Bool}(h:Lo b c){t:Sc.Term}(hk:Sc.known b t=true):Sc.known c t=true:=Sc.known_le h t hk
theorem sready_lo{b c:List Bool}(h:Lo b c){l:Sc.Lit}(hr:Sc.ready b l=true):Sc.ready c l=true:=by
 unfold Sc.ready at hr ⊢;rcases Bool.or_eq_true _ _▸hr with h1|h1
 ·simp[h1]
 simp only[Bool.and_eq_true]at h1;simp[h1.1.1,known_lo h h1.1.2,known_lo h h1.2]
theorem bindLit_lo{b c:List Bool}(h:Lo b c)(hl:b.length≤c.length)(l:Sc.Lit):Lo (Sc.bindLit b l) (Sc.bindLit c l):=by
 unfold Sc.bindLit;rw[Sc.binds_ready,Sc.binds_ready];by_cases hr:Sc.ready b l=true
 ·rw[if_pos hr,if_pos (sready_lo h hr)];exact bindAll_lo _ h hl
 rw[if_neg hr];intro i hi;exact(Sc.bindAll_le _ c).2 i (h i hi)
theorem bindLit_length(b:List Bool)(l:Sc.Lit):(Sc.bindLit b l).length=b.length:=(Sc.bindLit_le b l).1.symm
theorem round_lo:∀(body:List Sc.Lit){b c:List Bool},Lo b c→b.length≤c.length→Lo (Sc.round body b) (Sc.round body c)
 |[],_,_,h,_=>h
 |l::body,b,c,h,hl=>by show Lo (Sc.round body (Sc.bindLit b l)) (Sc.round body (Sc.bindLit c l));exact round_lo body (bindLit_lo h hl l) (by rw[bindLit_length,bindLit_length];exact hl)
theorem round_length(body:List Sc.Lit)(b:List Bool):(Sc.round body b).length=b.length:=(Sc.round_le body b).1.symm
theorem rounds_lo(body:List Sc.Lit):∀(n:Nat){b c:List Bool},Lo b c→b.length≤c.length→Lo (Sc.rounds body n b) (Sc.rounds body n c)
 |0,_,_,h,_=>h
 |n+1,b,c,h,hl=>rounds_lo body n (round_lo body h hl) (by rw[round_length,round_length];exact hl)
theorem rounds_length(body:List Sc.Lit):∀(n:Nat)(b:List Bool),(Sc.rounds body n b).length=b.length
 |0,_=>rfl
 |n+1,b=>by show(Sc.rounds body n (Sc.round body b)).length=_;rw[rounds_length body n,round_length]
theorem safe_all{r:Sc.Rule}(hs:Sc.safe r=true){K:List Bool}(hl:r.vars.toNat≤K.length)(hf:Sc.round r.body K=K)(i:Nat)(hi:i<r.vars.toNat):K.getD i false=true:=by(have h0:Lo (List.replicate r.vars.toNat false) K:=fun j hj=>by rw[List.getD_eq_getElem?_getD,List.getElem?_replicate]at hj;split at hj<;>simp at hj);have h1:=rounds_lo r.body r.body.length h0 (by simpa using hl);rw[Sc.rounds_fix _ _ _ hf]at h1;refine h1 i ?_;unfold Sc.safe at hs;have h2:=List.all_eq_true.mp hs;(have h3:i<(Sc.rounds r.body r.body.length (List.replicate r.vars.toNat false)).length:=by rw[rounds_length];simpa using hi);rw[List.getD_eq_getElem?_getD,List.getElem?_eq_getElem h3];exact h2 _ (List.getElem_mem h3)
structure Left (r:Sc.Rule) (K:List Bool) (R:List Sc.Lit):Prop where
 sub:∀l,l∈R→l∈r.body
 done:∀l,l∈r.body→l∈R∨((l.kind=1∨l.kind=4)→Sc.Has K (Sc.out l))
structure RuleIn (facts:List Rl.Fc) (r:Sc.Rule):Prop where
 safe:Sc.safe r=true
 v8:r.vars.toNat≤8
 lit:∀l,l∈r.body→LitIn r.vars.toNat facts l
theorem termsIn_mono{m n:Nat}{l:List Sc.Term}(h:TermsIn m l)(hmn:m≤n):TermsIn n l:=fun t ht=>by
 rcases h t ht with h|h
 ·exact .inl h
 exact .inr (Nat.lt_of_lt_of_le h hmn)
theorem LitIn.mono{m n:Nat}{facts:List Rl.Fc}{l:Sc.Lit}(h:LitIn m facts l)(hmn:m≤n):LitIn n facts l:=⟨termsIn_mono h.t hmn,h.k,h.k3,h.k4,h.a⟩
theorem all_known{m:Nat}{K:List Bool}{l:List Sc.Term}(h:TermsIn m l)(hK:∀i,i<m→K.getD i false=true):∀t,t∈l→Sc.known K t=true:=fun t ht=>by
 unfold Sc.known;rcases h t ht with h|h
 ·simp[h]
 simp only[hK _ h,Bool.or_true]
theorem left_ready{facts:List Rl.Fc}{r:Sc.Rule}{w:Way}{R:List Sc.Lit}(hR:RuleIn facts r)(hw:Wf 8 w)(hL:Left r w.known R)(hne:R≠[]):∃l,l∈R∧ready w l=true:=by
 refine Classical.byContradiction fun hn=>?_;have hno:∀l,l∈R→¬ready w l=true:=fun l hl hr=>hn ⟨l,hl,hr⟩;have hfix:Sc.round r.body w.known=w.known:=Sc.round_fix _ _ fun l hl hr=>by
  rcases hL.done l hl with h|h
  ·refine absurd ?_ (hno l h);unfold Sc.ready at hr;unfold ready;by_cases h1:l.kind=1
   ·rw[if_pos h1]
   rw[if_neg h1];simp only[Bool.or_eq_true,Bool.and_eq_true,beq_iff_eq,h1,false_or]at hr;rw[if_pos hr.1.1,hr.1.2,hr.2];rfl
  refine h ?_;unfold Sc.ready at hr;simp only[Bool.or_eq_true,Bool.and_eq_true,beq_iff_eq]at hr;rcases hr with hr|hr
  ·exact .inl hr
  exact .inr hr.1.1
 have hall:=safe_all hR.safe (by rw[hw.k];exact hR.v8) hfix;obtain⟨l,hl⟩:∃l,l∈R:=by
  cases R with
  |nil=>exact absurd rfl hne
  |cons a _=>exact⟨a,List.mem_cons_self⟩
 have hLi:=hR.lit l (hL.sub l hl);have hk:=all_known hLi.t hall;refine hno l hl ?_;unfold ready;split
 ·rfl
 split
 ·rename_i h4;have h3:=hLi.k4 h4;rw[hk _ (termD_mem oM),hk _ (termD_mem oM)];rfl
 exact List.all_eq_true.mpr hk
theorem left_next{facts:List Rl.Fc}{r:Sc.Rule}{w w':Way}{R:List Sc.Lit}{i:Nat}(hL:Left r w.known R)(hi:i<R.length)(hr:ready w (Sc.litD R i)=true)(hw':w'∈on facts (Sc.litD R i) w)(hLi:LitIn r.vars.toNat facts (Sc.litD R i)):Left r w'.known (R.eraseIdx i):=by
 have hk:=on_known hLi hr hw';refine⟨fun l hl=>hL.sub l (List.mem_of_mem_eraseIdx hl),fun l hl=>?_⟩;(have hle:Sc.Le w.known w'.known:=by rw[hk];exact Sc.bindLit_le _ _);rcases hL.done l hl with h|h
 ·by_cases he:l=Sc.litD R i
  ·right;intro hkd;rw[he]at hkd ⊢;rw[hk];unfold Sc.bindLit;rw[Sc.binds_ready,if_pos ?_]
   ·exact Sc.has_bindAll _ _
   unfold Sc.ready;unfold ready at hr;rcases hkd with h1|h4
   ·simp[h1]
   rw[if_neg oM,if_pos h4]at hr;simp only[h4];rw[Bool.and_eq_true]at hr;simp[hr.1,hr.2]
  left;obtain⟨j,hj,hje⟩:=List.mem_iff_getElem.mp h;rw[List.mem_eraseIdx_iff_getElem];refine⟨j,hj,fun e=>he ?_,hje⟩;subst e;unfold Sc.litD;rw[List.getD_eq_getElem?_getD,List.getElem?_eq_getElem hj,hje];rfl
 exact .inr fun hkd=>(h hkd).le hle
theorem litD_mem'{R:List Sc.Lit}{i:Nat}(h:i<R.length):Sc.litD R i∈R:=by unfold Sc.litD;rw[List.getD_eq_getElem?_getD,List.getElem?_eq_getElem h];exact List.getElem_mem h
theorem mem_erase{R:List Sc.Lit}{i:Nat}(hi:i<R.length)(P:Sc.Lit→Prop):(∀l,l∈R→P l)↔P (Sc.litD R i)∧∀l,l∈R.eraseIdx i→P l:=by
 constructor
 ·exact fun h=>⟨h _ (litD_mem' hi),fun l hl=>h l (List.mem_of_mem_eraseIdx hl)⟩
 rintro⟨h1,h2⟩ l hl;obtain⟨j,hj,hje⟩:=List.mem_iff_getElem.mp hl;by_cases e:j=i
 ·subst e;(have :l=Sc.litD R j:=by unfold Sc.litD;rw[List.getD_eq_getElem?_getD,List.getElem?_eq_getElem hj,hje];rfl);rw[this];exact h1
 exact h2 l (by rw[List.mem_eraseIdx_iff_getElem];exact⟨j,hj,e,hje⟩)
theorem erase_len{R:List Sc.Lit}{i n:Nat}(hi:i<R.length)(h:R.length=n+1):(R.eraseIdx i).length=n:=by rw[List.length_eraseIdx,if_pos hi];omega
section
variable {facts:List Rl.Fc} {r:Sc.Rule}
theorem each_step(hR:RuleIn facts r){n:Nat}{R:List Sc.Lit}{w:Way}(hl:R.length=n+1)(hw:Wf 8 w)(hL:Left r w.known R):
 next facts R w<R.length∧ready w (Sc.litD R (next facts R w))=true∧LitIn r.vars.toNat facts (Sc.litD R (next facts R w)):=by
 obtain⟨h1,h2⟩:=next_ok facts R w (left_ready hR hw hL (fun e=>by rw[e]at hl;cases hl));exact⟨h1,h2,hR.lit _ (hL.sub _ (litD_mem' h1))⟩
theorem eachN_ext(hR:RuleIn facts r)(x:List Int):∀(n:Nat)(R:List Sc.Lit)(w:Way),R.length=n→Wf 8 w→Left r w.known R→((∃w',w'∈eachN facts n R w∧Ext w' x)↔Ext w x∧∀l,l∈R→holds facts l x=true)
 |0,R,w,hl,_,_=>by
  have :R=[]:=List.length_eq_zero_iff.mp hl;subst this;constructor
  ·rintro⟨w',h,he⟩;rcases List.mem_singleton.mp h with rfl;exact⟨he,fun l hl=>absurd hl sI⟩
  rintro⟨he,_⟩;exact⟨w,List.mem_singleton.mpr rfl,he⟩
 |n+1,R,w,hl,hw,hL=>by
  obtain⟨hi,hr,hLi⟩:=each_step hR hl hw hL;have hon:=on_ext (x:=x) hw (hLi.mono hR.v8) hr;rw[mem_erase hi];show(∃w',w'∈(on facts (Sc.litD R (next facts R w)) w).flatMap (eachN facts n (R.eraseIdx (next facts R w)))∧Ext w' x)↔_;constructor
  ·rintro⟨w',h,he⟩;obtain⟨w1,h1,h2⟩:=List.mem_flatMap.mp h;obtain⟨e1,e2⟩:=(eachN_ext hR x n _ w1 (erase_len hi hl) (on_wf hw h1) (left_next hL hi hr h1 hLi)).mp ⟨w',h2,he⟩;obtain⟨e3,e4⟩:=hon.mp ⟨w1,h1,e1⟩;exact⟨e3,e4,e2⟩
  rintro⟨he,e1,e2⟩;obtain⟨w1,h1,he1⟩:=hon.mpr ⟨he,e1⟩;obtain⟨w',h,he'⟩:=(eachN_ext hR x n _ w1 (erase_len hi hl) (on_wf hw h1) (left_next hL hi hr h1 hLi)).mpr ⟨he1,e2⟩;exact⟨w',List.mem_flatMap.mpr ⟨w1,h1,h⟩,he'⟩
theorem eachN_apart(hR:RuleIn facts r)(hn:facts.Nodup):∀(n:Nat)(R:List Sc.Lit)(w:Way),R.length=n→Wf 8 w→Left r w.known R→(eachN facts n R w).Pairwise Apart
 |0,_,_,_,_,_=>List.pairwise_singleton _ _
 |n+1,R,w,hl,hw,hL=>by obtain⟨hi,hr,hLi⟩:=each_step hR hl hw hL;show((on facts (Sc.litD R (next facts R w)) w).flatMap (eachN facts n (R.eraseIdx (next facts R w)))).Pairwise Apart;rw[List.pairwise_flatMap];refine⟨fun w1 h1=>eachN_apart hR hn n _ w1 (erase_len hi hl) (on_wf hw h1) (left_next hL hi hr h1 hLi),?_⟩;refine List.Pairwise.imp_of_mem ?_ (on_apart hw (hLi.mono hR.v8) hn);intro a b ha hb hab x hx y hy z hz1 hz2;have e1:=((eachN_ext hR z n _ a (erase_len hi hl) (on_wf hw ha) (left_next hL hi hr ha hLi)).mp ⟨x,hx,hz1⟩).1;have e2:=((eachN_ext hR z n _ b (erase_len hi hl) (on_wf hw hb) (left_next hL hi hr hb hLi)).mp ⟨y,hy,hz2⟩).1;exact hab z e1 e2
structure Good (m:Nat) (w:Way):Prop where
 wf:Wf 8 w
 lo:∀i,w.known.getD i false=true→i<m
 nm:∀i,w.known.getD i false=true→Sc.isNum (w.nums.getD i 0)=true
theorem with1_good{m:Nat}{w w':Way}{t:Sc.Term}{n:Int}(hg:Good m w)(ht:TermIn m t)(hm:m≤8)(hn:Sc.isNum n=true)(h:with1 w t n=some w'):Good m w':=by
 refine⟨with1_wf hg.wf h,fun i hi=>?_,fun i hi=>?_⟩<;>unfold with1 at h<;>split at h
 ·split at h
  ·injection h with h;subst h;exact hg.lo i hi
  cases h
 ·rename_i hk;injection h with h;subst h;by_cases hv:t.var.toNat=i
  ·have h0:=(known_in hk).1;rcases ht with h|h<;>omega
  refine hg.lo i ?_;have :(w.known.set t.var.toNat true).getD i false=true:=hi;rwa[getD_set_ne _ _ _ _ _ hv]at this
 ·split at h
  ·injection h with h;subst h;exact hg.nm i hi
  cases h
 rename_i hk;injection h with h;subst h;show Sc.isNum ((w.nums.set t.var.toNat n).getD i 0)=true;by_cases hv:t.var.toNat=i
 ·have h0:=(known_in hk).1;(have hlt:t.var.toNat<w.nums.length:=by rw[hg.wf.n];rcases ht with h|h<;>omega);rw[←hv,getD_set_eq _ _ _ _ hlt];exact hn
 rw[getD_set_ne _ _ _ _ _ hv];refine hg.nm i ?_;have :(w.known.set t.var.toNat true).getD i false=true:=hi;rwa[getD_set_ne _ _ _ _ _ hv]at this
theorem withW_good{m:Nat}(hm:m≤8):∀{ts:List Sc.Term}{ns:List Int}{w w':Way},Good m w→TermsIn m ts→(∀n,n∈ns→Sc.isNum n=true)→ts.length=ns.length→withW w ts ns=some w'→Good m w'
 |[],_,_,_,hg,_,_,_,h=>by unfold withW at h;injection h with h;subst h;exact hg
 |t::ts,[],_,_,_,_,_,hl,_=>by cases hl
 |t::ts,n::ns,w,w',hg,hT,hN,hl,h=>by
  have h':(match with1 w t n with |none=>none|some w1=>withW w1 ts ns)=some w':=h
  cases h1:with1 w t n with
  |none=>rw[h1]at h';cases h'
  |some w1=>
   rw[h1]at h';exact withW_good hm (with1_good hg (hT t List.mem_cons_self) hm (hN n List.mem_cons_self) h1) (fun t ht=>hT t (List.mem_cons_of_mem _ ht)) (fun n hn=>hN n (List.mem_cons_of_mem _ hn)) (by simpa using hl) h'
theorem on_good{m:Nat}{l:Sc.Lit}{w w':Way}(hm:m≤8)(hg:Good m w)(hl:LitIn m facts l)(hN:∀f,f∈facts→∀n,n∈f.args→Sc.isNum n=true)(h:w'∈on facts l w):Good m w':=by
 unfold on at h;split at h
 ·rename_i h1;obtain⟨f,hf,hfw⟩:=List.mem_filterMap.mp h;split at hfw
  ·rename_i hp;exact withW_good hm hg hl.t (hN f hf) (hl.a h1 f hf hp) hfw
  cases hfw
 split at h
 ·split at h
  ·cases h
  rcases List.mem_singleton.mp h with rfl;exact hg
 split at h
 ·split at h
  ·rcases List.mem_singleton.mp h with rfl;exact hg
  cases h
 split at h
 ·cases h
 rename_i h1 h2 h3 _ w1 hw1;(have h4:l.kind=4:=by rcases hl.k with h|h|h|h<;>first|exact h|contradiction);have hd:=drop2_three (hl.k4 h4);split at h
 ·rename_i hn;rcases List.mem_singleton.mp h with rfl;exact withW_good hm hg (fun t ht=>hl.t t (List.mem_of_mem_drop ht)) (fun n hn'=>by rcases List.mem_singleton.mp hn' with rfl;exact hn) (by rw[hd];rfl) hw1
 cases h
theorem eachN_good(hR:RuleIn facts r)(hN:∀f,f∈facts→∀n,n∈f.args→Sc.isNum n=true):∀(n:Nat)(R:List Sc.Lit)(w w':Way),R.length=n→Good r.vars.toNat w→Left r w.known R→w'∈eachN facts n R w→Good r.vars.toNat w'∧Left r w'.known []
 |0,R,w,w',hl,hg,hL,h=>by have :R=[]:=List.length_eq_zero_iff.mp hl;subst this;rcases List.mem_singleton.mp h with rfl;exact⟨hg,hL⟩
 |n+1,R,w,w',hl,hg,hL,h=>by obtain⟨hi,hr,hLi⟩:=each_step hR hl hg.wf hL;have h':w'∈(on facts (Sc.litD R (next facts R w)) w).flatMap (eachN facts n (R.eraseIdx (next facts R w))):=h;obtain⟨w1,h1,h2⟩:=List.mem_flatMap.mp h';exact eachN_good hR hN n _ w1 w' (erase_len hi hl) (on_good hR.v8 hg hLi hN h1) (left_next hL hi hr h1 hLi) h2
theorem left_all(hR:RuleIn facts r){w:Way}(hg:Good r.vars.toNat w)(hL:Left r w.known [])(i:Nat)(hi:i<r.vars.toNat):w.known.getD i false=true:=by
 refine safe_all hR.safe (by rw[hg.wf.k];exact hR.v8) (Sc.round_fix _ _ fun l hl hr=>?_) i hi;rcases hL.done l hl with h|h
 ·exact absurd h sI
 refine h ?_;unfold Sc.ready at hr;simp only[Bool.or_eq_true,Bool.and_eq_true,beq_iff_eq]at hr;rcases hr with hr|hr
 ·exact .inl hr
 exact .inr hr.1.1
end
def way0:Way:=⟨List.replicate 8 0,List.replicate 8 false⟩
def ways(facts:List Rl.Fc)(r:Sc.Rule):List (List Int):=(each facts r.body way0).map fun w=>w.nums.take r.vars.toNat
def Sol(facts:List Rl.Fc)(r:Sc.Rule)(x:List Int):Prop:=x.length=r.vars.toNat∧∀l,l∈r.body→holds facts l x=true
theorem way0_known(i:Nat):way0.known.getD i false=false:=by show(List.replicate 8 false).getD i false=false;rw[List.getD_eq_getElem?_getD,List.getElem?_replicate];split<;>rfl
theorem way0_good(m:Nat):Good m way0:=⟨⟨rfl,rfl⟩,fun i hi=>(by rw[way0_known]at hi;cases hi),fun i hi=>(by rw[way0_known]at hi;cases hi)⟩
theorem way0_ext(x:List Int):Ext way0 x:=fun i hi=>by rw[way0_known]at hi;cases hi
theorem way0_left(r:Sc.Rule):Left r way0.known r.body:=⟨fun _ h=>h,fun _ h=>.inl h⟩
theorem getD_take{x:List Int}{m i:Nat}(h:i<m):(x.take m).getD i 0=x.getD i 0:=by rw[List.getD_eq_getElem?_getD,List.getElem?_take_of_lt h,List.getD_eq_getElem?_getD]
theorem ext_take{m:Nat}{w:Way}(hg:Good m w):Ext w (w.nums.take m):=fun i hi=>by rw[getD_take (hg.lo i hi)]
theorem take_ext{m:Nat}{w:Way}{x:List Int}(hg:Good m w)(hm:m≤8)(hk:∀i,i<m→w.known.getD i false=true)(hx:x.length=m)(he:Ext w x):w.nums.take m=x:=by(have hl:(w.nums.take m).length=m:=by rw[List.length_take,hg.wf.n];omega);refine List.ext_getElem (by rw[hl,hx]) fun i h1 h2=>?_;(have h3:i<m:=by rw[←hx];exact h2);have h4:=he i (hk i h3);rw[←getD_take (m:=m) h3]at h4;rw[List.getD_eq_getElem?_getD,List.getElem?_eq_getElem h1,List.getD_eq_getElem?_getD,List.getElem?_eq_getElem h2]at h4;exact h4
section
variable {facts:List Rl.Fc} {r:Sc.Rule}
theorem mem_ways(hR:RuleIn facts r)(hN:∀f,f∈facts→∀n,n∈f.args→Sc.isNum n=true)(x:List Int):x∈ways facts r↔Sol facts r x:=by
 unfold ways;rw[List.mem_map];constructor
 ·rintro⟨w,hw,rfl⟩;obtain⟨hg,hL⟩:=eachN_good hR hN _ _ _ w rfl (way0_good _) (way0_left r) hw;obtain⟨_,h⟩:=(eachN_ext hR (w.nums.take r.vars.toNat) _ _ _ rfl (way0_good 8).wf (way0_left r)).mp ⟨w,hw,ext_take hg⟩;refine⟨?_,h⟩;rw[List.length_take,hg.wf.n];have :=hR.v8;omega
 rintro⟨hx,h⟩;obtain⟨w,hw,he⟩:=(eachN_ext hR x _ _ _ rfl (way0_good 8).wf (way0_left r)).mpr ⟨way0_ext x,h⟩;obtain⟨hg,hL⟩:=eachN_good hR hN _ _ _ w rfl (way0_good _) (way0_left r) hw;exact⟨w,hw,take_ext hg hR.v8 (left_all hR hg hL) hx he⟩
theorem ways_nodup(hR:RuleIn facts r)(hN:∀f,f∈facts→∀n,n∈f.args→Sc.isNum n=true)(hn:facts.Nodup):(ways facts r).Nodup:=by unfold ways List.Nodup;rw[List.pairwise_map];refine List.Pairwise.imp_of_mem ?_ (eachN_apart hR hn _ _ _ rfl (way0_good 8).wf (way0_left r));intro a b ha hb hab e;obtain⟨hga,_⟩:=eachN_good hR hN _ _ _ a rfl (way0_good _) (way0_left r) ha;obtain⟨hgb,_⟩:=eachN_good hR hN _ _ _ b rfl (way0_good _) (way0_left r) hb;exact hab (a.nums.take r.vars.toNat) (ext_take hga) (by rw[e];exact ext_take hgb)
theorem sol_nums(hR:RuleIn facts r)(hN:∀f,f∈facts→∀n,n∈f.args→Sc.isNum n=true){x:List Int}(h:Sol facts r x):∀n,n∈x→Sc.isNum n=true:=by obtain⟨w,hw,rfl⟩:=List.mem_map.mp ((mem_ways hR hN x).mpr h);obtain⟨hg,hL⟩:=eachN_good hR hN _ _ _ w rfl (way0_good _) (way0_left r) hw;intro n hn;obtain⟨i,hi,rfl⟩:=List.mem_iff_getElem.mp hn;(have hi':i<r.vars.toNat:=by rw[List.length_take]at hi;omega);have :=hg.nm i (left_all hR hg hL i hi');rw[←getD_take hi',List.getD_eq_getElem?_getD,List.getElem?_eq_getElem hi]at this;exact this
end
end Ru
end Go.Proofs.YthenjegmigeieaaGreat

