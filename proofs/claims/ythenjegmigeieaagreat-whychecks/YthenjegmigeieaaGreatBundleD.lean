/- Own texts, one behind the other (part 4). -/
import Derived.Test.YthenjegmigeieaaGreatBundleC
import Derived.Test.YthenjegmigeieaaGreatRows
import Derived.Deep.QuietTactic
import Derived.BigQuiet
import Derived.Deep.MidRow
import Derived.Deep.WholeRow
import Derived.Maps.OwnSet
import Derived.Defers
import Derived.Recover
import Derived.RegionTactic
import Derived.ChangeAlike
import Derived.Deep.Slices
import Derived.Orders
set_option maxRecDepth 100000
set_option maxHeartbeats 8000000
namespace Go.Proofs.YthenjegmigeieaaGreat
open Go.RowKit
theorem eO(w:World)(n:Nat):Below w.heap.size w (w.drewN n):=⟨rfl,rfl,rfl,aE _,fun _ _=>rfl⟩
def eA(y:bK):Array Value:=(y.y.map (Value.int .i64)++y.w.map Value.bool).toArray
abbrev eW(y:bK):Value:=.agg (eA y)
def kG(w:World)(b:Nat)(y:bK):Prop:=w.heap[b]?=some (.cells (eA y) 138)
theorem kG.num{w:World}{b:Nat}{y:bK}(h:kG w b y)(e:jI 8 y){i:Nat}(d:i<8):w.cell? ⟨b,i,none⟩=some (.int .i64 (y.y.getD i 0)):=by rw[cD h];unfold eA;(have f:i<(y.y.map (Value.int .i64)).length:=by rw[aP,e.n];exact d);rw[List.getElem?_toArray,mL f,cY,aC,aD (by rw[e.n];exact d)];rfl
theorem kG.kn{w:World}{b:Nat}{y:bK}(h:kG w b y)(d:jI 8 y){i:Nat}(f:i<8):w.cell? ⟨b,8+i,none⟩=some (.bool (y.w.getD i false)):=by rw[cD h];unfold eA;(have e:(y.y.map (Value.int .i64)).length=8:=by rw[aP,d.n]);rw[List.getElem?_toArray,jP oM,e,uS,cY,aC,aD (by rw[d.k];exact f)];rfl
theorem Ff(t:dL)(x:List Int)(v:Value)(w:World)(p:dM w v x)(ht:t.var<0\/t.var.toNat<x.length):
 Calls Tryz.prog 105 #[iA t,v] w fun e r=>e=.returned (.int .i64 (eJ x t))/\Below w.heap.size w r:=by
 obtain⟨s,c,rfl,f⟩:=p;have i:Below w.heap.size w (w.alloc (.cells #[.int .i64 t.var, .int .i64 t.n] 147)):=(aH _ _).alloc (aE _) _;by_cases h:t.var<0
 ·have g:decide (t.var<0)=true:=aQ h;(have HV:O (eJ x t=t.n):=by show _=_;unfold eJ;rw[if_pos h]);clear ht h f
  go_enter Tryz.func105,Tryz.ntmps105
  go_wp2;go_ret;exact⟨rV,i⟩
 have g:decide (t.var<0)=false:=aJ h;(have l:t.var.toNat<x.length:=by rcases ht with d|d;exact absurd d h;exact d);obtain⟨k,j⟩:∃k:Nat,t.var=k:=⟨t.var.toNat,oM⟩;(have HV:O (eJ x t=bM x k):=by show _=_;unfold eJ;rw[if_neg h,j];rfl);have q:k<x.length:=oM;obtain⟨b,z,rfl,m⟩:=qY f k q;have A:=aB i m;obtain⟨B,y⟩:=t;simp only at j h g ht l;subst j;clear ht h l f m;generalize bM x k=C at *
 go_enter Tryz.func105,Tryz.ntmps105
 go_wp2;go_ret;exact⟨rV,i⟩
theorem LE(y:bK)(t:dL)(w:World)(m:jI 8 y)(ht:qK 8 t):
 Calls Tryz.prog 210 #[eW y,iA t] w fun e p=>e=.returned (.bool (cC y.w t))/\Below w.heap.size w p:=by
 have f:Below w.heap.size w ((w.alloc (.cells (eA y) 138)).alloc (.cells #[.int .i64 t.var, .int .i64 t.n] 147)):=((aH _ _).alloc (aE _) _).alloc sI _;(have d:kG ((w.alloc (.cells (eA y) 138)).alloc (.cells #[.int .i64 t.var, .int .i64 t.n] 147)) w.heap.size y:=by have :=((aH (w.alloc (.cells (eA y) 138)).heap.size (w.alloc (.cells (eA y) 138))).alloc (aE _) (.cells #[.int .i64 t.var, .int .i64 t.n] 147)).block w.heap.size sI;exact this.trans (aR w _));unfold cC;by_cases h:t.var<0
 ·have g:decide (t.var<0)=true:=aQ h;clear ht h d
  go_enter Tryz.func210,Tryz.ntmps210
  go_wp2;go_ret;exact⟨by rw[g];rfl,f⟩
 have g:decide (t.var<0)=false:=aJ h;(have j:t.var.toNat<8:=by rcases ht with b|b;exact absurd b h;exact b);obtain⟨k,i⟩:∃k:Nat,t.var=k:=⟨t.var.toNat,oM⟩;have l:k<8:=oM;have q:=d.kn m l;obtain⟨s,r⟩:=t;simp only at i h g ht j;subst i;clear ht h j d
 go_enter Tryz.func210,Tryz.ntmps210
 go_wp2;go_ret;exact⟨rfl,f⟩
theorem kG.ints{w:World}{b:Nat}{y:bK}(h:kG w b y)(d:jI 8 y):dM w (.slice (some ⟨b,0,none⟩) 8 8) y.y:=by refine⟨some ⟨b,0,none⟩,8,by rw[d.n], .inr ⟨b,0,rfl,fun i e=>?_⟩⟩;rw[dV];exact h.num d (by rw[<-d.n];exact e)
theorem kG.u{w w':World}{b:Nat}{y:bK}(h:kG w b y)(d:Below w.heap.size w w'):kG w' b y:=(d.block _ (bP h)).trans h
theorem KK(w:World)(o q:Obj):((w.alloc o).alloc q).heap[w.heap.size]?=some o/\((w.alloc o).alloc q).heap[w.heap.size+1]?=some q/\Below w.heap.size w ((w.alloc o).alloc q):=by
 refine⟨?_,?_,((aH _ _).alloc (aE _) _).alloc sI _⟩
 ·have :=((aH (w.alloc o).heap.size (w.alloc o)).alloc (aE _) q).block w.heap.size sI;exact this.trans (aR w _)
 have :=aR (w.alloc o) q;simpa using this
theorem yG(y:bK)(t:dL)(w:World)(i:jI 8 y)(ht:qK 8 t):
 Calls Tryz.prog 187 #[eW y,iA t] w fun e m=>e=.returned (.int .i64 (eJ y.y t))/\Below w.heap.size w m:=by
 obtain⟨f,b,g⟩:=KK w (.cells (eA y) 138) (.cells #[.int .i64 t.var, .int .i64 t.n] 147);have k:O (kG ((w.alloc (.cells (eA y) 138)).alloc (.cells #[.int .i64 t.var, .int .i64 t.n] 147)) w.heap.size y):=f;have d:O _:=g;(have c0:((w.alloc (.cells (eA y) 138)).alloc (.cells #[.int .i64 t.var, .int .i64 t.n] 147)).cell? ⟨w.heap.size+1,0,none⟩=some (.int .i64 t.var):=cH b);(have q:((w.alloc (.cells (eA y) 138)).alloc (.cells #[.int .i64 t.var, .int .i64 t.n] 147)).cell? ⟨w.heap.size+1,1,none⟩=some (.int .i64 t.n):=cH b);(have j:O (t.var<0\/t.var.toNat<y.y.length):=by show _\/_;rw[i.n];exact ht);clear f b g ht
 go_enter Tryz.func187,Tryz.ntmps187
 go_upto_region 1 with fail;generalize (w.alloc (.cells (eA y) 138)).alloc (.cells #[.int .i64 t.var, .int .i64 t.n] 147)=p at *;(go_region_with (go_at_call 105;refine Calls.mono (Ff t y.y _ _ (kG.ints (kG.u k.o (eO p _)) i) j.o) ?_;rintro _ r ⟨rfl,l⟩));go_wp2_with fail;go_ret;exact⟨rfl,d.o.drew.trans (l.mono d.o.size)⟩
theorem qS{y:bK}(b:jI 8 y):(eA y).size=16:=by unfold eA;rw[List.size_toArray,bA,aP,aP,b.n,b.k]
theorem TZ(y:bK):(eA y).all (·.oneCell')=true:=by
 unfold eA;refine all_oneCell_toArray fun v b=>?_;rcases dP.mp b with h|h
 ·obtain⟨n,_,rfl⟩:=cR.mp h;rfl
 obtain⟨n,_,rfl⟩:=cR.mp h;rfl
theorem LJ:(Tryz.prog.info? 138).map (·.size)=some 16:=kR
theorem aN9{w:World}{b:Nat}{y:bK}(h:kG w b y):w.rangeAt b 0 (eA y).toList:=fun j v d=>by rw[dV,cD h];simpa using d
theorem Av{w:World}{b:Nat}{y:bK}(h:kG w b y)(d:jI 8 y):(loadVar 138 ⟨b,0,none⟩).run Tryz.prog w=.ok (eW y) w:=by have :=run_loadVar_mid (P:=Tryz.prog) w b 0 138 (eA y).toList _ (aN9 h) Tryz.underlying138 rfl (by rw[zO,qS d];exact LJ);simpa using this
theorem sN{a:Act}{o:Oper}{x:Operand}{w:World}{b:Nat}{y:bK}(d:o.op=.load 138 x)(e:a.eval x=.pointer (some ⟨b,0,none⟩))(h:kG w b y)(f:jI 8 y):(execOp a.eval o).run Tryz.prog w=.ok (.value (eW y)) w:=by unfold execOp;simp only[d,e,Instr.loadAt,Instr.sureAddr,Sem.run_bind,Sem.run_pure,Result.andThen_ok,Av h f]
theorem nE{d:Array Oper}{rest:List Oper}{o:Oper}{a:Act}{w:World}{Q:Exit->Act->World->Prop}(i:Region.wanted o (yielded d a.tmps)=true)(x:Operand)(g:o.op=.load 138 x)
 (b:Nat) (j:a.eval x=.pointer (some ⟨b,0,none⟩)) (y:bK) (f:kG w b y) (k:jI 8 y) (h:wpList Tryz.prog d Q rest (a.put o.dst (eW y)) w):wpList Tryz.prog d Q (o::rest) a w:=by
 refine wpList_step fun K e=>?_;rw[if_pos i];unfold Oper.wp;rw[sN g j f k,Oper.upon_value];exact e _ _ h
theorem EO{e:Array Oper}{rest:List Oper}{o:Oper}{a:Act}{w:World}{Q:Exit->Act->World->Prop}(i:o.guard=none)(x u:Operand)(j:o.op=.store 138 x u)
 (b:Nat) (m:a.eval x=.pointer (some ⟨b,0,none⟩)) (y z:bK) (l:a.eval u=eW z) (g:kG w b y) (n:jI 8 y) (d:jI 8 z) (h:wpList Tryz.prog e Q rest (a.put o.dst undef) (w.setRow b (eA z))):wpList Tryz.prog e Q (o::rest) a w:=by
 refine wpList_plain i fun K f=>?_;have k:=Dg (P:=Tryz.prog) w b 138 138 (eA y) (eA z) g (by rw[qS d];exact LJ) (by rw[qS n,qS d]) (TZ z);unfold Oper.wp execOp;simp only[j,m,l,Instr.storeAt,Instr.sureAddr,Sem.run_bind,Sem.run_pure,Result.andThen_ok,k];exact f _ _ h
theorem Bc{d:Func}{t u:Tmp}(h:d.results=#[.cell t 138, .tmp u]){tmps:Array Value}{w:World}{b:Nat}{y:bK}(ht:tmps.getD t undef=.pointer (some ⟨b,0,none⟩))(f:kG w b y)(i:jI 8 y):
 (results d tmps).run Tryz.prog w=.ok (.tuple #[eW y,tmps.getD u undef]) w:=by
 have e:=Av f i;(have g:tmps[t]?.getD undef=.pointer (some ⟨b,0,none⟩):=by simpa using ht);simp[results,h,g,asAddr,e]
theorem Dw{w:World}{b:Nat}{y z:bK}(h:kG w b y):kG (w.setRow b (eA z)) b z:=setRow_heap w b _ _ 138 _ h
theorem KL{w:World}{b k:Nat}{z:bK}(h:¬k=b):(w.setRow b (eA z)).heap[k]?=w.heap[k]?:=setRow_other w b k _ h
theorem SS{n:Nat}{w wr:World}{b:Nat}{z:bK}(h:Below n w wr)(d:n<=b):Below n w (wr.setRow b (eA z)):=
 h.trans ⟨rfl,rfl,rfl,by simp,fun k e=>setRow_other wr b k _ oM⟩
def rU(l:List Bool)(i:Nat):Bool:=l.getD i false
def yO(w:World)(ao:Option Addr)(l:List Bool):Prop:=
 l=[]\/∃b d,ao=some ⟨b,d,none⟩/\∀i,i<l.length->w.cell? ⟨b,d+i,none⟩=some (.bool (rU l i))
def vT(w:World)(v:Value)(l:List Bool):Prop:=∃b d,v=.slice b l.length d/\(l.length<=d/\(b=none->d=0))/\yO w b l
theorem zU{w w':World}{ao:Option Addr}{l:List Bool}(h:yO w ao l)(d:Below w.heap.size w w'):yO w' ao l:=by
 rcases h with h|⟨b,f,rfl,h⟩
 ·exact .inl h
 exact .inr ⟨b,f,rfl,fun i e=>aB d (h i e)⟩
theorem xF{w w':World}{ao:Option Addr}{l:List Int}(h:pH w ao l)(d:Below w.heap.size w w'):pH w' ao l:=by obtain⟨_,_,b,h⟩:=aM (⟨ao,0,rfl,h⟩:dM w (.slice ao l.length 0) l) d;injection b with b;rw[b];exact h
theorem BA(w:World)(a b c:Obj):(((w.alloc a).alloc b).alloc c).heap[w.heap.size]?=some a/\(((w.alloc a).alloc b).alloc c).heap[w.heap.size+1]?=some b/\(((w.alloc a).alloc b).alloc c).heap[w.heap.size+2]?=some c:=by
 show(((w.heap.push a).push b).push c)[w.heap.size]?=some a/\(((w.heap.push a).push b).push c)[w.heap.size+1]?=some b/\(((w.heap.push a).push b).push c)[w.heap.size+2]?=some c;refine⟨?_,?_,?_⟩
 ·rw[iE,if_neg sO,iE,if_neg sI,iE,if_pos rfl]
 ·rw[iE,if_neg sI,iE,if_pos sI]
 rw[iE,if_pos sI]
theorem YI:(Tryz.prog.info? 49).map (fun i=>(i.zero,i.size,i.bytes))=some (some (.agg #[.int .i64 0, .int .i64 0, .int .i64 0, .slice none 0 0]),4,48):=kR
end Go.Proofs.YthenjegmigeieaaGreat
namespace Go.Proofs.YthenjegmigeieaaGreat
open Go.RowKit
open Go.Maps
structure aLS (ns:List (List UInt8)) (D:DataW Unit):Prop where
 size:Maps.size D=ns.length
 has:∀s:List UInt8,Maps.has D (.string s)=ns.contains s
 at_:∀s:List UInt8,s∈ns->D.atKey (.string s) (.lit (.int .i64 0))=.lit (.int .i64 (ns.idxOf s))
def ZP(w:World)(B:Nat)(ns:List (List UInt8)):Prop:=∃D:DataW Unit,w.ownsMap Tryz.prog 9 (plainElem Tryz.prog 3) B ns.length D/\aLS ns D
theorem aR2{x:List UInt8}:∀{l m:List (List UInt8)},x∈l->(l++m).idxOf x=l.idxOf x:=by
 intro l
 induction l with
 |nil=>exact fun h=>absurd h sI
 |cons a r e=>
  intro m h;rw[Dc,List.idxOf_cons,List.idxOf_cons];by_cases b:a=x
  ·simp[b]
  have d:x∈r:=by
   rcases eQ.mp h with h|h
   ·exact absurd h.symm b
   exact h
  rw[e d]
theorem aR3{x:List UInt8}:∀{l:List (List UInt8)},¬x∈l->(l++[x]).idxOf x=l.length:=by
 intro l
 induction l with
 |nil=>intro _;simp
 |cons a r d=>
  intro h;have b:¬a=x:=fun e=>h (by simp[e]);rw[Dc,List.idxOf_cons,d (fun e=>h (bO _ e)),beq_false_of_ne b];rfl
theorem aFT{x:List UInt8}:∀{l:List (List UInt8)},¬x∈l->l.idxOf x=l.length:=by
 intro l
 induction l with
 |nil=>intro _;simp
 |cons a r d=>
  intro h;have b:¬a=x:=fun e=>h (by simp[e]);rw[List.idxOf_cons,d (fun e=>h (bO _ e)),beq_false_of_ne b];rfl
theorem aBZ:Keyed Tryz.prog 9:=string_keyed Tryz.underlying9
theorem aLA(w:World):(zeroValue 3).run Tryz.prog w=.ok (.int .i64 0) w:=kR
theorem aLS.nil:aLS [] (.map []):=⟨rfl,fun _=>rfl,fun _ h=>absurd h sI⟩
theorem aLS.push{ns:List (List UInt8)}{D:DataW Unit}(h:aLS ns D)(d:Tidy D)(s:List UInt8)(g:ns.contains s=false):aLS (ns++[s]) (D.put (.string s) (.lit (.int .i64 ns.length))):=by
 (have f:WideAt.IsKeyLit (.string s):=by simp[WideAt.IsKeyLit]);(have j:¬s∈ns:=by simpa using g);refine⟨?_,fun x=>?_,fun x b=>?_⟩
 ·rw[size_put d,h.has,g,h.size];simp
 ·by_cases b:x=s
  ·subst b;rw[has_put_same d.isMap f];simp
  rw[has_put_other (by simpa using b),h.has];simp[b]
 by_cases e:x=s
 ·subst e;rw[atKey_put_same d.isMap f,aR3 j]
 have i:x∈ns:=by
  rcases dP.mp b with h|h
  ·exact h
  exact absurd (by simpa using h) e
 rw[atKey_put_other (by simpa using e),h.at_ x i,aR2 i]
theorem ZP.u{w w':World}{B:Nat}{ns:List (List UInt8)}(h:ZP w B ns)(k:Below w.heap.size w w'):ZP w' B ns:=by obtain⟨D,⟨e,d,b,f,g,i⟩,j⟩:=h;exact⟨D,⟨e,d,(k.block _ (bP b)).trans b,f,g,i⟩,j⟩
theorem aJS(w:World):ZP (w.alloc (.map #[] 0)) w.heap.size []:=⟨_,World.ownsMap_made _ _ _ _,aLS.nil⟩
theorem aUC(B:Nat)(ns:List (List UInt8))(s:List UInt8)(w:World)(h:ZP w B ns)(z:s.length<=5000)(y:ns.length<=1000000):
 Calls Tryz.prog 174 #[.map (some B), .string ⟨s.toArray⟩] w fun e m=>e=.returned (.int .i64 (ns.idxOf s))/\ZP m B (if ns.contains s then ns else ns++[s])/\w.grownBy m (some B):=by
 obtain⟨D,d,b⟩:=h;(have i:keyOf Tryz.prog 9 (.string ⟨s.toArray⟩)=some (.string s):=by have :keyOf Tryz.prog 9 (.string ⟨s.toArray⟩)=some (.string (⟨s.toArray⟩:ByteArray).data.toList):=Go.WideMaps.keyOf_string_mk Tryz.underlying9 (by unfold maxLen;simp[ByteArray.size];omega);simpa using this);have g:=d.tidy aBZ;have l:=b.has s;cases f:ns.contains s
 ·rw[f]at l;have A:=b.size;have HP:O (aLS (ns++[s]) (D.put (.string s) (.lit (.int .i64 ns.length)))):=b.push g s f;have x:ns.idxOf s=ns.length:=aFT (by simpa using f);clear b g;have v:(Lit.int IntKind.i64 (ns.length:Int)).wf=true:=WalkArith.wf_i64 oM
  go_enter Tryz.func174,Tryz.ntmps174
  go_wp2_with(first
   |(at_lookup;refine wpList_lookup_own_ok_int _ rfl _ _ 208 rfl 9 3 .i64 aBZ Tryz.underlying208 Tryz.underlying3 (aLA _) B ns.length D rfl d _ _ rfl i ?_;intro c k r)
   |(at_len;refine wpList_len_own _ rfl _ 208 rfl 9 3 Tryz.underlying208 _ B ns.length D rfl d ?_)
   |(at_mapUpdate;refine wpList_mapUpdate_own _ rfl _ _ _ 208 rfl 9 3 aBZ Tryz.underlying208 _ B ns.length _ rfl d (by unfold maxLen;omega) _ _ _ rfl rfl i _ [] (plainElem_int Tryz.underlying3 v) ?_;intro C q p))
  go_ret;exact⟨rfl,⟨_,by rw[bA];exact q,HP.o⟩,p⟩
 rw[f]at l;have k:=b.at_ s (by simpa using f);have HN:O (aLS ns D):=b;clear b g
 go_enter Tryz.func174,Tryz.ntmps174
 go_wp2_with(at_lookup;refine wpList_lookup_own_ok_int _ rfl _ _ 208 rfl 9 3 .i64 aBZ Tryz.underlying208 Tryz.underlying3 (aLA _) B ns.length D rfl d _ _ rfl i ?_;intro c j r);go_ret;(have n:c=(ns.idxOf s:Int):=by rw[k]at j;simpa using j.symm);subst n;exact⟨rfl,⟨D,d,HN.o⟩,lI (aH _ _) _⟩
end Go.Proofs.YthenjegmigeieaaGreat
namespace Go.Proofs.YthenjegmigeieaaGreat
open Go.RowKit
theorem aJO(s:List UInt8):(lB [⟨0,s,[],0,[]⟩]==0)=oR s:=by cases h:oR s<;>simp[lB,jA,nI,vS,qL,pP,CQ,AT,h]
theorem aKC(s:List UInt8)(w:World):Calls Tryz.prog 173 #[.string ⟨s.toArray⟩] w fun e k=>e=.returned (.bool (oR s))/\Below w.heap.size w k:=by
 rw[<-aJO]
 go_enter Tryz.func173,Tryz.ntmps173
 go_wp2_with fail;(have d:OY (w.alloc (.cells #[.int .i64 0, .string ⟨s.toArray⟩, .slice none 0 0, .int .i64 0, .slice none 0 0] 240)) (.slice (some ⟨w.heap.size,0,none⟩) 1 1) [⟨0,s,[],0,[]⟩]:=by have g:=aR w (.cells #[.int .i64 0, .string ⟨s.toArray⟩, .slice none 0 0, .int .i64 0, .slice none 0 0] 240);refine⟨some ⟨w.heap.size,0,none⟩,1,rfl, .inr ⟨w.heap.size,0,rfl,fun i j=>?_⟩⟩;(obtain rfl:i=0:=by simpa using j);refine⟨?_,?_,⟨_,?_,⟨none,0,rfl, .inl rfl⟩⟩,?_,_,?_,⟨none,0,rfl, .inl rfl⟩⟩<;>(rw[cD g];rfl));refine Calls.mono (aLN _ _ _ d) ?_;rintro e l ⟨rfl,f⟩;have b:Below w.heap.size w (w.alloc (.cells #[.int .i64 0, .string ⟨s.toArray⟩, .slice none 0 0, .int .i64 0, .slice none 0 0] 240)):=(aH _ _).alloc (aE _) _;go_wp2_with fail;go_ret;exact⟨rfl,b.trans (f.mono b.size)⟩
structure RB (w:World) (o1 o2:Obj) (wr:World):Prop where
 j:Below w.heap.size w wr
 b1:wr.heap[w.heap.size]?=some o1
 b2:wr.heap[w.heap.size+1]?=some o2
theorem RB.u{w wr d:World}{o1 o2:Obj}(h:RB w o1 o2 wr)(b:Below wr.heap.size wr d):RB w o1 o2 d:=
 ⟨h.j.trans (b.mono h.j.size),(b.block _ (bP h.b1)).trans h.b1,(b.block _ (bP h.b2)).trans h.b2⟩
theorem RB.start(w:World)(o1 o2:Obj):RB w o1 o2 ((w.alloc o1).alloc o2):=⟨AX w _ _,(yJ (aH _ _)).1,(yJ (aH _ _)).2⟩
theorem RB.drew{w wr:World}{o1 o2:Obj}(h:RB w o1 o2 wr):RB w o1 o2 wr.drew:=⟨h.j.drew,h.b1,h.b2⟩
theorem uQ{α:Type}{f:α->Int}:∀{l:List α},aU f l=0->∀x,x∈l->f x=0:=by
 intro l
 induction l with
 |nil=>exact fun _ x b=>absurd b sI
 |cons a r e=>
  intro h x b;rw[aU]at h;split at h
  ·rename_i d;rcases eQ.mp b with rfl|b
   ·exact d
   exact e h x b
  rename_i d;exact absurd h d
theorem XC{l:List cI}{i:Nat}(h:i<l.length):cJ l i∈l:=by unfold cJ;rw[aC,aD h];exact dY h
theorem aQV{a b:Int}(h:iD a b=0):a=0/\b=0:=by
 unfold iD at h;split at h
 ·exact⟨by assumption,h⟩
 rename_i d;exact absurd h d
theorem aF1{f:List Int}{e:Int}{x:cI}(h:fK f e x=0)(h0:0<=e)(i:JM x):Dh e.toNat x:=by
 obtain⟨b,g⟩:=aQV h;refine⟨fun d=>?_,fun t ht=>?_,i⟩
 ·rw[dX,if_neg (by rw[d];decide),if_neg (by rw[d];decide),if_pos d]at b;split at b
  ·split at b
   ·exact absurd b dE
   rename_i k;exact Classical.byContradiction fun l=>k (.inr l)
  exact absurd b dE
 have :=uQ g t ht;unfold kO dG at this;split at this
 ·rename_i j;simp at j;omega
 exact absurd this dE
theorem Oy(l:List Int)(va vn vr:Value)(r:bB)(vt vb:Value)(w:World)(hA:dM w va l)(hT:fT w vt r.p)(hL:pI w vb r.body)(hF:BS r):
 Calls Tryz.prog 175 #[eN va vn vr,lP r vt vb] w fun e w'=>e=WT (dT l r)/\Below w.heap.size w w':=by
 obtain⟨ao,D,rfl,hA⟩:=hA;obtain⟨M,m,q,f,g⟩:=r;have HT:O (fT w vt m):=hT;have HL:O (pI w vb f):=hL;have HA:O (dM w (.slice ao l.length D) l):=⟨ao,D,rfl,hA⟩;have a5:O (m.length<=9223372036854775807):=hF.1;have a4:O (∀i,i<f.length->JM (cJ f i)):=hF.2.2;obtain⟨at_,J,rfl,_,_⟩:=hT;obtain⟨N,cb,rfl,a0⟩:=hL;have a0:IP w N f:=a0;simp only at HT HL;clear hF;have d:=RB.start w (.cells #[.slice ao l.length D,vn,vr] 26) (.cells #[.int .i64 M, .slice at_ m.length J, .int .i64 q, .slice N f.length cb, .int .i64 g] 40)
 have n:O (dT l ⟨M,m,q,f,g⟩=if lG l M then
  iD (if(m.length:Int)≠bM l M.toNat then 1 else 0) (
  iD (if dG g 0 8 then 0 else 3) (
  iD (eM g m) (
  iD (if dG q 0 4 then 0 else 7) (
  iD (if q≠0/\(m.length=0\/f.length=0)then 1 else 0) (
  iD (if 4<f.length then 2 else 0) (
  iD (aU (fK l g) f) (if uC ⟨M,m,q,f,g⟩then 0 else 4)))))))
 else 5):=rfl
 cases g1:lG l M
 ·(have HV:O (dT l ⟨M,m,q,f,g⟩=5):=by show _=_;rw[n.o,g1];rfl);clear n a0 HT HL HA a5 a4
  go_enter Tryz.func175,Tryz.ntmps175
  go_wp2_with fail;refine(CY l ao D vn vr M _).mono ?_;rintro e w2 ⟨s,F⟩;rw[g1]at s;subst s;have d:=d.u F;go_wp2_with fail;refine(gO 5 _).mono ?_;rintro e A ⟨rfl,B⟩;go_wp2_with fail;exact⟨rfl,rV,d.j.trans (B.mono d.j.size)⟩
 obtain⟨k,rfl,hk⟩:=TV g1;obtain⟨b,G,rfl,hc⟩:=qY hA k hk;have HC:O (∀y,Below w.heap.size w y->y.cell? ⟨b,G+k,none⟩=some (.int .i64 (bM l k))):=fun y hy=>aB hy hc;clear hc hA;rw[g1,if_pos rfl,fJ]at n
 go_enter Tryz.func175,Tryz.ntmps175
 go_wp2_with fail;refine(CY l _ D vn vr k _).mono ?_;rintro e w2 ⟨s,F⟩;rw[g1]at s;subst s;have d:=d.u F;have hq:=HC.o _ d.j;clear F HC;go_wp2_with fail;refine(iW 5 _).mono ?_;rintro e A ⟨rfl,rfl⟩;(have I:A.cell? ⟨w.heap.size,0,none⟩=some (.slice (some ⟨b,G,none⟩) l.length D):=cH d.b1);(have P:A.cell? ⟨w.heap.size+1,0,none⟩=some (.int .i64 k):=cH d.b2);(have Q:A.cell? ⟨w.heap.size+1,1,none⟩=some (.slice at_ m.length J):=cH d.b2);(have R:A.cell? ⟨w.heap.size+1,2,none⟩=some (.int .i64 q):=cH d.b2);(have T:A.cell? ⟨w.heap.size+1,3,none⟩=some (.slice N f.length cb):=cH d.b2);(have U:A.cell? ⟨w.heap.size+1,4,none⟩=some (.int .i64 g):=cH d.b2);go_upto_region 2 with fail;cases g2:((m.length:Int) != bM l k)
 ·(have h2:(m.length:Int)=bM l k:=by simpa using g2);rw[if_neg (by simp[h2]),eY]at n;go_region_held3 (fun y=>y.cell? ⟨w.heap.size,0,none⟩=some (.slice (some ⟨b,G,none⟩) l.length D)/\y.cell? ⟨w.heap.size+1,0,none⟩=some (.int .i64 k)/\y.cell? ⟨w.heap.size+1,1,none⟩=some (.slice at_ m.length J)/\y.cell? ⟨b,G+k,none⟩=some (.int .i64 (bM l k))) (go_keep) ((go_at_call 129;refine Calls.mono (iW 1 _) ?_;rintro e y ⟨rfl,rfl⟩));have d:=d.drew;clear I P Q R T U h2 hq;generalize A.drew=wd at *;(have I:wd.cell? ⟨w.heap.size,0,none⟩=some (.slice (some ⟨b,G,none⟩) l.length D):=cH d.b1);(have P:wd.cell? ⟨w.heap.size+1,0,none⟩=some (.int .i64 k):=cH d.b2);(have Q:wd.cell? ⟨w.heap.size+1,1,none⟩=some (.slice at_ m.length J):=cH d.b2);(have R:wd.cell? ⟨w.heap.size+1,2,none⟩=some (.int .i64 q):=cH d.b2);(have T:wd.cell? ⟨w.heap.size+1,3,none⟩=some (.slice N f.length cb):=cH d.b2);(have U:wd.cell? ⟨w.heap.size+1,4,none⟩=some (.int .i64 g):=cH d.b2);by_cases h3:g<0
  ·(have HV:O (dT l ⟨k,m,q,f,g⟩=3):=by show _=_;rw[n.o,if_neg (by simp[dG];omega)];rfl);have g3:decide (g<0)=true:=aQ h3;clear n;go_wp2_with fail;refine(gO 3 _).mono ?_;rintro e A ⟨rfl,B⟩;go_wp2_with fail;exact⟨rfl,rV,d.j.trans (B.mono d.j.size)⟩
  have g3:decide (g<0)=false:=aJ h3;by_cases ac:8<g
  ·(have HV:O (dT l ⟨k,m,q,f,g⟩=3):=by show _=_;rw[n.o,if_neg (by simp[dG];omega)];rfl);have aj:decide (8<g)=true:=aQ ac;clear n;go_wp2_with fail;refine(gO 3 _).mono ?_;rintro e A ⟨rfl,B⟩;go_wp2_with fail;exact⟨rfl,rV,d.j.trans (B.mono d.j.size)⟩
  have aj:decide (8<g)=false:=aJ ac;rw[if_pos (show dG g 0 8=true by simp[dG];omega),eY]at n;go_wp2_with fail;refine(iW 3 _).mono ?_;rintro e A ⟨rfl,rfl⟩;go_wp2_with fail;refine Calls.mono (PU m g _ _ a5.o (dS HT.o d.j)) ?_;rintro e Y ⟨s,X⟩;by_cases h4:eM g m=0;rotate_left
  ·(have HV:O (dT l ⟨k,m,q,f,g⟩=eM g m):=by show _=_;rw[n.o,pD _ h4]);rw[AF h4]at s;subst s;clear n;go_wp2_with fail;exact⟨rfl,by rw[HV.o,AF h4],d.j.trans (X.mono d.j.size)⟩
  rw[h4,FR]at s;subst s;rw[h4,eY]at n;have d:=d.u X;clear I P Q R T U X h4 a5;(have I:Y.cell? ⟨w.heap.size,0,none⟩=some (.slice (some ⟨b,G,none⟩) l.length D):=cH d.b1);(have P:Y.cell? ⟨w.heap.size+1,0,none⟩=some (.int .i64 k):=cH d.b2);(have Q:Y.cell? ⟨w.heap.size+1,1,none⟩=some (.slice at_ m.length J):=cH d.b2);(have R:Y.cell? ⟨w.heap.size+1,2,none⟩=some (.int .i64 q):=cH d.b2);(have T:Y.cell? ⟨w.heap.size+1,3,none⟩=some (.slice N f.length cb):=cH d.b2);(have U:Y.cell? ⟨w.heap.size+1,4,none⟩=some (.int .i64 g):=cH d.b2);by_cases h5:q<0
  ·(have HV:O (dT l ⟨k,m,q,f,g⟩=7):=by show _=_;rw[n.o,if_neg (by simp[dG];omega)];rfl);have g5:decide (q<0)=true:=aQ h5;clear n;go_wp2_with fail;refine(gO 7 _).mono ?_;rintro e A ⟨rfl,B⟩;go_wp2_with fail;exact⟨rfl,rV,d.j.trans (B.mono d.j.size)⟩
  have g5:decide (q<0)=false:=aJ h5;by_cases ad:4<q
  ·(have HV:O (dT l ⟨k,m,q,f,g⟩=7):=by show _=_;rw[n.o,if_neg (by simp[dG];omega)];rfl);have ak:decide (4<q)=true:=aQ ad;clear n;go_wp2_with fail;refine(gO 7 _).mono ?_;rintro e A ⟨rfl,B⟩;go_wp2_with fail;exact⟨rfl,rV,d.j.trans (B.mono d.j.size)⟩
  have ak:decide (4<q)=false:=aJ ad;rw[if_pos (show dG q 0 4=true by simp[dG];omega),eY]at n;go_wp2_with fail;refine(iW 7 _).mono ?_;rintro e A ⟨rfl,rfl⟩;go_upto_region 6 with fail;by_cases H:q≠0/\(m.length=0\/f.length=0)
  ·(have HV:O (dT l ⟨k,m,q,f,g⟩=1):=by show _=_;rw[n.o,if_pos H];rfl);clear n;(have g6:(q != 0)=true:=by simpa using H.1);by_cases h7:m.length=0
   ·(have g7:((m.length:Int)==0)=true:=by simp[h7]);clear H h7;go_wp2_with fail;refine(gO 1 _).mono ?_;rintro e A ⟨rfl,B⟩;go_wp2_with fail;exact⟨rfl,rV,d.j.trans (B.mono d.j.size)⟩
   (have g7:((m.length:Int)==0)=false:=by simp;exact fun e=>h7 (by rw[e];rfl));have W:f.length=0:=H.2.resolve_left h7;(have g8:((f.length:Int)==0)=true:=by simp[W]);clear H h7 W;go_wp2_with fail;refine(gO 1 _).mono ?_;rintro e A ⟨rfl,B⟩;go_wp2_with fail;exact⟨rfl,rV,d.j.trans (B.mono d.j.size)⟩
  rw[if_neg H,eY]at n;go_cut [] (fun wx=>wx=A)
  case first=>
   cases g6:(q != 0)
   ·clear H;go_wp2_with fail;refine(iW 1 _).mono ?_;rintro e w5 ⟨rfl,rfl⟩;go_wp2_with fail;go_meet;rfl
   have E:¬(m.length=0\/f.length=0):=fun h=>H ⟨by simpa using g6,h⟩;(have g7:((m.length:Int)==0)=false:=by simp;exact fun e=>E (.inl (by rw[e];rfl)));(have g8:((f.length:Int)==0)=false:=by simp;exact fun e=>E (.inr (by rw[e];rfl)));clear H E;go_wp2_with fail;refine(iW 1 _).mono ?_;rintro e w5 ⟨rfl,rfl⟩;go_wp2_with fail;go_meet;rfl
  case rest=>
   subst hcut;clear H;by_cases W:4<f.length
   ·(have HV:O (dT l ⟨k,m,q,f,g⟩=2):=by show _=_;rw[n.o,if_pos W];rfl);have g8:decide (4<f.length)=true:=aQ W;have al:decide ((4:Int)<(f.length:Int))=true:=aQ oM;clear n;go_wp2_with fail;refine(gO 2 _).mono ?_;rintro e A ⟨rfl,B⟩;go_wp2_with fail;exact⟨rfl,rV,d.j.trans (B.mono d.j.size)⟩
   have g8:decide (4<f.length)=false:=aJ W;have al:decide ((4:Int)<(f.length:Int))=false:=aJ oM;rw[if_neg W,eY]at n;go_wp2_with fail;refine(iW 2 _).mono ?_;rintro e A ⟨rfl,rfl⟩;go_wp2_with fail;clear I P Q R T U;go_loopw [70] (fun i wr=>∃j:Nat,j<=f.length/\i=.int .i64 j/\RB w (.cells #[.slice (some ⟨b,G,none⟩) l.length D,vn,vr] 26) (.cells #[.int .i64 k, .slice at_ m.length J, .int .i64 q, .slice N f.length cb, .int .i64 g] 40) wr/\aU (fK l g) f=aU (fK l g) (f.drop j)) (fun i _=>f.length-(intOf i).toNat);case atStart=>exact⟨0,bG _,rfl,d,rfl⟩
   case round=>
    clear d;obtain⟨j,hj,rfl,d,ag⟩:=hrel;have a2:O _:=ag;clear ag;(have I:wr.cell? ⟨w.heap.size,0,none⟩=some (.slice (some ⟨b,G,none⟩) l.length D):=cH d.b1);(have P:wr.cell? ⟨w.heap.size+1,0,none⟩=some (.int .i64 k):=cH d.b2);(have Q:wr.cell? ⟨w.heap.size+1,1,none⟩=some (.slice at_ m.length J):=cH d.b2);(have R:wr.cell? ⟨w.heap.size+1,2,none⟩=some (.int .i64 q):=cH d.b2);(have T:wr.cell? ⟨w.heap.size+1,3,none⟩=some (.slice N f.length cb):=cH d.b2);(have U:wr.cell? ⟨w.heap.size+1,4,none⟩=some (.int .i64 g):=cH d.b2);(have c2:wr.cell? ⟨w.heap.size,1,none⟩=some vn:=cH d.b1);(have c3:wr.cell? ⟨w.heap.size,2,none⟩=some vr:=cH d.b1);by_cases a7:j<f.length
    ·obtain⟨b3,aq,rfl,p0,p1,p2,v,p3,ae⟩:=vH a0 j a7;have aa:O (fT w v (cJ f j).p):=ae;obtain⟨av,cv,rfl,_,_⟩:=ae;have q0:=aB d.j p0;have q1:=aB d.j p1;have q2:=aB d.j p2;have q3:=aB d.j p3;have Z:O (aU (fK l g) f=iD (fK l g (cJ f j)) (aU (fK l g) (f.drop (j+1)))):=a2.o.trans (uP _ _ _ j a7);have a9:O (JM (cJ f j)):=a4.o j a7;have B:Below wr.heap.size wr (wr.alloc (.cells #[.int .i64 (cJ f j).kind, .int .i64 (cJ f j).op, .int .i64 (cJ f j).z, .slice av (cJ f j).p.length cv] 49)):=(aH _ _).alloc (aE _) _;have a8:=aR wr (.cells #[.int .i64 (cJ f j).kind, .int .i64 (cJ f j).op, .int .i64 (cJ f j).z, .slice av (cJ f j).p.length cv] 49);have L:=d.u B;clear p0 p1 p2 p3 B a2 a0 HL;generalize hx:cJ f j=x at *;clear hx I c2 c3;(have I:(wr.alloc (.cells #[.int .i64 x.kind, .int .i64 x.op, .int .i64 x.z, .slice av x.p.length cv] 49)).cell? ⟨w.heap.size,0,none⟩=some (.slice (some ⟨b,G,none⟩) l.length D):=cH L.b1);(have c2:(wr.alloc (.cells #[.int .i64 x.kind, .int .i64 x.op, .int .i64 x.z, .slice av x.p.length cv] 49)).cell? ⟨w.heap.size,1,none⟩=some vn:=cH L.b1);(have c3:(wr.alloc (.cells #[.int .i64 x.kind, .int .i64 x.op, .int .i64 x.z, .slice av x.p.length cv] 49)).cell? ⟨w.heap.size,2,none⟩=some vr:=cH L.b1);go_wp2_with fail;refine Calls.mono (aBP l _ vn vr x _ _ (aM HA.o L.j) ⟨_,_,rfl⟩) ?_;rintro e w2 ⟨s,F⟩;by_cases E:dX l x=0;rotate_left
     ·(have HV:O (dT l ⟨k,m,q,f,g⟩=dX l x):=by show _=_;rw[n.o,Z.o,fK,pD _ E,pD _ E,pD _ E]);rw[AF E]at s;subst s;clear n Z;go_wp2_with fail;exact⟨rfl,by rw[HV.o,AF E],L.j.trans (F.mono L.j.size)⟩
     rw[E,FR]at s;subst s;have a1:=L.u F;have ah:=(F.block _ (bP a8)).trans a8;(have l3:w2.cell? ⟨wr.heap.size,3,none⟩=some (.slice av x.p.length cv):=cH ah);(have ai:w2.cell? ⟨w.heap.size+1,4,none⟩=some (.int .i64 g):=cH a1.b2);clear a8 ah F L q0 q1 q2 q3 I P Q R T U c2 c3;go_wp2_with fail;refine Calls.mono (PU x.p g _ _ a9.o (dS aa.o a1.j)) ?_;rintro e Y ⟨s,X⟩;by_cases V:eM g x.p=0;rotate_left
     ·(have HV:O (dT l ⟨k,m,q,f,g⟩=eM g x.p):=by show _=_;rw[n.o,Z.o,fK,E,eY,pD _ V,pD _ V]);rw[AF V]at s;subst s;clear n Z;go_wp2_with fail;exact⟨rfl,by rw[HV.o,AF V],a1.j.trans (X.mono a1.j.size)⟩
     rw[V,FR]at s;subst s;have am:=a1.u X;(have HV:O (aU (fK l g) f=aU (fK l g) (f.drop (j+1))):=by show _=_;rw[Z.o,fK,E,eY,V,eY]);clear Z aa a9 X E V l3 ai a1;go_wp2_with fail;go_roundw;(case rel=>exact⟨j+1,oM,gN,am,HV.o⟩);case measure=>exact mI
    (have hz:aU (fK l g) f=0:=by rw[a2.o,bD oM];rfl);have a6:VQ ⟨k,m,q,f,g⟩:=⟨by show 0<=g;omega,by show g<=8;omega,by show f.length<=4;omega,fun i hi=>aF1 (uQ hz _ (XC hi)) (by show 0<=g;omega) (a4.o i hi)⟩;rw[hz,eY]at n;clear a2 hz a0;go_wp2_with fail;refine Calls.mono (aJG ⟨k,m,q,f,g⟩ _ _ _ (nU HL.o d.j) a6) ?_;rintro e w2 ⟨s,F⟩;have d:=d.u F;cases a3:uC ⟨k,m,q,f,g⟩
    ·rw[a3]at s n;subst s;(have HV:O (dT l ⟨k,m,q,f,g⟩=4):=by show _=_;rw[n.o];rfl);clear n a6 a3;go_wp2_with fail;refine(gO 4 _).mono ?_;rintro e A ⟨rfl,B⟩;go_wp2_with fail;exact⟨rfl,rV,d.j.trans (B.mono d.j.size)⟩
    rw[a3]at s n;subst s;(have HV:O (dT l ⟨k,m,q,f,g⟩=0):=by show _=_;rw[n.o];rfl);clear n a6 a3;go_wp2_with fail;refine(iW 4 _).mono ?_;rintro e A ⟨rfl,rfl⟩;go_wp2_with fail;exact⟨rfl, .tuple #[],by simp[results,Tryz.results175],rV,d.j⟩
 (have h2:¬(m.length:Int)=bM l k:=by simpa using g2);(have HV:O (dT l ⟨k,m,q,f,g⟩=1):=by show _=_;rw[n.o,if_pos h2];rfl);have af:=d.j;clear n h2;refine wp_region_held_drew (S:=(fun y=>y.cell? ⟨w.heap.size,0,none⟩=some (.slice (some ⟨b,G,none⟩) l.length D)/\y.cell? ⟨w.heap.size+1,0,none⟩=some (.int .i64 k)/\y.cell? ⟨w.heap.size+1,1,none⟩=some (.slice at_ m.length J)/\y.cell? ⟨b,G+k,none⟩=some (.int .i64 (bM l k)))) kR (by go_keep) (fun ap=>?_);refine jH (i:=0) (v:=?v0x0) rfl kR kR kR (fun _ _ _ h=>h) (Or.inl ⟨by rfl,?hy0x0⟩) (by assumption) ?_;(case hy0x0=>intro w C;(try dsimp only at C);go_simp;try with_reducible rfl);(try simp only[Act.put,List.setIfInBounds_toArray]);refine jH (i:=1) (v:=?v1x1) rfl kR kR kR (fun _ _ _ h=>h) (Or.inl ⟨by rfl,?hy1x1⟩) (by assumption) ?_;(case hy1x1=>intro w C;(try dsimp only at C);go_simp;try with_reducible rfl);(try simp only[Act.put]);refine jH (i:=2) (v:=?v2x2) rfl kR kR kR (fun _ _ _ h=>h) (Or.inl ⟨by rfl,?hy2x2⟩) (by assumption) ?_;(case hy2x2=>intro w C;(try dsimp only at C);go_simp;try with_reducible rfl);(try simp only[Act.put]);refine jH (i:=3) (v:=?v3x3) rfl kR kR kR (fun _ _ _ h=>h) (Or.inl ⟨by rfl,?hy3x3⟩) (by assumption) ?_;(case hy3x3=>intro w C;(try dsimp only at C);go_simp;try with_reducible rfl);(try simp only[Act.put]);refine jH (i:=4) (v:=?v4x4) rfl kR kR kR (fun _ _ _ h=>h) (Or.inl ⟨by rfl,?hy4x4⟩) (by assumption) ?_;(case hy4x4=>intro w C;(try dsimp only at C);go_simp;try with_reducible rfl);(try simp only[Act.put]);refine jH (i:=5) (v:=?v5x5) rfl kR kR kR (fun _ _ _ h=>h) (Or.inl ⟨by rfl,?hy5x5⟩) (by assumption) ?_;(case hy5x5=>intro w C;(try dsimp only at C);go_simp;try with_reducible rfl);(try simp only[Act.put]);refine jH (i:=6) (v:=?v6x6) rfl kR kR kR (fun _ _ _ h=>h) (Or.inl ⟨by rfl,?hy6x6⟩) (by assumption) ?_;(case hy6x6=>intro w C;(try dsimp only at C);go_simp;try with_reducible rfl);(try simp only[Act.put]);refine jH (i:=7) (v:=?v7x7) rfl kR kR kR (fun _ _ _ h=>h) (Or.inl ⟨by rfl,?hy7x7⟩) (by assumption) ?_;(case hy7x7=>intro w C;(try dsimp only at C);go_simp;try with_reducible rfl);(try simp only[Act.put]);refine jH (i:=8) (v:=?v8x8) rfl kR kR kR (fun _ _ _ h=>h) (Or.inl ⟨by rfl,?hy8x8⟩) (by assumption) ?_;(case hy8x8=>intro w C;(try dsimp only at C);go_simp;try with_reducible rfl);(try simp only[Act.put]);refine jH (i:=9) (v:=?v9x9) rfl kR kR kR (fun _ _ _ h=>h) (Or.inl ⟨by rfl,?hy9x9⟩) (by assumption) ?_;(case hy9x9=>intro w C;(try dsimp only at C);go_simp;try with_reducible rfl);(try simp only[Act.put]);refine wpAnyH_ready (rs:=[10]) kR sI ?_;refine AllReadyH.cons rfl (fun K hK=>?_) AllReadyH.nil;go_simp;go_at_call 129;refine Calls.mono (gO 1 _) ?_;rintro e y2 ⟨rfl,an⟩;exact⟨rfl,rV,af.drew.trans (an.mono af.size)⟩
structure CB (w:World) (o:Obj) (M:Nat) (ns:List (List UInt8)) (wr:World):Prop where
 j:Below w.heap.size w wr
 box:wr.heap[w.heap.size]?=some o
 num:ZP wr M ns
 lt:w.heap.size<M
theorem CB.u{w wr d:World}{o:Obj}{M:Nat}{ns:List (List UInt8)}(h:CB w o M ns wr)(b:Below wr.heap.size wr d):CB w o M ns d:=
 ⟨h.j.trans (b.mono h.j.size),(b.block _ (bP h.box)).trans h.box,h.num.u b,h.lt⟩
theorem CB.of{w wr b:World}{o:Obj}{M:Nat}{ns g:List (List UInt8)}(h:CB w o M ns wr)(hg:wr.grownBy b (some M))(l:ZP b M g):CB w o M g b:=by
 have i:=h.lt;have f:=h.j.size
 exact⟨⟨hg.os.trans h.j.os,hg.tape.trans h.j.tape,hg.output.trans h.j.output,bH f hg.size,fun k d=>(hg.block k (dQ d f) (fun e=>by injection e;omega)).trans (h.j.block k d)⟩,
  (hg.block _ (bP h.box) (fun e=>by injection e;omega)).trans h.box,l,i⟩
theorem CB.start(w:World)(o:Obj):CB w o (w.heap.size+1) [] ((w.alloc o).alloc (.map #[] 0)):=by have h:=yJ (w:=w) (o1:=o) (o2:=.map #[] 0) (aH _ _);have b:=aJS (w.alloc o);rw[show(w.alloc o).heap.size=w.heap.size+1 by simp]at b;exact⟨AX w _ _,h.1,b,oM⟩
theorem aCO{w:World}{ao:Option Addr}{l:List (List UInt8)}(h:aBA w ao l)(n:Nat)(e:n<l.length):∃b d,ao=some ⟨b,d,none⟩/\w.cell? ⟨b,d+n,none⟩=some (.string ⟨(oP l n).toArray⟩):=by
 rcases h with h|⟨b,d,f,g⟩
 ·rw[h]at e;exact absurd e sI
 exact⟨b,d,f,g n e⟩
theorem rH{w:World}{ao:Option Addr}{l:List bB}(h:BL w ao l)(n:Nat)(e:n<l.length):∃b d,ao=some ⟨b,d,none⟩/\QT w b (d+n*5) (aW l n):=by
 rcases h with h|⟨b,d,f,g⟩
 ·rw[h]at e;exact absurd e sI
 exact⟨b,d,f,g n e⟩
theorem Xg(b:List Int)(ns:List (List UInt8))(j:Nat)(h:j<ns.length):aU (jT b ns) ((List.range ns.length).drop j)=iD (jT b ns j) (aU (jT b ns) ((List.range ns.length).drop (j+1))):=by
 rw[uP _ 0 _ j (by simpa using h)]
 congr 2
 simp[h]
theorem aN6(ns:List (List UInt8))(j:Nat)(h:j<ns.length):ns.take j++[oP ns j]=ns.take (j+1):=by rw[JK h];simp[oP,List.getD_eq_getElem?_getD,h]
theorem aT7{x:List UInt8}{l:List (List UInt8)}(h:l.contains x=true):l.idxOf x<l.length:=List.idxOf_lt_length_iff.mpr (by simpa using h)
theorem Bk(p:bC)(va vn vr:Value)(w:World)(hP:iU w va vn vr p)(hF:jK p):
 Calls Tryz.prog 128 #[eN va vn vr] w fun e w'=>e=WT (dJ p)/\Below w.heap.size w w':=by
 obtain⟨f,d,g⟩:=p;obtain⟨v,A,y⟩:=hP;have HA:O (dM w va f):=v;obtain⟨I,L,rfl,v⟩:=v;obtain⟨K,T,rfl,A⟩:=A;obtain⟨J,N,rfl,y⟩:=y;have v:pH w I f:=v;have A:aBA w K d:=A;have y:BL w J g:=y;have aa:O (∀i,i<g.length->BS (aW g i)):=hF.rs;clear hF;have ak:=@run_makeMap Tryz.prog;have Q:Below w.heap.size w (w.alloc (.cells #[.slice I f.length L, .slice K d.length T, .slice J g.length N] 26)):=(aH _ _).alloc (aE _) _;have k:O (dJ ⟨f,d,g⟩=if 10<f.length\/12<g.length then 2 else if¬d.length=f.length then 1 else iD (aU (jT f d) (List.range d.length)) (aU (dT f) g)):=rfl;by_cases h1:10<f.length
 ·(have HV:O (dJ ⟨f,d,g⟩=2):=by show _=_;rw[k.o,if_pos (.inl h1)]);have g1:decide (10<f.length)=true:=aQ h1;have ac:decide ((10:Int)<(f.length:Int))=true:=aQ oM;clear k v A y
  go_enter Tryz.func128,Tryz.ntmps128
  go_wp2_with fail;refine(gO 2 _).mono ?_;rintro e r ⟨rfl,m⟩;go_wp2_with fail;exact⟨rfl,rV,Q.trans (m.mono Q.size)⟩
 have g1:decide (10<f.length)=false:=aJ h1;have ac:decide ((10:Int)<(f.length:Int))=false:=aJ oM;by_cases h2:12<g.length
 ·(have HV:O (dJ ⟨f,d,g⟩=2):=by show _=_;rw[k.o,if_pos (.inr h2)]);have g2:decide (12<g.length)=true:=aQ h2;have ad:decide ((12:Int)<(g.length:Int))=true:=aQ oM;clear k v A y
  go_enter Tryz.func128,Tryz.ntmps128
  go_wp2_with fail;refine(gO 2 _).mono ?_;rintro e r ⟨rfl,m⟩;go_wp2_with fail;exact⟨rfl,rV,Q.trans (m.mono Q.size)⟩
 have g2:decide (12<g.length)=false:=aJ h2;have ad:decide ((12:Int)<(g.length:Int))=false:=aJ oM;rw[if_neg (fun h=>h.elim h1 h2)]at k;by_cases h3:d.length=f.length;rotate_left
 ·(have HV:O (dJ ⟨f,d,g⟩=1):=by show _=_;rw[k.o,if_pos h3]);(have g3:((d.length:Int) != (f.length:Int))=true:=by simp;omega);(have ae:(d.length != f.length)=true:=by simp;omega);clear k v A y
  go_enter Tryz.func128,Tryz.ntmps128
  go_wp2_with fail;refine(iW 2 _).mono ?_;rintro e r ⟨rfl,rfl⟩;go_wp2_with fail;refine(gO 1 _).mono ?_;rintro e r ⟨rfl,m⟩;go_wp2_with fail;exact⟨rfl,rV,Q.trans (m.mono Q.size)⟩
 rw[if_neg (fun h=>h h3)]at k;have H3:O (d.length=f.length):=h3;(have g3:((d.length:Int) != (f.length:Int))=false:=by simp;omega);(have ae:(d.length != f.length)=false:=by simp;omega);have a7:=CB.start w (.cells #[.slice I f.length L, .slice K d.length T, .slice J g.length N] 26);(have a9:O (d.length<=10):=by show _<=_;omega);clear h3
 go_enter Tryz.func128,Tryz.ntmps128
 go_wp2_with fail;refine(iW 2 _).mono ?_;rintro e r ⟨rfl,rfl⟩;go_wp2_with fail;refine(iW 1 _).mono ?_;rintro e r ⟨rfl,rfl⟩;go_wp2_with fail;generalize w.heap.size+1=M at *;go_loopw [30] (fun i wr=>∃j:Nat,j<=d.length/\i=.int .i64 j/\CB w (.cells #[.slice I f.length L, .slice K d.length T, .slice J g.length N] 26) M (d.take j) wr/\aU (jT f d) (List.range d.length)=aU (jT f d) ((List.range d.length).drop j)) (fun i _=>d.length-(intOf i).toNat);case atStart=>exact⟨0,bG _,rfl,a7,rfl⟩
 case round=>
  clear a7;obtain⟨j,hj,rfl,l,U⟩:=hrel;have E:O _:=U;clear U;(have c0:wr.cell? ⟨w.heap.size,0,none⟩=some (.slice I f.length L):=cH l.box);by_cases H:j<d.length
  ·obtain⟨b,a8,rfl,V⟩:=aCO A j H;(have ai:j<f.length:=by rw[<-H3.o];exact H);obtain⟨b2,am,rfl,W⟩:=qY v j ai;have q0:=aB l.j V;have q1:=aB l.j W;have n:O (aU (jT f d) (List.range d.length)=iD (jT f d j) (aU (jT f d) ((List.range d.length).drop (j+1)))):=E.o.trans (Xg f d j H);have q:O (jT f d j=iD (if dG (bM f j) 0 3 then 0 else 3) (iD (if oR (oP d j)then 0 else 1) (if(d.take j).contains (oP d j)then 6 else 0))):=rfl;have a3:O (d.take j++[oP d j]=d.take (j+1)):=aN6 d j H;clear V W v A y E;generalize bM f j=a at *;generalize oP d j=s at *;by_cases h4:a<0
   ·(have HV:O (dJ ⟨f,d,g⟩=3):=by show _=_;rw[k.o,n.o,q.o,if_neg (by simp[dG];omega)];rfl);have g4:decide (a<0)=true:=aQ h4;clear k n q;go_wp2_with fail;refine(gO 3 _).mono ?_;rintro e r ⟨rfl,m⟩;go_wp2_with fail;exact⟨rfl,rV,l.j.trans (m.mono l.j.size)⟩
   have g4:decide (a<0)=false:=aJ h4;by_cases a6:3<a
   ·(have HV:O (dJ ⟨f,d,g⟩=3):=by show _=_;rw[k.o,n.o,q.o,if_neg (by simp[dG];omega)];rfl);have af:decide (3<a)=true:=aQ a6;clear k n q;go_wp2_with fail;refine(gO 3 _).mono ?_;rintro e r ⟨rfl,m⟩;go_wp2_with fail;exact⟨rfl,rV,l.j.trans (m.mono l.j.size)⟩
   have af:decide (3<a)=false:=aJ a6;rw[if_pos (show dG a 0 3=true by simp[dG];omega),eY]at q;go_wp2_with fail;refine(iW 3 _).mono ?_;rintro e r ⟨rfl,rfl⟩;go_wp2_with fail;refine Calls.mono (aKC s _) ?_;rintro e w2 ⟨D,R⟩;have C:=l.u R;cases F:oR s
   ·rw[F]at D;subst D;(have HV:O (dJ ⟨f,d,g⟩=1):=by show _=_;rw[k.o,n.o,q.o,F];rfl);clear k n q;go_wp2_with fail;refine(gO 1 _).mono ?_;rintro e r ⟨rfl,m⟩;go_wp2_with fail;exact⟨rfl,rV,C.j.trans (m.mono C.j.size)⟩
   rw[F]at D;subst D;have ag:s.length<=5000:=by
    (have :mE 1 s=true:=by unfold oR at F;simp at F;exact F.1);have :=FE _ _ this;omega
   rw[F,if_pos rfl,eY]at q;clear l R q0 q1 c0 F;go_wp2_with fail;refine(iW 1 _).mono ?_;rintro e r ⟨rfl,rfl⟩;go_wp2_with fail;refine Calls.mono (aUC M (d.take j) s _ C.num ag (by have :=a9.o;rw[cW];omega)) ?_;rintro e w3 ⟨rfl,S,a1⟩;(have a4:(d.take j).length=j:=by rw[cW];omega);cases G:(d.take j).contains s
   ·rw[G,if_neg sI,a3.o]at S;have a0:=C.of a1 S;(have a2:(d.take j).idxOf s=j:=by rw[aFT (by simpa using G),a4]);rw[a2];(have g6:((j:Int) != (j:Int))=false:=by simp);(have HV:O (aU (jT f d) (List.range d.length)=aU (jT f d) ((List.range d.length).drop (j+1))):=by show _=_;rw[n.o,q.o,G];rfl);clear n q S a1 C a2 G a4 a3;go_wp2_with fail;refine(iW 6 _).mono ?_;rintro e r ⟨rfl,rfl⟩;go_wp2_with fail;go_roundw;(case rel=>exact⟨j+1,oM,gN,a0,HV.o⟩);case measure=>exact mI
   rw[G,if_pos rfl]at S;have a0:=C.of a1 S;have a2:=aT7 G;rw[a4]at a2;(have g6:(((d.take j).idxOf s:Int) != (j:Int))=true:=by simp;omega);(have HV:O (dJ ⟨f,d,g⟩=6):=by show _=_;rw[k.o,n.o,q.o,G];rfl);clear n q S a1 C G k a3;generalize (d.take j).idxOf s=ix at *;(have aj:(ix != j)=true:=by simp;omega);go_wp2_with fail;refine(gO 6 _).mono ?_;rintro e r ⟨rfl,m⟩;go_wp2_with fail;exact⟨rfl,rV,a0.j.trans (m.mono a0.j.size)⟩
  (have hz:aU (jT f d) (List.range d.length)=0:=by rw[E.o,bD sO];rfl);rw[hz,eY]at k;generalize ah:j=j0 at *;clear ah;(have c2:wr.cell? ⟨w.heap.size,2,none⟩=some (.slice J g.length N):=cH l.box);clear E hz v A;go_wp2_with fail;go_loopw [64] (fun i wr=>∃j:Nat,j<=g.length/\i=.int .i64 j/\CB w (.cells #[.slice I f.length L, .slice K d.length T, .slice J g.length N] 26) M (d.take j0) wr/\aU (dT f) g=aU (dT f) (g.drop j)) (fun i _=>g.length-(intOf i).toNat);case atStart=>exact⟨0,bG _,rfl,l,rfl⟩
  case round=>
   clear l c0 c2;obtain⟨j,hj,rfl,l,U⟩:=hrel;have E:O _:=U;clear U;by_cases H:j<g.length
   ·obtain⟨b,a8,rfl,V,⟨vt,W,hT⟩,p2,⟨vb,p3,hB⟩,p4⟩:=rH y j H;have HT:O (fT w vt (aW g j).p):=hT;have HB:O (pI w vb (aW g j).body):=hB;obtain⟨at_,Z,rfl,_,_⟩:=hT;obtain⟨X,Y,rfl,_⟩:=hB;have q0:=aB l.j V;have q1:=aB l.j W;have q2:=aB l.j p2;have q3:=aB l.j p3;have q4:=aB l.j p4;have n:O (aU (dT f) g=iD (dT f (aW g j)) (aU (dT f) (g.drop (j+1)))):=E.o.trans (uP _ _ _ j H);have a5:O (BS (aW g j)):=aa.o j H;have m:Below wr.heap.size wr (wr.alloc (.cells #[.int .i64 (aW g j).z, .slice at_ (aW g j).p.length Z, .int .i64 (aW g j).x, .slice X (aW g j).body.length Y, .int .i64 (aW g j).vars] 40)):=(aH _ _).alloc (aE _) _;have B:=l.u m;clear V W p2 p3 p4 E y m;generalize hx:aW g j=x at *;clear hx;(have c0:(wr.alloc (.cells #[.int .i64 x.z, .slice at_ x.p.length Z, .int .i64 x.x, .slice X x.body.length Y, .int .i64 x.vars] 40)).cell? ⟨w.heap.size,0,none⟩=some (.slice I f.length L):=cH B.box);(have c1:(wr.alloc (.cells #[.int .i64 x.z, .slice at_ x.p.length Z, .int .i64 x.x, .slice X x.body.length Y, .int .i64 x.vars] 40)).cell? ⟨w.heap.size,1,none⟩=some (.slice K d.length T):=cH B.box);(have c2:(wr.alloc (.cells #[.int .i64 x.z, .slice at_ x.p.length Z, .int .i64 x.x, .slice X x.body.length Y, .int .i64 x.vars] 40)).cell? ⟨w.heap.size,2,none⟩=some (.slice (some ⟨b,a8,none⟩) g.length N):=cH B.box);go_wp2_with fail;refine Calls.mono (Oy f _ _ _ x _ _ _ (aM HA.o B.j) (dS HT.o B.j) (nU HB.o B.j) a5.o) ?_;rintro e w2 ⟨D,R⟩;by_cases P:dT f x=0;rotate_left
    ·(have HV:O (dJ ⟨f,d,g⟩=dT f x):=by show _=_;rw[k.o,n.o,pD _ P]);rw[AF P]at D;subst D;clear k n;go_wp2_with fail;exact⟨rfl,by rw[HV.o,AF P],B.j.trans (R.mono B.j.size)⟩
    rw[P,FR]at D;subst D;have C:=B.u R;(have HV:O (aU (dT f) g=aU (dT f) (g.drop (j+1))):=by show _=_;rw[n.o,P,eY]);clear n HT HB a5 R P B q0 q1 q2 q3 q4 c0 c1 c2;go_wp2_with fail;go_roundw;(case rel=>exact⟨j+1,oM,gN,C,HV.o⟩);case measure=>exact mI
   (have HV:O (dJ ⟨f,d,g⟩=0):=by show _=_;rw[k.o,E.o,bD oM];rfl);clear k y;go_wp2_with fail;exact⟨rfl, .tuple #[],by simp[results,Tryz.results128],rV,l.j⟩
theorem aE9(d:Addr)(w:World):
 CallsD Tryz.prog 172 #[.pointer (some d)] .returning w fun e f g=>e=.returned (.tuple #[])/\f=.returning/\g=w:=by
 refine callsD_of_wpS Tryz.func172 rfl fun j i b=>?_;apply wpS_seq;apply wpS_region;simp[wpOpsS,go_sem,recoverD,b,Tryz.ntmps172,Exit.thenS];refine wpS_of_wp ?_;go_wp2;refine⟨rfl, .returning,?_, .tuple #[],?_,rfl,rfl,rfl⟩
 ·rw[<-b]
 simp[results,Tryz.results172]
theorem YH(b:Nat)(g i:Value)(a c:Int)(f:List PanicEntry)(w:World)
 (j:w.cell? ⟨b,0,none⟩=some g) (k:w.cell? ⟨b,1,none⟩=some i) (q:w.frozen? ⟨b,0,none⟩=false) (r:w.frozen? ⟨b,1,none⟩=false):
 CallsD Tryz.prog 172 #[.pointer (some ⟨b,0,none⟩)] (.panicking ({v:=.iface 168 (.agg #[.int .i64 a, .int .i64 c]),recovered:=false}::f)) w fun e m d=>
  e=.returned (.tuple #[])/\m=.panicking ({v:=.iface 168 (.agg #[.int .i64 a, .int .i64 c]),recovered:=true}::f)/\
  d.cell? ⟨b,0,none⟩=some (.int .i64 a)/\d.cell? ⟨b,1,none⟩=some (.int .i64 c)/\w.grownBy d (some b)/\d.heap.size=w.heap.size:=by
 have s:∀w:World,(Instr.typeAssert (.iface 168 (.agg #[.int .i64 a, .int .i64 c])) 20 168 false).run Tryz.prog w=.ok (.agg #[.int .i64 a, .int .i64 c]) w:=fun _=>kR;refine callsD_of_wpS Tryz.func172 rfl fun p n l=>?_;apply wpS_seq;apply wpS_region;simp[wpOpsS,go_sem,recoverD,l,Tryz.ntmps172,Exit.thenS];refine wpS_of_wp ?_;go_wp2;refine⟨rfl,_,rfl, .tuple #[],?_,rfl,rfl,?_,?_,?_,?_⟩
 ·simp[results,Tryz.results172]
 ·simp[go_sem,j]
 ·simp[go_sem,k]
 ·exact uR (AY _ _) (AY _ _)
 simp
theorem aM1:CG 142:=jQ Tryz.func142 kR rfl
def aVE(a c:Int):Ending:=if c=0 then YK else aFM a c
def aLM(a c:Int)(b:Option Nat)(Z:World->Prop)(w:World)(e:Ending)(w':World):Prop:=
 e=.returned (.agg #[.int .i64 (if c=0 then 0 else a), .int .i64 c])/\w.grownBy w' b/\Z w'
theorem Jf{w u v:World}{f:Option Nat}(o:Obj)(b:(w.alloc o).grownBy u f)(d:u.grownBy v (some w.heap.size)):w.grownBy v f:=by(have m:(w.alloc o).heap.size=w.heap.size+1:=by simp);refine⟨d.os.trans b.os,d.tape.trans b.tape,d.output.trans b.output,bH (by rw[<-Nat.succ_le_succ_iff];have :=b.size;omega) d.size,fun k j l=>?_⟩;have g:=b.block k oM l;have i:=d.block k (by have :=b.size;omega) (fun e=>by injection e;omega);rw[i,g];exact((aH _ _).alloc (aE _) o).block k j
theorem Ij(G:Nat)(p:Array Value)(m:Option Nat)(a c:Int)(Z:World->Prop)(w:World)(F:CG G)(I:∀k,m=some k->k<w.heap.size)
 (x:∀u v:World,Z u->v.heap.size=u.heap.size->(∀k,¬k=w.heap.size->v.heap[k]?=u.heap[k]?)->Z v)
 (y:Calls Tryz.prog G p (w.alloc (.cells #[.int .i64 0, .int .i64 0] 168)) fun e C=>e=aVE a c/\(w.alloc (.cells #[.int .i64 0, .int .i64 0] 168)).grownBy C m/\Z C):
 Calls Tryz.prog 126 #[.func (.func G) #[] p] w (aLM a c m Z w):=by
 have H:∀(q:Fn)(first n:Array Value)(w:World),(Instr.makeFunc q first n).run Tryz.prog w=.ok (.func q first n) w:=fun _ _ _ _=>rfl;have z:=F;unfold CG at z;have i:=aR w (.cells #[.int .i64 0, .int .i64 0] 168)
 go_enter_defers Tryz.func126,Tryz.ntmps126
 go_wp2_with fail;refine Calls.mono y ?_;rintro e b ⟨rfl,l,B⟩;have d:=(l.block _ (bP i) (fun e=>Nat.lt_irrefl _ (I _ e.symm))).trans i;(have r:b.cell? ⟨w.heap.size,0,none⟩=some (.int .i64 0):=cH d);(have s:b.cell? ⟨w.heap.size,1,none⟩=some (.int .i64 0):=cH d);have D:b.frozen? ⟨w.heap.size,0,none⟩=false:=cM d 0;have E:b.frozen? ⟨w.heap.size,1,none⟩=false:=cM d 1;clear y i d z H;unfold aVE;by_cases j:c=0
 ·subst j;rw[if_pos rfl];go_wp2_with fail;refine leaves_cons (f:=172) (args:=#[.pointer (some ⟨w.heap.size,0,none⟩)]) sI (by simp[go_sem]) ?_;refine(aE9 _ _).mono ?_;rintro e M N ⟨rfl,rfl,rfl⟩;refine⟨.agg #[.int .i64 0, .int .i64 0],by simp[results,Tryz.results126,go_sem,r,s],rfl,?_,?_⟩
  ·exact Jf _ l (uR (AY _ _) (AY _ _))
  exact x _ _ B sI (fun k g=>by rw[gE _ _ _ _ g,gE _ _ _ _ g])
 rw[if_neg j];go_wp2_with fail;refine leaves_cons (f:=172) (args:=#[.pointer (some ⟨w.heap.size,0,none⟩)]) sI (by simp[go_sem]) ?_;refine(YH w.heap.size _ _ a c [] b r s D E).mono ?_;rintro e M N ⟨rfl,rfl,K,L,A,J⟩;refine⟨.agg #[.int .i64 a, .int .i64 c],by simp[results,Tryz.results126,go_sem,K,L],by rw[if_neg j],?_,?_⟩
 ·exact Jf _ l A
 refine x _ _ B J (fun k g=>?_);rcases jW k b.heap.size with h|h
 ·exact A.block k h (fun e=>by injection e with e;exact g e)
 rw[AO h,AO oM]
theorem PS{w w':World}(h:w.grownBy w' none):Below w.heap.size w w':=⟨h.os,h.tape,h.output,h.size,fun k b=>h.block k b (fun e=>by cases e)⟩
theorem aVG(a b:Value)(w:World):(Instr.field 168 (.agg #[a,b]) 1).run Tryz.prog w=.ok b w:=kR
theorem aIO(p:bC)(va vn vr:Value)(X:Nat)(w:World)(b:w.heap[X]?=some (.cells #[va,vn,vr] 26))(g:iU w va vn vr p)(f:jK p):
 Calls Tryz.prog 142 #[.pointer (some ⟨X,0,none⟩)] w fun e i=>e=WT (dJ p)/\Below w.heap.size w i:=by
 (have c0:w.cell? ⟨X,0,none⟩=some va:=cH b);(have j:w.cell? ⟨X,1,none⟩=some vn:=cH b);have k:w.cell? ⟨X,2,none⟩=some vr:=cH b
 go_enter Tryz.func142,Tryz.ntmps142
 go_wp2_with fail;refine Calls.mono (Bk p va vn vr _ g f) ?_;rintro e l ⟨rfl,d⟩;by_cases h:dJ p=0
 ·rw[h,FR];go_wp2_with fail;exact⟨rfl, .tuple #[],by simp[results,Tryz.results142],by rw[h];rfl,d⟩
 rw[AF h];go_wp2_with fail;exact⟨rfl,(AF h).symm,d⟩
theorem PE(p:bC)(va vn vr:Value)(w:World)(g:iU w va vn vr p)(v:jK p):
 Calls Tryz.prog 97 #[eN va vn vr] w fun e B=>e=.returned (.int .i64 (dJ p))/\Below w.heap.size w B:=by
 obtain⟨b,j,rfl,_⟩:=id g.ar;obtain⟨d,k,rfl,_⟩:=id g.nm;obtain⟨f,l,rfl,_⟩:=id g.rl;have D:∀(r:Fn)(first q:Array Value)(w:World),(Instr.makeFunc r first q).run Tryz.prog w=.ok (.func r first q) w:=fun _ _ _ _=>rfl;have i:∀(u:World)(o:Obj),Below u.heap.size u (u.alloc o):=fun u o=>(aH _ _).alloc (aE _) o;have s:=aR w (pB b j d k f l p);have x:=g.u (i w (pB b j d k f l p));have n:=i w (pB b j d k f l p)
 go_enter Tryz.func97,Tryz.ntmps97
 go_wp2_with fail;generalize w.alloc (pB b j d k f l p)=m at *;refine Calls.mono (Ij 142 _ none 0 (dJ p) (fun _=>True) m aM1 (fun _ e=>by cases e) (fun _ _ _ _ _=>trivial) ?_) ?_
 ·refine Calls.mono (aIO p _ _ _ w.heap.size _ (((i m _).block _ (bP s)).trans s) (x.u (i m _)) v) ?_;rintro e C ⟨rfl,y⟩;exact⟨rfl,lI y _,trivial⟩
 rintro e C ⟨rfl,A,_⟩;have z:=n.trans ((PS A).mono n.size);go_wp2_with fail;simp only[aVG];go_wp2_with fail;go_ret;exact⟨rfl,z⟩
end Go.Proofs.YthenjegmigeieaaGreat
namespace Go.Proofs.YthenjegmigeieaaGreat
open Go.RowKit Go.Shelf
attribute [local go_sem] Oper.semAt_some
structure FP (n:Nat) (r:bB):Prop where
 h0:0<=r.z
 h1:r.z<(n:Int)
 hb:PF n r.body
 hl:r.body.length<=4
def dI(l:List bB):List fA:=l.flatMap BV
theorem NJ(l:List bB)(r:bB):dI (l++[r])=dI l++BV r:=by unfold dI;rw[ES];simp
theorem Ch(r:bB):(BV r).length<=r.body.length:=by unfold BV;rw[aP];exact wZ _ _
theorem aA8{r:bB}:∀e,e∈BV r->e.2.2<=1:=fun e b=>by unfold BV at b;obtain⟨x,_,rfl⟩:=cR.mp b;rcases JA r x with h|h<;>simp[h]
structure RSt (w:World) (LB n cap:Nat) (W:World) (cur:List Int) (fl:Bool):Prop where
 gr:w.grownBy W (some LB)
 row:W.heap[LB]?=some (.cells (yF cur) 3)
 box:W.heap[w.heap.size]?=some (.cells #[.slice (some ⟨LB,0,none⟩) n cap] 22)
 flag:W.heap[w.heap.size+1]?=some (.cells #[.bool fl] 4)
theorem aE7{W:World}{b:Nat}{v:Value}{t:TypeId}(h:W.heap[b]?=some (.cells #[v] t)):W.cell? ⟨b,0,none⟩=some v:=cH h
structure aO1 (wr W2:World) (rb:Obj):Prop where
 j:Below wr.heap.size wr W2
 qb:W2.heap[wr.heap.size]?=some rb
 rb:W2.heap[wr.heap.size+1]?=some rb
 sz:W2.heap.size=wr.heap.size+2
theorem Xh(wr e:World)(b:Obj)(j:e=(wr.alloc b).alloc b):aO1 wr e b:=by subst j;have f:=(aH wr.heap.size wr).alloc (aE _) b;have k:=aR wr b;(have i:(wr.alloc b).heap.size=wr.heap.size+1:=by simp);generalize wr.alloc b=d at *;have g:=(aH d.heap.size d).alloc (aE _) b;have l:=aR d b;refine⟨f.trans (g.mono f.size),(g.block _ oM).trans k,by rw[<-i];exact l,by simp[i]⟩
def mM{n:Nat}(h:Nat)(p:HP n):fA:=(h,p.1.1.toNat,p.1.2)
structure RIn (w wr W2:World) (LB n cap:Nat) (rb:Obj) (ds:List Deferred) (l:List Int) (E:List fA) (h:Nat) {np:Nat} (pre:List (HP np)) (W:World):Prop where
 st:RSt w LB n cap W (aO (E++pre.map (mM h)) l) (decide (aO (E++pre.map (mM h)) l≠l))
 qb:W.heap[wr.heap.size]?=some rb
 mks:CJ (w.heap.size+2) W ds
 sz:W2.heap.size<=W.heap.size
theorem aL2{w wr e:World}{f n g:Nat}{p:Obj}{i:List Deferred}{l:List Int}{E:List fA}{h v:Nat}(b:RSt w f n g wr (aO E l) (decide (aO E l≠l)))(r:CJ (w.heap.size+2) wr i)(d:aO1 wr e p):RIn w wr e f n g p i l E h ([]:List (HP v)) e:=by have q:=dQ (aG.mp b.flag).1 (aE _);refine⟨?_,d.qb,r.keep fun D _ _ k=>(d.j.block D (aG.mp k).1).trans k,aE _⟩;rw[List.map_nil,jM];refine⟨⟨d.j.os.trans b.gr.os,d.j.tape.trans b.gr.tape,d.j.output.trans b.gr.output,bH b.gr.size d.j.size,fun j m s=>(d.j.block j (dQ m b.gr.size)).trans (b.gr.block j m s)⟩,(d.j.block _ (aG.mp b.row).1).trans b.row,(d.j.block _ (aG.mp b.box).1).trans b.box,(d.j.block _ q).trans b.flag⟩
theorem aRI{w wr f:World}{k n m:Nat}{r:Obj}{p:List Deferred}{l:List Int}{G:Nat}{c0:List Int}{s:Bool}(g:RSt w k n m wr c0 s)(x:CJ (w.heap.size+2) wr p)(y:aO1 wr f r)(E:List fA)(h:Nat):
 OwnFrom f.heap.size (fun(q:List (HP G)) W=>RIn w wr f k n m r p l E h q W):=by
 intro q A B L b d F;have K:=y.sz;have I:=g.gr.size;have H:=(aG.mp g.flag).1;have J:=(aG.mp g.row).1;have keep:∀j,j<f.heap.size->B.heap[j]?=A.heap[j]?:=fun j i=>d.block j (dQ i b.sz) (fun e=>by have :=(F j e.symm).1;omega);refine⟨⟨⟨d.os.trans b.st.gr.os,d.tape.trans b.st.gr.tape,d.output.trans b.st.gr.output,bH b.st.gr.size d.size,fun j i C=>(keep j oM).trans (b.st.gr.block j i C)⟩,(keep _ oM).trans b.st.row,(keep _ oM).trans b.st.box,(keep _ oM).trans b.st.flag⟩,(keep _ oM).trans b.qb,b.mks.keep fun D _ z v=>?_,bH b.sz d.size⟩;have :=(aG.mp (x.mem D z)).1;exact(keep D oM).trans v
theorem Xp{b:Nat}(E:List fA)(h:Nat)(d:List (HP b))(x:HP b):E++(d++[x]).map (mM h)=(E++d.map (mM h))++[mM h x]:=by rw[cB,iP];rfl
section
variable {w wr W2 W:World} {LB n cap:Nat} {rb:Obj} {ds:List Deferred} {l:List Int} {E:List fA} {h np:Nat} {pre:List (HP np)}
theorem aTM(b:RIn w wr W2 LB n cap rb ds l E h pre W)(x:HP np)(hh:h<l.length)(d:¬(aO (E++pre.map (mM h)) l).getD h 0<(aO (E++pre.map (mM h)) l).getD x.1.1.toNat 0+x.1.2):RIn w wr W2 LB n cap rb ds l E h (pre++[x]) W:=by refine⟨?_,b.qb,b.mks,b.sz⟩;rw[Xp,BG _ _ _ hh,rM];(have e:aY (aO (E++pre.map (mM h)) l) (mM h x)=aO (E++pre.map (mM h)) l:=by unfold aY;exact if_neg d);have f:decide ((aO (E++pre.map (mM h)) l).getD (mM h x).1 0<(aO (E++pre.map (mM h)) l).getD (mM h x).2.1 0+(mM h x).2.2)=false:=aJ d;rw[e,f,Bool.or_false];exact b.st
theorem aRJ(b:RIn w wr W2 LB n cap rb ds l E h pre W)(x:HP np)(hh:h<l.length)(s:LB<w.heap.size)(y:w.heap.size+2<=wr.heap.size)(i:(aO (E++pre.map (mM h)) l).getD h 0<(aO (E++pre.map (mM h)) l).getD x.1.1.toNat 0+x.1.2):
 RIn w wr W2 LB n cap rb ds l E h (pre++[x]) ((W.setCell ⟨LB,h,none⟩ (.int .i64 ((aO (E++pre.map (mM h)) l).getD x.1.1.toNat 0+x.1.2))).setCell ⟨w.heap.size+1,0,none⟩ (.bool true)):=by
 (have other:∀j,¬j=LB->¬j=w.heap.size+1->((W.setCell ⟨LB,h,none⟩ (.int .i64 ((aO (E++pre.map (mM h)) l).getD x.1.1.toNat 0+x.1.2))).setCell ⟨w.heap.size+1,0,none⟩ (.bool true)).heap[j]?=W.heap[j]?:=fun j d f=>by rw[cL f,cL d]);have f:decide ((aO (E++pre.map (mM h)) l).getD (mM h x).1 0<(aO (E++pre.map (mM h)) l).getD (mM h x).2.1 0+(mM h x).2.2)=true:=aQ i;(have d:aY (aO (E++pre.map (mM h)) l) (mM h x)=(aO (E++pre.map (mM h)) l).set h ((aO (E++pre.map (mM h)) l).getD x.1.1.toNat 0+x.1.2):=by unfold aY;exact if_pos i);refine⟨?_,(other _ oM oM).trans b.qb,b.mks.keep fun D r v k=>(other D oM oM).trans k,?_⟩
 ·rw[Xp,BG _ _ _ hh,rM,d,f,BD];refine⟨⟨b.st.gr.os,b.st.gr.tape,b.st.gr.output,?_,fun j p g=>?_⟩,?_,(other _ oM oM).trans b.st.box,?_⟩
  ·have :=b.st.gr.size;simpa using this
  ·have q:¬j=LB:=fun e=>g (by rw[e]);exact(other j q oM).trans (b.st.gr.block j p g)
  ·rw[cL oM];exact Jq b.st.row _ _
  have m:(W.setCell ⟨LB,h,none⟩ (.int .i64 ((aO (E++pre.map (mM h)) l).getD x.1.1.toNat 0+x.1.2))).heap[w.heap.size+1]?=some (.cells #[.bool _] 4):=(cL oM).trans b.st.flag;rw[bV m];rfl
 have :=b.sz;simpa using this
end
theorem yE:∀(l:List bB),(∀r,r∈l->r.body.length<=4)->(dI l).length<=4*l.length
 |[],_=>bG _
 |r::l,h=>by have d:=yE l (fun x b=>h x (bO _ b));have e:=h r dC;have f:=Ch r;unfold dI at d ⊢;rw[List.flatMap_cons,bA,zW];omega
theorem JD(l:List bB):∀e,e∈dI l->e.2.2<=1:=fun e b=>by obtain⟨r,_,h⟩:=kJ.mp b;exact aA8 e h
theorem aNO(L w:World)(d:List bB)(vr:Value)(l:List Int)(g E:Nat)(K:Int)(hV:EU L vr d)(I:Below L.heap.size L w)(bi:L.heap.size<=g)(a5:w.heap[g]?=some (.cells (yF l) 3))
 (hR:∀r,r∈d->FP l.length r) (hn:d.length<=12) (b3:∀i:Nat,0<=l.getD i 0) (b4:∀i:Nat,l.getD i 0<=K) (hK:K<=1000000):
 Calls Tryz.prog 122 #[.slice (some ⟨g,0,none⟩) l.length E,vr] w fun e w'=>e=.returned (.bool (decide (aO (dI d) l≠l)))/\w'.heap[g]?=some (.cells (yF (aO (dI d) l)) 3)/\w.grownBy w' (some g):=by
 obtain⟨ar,cr,rfl,G⟩:=hV;have HA:O (BL L ar d):=G;have a6:g<w.heap.size:=(aG.mp a5).1;refine(ER (n:=3)).1 ?_;refine callsIn_of_wp_marks Tryz.func122 rfl trivial ?_ rfl;simp only[Tryz.ntmps122,List.size_toArray,List.length_cons,List.length_nil,Nat.reduceAdd,Nat.reduceSub,Array.replicate_succ,Array.replicate_zero,List.push_toArray,List.append_toArray,List.nil_append,List.cons_append];(have aV:RSt w g l.length E ((w.alloc (.cells #[.slice (some ⟨g,0,none⟩) l.length E] 22)).alloc (.cells #[.bool false] 4)) l false:=by have b1:=(aH w.heap.size w).alloc (aE _) (.cells #[.slice (some ⟨g,0,none⟩) l.length E] 22);have p1:=aR w (.cells #[.slice (some ⟨g,0,none⟩) l.length E] 22);(have s1:(w.alloc (.cells #[.slice (some ⟨g,0,none⟩) l.length E] 22)).heap.size=w.heap.size+1:=by simp);generalize w.alloc (.cells #[.slice (some ⟨g,0,none⟩) l.length E] 22)=x1 at *;have b2:=(aH x1.heap.size x1).alloc (aE _) (.cells #[.bool false] 4);have p2:=aR x1 (.cells #[.bool false] 4);have a0:=b1.trans (b2.mono b1.size);refine⟨⟨a0.os,a0.tape,a0.output,a0.size,fun j hj _=>a0.block j hj⟩,(a0.block _ a6).trans a5,(b2.block _ oM).trans p1,?_⟩;rw[s1]at p2;exact p2);have aT:O _:=aV;have aS:O _:=hR;have bg:O _:=a5;have aF:O ((∀i:Nat,0<=l.getD i 0)/\∀i:Nat,l.getD i 0<=K):=⟨b3,b4⟩;clear aV hR a5 G b3 b4;gi_wp2;refine wpIn_loop (fun a wr=>∃(k:Nat)(T:List Deferred)(x7 x8 x9 ac b7 b8 b9 ba bb bc bd ad ae af ag ah ai aj ak al am an ao ap aq au av aw ax ay:Value),k<=d.length/\a={tmps:=#[.slice (some ⟨g,0,none⟩) l.length E, .slice ar d.length cr, .pointer (some ⟨w.heap.size,0,none⟩),undef, .bool false, .pointer (some ⟨w.heap.size+1,0,none⟩),undef,x7,x8,x9,ac, .slice ar d.length cr, .int .i64 d.length, .int .i64 k,b7,b8,b9,ba,bb,bc,bd,ad,ae,af,ag,ah,ai,aj,ak,al,am,an,ao,ap,aq,au,av,aw,ax,ay,undef],defers:=T}/\RSt w g l.length E wr (aO (dI (d.take k)) l) (decide (aO (dI (d.take k)) l≠l))/\CJ (w.heap.size+2) wr T) (fun a _=>d.length-(intOf (a.tmps.getD 13 undef)).toNat) ?h0 ?round;case h0=>exact⟨0,[],_,_,_,_,_,_,_,_,_,_,_,_,_,_,_,_,_,_,_,_,_,_,_,_,_,_,_,_,_,_,bG _,rfl,by simpa[dI,aO]using aT.o,trivial⟩
 case round=>
  clear aT;rintro a wr ⟨k,T,x7,x8,x9,ac,b7,b8,b9,ba,bb,bc,bd,ad,ae,af,ag,ah,ai,aj,ak,al,am,an,ao,ap,aq,au,av,aw,ax,ay,hk,rfl,X,hM⟩;have V:Below L.heap.size L wr:=⟨X.gr.os.trans I.os,X.gr.tape.trans I.tape,X.gr.output.trans I.output,bH I.size X.gr.size,fun j hj=>(X.gr.block j (dQ hj I.size) (fun e=>by injection e with e;omega)).trans (I.block j hj)⟩;have F:O _:=X;have HM:O _:=hM;have a2:O _:=V;clear X hM;by_cases a1:k<d.length
  ·obtain⟨b,aa,rfl,p0,⟨vt,p1,hT⟩,p2,⟨vb,p3,a4⟩,p4⟩:=rH HA.o k a1;obtain⟨at_,Q,rfl,_⟩:=hT;obtain⟨M,N,rfl,a4⟩:=a4;have bf:O _:=a4;have R:O (FP l.length (aW d k)):=aS.o _ (by unfold aW;rw[aC,aD a1];exact dY a1);have bh:O (d.take (k+1)=d.take k++[aW d k]):=by
    show _=_;rw[eI]
    congr 1
    unfold aW;rw[aC,aD a1];rfl
   have q0:=aB V p0;have q1:=aB V p1;have q2:=aB V p2;have q3:=aB V p3;have q4:=aB V p4;clear p0 p1 p2 p3 p4 a4 V;generalize aW d k=r at *;gi_wp2;refine⟨trivial,?_⟩;refine(aFN Fence.wide _ trivial rfl r _ _ _ _ _).mono ?_;rintro e w' ⟨rfl,rfl⟩;gi_wp2;clear q0 q1 q2 q3 q4;obtain⟨S,a7⟩:∃S,S=((wr.alloc (.cells #[.int .i64 r.z, .slice at_ r.p.length Q, .int .i64 r.x, .slice M r.body.length N, .int .i64 r.vars] 40)).alloc (.cells #[.int .i64 r.z, .slice at_ r.p.length Q, .int .i64 r.x, .slice M r.body.length N, .int .i64 r.vars] 40)):=⟨_,rfl⟩;have P:=Xh wr S (.cells #[.int .i64 r.z, .slice at_ r.p.length Q, .int .i64 r.x, .slice M r.body.length N, .int .i64 r.vars] 40) a7;rw[<-a7];clear a7;have P:O _:=P;have bj:=R.o.h0;have bk:=R.o.h1;obtain⟨f,a9⟩:∃f:Nat,O (r.z=f):=⟨r.z.toNat,show _=_ by omega⟩;clear bj bk
   refine wpIn_rangeFunc_ownG (n:=3) rfl oM (gf:=204) (lb:=#[.pointer (some ⟨wr.heap.size+1,0,none⟩)]) ?hg trivial (jQ Tryz.func204 kR rfl)
    (Ap Fence.wide 2 trivial rfl oM (wr.heap.size+1) L l.length r _ M N bf.o (bH R.o.hl dE) R.o.hb S (a2.o.trans (P.o.j.mono a2.o.size)) P.o.rb) (fun h k=>HK.trans h k)
    (fun W j o o' hl h U h2=>HK.put (bH a2.o.size P.o.j.size) W j o o' hl h U h2) (aH _ _) (fun _=>rfl)
    (fun C W=>RIn w wr S g l.length E (.cells #[.int .i64 r.z, .slice at_ r.p.length Q, .int .i64 r.x, .slice M r.body.length N, .int .i64 r.vars] 40) T l (dI (d.take k)) f C W) (fun _ _ _=>False) (aRI F.o HM.o P.o _ _) (fun _ _ _ _ _ h _ _=>h) (aL2 F.o HM.o P.o)
    (fun x=>{tmps:=#[.slice (some ⟨g,0,none⟩) l.length E, .slice (some ⟨b,aa,none⟩) d.length cr, .pointer (some ⟨w.heap.size,0,none⟩),undef, .bool false, .pointer (some ⟨w.heap.size+1,0,none⟩),undef, .pointer (some ⟨wr.heap.size,0,none⟩), .int .i64 x.1.1, .int .i64 x.1.2,ac, .slice (some ⟨b,aa,none⟩) d.length cr, .int .i64 d.length, .int .i64 k, .bool true, .pointer (some ⟨b,aa+k*5,none⟩), .agg #[.int .i64 r.z, .slice at_ r.p.length Q, .int .i64 r.x, .slice M r.body.length N, .int .i64 r.vars], .agg #[.int .i64 r.z, .slice at_ r.p.length Q, .int .i64 r.x, .slice M r.body.length N, .int .i64 r.vars], .func (.func 204) #[] #[.pointer (some ⟨wr.heap.size+1,0,none⟩)], .int .i64 x.1.1, .int .i64 x.1.2,ad,ae,af,ag,ah,ai,aj,ak,al,am,an,ao,ap,aq,au,av,aw,ax,ay,undef],defers:=[]}) ?assign ?body ?done ?stop
   (case hg=>rfl);(case assign=>intro l x W K hK;gi_wp2;exact hK);case stop=>rintro D c C W _ _ h _;exact h.elim
   case done=>
    rintro D ys W hD rfl H hK;have bT:=P.o.sz;have HE:O (aO (dI (d.take (k+1))) l=aO (dI (d.take k)++(nB l.length r r.body).map (mM f)) l):=by
     show _=_;(have br:r.z.toNat=f:=by have :=a9.o;omega);rw[<-br];rw[bh.o,NJ]
     congr 2
     exact(PL R.o.hb).symm
    gi_wp2;refine⟨⟨k+1,_,_,_,_,_,_,_,_,_,_,_,_,_,_,_,_,_,_,_,_,_,_,_,_,_,_,_,_,_,_,_,a1,rfl,?_,?_⟩,?_⟩
    ·rw[HE.o];exact H.st
    ·refine⟨⟨D,?_,rfl,hK,fun d' bm e=>?_⟩,H.mks⟩
     ·have :=(aG.mp F.o.flag).1;omega
     subst e;have :=(aG.mp (HM.o.mem D bm)).1;omega
    simp[intOf];omega
   case body=>
    rintro l0 C ⟨⟨pq,m⟩,h0,U,hm⟩ W H bx;dsimp only at h0 U hm;obtain⟨q,hq⟩:∃q:Nat,pq=q:=⟨pq.toNat,oM⟩;subst hq;(have b6:f<l.length:=by have :=R.o.h1;have :=a9.o;omega);have bz:q<l.length:=oM;have HI:O _:=H;have bt:=(aG.mp F.o.flag).1;have bo:=a2.o.size;(have c0:W.cell? ⟨w.heap.size,0,none⟩=some (.slice (some ⟨g,0,none⟩) l.length E):=cH H.st.box);(have c1:W.cell? ⟨wr.heap.size,0,none⟩=some (.int .i64 f):=by rw[cD H.qb,<-a9.o];rfl);have bl:(aO (dI (d.take k)++C.map (mM f)) l).length=l.length:=sG _ _;have c2:=EB H.st.row (i:=q) oM;have c3:=EB H.st.row (i:=f) oM;have f3:=cM H.st.row f;have az:O _:=fun(v:Value)=>(cL (w:=W) (b:=g) (c:=w.heap.size+1) (i:=f) (v:=v) oM).trans H.st.flag;have b5:∀i:Nat,0<=(aO (dI (d.take k)++C.map (mM f)) l).getD i 0:=fun i=>EP (aF.o.1 i) ((pR _ l).2 i);have bn:(dI (d.take k)).length<=4*d.length:=bH (yE _ (fun r hr=>(aS.o r (jG hr)).hl)) (by rw[cW];omega);have b0:∀i:Nat,(aO (dI (d.take k)++C.map (mM f)) l).getD i 0<=K+(4*12+4):=fun i=>by
     have h9:=BH (dI (d.take k)++C.map (mM f)) (l:=l) (K:=K) aF.o.2 (fun e he=>by
      rcases dP.mp he with h|h
      ·exact JD _ e h
      obtain⟨y,_,rfl⟩:=cR.mp h;show y.1.2<=1
      rcases y.2.2.2 with h|h<;>omega) i
     rw[bA,aP]at h9;have :=R.o.hl;omega
    have bq:=b5 q;have bp:=b0 q;(have Z:O (∀A s:Int,A=(aO (dI (d.take k)++C.map (mM f)) l).getD q 0->s=(aO (dI (d.take k)++C.map (mM f)) l).getD f 0->s<A+m->RIn w wr S g l.length E (.cells #[.int .i64 r.z, .slice at_ r.p.length Q, .int .i64 r.x, .slice M r.body.length N, .int .i64 r.vars] 40) T l (dI (d.take k)) f (C++[⟨((q:Int),m),h0,U,hm⟩]) ((W.setCell ⟨g,f,none⟩ (.int .i64 (A+m))).setCell ⟨w.heap.size+1,0,none⟩ (.bool true))):=fun A s G I J=>by subst G I;exact aRJ HI.o ⟨((q:Int),m),h0,U,hm⟩ b6 a6 oM J);(have Y:O (∀A s:Int,A=(aO (dI (d.take k)++C.map (mM f)) l).getD q 0->s=(aO (dI (d.take k)++C.map (mM f)) l).getD f 0->¬s<A+m->RIn w wr S g l.length E (.cells #[.int .i64 r.z, .slice at_ r.p.length Q, .int .i64 r.x, .slice M r.body.length N, .int .i64 r.vars] 40) T l (dI (d.take k)) f (C++[⟨((q:Int),m),h0,U,hm⟩]) W):=fun A s G I J=>by subst G I;exact aTM HI.o ⟨((q:Int),m),h0,U,hm⟩ b6 J);obtain⟨A,G⟩:∃A:Int,A=(aO (dI (d.take k)++C.map (mM f)) l).getD q 0:=⟨_,rfl⟩;obtain⟨s,a3⟩:∃s:Int,s=(aO (dI (d.take k)++C.map (mM f)) l).getD f 0:=⟨_,rfl⟩;replace Z:O _:=Z.o A s G a3;replace Y:O _:=Y.o A s G a3;rw[<-G]at c2 bq bp;rw[<-a3]at c3;have bv:0<=m:=oM;have bw:m<=1:=oM;have aI:O (L.heap.size<=g/\g<w.heap.size/\w.heap.size+2<=wr.heap.size):=⟨bi,a6,oM⟩;have bs:L.heap.size<=w.heap.size:=oM;clear H b5 b0 bn bl G a3 bt bo;by_cases J:s<A+m
    ·have bu:decide (s<A+m)=true:=aQ J;replace Z:O _:=Z.o J;have c6:=aE7 (az.o (.int .i64 (A+m)));have f6:=cM (az.o (.int .i64 (A+m))) 0;clear Y J;gi_wp2;refine⟨((KeepsOthers.setCell _ _ _).trans (KeepsOthers.setCell _ _ _)).from _,⟨((aH _ W).setCell (p:=⟨g,f,none⟩) aI.o.1 _).setCell (p:=⟨w.heap.size+1,0,none⟩) (KO bs) _,fun o _ hR=>?_⟩,Z.o⟩;have h9:=aI.o;rw[cL oM,cL oM];exact hR
    have bu:decide (s<A+m)=false:=aJ J;replace Y:O _:=Y.o J;clear Z J;gi_wp2;exact⟨KeepsFrom.refl _ _,HK.refl _ _ _,Y.o⟩
  obtain rfl:k=d.length:=oM;(have c5:wr.cell? ⟨w.heap.size+1,0,none⟩=some (.bool (decide (aO (dI (d.take d.length)) l≠l))):=cH F.o.flag);rw[lA]at *;obtain⟨fb,a8⟩:∃fb,fb=decide (aO (dI d) l≠l):=⟨_,rfl⟩;rw[<-a8]at c5;have be:O _:=a8;clear a8;gi_wp2;have bN:=(aG.mp bg.o).1;refine QF (B:=w.heap.size+2) (v:=.bool fb) (fun w=>results_tmp (t:=4) rfl _ _ w) T wr HM.o (fun w' hb=>⟨by rw[be.o],?_,?_⟩)
  ·exact(hb.block g oM).trans F.o.row
  exact⟨hb.os.trans F.o.gr.os,hb.tape.trans F.o.gr.tape,hb.output.trans F.o.gr.output,bH F.o.gr.size hb.size,fun j hj hn=>(hb.block j oM).trans (F.o.gr.block j hj hn)⟩
end Go.Proofs.YthenjegmigeieaaGreat
namespace Go.Proofs.YthenjegmigeieaaGreat
open Go.RowKit
theorem eZ{a b:Int}(h:iD a b=0):a=0/\b=0:=by
 unfold iD at h;split at h
 ·exact⟨by assumption,h⟩
 exact absurd h (by assumption)
theorem vR{p:bC}(h:dJ p=0):p.g.length<=10/\p.m.length<=12/\∀r,r∈p.m->FP p.g.length r:=by
 unfold dJ at h;split at h
 ·omega
 rename_i v;split at h
 ·omega
 refine⟨oM,oM,fun r q=>?_⟩;have b:=uQ (eZ h).2 r q;unfold dT at b;split at b
 ·rename_i f;obtain⟨_,b⟩:=eZ b;obtain⟨_,b⟩:=eZ b;obtain⟨_,b⟩:=eZ b;obtain⟨_,b⟩:=eZ b;obtain⟨_,b⟩:=eZ b;obtain⟨i,b⟩:=eZ b;obtain⟨j,_⟩:=eZ b;(have n:0<=r.z/\r.z<=(p.g.length:Int)-1:=by unfold lG dG at f;simpa using f);refine⟨n.1,oM,fun x s l=>?_,?_⟩
  ·have d:=uQ j x s;obtain⟨d,_⟩:=eZ d;unfold dX at d;rw[if_pos (eL l)]at d;split at d
   ·omega
   split at d
   ·rename_i e;unfold lG dG at e;(have w:0<=x.z/\x.z<=(p.g.length:Int)-1:=by simpa using e);omega
   omega
  by_cases k:4<r.body.length
  ·rw[if_pos k]at i;omega
  omega
 omega
def oQ(p:bC):Int:=if dJ p=0 then(if uW p then 0 else 4)else dJ p
def xE(p:bC):List Int:=if dJ p=0/\uW p=true then iM p else []
theorem Np{p:bC}(h:¬dJ p=0):oQ p=dJ p/\xE p=[]:=by unfold oQ xE;rw[if_neg h,if_neg (fun k=>h k.1)];exact⟨rfl,rfl⟩
theorem GM{p:bC}(h:dJ p=0)(b:uW p=true):oQ p=0/\xE p=iM p:=by unfold oQ xE;rw[if_pos h,if_pos b,if_pos ⟨h,b⟩];exact⟨rfl,rfl⟩
theorem Nq{p:bC}(h:dJ p=0)(b:uW p=false):oQ p=4/\xE p=[]:=by unfold oQ xE;rw[if_pos h,if_neg (by simp[b]),if_neg (by simp[b])];exact⟨rfl,rfl⟩
theorem Hc{p:bC}{k:Nat}(f:k<=p.g.length)(h:aO (dK p) (dN (dK p) k (dH p.g.length))=dN (dK p) k (dH p.g.length)):iM p=dN (dK p) k (dH p.g.length)/\uW p=true:=by(have b:iM p=dN (dK p) k (dH p.g.length):=by unfold iM;obtain⟨d,e⟩:∃d,p.g.length=k+d:=⟨p.g.length-k,oM⟩;rw[e,IN,<-e,NZ h]);refine⟨b,aQ ?_⟩;rw[b,h]
theorem KC(E:List fA)(b:∀e,e∈E->e.2.2<=1)(n:Nat):∀(k i:Nat),(dN E k (dH n)).getD i 0<=(k*E.length:Nat)
 |0,i=>by rw[show dN E 0 (dH n)=dH n from rfl,DI];omega
 |k+1,i=>by rw[rL];have :=BH E (KC E b n k) b i;rw[QO];omega
theorem PH(E:List fA)(n k i:Nat):0<=(dN E k (dH n)).getD i 0:=by have :=(AJ E k (dH n)).2 i;rw[DI]at this;exact this
theorem Wq(n:Nat):madeCells #[Value.int .i64 0] n=yF (dH n):=by
 unfold yF dH;apply Array.ext
 ·simp[size_madeCells]
 intro i b d;simp[madeCells,Nat.mod_one]
theorem Aq{w:World}{b:Nat}{l:List Int}(d:Nat)(h:w.heap[b]?=some (.cells (yF l) 3)):dM w (.slice (some ⟨b,0,none⟩) l.length d) l:=by refine⟨_,_,rfl, .inr ⟨b,0,rfl,fun i e=>?_⟩⟩;rw[dV];exact EB h e
theorem KZ{w wr g:World}{d:Nat}(b:Below w.heap.size w wr)(hg:wr.grownBy g (some d))(h:w.heap.size<=d):Below w.heap.size w g:=
 ⟨hg.os.trans b.os,hg.tape.trans b.tape,hg.output.trans b.output,bH b.size hg.size,fun j f=>(hg.block j (dQ f b.size) (fun e=>by injection e with e;omega)).trans (b.block j f)⟩
theorem _root_.Go.World.grownBy.trans_row{a b c:World}{d:Nat}(h:a.grownBy b (some d))(k:b.grownBy c (some d)):a.grownBy c (some d):=
 ⟨k.os.trans h.os,k.tape.trans h.tape,k.output.trans h.output,bH h.size k.size,fun j e f=>(k.block j (dQ e h.size) f).trans (h.block j e f)⟩
theorem Eg(p:bC)(va vn vr:Value)(w:World)(B:iU w va vn vr p)(hF:jK p):
 Calls Tryz.prog 80 #[eN va vn vr] w fun e w'=>∃v,e=.returned (.tuple #[v, .int .i64 (oQ p)])/\dM w' v (xE p)/\Below w.heap.size w w':=by
 obtain⟨s,y,rfl,_⟩:=id B.ar;obtain⟨H,K,rfl,_⟩:=id B.nm;obtain⟨x,z,rfl,_⟩:=id B.rl;have I:Below w.heap.size w (w.alloc (pB s y H K x z p)):=(aH _ _).alloc (aE _) _;have S:=aR w (pB s y H K x z p);have HP:O _:=B;have HF:O _:=hF;clear B hF
 go_enter Tryz.func80,Tryz.ntmps80
 go_wp2_with fail;generalize w.alloc (pB s y H K x z p)=w1 at *;refine(PE p _ _ _ w1 (HP.o.u I) HF.o).mono ?_;rintro e f ⟨rfl,U⟩;have C:=(U.block _ (aG.mp S).1).trans S;have J:=I.trans (U.mono I.size);clear S I U;by_cases l:dJ p=0
 ·obtain⟨hn,W,hR⟩:=vR l;have X:O (dJ p=0):=l;have HR:O _:=hR;rw[l];clear l hR;(have c0:f.cell? ⟨w.heap.size,0,none⟩=some (.slice s p.g.length y):=cH C);have ae:=run_make_row' (P:=Tryz.prog) 22 3 (.int .i64 0) 8 Tryz.underlying22 kR rfl .i64 .i64 p.g.length oM oM;have Q:=(aH f.heap.size f).alloc (aE _) (.cells (madeCells #[Value.int .i64 0] p.g.length) 3);have F:=aR f (.cells (madeCells #[Value.int .i64 0] p.g.length) 3);have T:=(Q.block _ (aG.mp C).1).trans C;have a5:=J.trans (Q.mono J.size);(have c3:(f.alloc (.cells (madeCells #[Value.int .i64 0] p.g.length) 3)).cell? ⟨w.heap.size,0,none⟩=some (.slice s p.g.length y):=cH T);have ah:w.heap.size<f.heap.size:=(aG.mp C).1;clear Q;go_wp2_with fail;rw[Wq]at *;generalize f.alloc (.cells (yF (dH p.g.length)) 3)=w3 at *;generalize f.heap.size=N at *;clear ae c0 C J c3;have a3:O _:=T;have q:O _:=a5;clear T a5;go_loopw [19] (fun i wr=>∃k:Nat,k<=p.g.length+1/\i=.int .i64 k/\wr.heap[N]?=some (.cells (yF (dN (dK p) k (dH p.g.length))) 3)/\(∀j,j<k->aO (dK p) (dN (dK p) j (dH p.g.length))≠dN (dK p) j (dH p.g.length))/\w3.grownBy wr (some N)) (fun i _=>p.g.length+1-(intOf i).toNat);case atStart=>exact⟨0,bG _,rfl,F,fun j E=>absurd E (nZ _),⟨rfl,rfl,rfl,aE _,fun _ _ _=>rfl⟩⟩
  case round=>
   clear F;obtain⟨k,hk,rfl,F,a8,d⟩:=hrel;have a4:wr.heap[w.heap.size]?=some (pB s y H K x z p):=(d.block _ (aG.mp a3.o).1 (fun e=>by injection e with e;omega)).trans a3.o;(have c2:wr.cell? ⟨w.heap.size,2,none⟩=some (.slice x p.m.length z):=cH a4);have a6:Below w.heap.size w wr:=⟨d.os.trans q.o.os,d.tape.trans q.o.tape,d.output.trans q.o.output,bH q.o.size d.size,fun j E=>(d.block j (dQ E q.o.size) (fun e=>by injection e with e;omega)).trans (q.o.block j E)⟩;have L:O _:=a6;have Z:O _:=a8;have ab:O _:=F;have HG:O _:=d;clear a4 a6 a8 F d;by_cases ag:k<p.g.length+1
   ·have ac:=yE p.m (fun r W=>(HR.o r W).hl);(have V:(dN (dK p) k (dH p.g.length)).length=p.g.length:=by rw[pG];simp[dH]);have A:=aNO w wr p.m (.slice x p.m.length z) (dN (dK p) k (dH p.g.length)) N p.g.length 528 HP.o.rl L.o oM ab.o (by rw[V];exact HR.o) W (PH _ _ _) (fun i=>by
     have R:=KC (dK p) (JD p.m) p.g.length k i;have h8:(k*(dK p).length:Nat)<=11*48:=UD oM (by show(dI p.m).length<=48;omega)
     omega) dE
    rw[V]at A;have A:O _:=A;clear ac V;go_wp2_with fail;refine Calls.mono A.o ?_;rintro e w5 ⟨rfl,a9,a7⟩;have M:O _:=a9;have Y:O _:=a7;clear A a9 a7;by_cases n:aO (dI p.m) (dN (dK p) k (dH p.g.length))=dN (dK p) k (dH p.g.length)
    ·have D:decide (aO (dI p.m) (dN (dK p) k (dH p.g.length))≠dN (dK p) k (dH p.g.length))=false:=aJ (fun h=>h n);have G:=Hc (p:=p) (k:=k) oM n;have b:=GM X.o G.2;have G:O _:=G;have b:O _:=b;rw[D];rw[n]at M;clear n D;go_wp2_with fail;refine dF (fM rfl _ _ _) rfl ⟨_,by rw[b.o.1];rfl,?_,?_⟩
     ·rw[b.o.2,G.o.1];have R:=Aq p.g.length M.o;rw[pG,show(dH p.g.length).length=p.g.length by simp[dH]]at R;exact R
     exact KZ L.o Y.o oM
    have D:decide (aO (dI p.m) (dN (dK p) k (dH p.g.length))≠dN (dK p) k (dH p.g.length))=true:=aQ n;have aa:O _:=n;rw[D];clear n D;go_wp2_with fail;go_roundw
    case rel=>
     refine⟨k+1,oM,gN,by rw[rL];exact M.o,fun j E=>?_,HG.o.trans_row Y.o⟩;by_cases ad:j=k
     ·rw[ad];exact aa.o
     exact Z.o j oM
    case measure=>exact mI
   obtain rfl:k=p.g.length+1:=oM;have b:=Nq (p:=p) X.o (aJ (Z.o p.g.length oM));have b:O _:=b;clear c2;go_wp2_with fail;refine dF (fM rfl _ _ _) rfl ⟨_,by rw[b.o.1];rfl,by rw[b.o.2];exact⟨none,0,rfl, .inl rfl⟩,L.o⟩
 (have af:(dJ p==0)=false:=by simp[l]);have b:=Np l;have b:O _:=b;clear l;go_wp2_with fail;refine dF (fM rfl _ _ _) rfl ?_;exact⟨_,by rw[b.o.1];rfl,by rw[b.o.2];exact⟨none,0,rfl, .inl rfl⟩,J⟩
abbrev Lv:=cI×Value
def sF(p:Lv):List Value:=[.int .i64 p.1.kind, .int .i64 p.1.op, .int .i64 p.1.z,p.2]
def kZ(q:List Lv):List Value:=(q.map sF).flatten
theorem AG{α:Type}(f:α->List Value)(c:Nat)(d:∀a,(f a).length=c):∀(l:List α)(i:Nat)(a:α)(t:Nat),l[i]?=some a->t<c->(l.map f).flatten[i*c+t]?=(f a)[t]?
 |[],i,a,t,h,_=>by simp at h
 |b::l,0,a,t,h,ht=>by(have j:b=a:=by simpa using h);subst j;rw[lF,yK,EQ,dV,mL (by rw[d];exact ht)]
 |b::l,i+1,a,t,h,ht=>by(have g:l[i]?=some a:=by simpa using h);rw[lF,yK,jP (by rw[d,QO];omega),d];(have e:(i+1)*c+t-c=i*c+t:=by rw[QO];omega);rw[e];exact AG f c d l i a t g ht
theorem LC{α:Type}(f:α->List Value)(c:Nat)(d:∀a,(f a).length=c):∀(l:List α),(l.map f).flatten.length=l.length*c
 |[]=>by simp
 |b::l=>by rw[lF,yK,bA,d,LC f c d l,zW,QO];omega
theorem YJ{α:Type}(f:α->List Value)(c:Nat)(b:0<c)(e:∀a,(f a).length=c)(l:List α)(j:Nat)(u:Value)(h:(l.map f).flatten[j]?=some u):∃a,l[j/c]?=some a/\(f a)[j% c]?=some u:=by(have g:j<l.length*c:=by rw[<-LC f c e l];exact(eP.mp h).1);have d:j/c<l.length:=(Nat.div_lt_iff_lt_mul b).mpr g;refine⟨l[j/c],aD d,?_⟩;rw[<-AG f c e l (j/c) l[j/c] (j% c) (aD d) (Nat.mod_lt _ b),Nat.mul_comm,Nat.div_add_mod];exact h
theorem gR{W W':World}{B e c n:Nat}{v:Value}{f:List Value}(h:W.ownsRow B e c v n f)(p:∀(k:Nat)(a:Array Value),W.heap[k]?=some (.cells a e)->W'.heap[k]?=some (.cells a e)):W'.ownsRow B e c v n f:=by
 obtain⟨j,b⟩:=h;refine⟨j,?_⟩;rcases b with b|⟨g,i,d,q,l,m,r⟩
 ·exact .inl b
 exact .inr ⟨g,i,d,q,l,p g d m,r⟩
theorem FU{W:World}{B e c n:Nat}{v:Value}{f:List Value}(h:W.ownsRow B e c v n f):∃d b,v=.slice d n b/\n<=b/\(n=0\/∃g,d=some ⟨g,0,none⟩/\∀j,j<n*c->W.cell? ⟨g,j,none⟩=f[j]?):=by
 rcases jJ h with⟨rfl,rfl⟩|⟨g,b,rfl⟩
 ·exact⟨none,0,rfl,aE _, .inl rfl⟩
 refine⟨_,b,rfl,?_, .inr ⟨g,rfl,fun j k=>h.cellAt j k⟩⟩;rcases h.2 with⟨i,_⟩|⟨q,m,p,l,_,_,s,_⟩
 ·cases i
 injection l with _ _ r;omega
end Go.Proofs.YthenjegmigeieaaGreat
namespace Go.Proofs.YthenjegmigeieaaGreat
section
variable {P:Program} {ops:Array Oper} {Q:Exit->Act->World->Prop} {md:Region.Mode}
theorem YS{s:Array Bool}{i:Nat}(h:i∈Region.ready md ops s):s[i]?=some false/\∃o,ops[i]?=some o/\∀e,e∈o.after->Region.binds md e=true->s[e.on]?=some true:=by
 unfold Region.ready at h;obtain⟨_,h⟩:=mX.mp h;rw[eF]at h;obtain⟨j,f⟩:=h;refine⟨?_,?_⟩
 ·cases d:s[i]? with
  |none=>simp[Array.getD_eq_getD_getElem?,d]at j
  |some b=>cases b<;>simp[Array.getD_eq_getD_getElem?,d]at j ⊢
 cases k:ops[i]? with
 |none=>simp[k]at f
 |some o=>
  refine⟨o,rfl,fun e m l=>?_⟩;rw[k,lE,oA,Array.all_eq_true_iff_forall_mem]at f;have g:=f e m;rw[l]at g
  cases d:s[e.on]? with
  |none=>simp[Array.getD_eq_getD_getElem?,d]at g
  |some b=>cases b<;>simp[Array.getD_eq_getD_getElem?,d]at g ⊢
def Wm(s:Array Bool):Nat:=s.toList.countP (fun b=> !b)
theorem Wp{s:Array Bool}(h:Wm s=0):Region.ready md ops s=[]:=by
 cases f:Region.ready md ops s with
 |nil=>rfl
 |cons i r=>
  have b:=(YS (s:=s) (i:=i) (by rw[f];exact dC)).1;(have d:false∈s.toList:=by rw[<-fH]at b;exact iN b);have e:=List.countP_eq_zero.mp h false d;simp at e
theorem aP6{s:Array Bool}{i:Nat}(h:s[i]?=some false):Wm (s.setIfInBounds i true)+1=Wm s:=by obtain⟨d,g⟩:=aG.mp h;unfold Wm;(have e:(s.setIfInBounds i true).toList=s.toList.set i true:=by simp);rw[e,List.countP_set (h:=by simpa using d)];have j:0<s.toList.countP (fun b=> !b):=List.countP_pos_iff.mpr ⟨false,by rw[<-fH]at h;exact iN h,rfl⟩;(have f:s.toList[i]'(by simpa using d)=false:=by rw[Array.getElem_toList];exact g);rw[f];simp only[Bool.not_false,Bool.not_true,if_true,Bool.false_eq_true,if_false];omega
theorem Yb(I:Array Bool->Act->World->Prop)(hend:∀s a w,Region.ready md ops s=[]->I s a w->Q .normal a w)
 (f:∀s a w i,i∈Region.ready md ops s->I s a w->wpOp P ops Q i (I (s.setIfInBounds i true)) a w):
 ∀(b:Nat)(s:Array Bool)(a:Act)(w:World),Wm s<=b->I s a w->wpAny P md ops Q b s a w
 |0,s,a,w,l,d=>⟨Wp (by omega),hend s a w (Wp (by omega)) d⟩
 |b+1,s,a,w,l,d=>⟨fun j=>hend s a w j d,fun i e=>wpOp_mono (fun g m k=>Yb I hend f b _ g m (by have :=aP6 (YS e).1;omega) k) (f s a w i e d)⟩
theorem Tj(I:Array Bool->Act->World->Prop){id:Nat}{a:Act}{w:World}(b:P.follows .mixedOrders=true)
 (hend:∀s a w,Region.ready .any ops s=[]->I s a w->Q .normal a w)
 (d:∀s a w i,i∈Region.ready .any ops s->I s a w->wpOp P ops Q i (I (s.setIfInBounds i true)) a w)
 (h0:I (Array.replicate ops.size false) a {w with drawn:=w.drawn+1}):(Code.region id ops true).wp P Q a w:=by
 refine wp_region_any b (Yb I hend d ops.size _ _ _ ?_ h0);unfold Wm;exact bH LM (by simp)
end
end Go.Proofs.YthenjegmigeieaaGreat
namespace Go.Proofs.YthenjegmigeieaaGreat
open Go.RowKit
def DM(b:Array Oper)(n:Nat):Bool:=
 decide ((b.toList.filterMap (·.dst)).Nodup)&&(b.toList.filterMap (·.dst)).all (fun t=>decide (t<n))&&(List.range b.size).all (fun i=>((b[i]?).map (fun o=>o.after.toList.all (fun e=>decide (e.on<i)))).getD true)
def uK(b:Array Oper)(n:Nat):Bool:=
 decide ((b.toList.filterMap (·.dst)).Nodup)&&(b.toList.filterMap (·.dst)).all (fun t=>decide (t<n))&&(List.range b.size).all (fun i=>((b[i]?).map (fun o=>o.after.toList.all (fun e=> !Region.binds .any e||decide (e.on<i)))).getD true)
theorem YW{b:Array Oper}{n:Nat}(h:DM b n=true):uK b n=true:=by
 unfold DM at h;unfold uK;rw[eF]at h ⊢;refine⟨h.1,eX.mpr fun i g=>?_⟩;have d:=eX.mp h.2 i g
 cases j:b[i]? with
 |none=>rfl
 |some o=>
  rw[j,lE,oA]at d;refine eX.mpr fun e f=>?_;rw[eX.mp d e f,BD]
structure LR (ops:Array Oper) (T:Nat->Value->World->Prop) (a0:Act) (w0:World) (o:Oper) (a:Act) (w:World):Prop where
 u:Below w0.heap.size w0 w
 still:∀t,t∉ops.toList.filterMap (·.dst)->a.tmps.getD t undef=a0.tmps.getD t undef
 has:∀e,e∈o.after->Region.binds .any e=true->∀(o':Oper)(t:Nat),ops[e.on]?=some o'->o'.dst=some t->T t (a.tmps.getD t undef) w
def DS(P:Program)(e:Array Oper)(Q:Exit->Act->World->Prop)(T:Nat->Value->World->Prop)(o:Oper)(a:Act)(w:World):Prop:=
 if Region.wanted o (yielded e a.tmps)then o.wp P a w (fun d b=>∃v,d=a.put o.dst v/\(∀t,o.dst=some t->T t v b)/\Below w.heap.size w b) Q\/(o.asks P a w/\LetsOut Q)
 else∀t,o.dst=some t->T t undef w
theorem iF{a:Act}{t:Nat}{v:Value}(h:t<a.tmps.size):(a.put (some t) v).tmps.getD t undef=v:=by simp[Act.put,Array.getD_eq_getD_getElem?,h]
theorem gB{a:Act}{t u:Nat}{v:Value}(h:u≠t):(a.put (some t) v).tmps.getD u undef=a.tmps.getD u undef:=by simp[Act.put,Array.getD_eq_getD_getElem?,Ne.symm h]
theorem uJ{a:Act}{d:Option Nat}{v:Value}:(a.put d v).tmps.size=a.tmps.size:=by cases d<;>simp[Act.put]
theorem aJ2{a:Act}{d:Option Nat}{v:Value}:(a.put d v).defers=a.defers:=by cases d<;>simp[Act.put]
theorem YR{a b:Act}{v:Value}{o:Oper}{D:List Nat}(d:∀u,o.dst=some u->u∈D)(h:∀t,t∉D->a.tmps.getD t undef=b.tmps.getD t undef)(t:Nat)(ht:t∉D):(a.put o.dst v).tmps.getD t undef=b.tmps.getD t undef:=by
 cases f:o.dst with
 |none=>exact h t ht
 |some u=>
  have g:t≠u:=fun e=>ht (e▸d u f);rw[gB g];exact h t ht
def zN(b:Array Oper):Nat->Nat->Nat->Bool
 |0,_,_=>false
 |f+1,i,j=>((b[i]?).map fun o=>o.after.toList.any fun e=>Region.binds .any e&&(e.on==j||zN b f e.on j)).getD false
def xI(b:Array Oper)(s:Array Bool):Prop:=∀(i:Nat)(o:Oper),s[i]?=some true->b[i]?=some o->∀e,e∈o.after->Region.binds .any e=true->s[e.on]?=some true
theorem MX{d:Array Oper}{s:Array Bool}(l:xI d s):∀(f i j:Nat)(o:Oper),d[i]?=some o->(∀e,e∈o.after->Region.binds .any e=true->s[e.on]?=some true)->zN d f i j=true->s[j]?=some true
 |0,_,_,_,_,_,h=>by cases h
 |f+1,i,j,o,x,r,h=>by
  unfold zN at h;rw[x,lE,oA]at h;obtain⟨e,v,g⟩:=kI.mp h;rw[eF,uZ]at g;have m:=r e (by simpa using v) g.1;rcases g.2 with b|b
  ·(have b:e.on=j:=by simpa using b);rw[<-b];exact m
  cases k:d[e.on]? with
  |none=>
   cases f with
   |zero=>cases b
   |succ f=>unfold zN at b;rw[k]at b;cases b
  |some n=>exact MX l f e.on j n k (fun p w q=>l e.on n m k p w q) b
theorem XF{d:Array Oper}{s:Array Bool}(g:xI d s){i j:Nat}(k:s[i]?=some true)(l:s[j]?=some false):zN d 12 i j=false:=by
 cases b:zN d 12 i j with
 |false=>rfl
 |true=>
  cases e:d[i]? with
  |none=>unfold zN at b;rw[e]at b;cases b
  |some o=>
   have f:=MX g 12 i j o e (g i o k e) b;rw[l]at f;cases f
def tN(b:Array Oper)(L:Nat):Bool:=(List.range L).all (fun j=>zN b 12 L j)&&(List.range b.size).all fun i=> !decide (L<i)||zN b 12 i (i-1)
section
variable {P:Program} {ops:Array Oper} {Q:Exit->Act->World->Prop}
theorem aK3{i:Nat}{o:Oper}{t:Nat}(h:ops[i]?=some o)(ht:o.dst=some t):t∈ops.toList.filterMap (·.dst):=by refine gT.mpr ⟨o,?_,ht⟩;rw[<-fH]at h;exact iN h
theorem aK2:∀(l:List Oper),(l.filterMap (·.dst)).Nodup->∀(i j:Nat)(o b:Oper)(t:Nat),l[i]?=some o->l[j]?=some b->o.dst=some t->b.dst=some t->i=j
 |[],_,i,j,o,b,t,h,_,_,_=>by simp at h
 |x::l,hn,i,j,o,b,t,hi,hj,ho,ho'=>by
  have d:∀k (o:Oper),l[k]?=some o->o.dst=some t->t∈l.filterMap (·.dst):=fun k o f g=>gT.mpr ⟨o,iN f,g⟩
  cases i with
  |zero=>
   cases j with
   |zero=>rfl
   |succ j=>
    simp only[List.getElem?_cons_zero,Option.some.injEq]at hi;subst hi;simp only[List.getElem?_cons_succ]at hj;rw[pA,ho]at hn;exact absurd (d j b hj ho') (List.nodup_cons.mp hn).1
  |succ i=>
   cases j with
   |zero=>
    simp only[List.getElem?_cons_zero,Option.some.injEq]at hj;subst hj;simp only[List.getElem?_cons_succ]at hi;rw[pA,ho']at hn;exact absurd (d i o hi ho) (List.nodup_cons.mp hn).1
   |succ j=>
    simp only[List.getElem?_cons_succ]at hi hj;have m:(l.filterMap (·.dst)).Nodup:=by
     rw[pA]at hn
     cases e:x.dst with
     |none=>rw[e]at hn;exact hn
     |some z=>rw[e]at hn;exact(List.nodup_cons.mp hn).2
    exact congrArg (·+1) (aK2 l m i j o b t hi hj ho ho')
theorem XG{i L:Nat}{o:Oper}(b:i<L)(d:ops[i]?=some o):o∈ops.toList.take L:=by refine iN (i:=i) ?_;rw[gS,if_pos b,fH];exact d
theorem QH{s:Array Bool}{i:Nat}(h:s[i]?=some false):(s.setIfInBounds i true)[i]?=some true:=by rw[Array.getElem?_setIfInBounds,if_pos rfl,if_pos (aG.mp h).1]
theorem MY{s:Array Bool}{i j:Nat}(h:j≠i):(s.setIfInBounds i true)[j]?=s[j]?:=by rw[Array.getElem?_setIfInBounds,if_neg (Ne.symm h)]
theorem YT{s:Array Bool}{i j:Nat}(b:s[i]?=some false)(h:s[j]?=some true):(s.setIfInBounds i true)[j]?=some true:=by
 by_cases e:j=i
 ·rw[e];exact QH b
 rw[MY e];exact h
theorem Kw{s:Array Bool}{i:Nat}(h:i<s.size):s[i]?=some false\/s[i]?=some true:=by
 rw[iG h];cases s[i]
 ·exact .inl rfl
 exact .inr rfl
theorem aN5{n:Nat}(b:uK ops n=true)(i:Nat)(o:Oper)(f:ops[i]?=some o)(e:Edge)(j:e∈o.after)(g:Region.binds .any e=true):e.on<i:=by unfold uK at b;rw[eF]at b;have h:=eX.mp b.2 i (jV.mpr (aG.mp f).1);rw[f,lE,oA]at h;have d:=eX.mp h e (by simpa using j);rw[g]at d;exact eL (by simpa using d)
theorem aSD{n:Nat}{s:Array Bool}(l:uK ops n=true)(w:s.size=ops.size)(q:Region.ready .any ops s=[]):∀m:Nat,m<=ops.size->∀i:Nat,i<m->s[i]?=some true:=by
 intro m
 induction m with
 |zero=>intro _ i d;exact absurd d (nZ _)
 |succ m b=>
  intro v i d;have b:=b oM;by_cases p:i<m
  ·exact b i p
  obtain rfl:i=m:=oM;refine(Kw (s:=s) (i:=i) oM).resolve_left fun r=>?_;have f:i<ops.size:=oM;have :i∈Region.ready .any ops s:=by
   unfold Region.ready;refine mX.mpr ⟨jV.mpr f,?_⟩;rw[eF];refine⟨by simp[Array.getD_eq_getD_getElem?,r],?_⟩;have g:ops[i]?=some ops[i]:=iG f;rw[g,lE,oA,Array.all_eq_true_iff_forall_mem];intro e k
   cases j:Region.binds .any e with
   |false=>rfl
   |true=>simp[Array.getD_eq_getD_getElem?,b e.on (aN5 l i _ g e k j)]
  rw[q]at this;cases this
theorem IE(J:Array Bool->Act->World->Prop)(L:Nat){n id:Nat}{R:Act}{N:World}(hL:L<=ops.size)(Z:L<ops.size->tN ops L=true)(K:P.follows .mixedOrders=true)(hf:uK ops n=true)
 (a6:∀s a w i o,s.size=ops.size->xI ops s->J s a w->i<L->s[i]?=some false->ops[i]?=some o->(∀e,e∈o.after->Region.binds .any e=true->s[e.on]?=some true)->wpOp P ops Q i (J (s.setIfInBounds i true)) a w)
 (htail:∀s a w,(∀j,j<L->s[j]?=some true)->J s a w->wpOps P ops Q (List.range' L (ops.size-L)) a w)
 (h0:J (Array.replicate ops.size false) R {N with drawn:=N.drawn+1}):(Code.region id ops true).wp P Q R N:=by
 (have a7:L<ops.size->∀j,j<L->zN ops 12 L j=true:=fun I j f=>by have h:=Z I;unfold tN at h;rw[eF]at h;exact eX.mp h.1 j (jV.mpr f));have a8:∀i,i<ops.size->L<i->zN ops 12 i (i-1)=true:=fun i q a1=>by have h:=Z oM;unfold tN at h;rw[eF]at h;have h:=eX.mp h.2 i (jV.mpr q);rw[aQ a1]at h;simpa using h
 refine Tj (fun s a w=>(s.size=ops.size/\xI ops s)/\(((∀i,L<=i->i<ops.size->s[i]?=some false)/\J s a w)\/
  (∃m,L<=m/\m<=ops.size/\(∀i,i<m->s[i]?=some true)/\(∀i,m<=i->i<ops.size->s[i]?=some false)/\wpOps P ops Q (List.range' m (ops.size-m)) a w))) K ?_ ?_ ?_
 ·rintro s a w hr ⟨⟨C,p⟩,F⟩;have B:=aSD hf C hr ops.size (aE _);(have no:∀m,m<ops.size->¬s[m]?=some false:=fun m K h=>by rw[B m K]at h;cases h);(have fin:∀m,m=ops.size->wpOps P ops Q (List.range' m (ops.size-m)) a w->Q .normal a w:=fun m e h=>by rw[e,wS]at h;exact h);rcases F with⟨b,x⟩|⟨m,_,a5,_,b,g⟩
  ·have I:L=ops.size:=by
    rcases jW L ops.size with h|h
    ·exact absurd (b L (aE _) h) (no L h)
    omega
   exact fin L I (htail s a w (fun j f=>B j oM) x)
  refine fin m ?_ g;rcases jW m ops.size with h|h
  ·exact absurd (b m (aE _) h) (no m h)
  omega
 ·rintro s a w i q ⟨⟨C,p⟩,F⟩;obtain⟨k,o,r,A⟩:=YS q;have a3:i<ops.size:=(aG.mp r).1;have Y:(s.setIfInBounds i true).size=ops.size/\xI ops (s.setIfInBounds i true):=by
   refine⟨by simp[C],fun i' o' W M e V T=>?_⟩;by_cases X:i'=i
   ·subst X;rw[r]at M;cases M;exact YT k (A e V T)
   rw[MY X]at W;exact YT k (p i' o' W M e V T)
  have first:∀m,L<=m->m<=i->(∀j,m<=j->j<ops.size->s[j]?=some false)->i=m:=fun m y a9 b=>by
   rcases jW m i with h|h
   ·have l:=MX p 12 i (i-1) o r A (a8 i a3 oM);rw[b (i-1) oM oM]at l;cases l
   omega
  have S:∀m,L<=m->i=m->(∀j,j<m->s[j]?=some true)->(∀j,m<=j->j<ops.size->s[j]?=some false)->wpOps P ops Q (List.range' m (ops.size-m)) a w->
   wpOp P ops Q i (fun v D=>((s.setIfInBounds i true).size=ops.size/\xI ops (s.setIfInBounds i true))/\(((∀j,L<=j->j<ops.size->(s.setIfInBounds i true)[j]?=some false)/\J (s.setIfInBounds i true) v D)\/
    (∃m,L<=m/\m<=ops.size/\(∀j,j<m->(s.setIfInBounds i true)[j]?=some true)/\(∀j,m<=j->j<ops.size->(s.setIfInBounds i true)[j]?=some false)/\wpOps P ops Q (List.range' m (ops.size-m)) v D))) a w:=by
   intro m y G z b g;subst G;obtain⟨d,B⟩:∃d,ops.size-i=d+1:=⟨ops.size-i-1,oM⟩;rw[B,List.range'_succ,iO]at g;refine wpOp_mono (fun v D E=>⟨Y, .inr ⟨i+1,oM,oM,fun j f=>?_,fun j f H=>?_,?_⟩⟩) g
   ·by_cases a4:j=i
    ·rw[a4];exact QH k
    exact YT k (z j oM)
   ·rw[MY oM];exact b j oM H
   rw[show ops.size-(i+1)=d by omega];exact E
  rcases F with⟨b,x⟩|⟨m,y,a5,z,b,g⟩
  ·by_cases a2:L<=i
   ·have e:=first L (aE _) a2 b;have U:∀j,j<L->s[j]?=some true:=fun j f=>MX p 12 i j o r A (by rw[e];exact a7 oM j f);exact S L (aE _) e U b (htail s a w U x)
   exact wpOp_mono (fun v D E=>⟨Y, .inl ⟨fun j f H=>by rw[MY oM];exact b j f H,E⟩⟩) (a6 s a w i o C p x oM k r A)
  have G:m<=i:=by
   rcases jW i m with h|h
   ·have l:=z i h;rw[k]at l;cases l
   exact h
  exact S m y (first m y G b) z b g
 exact⟨⟨by simp,fun i o h=>by rw[FL]at h;split at h<;>simp at h⟩, .inl ⟨fun i _ q=>by rw[FL,if_pos q],h0⟩⟩
end
def MV(b:Array Oper)(wr:Nat->Bool)(d:Nat->Nat->Bool)(i j:Nat):Bool:=(wr i&&decide (i<b.size))&& !decide (i=j)&& !zN b 12 j i&& !(((b[j]?).map fun o=>(o.dst.map (d i)).getD true).getD true)
def aJU(b:Array Oper)(wr:Nat->Bool)(d:Nat->Nat->Bool)(m j:Nat):Bool:=(List.range b.size).all fun i=> !MV b wr d i j||(i==m||zN b 12 i m)
def aG9(b:Array Oper)(wr:Nat->Bool)(d:Nat->Nat->Bool)(i:Nat):Bool:=(List.range b.size).all fun k=> !MV b wr d k i
def aSB(b:Array Oper)(wr:Nat->Bool)(m:Nat):Bool:=(List.range b.size).all fun i=> !wr i||(i==m||zN b 12 i m)
structure aKO (R:World->World->Prop) (E:Nat->World->Prop) (ops:Array Oper) (wr:Nat->Bool) (surv:Nat->Nat->Bool) (T:Nat->Value->World->Prop) (a0:Act) (w0:World) (m:Nat) (o:Oper) (a:Act) (w:World):Prop where
 u:R w0 w
 still:∀t,t∉ops.toList.filterMap (·.dst)->a.tmps.getD t undef=a0.tmps.getD t undef
 has:∀e,e∈o.after->Region.binds .any e=true->aJU ops wr surv m e.on=true->∀(o':Oper)(t:Nat),ops[e.on]?=some o'->o'.dst=some t->T t (a.tmps.getD t undef) w
 wrote:∀e,e∈o.after->Region.binds .any e=true->wr e.on=true->E e.on w
 pre:aSB ops wr m=true->Below w0.heap.size w0 w
structure DJ (R:World->World->Prop) (E:Nat->World->Prop) (ops:Array Oper) (wr:Nat->Bool) (surv:Nat->Nat->Bool) (T:Nat->Value->World->Prop) (a0:Act) (w0:World) (s:Array Bool) (a:Act) (w:World):Prop where
 u:R w0 w
 defers:a.defers=a0.defers
 size:a.tmps.size=a0.tmps.size
 still:∀t,t∉ops.toList.filterMap (·.dst)->a.tmps.getD t undef=a0.tmps.getD t undef
 done:∀(i:Nat)(o:Oper)(t:Nat),s[i]?=some true->ops[i]?=some o->o.dst=some t->(∀k,MV ops wr surv k i=true->s[k]?=some false)->T t (a.tmps.getD t undef) w
 wrote:∀i,s[i]?=some true->wr i=true->E i w
 pre:(∀i,wr i=true->¬s[i]?=some true)->Below w0.heap.size w0 w
structure aO0 (R:World->World->Prop) (E:Nat->World->Prop) (ops:Array Oper) (wr:Nat->Bool) (surv:Nat->Nat->Bool) (T:Nat->Value->World->Prop) (a0:Act) (w0:World) (L:Nat) (a:Act) (w:World):Prop where
 u:R w0 w
 defers:a.defers=a0.defers
 size:a.tmps.size=a0.tmps.size
 still:∀t,t∉ops.toList.filterMap (·.dst)->a.tmps.getD t undef=a0.tmps.getD t undef
 all:∀(i:Nat)(o:Oper)(t:Nat),i<L->ops[i]?=some o->o.dst=some t->(∀k,MV ops wr surv k i=false)->T t (a.tmps.getD t undef) w
 wrote:∀i,i<L->wr i=true->E i w
section
variable {P:Program} {ops:Array Oper} {Q:Exit->Act->World->Prop} {R:World->World->Prop} {E:Nat->World->Prop} {wr:Nat->Bool} {surv:Nat->Nat->Bool} {T:Nat->Value->World->Prop} {a0:Act} {w0:World}
theorem aK6{i j:Nat}(h:MV ops wr surv i j=true):i<ops.size:=by unfold MV at h;rw[eF,eF,eF,eF]at h;exact eL h.1.1.1.2
theorem DJ.start(d:R w0 {w0 with drawn:=w0.drawn+1}):DJ R E ops wr surv T a0 w0 (Array.replicate ops.size false) a0 {w0 with drawn:=w0.drawn+1}:=by(have b:∀{i:Nat},¬(Array.replicate ops.size false)[i]?=some true:=fun h=>by rw[FL]at h;split at h<;>simp at h);exact⟨d,rfl,rfl,fun _ _=>rfl,fun i o t h _ _ _=>absurd h b,fun i h _=>absurd h b,fun _=>⟨rfl,rfl,rfl,aE _,fun _ _=>rfl⟩⟩
theorem DJ.set{s:Array Bool}{a:Act}{w:World}(d:DJ R E ops wr surv T a0 w0 s a w)(I:∀a b c,R a b->R b c->R a c)(x:uK ops a0.tmps.size=true){i:Nat}{o:Oper}(A:s[i]?=some false)(y:ops[i]?=some o)
 {v:Value} {w':World} (S:∀t,o.dst=some t->T t v w') (J:R w w') (G:∀j,E j w->E j w') (H:wr i=true->E i w') (F:¬wr i=true->Below w.heap.size w w')
 (L:∀(j:Nat)(m:Oper)(t:Nat),s[j]?=some true->ops[j]?=some m->m.dst=some t->MV ops wr surv i j=false->∀u,T t u w->T t u w'):DJ R E ops wr surv T a0 w0 (s.setIfInBounds i true) (a.put o.dst v) w':=by
 unfold uK at x;rw[eF,eF]at x;have M:=eL x.1.1;refine⟨I _ _ _ d.u J,by rw[aJ2];exact d.defers,by rw[uJ];exact d.size,YR (fun u Q=>aK3 y Q) d.still,fun j m t l r f B=>?_,fun j l z=>?_,fun D=>?_⟩
 ·by_cases g:j=i
  ·subst g;rw[y]at r;cases r;rw[f,iF (by rw[d.size];exact eL (eX.mp x.1.2 t (aK3 y f)))];exact S t f
  have C:MV ops wr surv i j=false:=by
   cases q:MV ops wr surv i j with
   |false=>rfl
   |true=>
    have p:=B i q;rw[QH A]at p;cases p
  rw[MY g]at l;have n:=L j m t l r f C _ (d.done j m t l r f (fun k q=>by
   have p:=B k q;rw[MY (fun e=>by subst e;rw[C]at q;cases q)]at p
   exact p))
  cases K:o.dst with
  |none=>exact n
  |some u=>
   have N:t≠u:=fun h=>g (aK2 ops.toList M j i m o t (by rw[fH];exact r) (by rw[fH];exact y) f (h▸K));rw[gB N];exact n
 ·by_cases g:j=i
  ·subst g;exact H z
  rw[MY g]at l;exact G j (d.wrote j l z)
 have n:=d.pre (fun j z P=>D j z (YT A P));exact n.trans ((F fun h=>D i h (QH A)).mono n.size)
theorem aLF{J:Act->World->Prop}{i:Nat}{o:Oper}{a:Act}{w:World}(g:ops[i]?=some o)(h:DS P ops Q T o a w)
 (d:∀v b,(∀t,o.dst=some t->T t v b)->Below w.heap.size w b->J (a.put o.dst v) b):wpOp P ops Q i J a w:=by
 unfold DS at h;unfold wpOp;rw[g];dsimp only;by_cases e:Region.wanted o (yielded ops a.tmps)=true
 ·rw[if_pos e]at h ⊢;refine h.imp (Oper.wp_mono ?_) (fun h=>h);rintro k b ⟨v,rfl,j,f⟩;exact d v b j f
 rw[if_neg e]at h ⊢;exact d _ _ h (aH _ _)
theorem QN{J:Act->World->Prop}{i:Nat}{o:Oper}{a:Act}{w:World}(b:ops[i]?=some o)(d:Region.wanted o (yielded ops a.tmps)=true)(h:o.wp P a w J Q):wpOp P ops Q i J a w:=by unfold wpOp;rw[b];dsimp only;rw[if_pos d];exact .inl h
theorem KM(R:World->World->Prop)(U:∀a b c,R a b->R b c->R a c)(S:∀w d,Below w.heap.size w d->R w d)(T:Nat->Value->World->Prop)(E:Nat->World->Prop)(L:Nat)(wr:Nat->Bool)(B:Nat->Nat->Bool){id:Nat}{l:Act}{C:World}(hL:L<=ops.size)(ab:L<ops.size->tN ops L=true)(hm:P.follows .mixedOrders=true)
 (F:uK ops l.tmps.size=true)
 (a5:∀t v w d,Below w.heap.size w d->T t v w->T t v d)
 (a6:∀i w d,Below w.heap.size w d->E i w->E i d)
 (a7:∀i t v w d,wr i=true->B i t=true->R w d->T t v w->T t v d)
 (hop:∀(i:Nat)(o:Oper),i<L->ops[i]?=some o->∀a w,aKO R E ops wr B T l C i o a w->(∀t,t∉(ops.toList.take L).filterMap (·.dst)->a.tmps.getD t undef=l.tmps.getD t undef)->if wr i=true then(Region.wanted o (yielded ops a.tmps)=true/\o.wp P a w (fun J d=>∃v,J=a.put o.dst v/\(∀t,o.dst=some t->T t v d)/\R w d/\(∀j,E j w->E j d)/\E i d) Q)else DS P ops Q T o a w)
 (htail:∀a w,aO0 R E ops wr B T l C L a w->(∀t,t∉(ops.toList.take L).filterMap (·.dst)->a.tmps.getD t undef=l.tmps.getD t undef)->wpOps P ops Q (List.range' L (ops.size-L)) a w):
 (Code.region id ops true).wp P Q l C:=by
 refine IE (fun s a w=>(∀t,t∉(ops.toList.take L).filterMap (·.dst)->a.tmps.getD t undef=l.tmps.getD t undef)/\DJ R E ops wr B T l C s a w) L hL ab hm F ?_ ?_ ⟨fun _ _=>rfl,DJ.start (S _ _ ⟨rfl,rfl,rfl,aE _,fun _ _=>rfl⟩)⟩
 ·rintro s a w i o hs N ⟨hO,f⟩ X x n V;have Z:∀k,k<ops.size->k=i\/zN ops 12 k i=true->s[k]?=some false:=fun k r h=>by
   refine(Kw (s:=s) oM).resolve_right fun p=>?_;rcases h with h|h
   ·rw[h,x]at p;cases p
   rw[XF N p x]at h;cases h
  have a4:=XG X n;have Y:∀(v:Value)(t:Nat),t∉(ops.toList.take L).filterMap (·.dst)->(a.put o.dst v).tmps.getD t undef=l.tmps.getD t undef:=fun v=>YR (fun u A=>gT.mpr ⟨o,a4,A⟩) hO;have z:=hop i o X n a w ⟨f.u,f.still,fun e D g a9 o' t a8 y=>f.done e.on o' t (V e D g) a8 y (fun k r=>by
   have M:=eX.mp a9 k (jV.mpr (aK6 r));rw[r,Bool.not_true,ZE,uZ,mN]at M
   exact Z k (aK6 r) M),fun e D g ac=>f.wrote e.on (V e D g) ac,fun aa=>f.pre (fun k ae p=>by
   have af:=(aG.mp p).1;have K:=eX.mp aa k (jV.mpr oM);rw[ae,Bool.not_true,ZE,uZ,mN]at K;rw[Z k oM K]at p
   cases p)⟩ hO
  by_cases q:wr i=true
  ·rw[if_pos q]at z;refine QN n z.1 (Oper.wp_mono ?_ z.2);rintro J d ⟨v,rfl,I,g,a1,a2⟩;refine⟨Y v,f.set U F x n I g a1 (fun _=>a2) (fun h=>absurd q h) (fun j oj t m H y G u A=>a7 i t u w d q ?_ g A)⟩;unfold MV at G;rw[q,aQ (aG.mp n).1,H,lE,oA,y,lE,oA,aJ (fun e=>by subst e;rw[x]at m;cases m),XF N m x]at G;simpa using G
  rw[if_neg q]at z;exact aLF n z fun v d I g=>⟨Y v,f.set U F x n I (S _ _ g) (fun j m=>a6 j w d g m) (fun h=>absurd h q) (fun _=>g) (fun _ _ t _ _ _ _ u A=>a5 t u w d g A)⟩
 rintro s a w W ⟨hO,f⟩;exact htail a w ⟨f.u,f.defers,f.size,f.still,fun j oj t m H y a3=>f.done j oj t (W j m) H y (fun k r=>absurd r (by rw[a3 k];exact Bool.false_ne_true)),fun j m ad=>f.wrote j (W j m) ad⟩ hO
theorem AI(T:Nat->Value->World->Prop)(L:Nat){id:Nat}{d:Act}{f:World}(s:L<=ops.size)(C:L<ops.size->tN ops L=true)(A:P.follows .mixedOrders=true)
 (z:DM ops d.tmps.size=true)
 (B:∀t v w g,Below w.heap.size w g->T t v w->T t v g)
 (hop:∀(i:Nat)(o:Oper),i<L->ops[i]?=some o->∀a w,LR ops T d f o a w->(∀t,t∉(ops.toList.take L).filterMap (·.dst)->a.tmps.getD t undef=d.tmps.getD t undef)->DS P ops Q T o a w)
 (htail:∀a w,Below f.heap.size f w->a.defers=d.defers->a.tmps.size=d.tmps.size->(∀t,t∉ops.toList.filterMap (·.dst)->a.tmps.getD t undef=d.tmps.getD t undef)->(∀(i:Nat)(o:Oper)(t:Nat),i<L->ops[i]?=some o->o.dst=some t->T t (a.tmps.getD t undef) w)->(∀t,t∉(ops.toList.take L).filterMap (·.dst)->a.tmps.getD t undef=d.tmps.getD t undef)->wpOps P ops Q (List.range' L (ops.size-L)) a w):
 (Code.region id ops true).wp P Q d f:=by
 have q:∀i j,MV ops (fun _=>false) (fun _ _=>true) i j=false:=fun i j=>by unfold MV;simp
 refine KM (fun w g=>f.heap.size<=w.heap.size->Below f.heap.size w g) (fun a b c p r h=>(p h).trans (r (bH h (p h).size))) (fun w g l h=>l.mono h) T (fun _ _=>True) L (fun _=>false) (fun _ _=>true) s C A (YW z) B (fun _ _ _ _ _=>trivial) (fun _ _ _ _ _ h=>by cases h)
  (fun i o m n a w h hO=>?_) (fun a w h hO=>htail a w (h.u (aE _)) h.defers h.size h.still (fun i o t m n x=>h.all i o t m n x fun k=>q k i) hO)
 rw[if_neg Bool.false_ne_true];exact hop i o m n a w ⟨h.u (aE _),h.still,fun e y l=>h.has e y l (eX.mpr fun k _=>by rw[q];rfl)⟩ hO
theorem Tm(T:Nat->Value->World->Prop){id:Nat}{b:Act}{d:World}(r:P.follows .mixedOrders=true)
 (q:DM ops b.tmps.size=true)
 (s:∀t v w g,Below w.heap.size w g->T t v w->T t v g)
 (hop:∀(i:Nat)(o:Oper),ops[i]?=some o->∀a w,LR ops T b d o a w->DS P ops Q T o a w)
 (hend:∀a w,Below d.heap.size d w->a.defers=b.defers->a.tmps.size=b.tmps.size->(∀t,t∉ops.toList.filterMap (·.dst)->a.tmps.getD t undef=b.tmps.getD t undef)->(∀t,t∈ops.toList.filterMap (·.dst)->T t (a.tmps.getD t undef) w)->Q .normal a w):
 (Code.region id ops true).wp P Q b d:=by
 refine AI T ops.size (aE _) (fun h=>absurd h (Nat.lt_irrefl _)) r q s (fun i o _ f a w h _=>hop i o f a w h) (fun a w j k l m n _=>?_);rw[wS];refine hend a w j k l m fun t ht=>?_;obtain⟨o,f,p⟩:=gT.mp ht;obtain⟨i,e⟩:=List.mem_iff_getElem?.mp f;rw[fH]at e;exact n i o t (aG.mp e).1 e p
end
def XJ(d:Array Oper)(o:Oper)(t:Nat):Bool:=o.after.toList.any fun e=>Region.binds .any e&&((d[e.on]?).map fun b=>b.dst==some t).getD false
def SR(b:Array Oper)(t:Nat):Bool:= !(b.toList.filterMap (·.dst)).contains t
section
variable {P:Program} {ops:Array Oper} {Q:Exit->Act->World->Prop} {T:Nat->Value->World->Prop} {a0 a:Act} {w0 w:World} {o:Oper}
theorem LR.of(h:LR ops T a0 w0 o a w)(t:Nat)(f:XJ ops o t=true:=by kernel_rfl):T t (a.tmps.getD t undef) w:=by
 unfold XJ at f;obtain⟨e,g,b⟩:=kI.mp f;rw[eF]at b
 cases d:ops[e.on]? with
 |none=>rw[d]at b;simp at b
 |some i=>
  rw[d,lE,oA]at b;exact h.has e (by simpa using g) b.1 i t d (by simpa using b.2)
theorem LR.old(h:LR ops T a0 w0 o a w)(t:Nat)(b:SR ops t=true:=by kernel_rfl):a.tmps.getD t undef=a0.tmps.getD t undef:=by refine h.still t fun d=>?_;unfold SR at b;simp[d]at b
theorem bF{y:Nat->Option Bool}(hg:o.guard=none):Region.wanted o y=true:=by simp[Region.wanted,hg]
theorem EH{j t:Nat}{b:Bool}{e:Oper}(hg:o.guard=some (j,b))(g:ops[j]?=some e)(f:e.dst=some t)(d:a.tmps.getD t undef=.bool b):Region.wanted o (yielded ops a.tmps)=true:=by
 have ht:a.tmps[t]?=some (.bool b):=by
  rw[sB]at d
  cases h:a.tmps[t]? with
  |none=>rw[h]at d;simp[undef]at d
  |some v=>rw[h]at d;simpa using d
 unfold Region.wanted;rw[hg];dsimp only;unfold yielded;rw[g,Df,f,Df,ht];simp
theorem fC{v:Value}{w':World}(f:Region.wanted o (yielded ops a.tmps)=true)(e:(execOp a.eval o).run P w=.ok (.value v) w')(b:∀t,o.dst=some t->T t v w')(d:Below w.heap.size w w'):DS P ops Q T o a w:=by unfold DS;rw[if_pos f];left;unfold Oper.wp;rw[e,Oper.upon_value];exact⟨v,rfl,b,d⟩
theorem XM{v:Value}(d:(execOp a.eval o).run P w=.ok (.value v) w)(hg:o.guard=none:=by rfl)(b:∀t,o.dst=some t->T t v w:=by intro t ht;cases ht;first|exact rfl|exact⟨rfl,trivial⟩):DS P ops Q T o a w:=fC (bF hg) d b (aH _ _)
theorem jC(v:Value)(d:(execOp a.eval o).run P w=.ok (.value v) w:=by have ec:=qM a;generalize a.eval=ev at *;(try clear hO);clear h;go_simp)(hg:o.guard=none:=by rfl)(b:∀t,o.dst=some t->T t v w:=by intro t ht;cases ht;first|exact rfl|exact⟨rfl,trivial⟩):DS P ops Q T o a w:=XM d hg b
theorem iC{f:FuncId}{args:Array Value}(k:Region.wanted o (yielded ops a.tmps)=true)(j:(execOp a.eval o).run P w=.ok (.enter f args) w)
 (i:Calls P f args w fun e b=>∃v,e=.returned v/\(∀t,o.dst=some t->T t v b)/\Below w.heap.size w b):DS P ops Q T o a w:=by
 unfold DS;rw[if_pos k];left;unfold Oper.wp;rw[j,Oper.upon_enter];refine Calls.mono i ?_;rintro e b ⟨v,rfl,d,g⟩;exact⟨v,rfl,d,g⟩
theorem wG{j t:Nat}{b:Bool}{d:Oper}(g:a.tmps.getD t undef=.bool b)(hg:o.guard=some (j,b):=by rfl)(f:ops[j]?=some d:=by rfl)(e:d.dst=some t:=by rfl):Region.wanted o (yielded ops a.tmps)=true:=EH hg f e g
def JL(Φ:Oper->Prop):List Oper->Prop
 |[]=>True
 |o::l=>Φ o/\JL Φ l
theorem JL.nil{Φ:Oper->Prop}:JL Φ []:=trivial
theorem JL.cons{Φ:Oper->Prop}{o:Oper}{l:List Oper}(h:Φ o)(b:JL Φ l):JL Φ (o::l):=⟨h,b⟩
abbrev oC:=@JL.cons
theorem JL.mem{Φ:Oper->Prop}:∀(l:List Oper),JL Φ l->∀o,o∈l->Φ o
 |[],_,o,b=>absurd b sI
 |x::l,h,o,b=>by
  rcases eQ.mp b with rfl|b
  ·exact h.1
  exact JL.mem l h.2 o b
theorem JL.at{Φ:Oper->Prop}{d:Array Oper}(h:JL Φ d.toList)(i:Nat)(o:Oper)(b:d[i]?=some o):Φ o:=by rw[<-fH]at b;exact JL.mem _ h o (iN b)
theorem zG{t:Nat}(h:∀t,t∈ops.toList.filterMap (·.dst)->T t (a.tmps.getD t undef) w)(b:SR ops t=false):T t (a.tmps.getD t undef) w:=by refine h t ?_;unfold SR at b;simpa[List.contains_iff_mem]using b
theorem nF(T:Nat->Value->World->Prop){id:Nat}{b:Act}{d:World}(g:P.follows .mixedOrders=true)(f:DM ops b.tmps.size=true)
 (j:∀t v w e,Below w.heap.size w e->T t v w->T t v e)
 (hop:JL (fun o=>∀a w,LR ops T b d o a w->DS P ops Q T o a w) ops.toList)
 (hend:∀a w,Below d.heap.size d w->a.defers=b.defers->a.tmps.size=b.tmps.size->(∀t,t∉ops.toList.filterMap (·.dst)->a.tmps.getD t undef=b.tmps.getD t undef)->(∀t,t∈ops.toList.filterMap (·.dst)->T t (a.tmps.getD t undef) w)->Q .normal a w):
 (Code.region id ops true).wp P Q b d:=
 Tm T g f j (fun i o k=>JL.at hop i o k) hend
end
theorem LH:∀(D:List Nat)(x y:Array Value),x.size=y.size->(∀t,t∉D->x.getD t undef=y.getD t undef)->x=D.foldl (fun b t=>b.setIfInBounds t (x.getD t undef)) y
 |[],x,y,f,h=>by show x=y;refine Array.ext f fun i d e=>?_;have :=h i sI;rw[sB,sB,iG d,iG e]at this;exact this
 |t::D,x,y,f,h=>by
  show x=D.foldl (fun b t=>b.setIfInBounds t (x.getD t undef)) (y.setIfInBounds t (x.getD t undef));refine LH D x _ (by simp[f]) fun s k=>?_;by_cases g:s=t
  ·subst g;by_cases j:s<y.size
   ·simp[Array.getD_eq_getD_getElem?,j]
   (have d:x[s]?=none:=by rw[Array.getElem?_eq_none_iff];omega);(have e:∀v,(y.setIfInBounds s v)[s]?=none:=fun v=>by rw[Array.getElem?_eq_none_iff];simp;omega);rw[sB,sB,d,e]
  rw[h s (by simp[g,k])];simp[Array.getD_eq_getD_getElem?,Ne.symm g]
theorem pQ(D:List Nat)(x y:Array Value)(d:x.size=y.size)(h:∀t,t∉D->x.getD t undef=y.getD t undef):∃f:Nat->Value,(∀t,f t=x.getD t undef)/\x=D.foldl (fun b t=>b.setIfInBounds t (f t)) y:=⟨fun t=>x.getD t undef,fun _=>rfl,LH D x y d h⟩
section
variable {P:Program} {ops:Array Oper} {Q:Exit->Act->World->Prop} {T:Nat->Value->World->Prop} {a:Act} {w:World} {o:Oper}
theorem aNK{j t:Nat}{b c:Bool}{e:Oper}(hg:o.guard=some (j,b))(k:ops[j]?=some e)(i:e.dst=some t)(d:a.tmps.getD t undef=.bool c)(g:c≠b)(f:∀t,o.dst=some t->T t undef w):DS P ops Q T o a w:=by
 have ht:a.tmps[t]?=some (.bool c):=by
  rw[sB]at d
  cases h:a.tmps[t]? with
  |none=>rw[h]at d;simp[undef]at d
  |some v=>rw[h]at d;simpa using d
 (have l:Region.wanted o (yielded ops a.tmps)=false:=by unfold Region.wanted;rw[hg];dsimp only;unfold yielded;rw[k,Df,i,Df,ht];simp[g]);unfold DS;rw[l,if_neg sI];exact f
theorem Xb{j t:Nat}{b c:Bool}{d:Oper}(k:a.tmps.getD t undef=.bool c)(hg:o.guard=some (j,b):=by rfl)(i:ops[j]?=some d:=by rfl)(g:d.dst=some t:=by rfl)(f:c≠b:=by decide)(e:∀t,o.dst=some t->T t undef w:=by intro t ht;cases ht;exact rfl):DS P ops Q T o a w:=aNK hg i g k f e
end

theorem aQF{W:World}{B e c n f:Nat}{g:Nat}{m:List Value}(h:W.ownsRow B e c (.slice (some ⟨g,0,none⟩) n f) n m):B<=g/\∃d,W.heap[g]?=some (.cells d e):=by
 rcases h.2 with⟨i,_⟩|⟨q,p,d,l,j,k,_⟩
 ·cases i
 injection l with b _ _;injection b with b;injection b with b;subst b;exact⟨j,d,k⟩
end Go.Proofs.YthenjegmigeieaaGreat
namespace Go.Proofs.YthenjegmigeieaaGreat
open Go.RowKit Go.Shelf
attribute [local go_sem] Oper.semAt_some
end Go.Proofs.YthenjegmigeieaaGreat
namespace Go.Proofs.YthenjegmigeieaaGreat
open Go.RowKit
theorem Gy{p:bC}(h:dJ p=0):∀r,r∈p.m->0<=r.x/\∀x,x∈r.body->1<=x.kind:=by
 unfold dJ at h;split at h
 ·omega
 split at h
 ·omega
 intro r j;have b:=uQ (eZ h).2 r j;unfold dT at b;split at b
 ·obtain⟨_,b⟩:=eZ b;obtain⟨_,b⟩:=eZ b;obtain⟨_,b⟩:=eZ b;obtain⟨i,b⟩:=eZ b;obtain⟨_,b⟩:=eZ b;obtain⟨_,b⟩:=eZ b;obtain⟨f,_⟩:=eZ b;refine⟨?_,fun x k=>?_⟩
  ·split at i
   ·rename_i e;unfold dG at e;(have g:0<=r.x/\r.x<=4:=by simpa using e);exact g.1
   omega
  have d:=(eZ (uQ f x k)).1;unfold dX at d;split at d
  ·omega
  split at d
  ·omega
  split at d
  ·omega
  omega
 omega
def gD(r:bB)(l:List cI):List fA:=(l.filter pL).map fun x=>(r.z.toNat,x.z.toNat,lH r x)
theorem PI(r:bB)(l:List cI){x:cI}(h:pL x=true):gD r (l++[x])=gD r l++[(r.z.toNat,x.z.toNat,lH r x)]:=by unfold gD;rw[lC,cB,lU,if_pos h];rfl
theorem aIC(r:bB)(l:List cI){x:cI}(h:¬pL x=true):gD r (l++[x])=gD r l:=by unfold gD;rw[lC,cB,lU,if_neg h];simp
theorem Hf(r:bB)(l:List cI):(gD r l).length<=l.length:=by unfold gD;rw[aP];exact wZ _ _
theorem aEU(r:bB)(l:List cI):∀e,e∈gD r l->e.2.2<=1:=fun e b=>by obtain⟨x,_,rfl⟩:=cR.mp b;rcases JA r x with h|h<;>simp[h]
theorem aQU{l:List cI}{k:Nat}(h:k<l.length):l.take (k+1)=l.take k++[cJ l k]:=by
 rw[eI]
 congr 1
 unfold cJ;rw[aC,aD h];rfl
theorem YX{l:List bB}{k:Nat}(h:k<l.length):l.take (k+1)=l.take k++[aW l k]:=by
 rw[eI]
 congr 1
 unfold aW;rw[aC,aD h];rfl
theorem rJ{l:List bB}{k:Nat}(h:k<l.length):aW l k∈l:=by unfold aW;rw[aC,aD h];exact dY h
theorem Pw{b:List Int}{d q:Nat}(h:b.getD d 0<b.getD q 0):aY b (d,q,0)=b.set d (b.getD q 0):=by unfold aY;simp only[Int.add_zero];exact if_pos h
theorem aCN{b:List Int}{d q:Nat}(h:¬b.getD d 0<b.getD q 0):aY b (d,q,0)=b:=by unfold aY;simp only[Int.add_zero];exact if_neg h
structure SX (w:World) (LB:Nat) (W:World) (cur:List Int):Prop where
 row:W.heap[LB]?=some (.cells (yF cur) 3)
 gr:w.grownBy W (some LB)
theorem SX.u{w W W':World}{d:Nat}{e:List Int}(h:SX w d W e)(b:Below W.heap.size W W'):SX w d W' e:=
 ⟨(b.block _ (aG.mp h.row).1).trans h.row,⟨b.os.trans h.gr.os,b.tape.trans h.gr.tape,b.output.trans h.gr.output,bH h.gr.size b.size,fun j f g=>(b.block j (dQ f h.gr.size)).trans (h.gr.block j f g)⟩⟩
theorem SX.set{w W:World}{b:Nat}{d:List Int}(h:SX w b W d)(i:Nat)(v:Int):SX w b (W.setCell ⟨b,i,none⟩ (.int .i64 v)) (d.set i v):=by refine⟨Jq h.row i v,⟨h.gr.os,h.gr.tape,h.gr.output,by have :=h.gr.size;simpa using this,fun j g f=>?_⟩⟩;have k:¬j=b:=fun e=>f (by rw[e]);exact(cL k).trans (h.gr.block j g f)
theorem SX.re{w w' W:World}{b:Nat}{e d:List Int}(h:SX w b w' e)(k:SX w' b W d):SX w b W d:=⟨k.row,h.gr.trans_row k.gr⟩
theorem SX.here{w W:World}{b:Nat}{d:List Int}(h:SX w b W d):SX W b W d:=⟨h.row,⟨rfl,rfl,rfl,aE _,fun _ _ _=>rfl⟩⟩
theorem RG{W:World}{b:Nat}(o:Obj):W.grownBy (W.alloc o) (some b):=
 World.grownBy_alloc W o (some b)
theorem YL{W:World}{b:Nat}(o:Obj)(i:Nat)(v:Value):W.grownBy ((W.alloc o).setCell ⟨b,i,none⟩ v) (some b):=by have d:=World.grownBy_alloc W o (some b);refine⟨d.os,d.tape,d.output,by simp,fun j g f=>?_⟩;have k:¬j=b:=fun e=>f (by rw[e]);exact(cL k).trans (d.block j g f)
theorem UJ(p:bC)(va vn vr:Value)(w:World)(hP:iU w va vn vr p)(hc:dJ p=0):
 Calls Tryz.prog 74 #[eN va vn vr] w fun e w'=>∃v l,e=.returned (.tuple #[v, .bool (uW p)])/\dM w' v l/\(uW p=true->l=iM p)/\Below w.heap.size w w':=by
 obtain⟨W,Z,rfl,_⟩:=id hP.ar;obtain⟨a1,n1,rfl,_⟩:=id hP.nm;obtain⟨X,n2,rfl,aF⟩:=id hP.rl;obtain⟨hn,hr,hR⟩:=vR hc;have HK:O _:=Gy hc;have HR:O _:=hR;have b8:O _:=aF;(have bn:(dK p).length<=48:=by have :=yE p.m (fun r hr=>(hR r hr).hl);show(dI p.m).length<=48;omega);have b0:=(aH w.heap.size w).alloc (aE _) (pB W Z a1 n1 X n2 p);have hX:=aR w (pB W Z a1 n1 X n2 p);(have s1:(w.alloc (pB W Z a1 n1 X n2 p)).heap.size=w.heap.size+1:=by simp);have b3:=(aH (w.alloc (pB W Z a1 n1 X n2 p)).heap.size (w.alloc (pB W Z a1 n1 X n2 p))).alloc (aE _) (.cells (yF (dH p.g.length)) 3);have au:=aR (w.alloc (pB W Z a1 n1 X n2 p)) (.cells (yF (dH p.g.length)) 3);have aS:=(b3.block _ (aG.mp hX).1).trans hX;have aT:=b0.trans (b3.mono b0.size);rw[s1]at au;have b4:=run_make_row' (P:=Tryz.prog) 22 3 (.int .i64 0) 8 Tryz.underlying22 kR rfl .i64 .i64 p.g.length oM oM;simp only[Wq]at b4;have az:O _:=aS;have b9:O _:=aT;have ay:O _:=au;clear b0 hX b3 aS aT au s1 hP hR aF hc
 go_enter Tryz.func74,Tryz.ntmps74
 go_wp2_with fail;generalize (w.alloc (pB W Z a1 n1 X n2 p)).alloc (.cells (yF (dH p.g.length)) 3)=w3 at *;generalize bl:w.heap.size+1=I at *;have bN:w.heap.size<I:=oM;clear b4 bl;have ak:O (∀wr:World,w3.grownBy wr (some I)->wr.heap[w.heap.size]?=some (pB W Z a1 n1 X n2 p)/\Below w.heap.size w wr):=fun wr hg=>⟨(hg.block _ (aG.mp az.o).1 (fun e=>by injection e with e;omega)).trans az.o,KZ b9.o hg oM⟩;go_loopw [5,6] (fun ro i6 wr=>∃k:Nat,k<=p.g.length+1/\ro=.bool (if k=0 then false else decide (dN (dK p) k (dH p.g.length)≠dN (dK p) (k-1) (dH p.g.length)))/\i6=.int .i64 k/\SX w3 I wr (dN (dK p) k (dH p.g.length))) (fun _ i6 _=>p.g.length+1-(intOf i6).toNat);case atStart=>exact⟨0,bG _,rfl,rfl,ay.o,⟨rfl,rfl,rfl,aE _,fun _ _ _=>rfl⟩⟩
 case round=>
  clear ay;obtain⟨T,bt⟩:∃T,T=wr:=⟨_,rfl⟩;subst bt;obtain⟨k,hk,rfl,rfl,hL⟩:=hrel;have HL:O _:=hL;(have c0:T.cell? ⟨w.heap.size,0,none⟩=some (.slice W p.g.length Z):=by rw[cD (ak.o T hL.gr).1];rfl);clear hL;by_cases b1:k<=p.g.length
  ·have bq:decide (k<=p.g.length)=true:=aQ b1;generalize (if k=0 then false else decide (dN (dK p) k (dH p.g.length)≠dN (dK p) (k-1) (dH p.g.length)))=bX at *;go_wp2_with fail;clear c0;go_loopw [5,7] (fun ro i7 wr=>∃i:Nat,i<=p.m.length/\ro=.bool (decide (aO (dI (p.m.take i)) (dN (dK p) k (dH p.g.length))≠(dN (dK p) k (dH p.g.length))))/\i7=.int .i64 i/\SX T I wr (aO (dI (p.m.take i)) (dN (dK p) k (dH p.g.length)))) (fun _ i7 _=>p.m.length-(intOf i7).toNat);case atStart=>exact⟨0,bG _,by simp[dI,aO],rfl,HL.o.here⟩
   case round=>
    obtain⟨S,bs⟩:∃S,S=wr:=⟨_,rfl⟩;subst bs;obtain⟨i,hi,rfl,rfl,an⟩:=hrel;have aj:O _:=an;have ao:=ak.o S (HL.o.gr.trans_row an.gr);(have c2:S.cell? ⟨w.heap.size,2,none⟩=some (.slice X p.m.length n2):=cH ao.1);have a3:O _:=ao.2;clear an ao;by_cases a9:i<p.m.length
    ·obtain⟨b,bU,rfl,p0,⟨vt,p1,hT⟩,p2,⟨vb,p3,af⟩,p4⟩:=rH b8.o i a9;obtain⟨at_,ct,rfl,_⟩:=hT;obtain⟨ab,cb,rfl,af⟩:=af;have bf:O _:=af;have a8:O (FP p.g.length (aW p.m i)):=HR.o _ (rJ a9);have aw:O _:=HK.o _ (rJ a9);have bh:O _:=YX a9;have q0:=aB a3.o p0;have q1:=aB a3.o p1;have q2:=aB a3.o p2;have q3:=aB a3.o p3;have q4:=aB a3.o p4;clear p0 p1 p2 p3 p4 af;generalize aW p.m i=r at *;obtain⟨pd,s,n,d,y⟩:=r;obtain⟨f,rfl⟩:∃f:Nat,pd=f:=⟨pd.toNat,by have :=a8.o.h0;dsimp only at this;omega⟩;dsimp only at *;(have ap:f<p.g.length:=by have :=a8.o.h1;dsimp only at this;omega);have bx:0<=n:=aw.o.1;have bw:d.length<=4:=a8.o.hl;obtain⟨b7,aq⟩:∃b7,b7=decide (aO (dI (p.m.take i)) (dN (dK p) k (dH p.g.length))≠(dN (dK p) k (dH p.g.length))):=⟨_,rfl⟩;rw[<-aq];have bg:O _:=aq;clear aq;go_wp2_with fail;have b5:=(aH S.heap.size S).alloc (aE _) (.cells #[.int .i64 f, .slice at_ s.length ct, .int .i64 n, .slice ab d.length cb, .int .i64 y] 40);have hQ:=aR S (.cells #[.int .i64 f, .slice at_ s.length ct, .int .i64 n, .slice ab d.length cb, .int .i64 y] 40);have ax:O _:=aj.o.u b5;have ba:O _:=a3.o.trans (b5.mono a3.o.size);clear q0 q1 q2 q3 q4 c2 b5;have HQ:O _:=hQ;clear hQ;generalize S.alloc (.cells #[.int .i64 f, .slice at_ s.length ct, .int .i64 n, .slice ab d.length cb, .int .i64 y] 40)=wq at *;(have br:¬S.heap.size=I:=by have :=(aG.mp aj.o.row).1;omega);generalize S.heap.size=QB at *;go_loopw [5,9] (fun ro i9 wr=>∃j:Nat,j<=d.length/\ro=.bool (decide ((aO (dI (p.m.take i)++gD (⟨f,s,n,d,y⟩:bB) (d.take j)) (dN (dK p) k (dH p.g.length)))≠(dN (dK p) k (dH p.g.length))))/\i9=.int .i64 j/\SX T I wr (aO (dI (p.m.take i)++gD (⟨f,s,n,d,y⟩:bB) (d.take j)) (dN (dK p) k (dH p.g.length)))/\wq.grownBy wr (some I)) (fun _ i9 _=>d.length-(intOf i9).toNat);case atStart=>exact⟨0,bG _,by rw[bg.o];simp[gD],rfl,by simpa[gD]using ax.o,⟨rfl,rfl,rfl,aE _,fun _ _ _=>rfl⟩⟩
     case round=>
      clear ax;obtain⟨j,hj,rfl,rfl,aI,ah⟩:=hrel;have ag:=(ah.block _ (aG.mp HQ.o).1 (fun e=>by injection e with e;exact br e)).trans HQ.o;(have e0:wr.cell? ⟨QB,0,none⟩=some (.int .i64 f):=cH ag);(have e2:wr.cell? ⟨QB,2,none⟩=some (.int .i64 n):=cH ag);(have e3:wr.cell? ⟨QB,3,none⟩=some (.slice ab d.length cb):=cH ag);have V:O _:=aI;have a4:O _:=ah;have ac:O _:=KZ ba.o ah oM;clear aI ah ag;by_cases M:j<d.length
      ·obtain⟨b',bW,rfl,p0,p1,p2,lv,p3,hT⟩:=vH bf.o j M;obtain⟨D,E,rfl,_,_⟩:=hT;have q0:=aB ac.o p0;have q1:=aB ac.o p1;have q2:=aB ac.o p2;have q3:=aB ac.o p3;have ae:O _:=aQU M;have be:O _:=aw.o.2 _ (XC M);have bb:O _:=a8.o.hb _ (XC M);clear p0 p1 p2 p3;dsimp only at *;generalize cJ d j=x at *;obtain⟨B,C,xp,lt⟩:=x;dsimp only at *;by_cases h2:2<B
       ·have bi:decide (2<B)=true:=aQ h2;(have F:O (gD (⟨f,s,n,d,y⟩:bB) (d.take (j+1))=gD (⟨f,s,n,d,y⟩:bB) (d.take j)):=by show _=_;rw[ae.o];exact aIC _ _ (fun hc=>by have J:B=1\/B=2:=eL hc;omega));have H:O _:=a4.o.trans_row (RG (.cells #[.int .i64 B, .int .i64 C, .int .i64 xp, .slice D lt.length E] 49));clear h2;go_wp2_with fail;go_roundw;(case rel=>exact⟨j+1,M,by rw[F.o],gN,by rw[F.o];exact V.o.u ((aH _ _).alloc (aE _) _),H.o⟩);case measure=>exact mI
       have bi:decide (2<B)=false:=aJ h2;have bz:1<=B:=be.o;have R:pL ⟨B,C,xp,lt⟩=true:=aQ (by show B=1\/B=2;omega);have av:=bb.o R;obtain⟨q,rfl⟩:∃q:Nat,xp=q:=⟨xp.toNat,by have J:0<=xp:=av.1;omega⟩;(have bT:q<p.g.length:=by have J:(q:Int)<(p.g.length:Int):=av.2;omega);(have bm:(aO (dI (p.m.take i)++gD (⟨f,s,n,d,y⟩:bB) (d.take j)) (dN (dK p) k (dH p.g.length))).length=p.g.length:=by rw[sG,pG];simp[dH]);(have ai:O ((dN (dK p) k (dH p.g.length)).length=p.g.length):=by show _=_;rw[pG];simp[dH]);have ad:=V.o.u ((aH _ _).alloc (aE _) (.cells #[.int .i64 B, .int .i64 C, .int .i64 q, .slice D lt.length E] 49));have c5:=EB ad.row (i:=q) oM;have c6:=EB ad.row (i:=f) oM;have f6:=cM ad.row f;have b6:=(aH wr.heap.size wr).alloc (aE _) (.cells #[.int .i64 B, .int .i64 C, .int .i64 q, .slice D lt.length E] 49);have bu:=aB b6 e0;have bv:=aB b6 e2;clear b6 ad;have b2:∀t:Nat,0<=(aO (dI (p.m.take i)++gD (⟨f,s,n,d,y⟩:bB) (d.take j)) (dN (dK p) k (dH p.g.length))).getD t 0:=fun t=>EP (PH (dK p) p.g.length k t) ((pR _ _).2 t);have aV:∀t:Nat,(aO (dI (p.m.take i)++gD (⟨f,s,n,d,y⟩:bB) (d.take j)) (dN (dK p) k (dH p.g.length))).getD t 0<=1000:=fun t=>by
        have J:=BH (dI (p.m.take i)++gD (⟨f,s,n,d,y⟩:bB) (d.take j)) (l:=(dN (dK p) k (dH p.g.length))) (KC (dK p) (JD p.m) p.g.length k) (fun e he=>by
         rcases dP.mp he with h|h
         ·exact JD _ e h
         exact aEU _ _ e h) t
        have h8:(k*(dK p).length:Nat)<=11*48:=UD oM bn;have h7:=yE (p.m.take i) (fun r hr=>(HR.o r (jG hr)).hl);have h6:=Hf (⟨f,s,n,d,y⟩:bB) (d.take j);have h5:d.length<=4:=a8.o.hl;rw[cW]at h7 h6;rw[bA]at J;omega
       have bj:=b2 q;have bk:=aV q;clear b2 aV bm av;obtain⟨A,hA⟩:∃A:Int,A=(aO (dI (p.m.take i)++gD (⟨f,s,n,d,y⟩:bB) (d.take j)) (dN (dK p) k (dH p.g.length))).getD q 0:=⟨_,rfl⟩;obtain⟨L,am⟩:∃L:Int,L=(aO (dI (p.m.take i)++gD (⟨f,s,n,d,y⟩:bB) (d.take j)) (dN (dK p) k (dH p.g.length))).getD f 0:=⟨_,rfl⟩;rw[<-hA]at c5 bj bk;rw[<-am]at c6;have K:O _:=hA;have U:O _:=am;clear hA am;obtain⟨rf,Q⟩:∃rf,rf=decide ((aO (dI (p.m.take i)++gD (⟨f,s,n,d,y⟩:bB) (d.take j)) (dN (dK p) k (dH p.g.length)))≠(dN (dK p) k (dH p.g.length))):=⟨_,rfl⟩;rw[<-Q];have a5:O _:=Q;clear Q;by_cases N:B=2
       ·(have bp:(B==2)=true:=by simp[N]);have Y:True:=trivial;(have F:O (gD (⟨f,s,n,d,y⟩:bB) (d.take (j+1))=gD (⟨f,s,n,d,y⟩:bB) (d.take j)++[(f,q,1)]):=by show _=_;rw[ae.o,PI _ _ R];simp[lH,N]);by_cases z:L<A+1
        ·have aa:decide (L<A+1)=true:=aQ z;(have G:O (SX T I ((wr.alloc (.cells #[.int .i64 B, .int .i64 C, .int .i64 q, .slice D lt.length E] 49)).setCell ⟨I,f,none⟩ (.int .i64 (A+1))) (aO (dI (p.m.take i)++gD (⟨f,s,n,d,y⟩:bB) (d.take (j+1))) (dN (dK p) k (dH p.g.length)))):=by have J:=(V.o.u ((aH _ _).alloc (aE _) (.cells #[.int .i64 B, .int .i64 C, .int .i64 q, .slice D lt.length E] 49))).set f (A+1);rw[F.o,<-iP,rM];(have h8:aY (aO (dI (p.m.take i)++gD (⟨f,s,n,d,y⟩:bB) (d.take j)) (dN (dK p) k (dH p.g.length))) (f,q,1)=(aO (dI (p.m.take i)++gD (⟨f,s,n,d,y⟩:bB) (d.take j)) (dN (dK p) k (dH p.g.length))).set f (A+1):=by rw[K.o];unfold aY;exact if_pos (by rw[K.o,U.o]at z;exact z));rw[h8];exact J);(have a7:O (decide (aO (dI (p.m.take i)++gD (⟨f,s,n,d,y⟩:bB) (d.take (j+1))) (dN (dK p) k (dH p.g.length))≠(dN (dK p) k (dH p.g.length)))=true):=by show _=_;rw[F.o,<-iP,BG _ _ _ (by rw[ai.o];exact ap)];have h7:decide ((aO (dI (p.m.take i)++gD (⟨f,s,n,d,y⟩:bB) (d.take j)) (dN (dK p) k (dH p.g.length))).getD f 0<(aO (dI (p.m.take i)++gD (⟨f,s,n,d,y⟩:bB) (d.take j)) (dN (dK p) k (dH p.g.length))).getD q 0+1)=true:=aQ (by rw[K.o,U.o]at z;exact z);show(_||decide ((aO (dI (p.m.take i)++gD (⟨f,s,n,d,y⟩:bB) (d.take j)) (dN (dK p) k (dH p.g.length))).getD f 0<(aO (dI (p.m.take i)++gD (⟨f,s,n,d,y⟩:bB) (d.take j)) (dN (dK p) k (dH p.g.length))).getD q 0+1))=true;rw[h7,BD]);have H:O _:=a4.o.trans_row (YL (.cells #[.int .i64 B, .int .i64 C, .int .i64 q, .slice D lt.length E] 49) f (.int .i64 (A+1)));clear z R Y N;go_wp2_with fail;go_roundw;(case rel=>exact⟨j+1,M,by rw[a7.o],gN,G.o,H.o⟩);case measure=>exact mI
        have aa:decide (L<A+1)=false:=aJ z;(have G:O (aO (dI (p.m.take i)++gD (⟨f,s,n,d,y⟩:bB) (d.take (j+1))) (dN (dK p) k (dH p.g.length))=(aO (dI (p.m.take i)++gD (⟨f,s,n,d,y⟩:bB) (d.take j)) (dN (dK p) k (dH p.g.length)))):=by show _=_;rw[F.o,<-iP,rM];unfold aY;exact if_neg (by rw[K.o,U.o]at z;exact z));have H:O _:=a4.o.trans_row (RG (.cells #[.int .i64 B, .int .i64 C, .int .i64 q, .slice D lt.length E] 49));clear z R Y N;go_wp2_with fail;go_roundw;(case rel=>exact⟨j+1,M,by rw[G.o,a5.o],gN,by rw[G.o];exact V.o.u ((aH _ _).alloc (aE _) _),H.o⟩);case measure=>exact mI
       (have bp:(B==2)=false:=by simp[N]);by_cases Y:n=0
       ·have bo:decide (0<n)=false:=aJ oM;(have F:O (gD (⟨f,s,n,d,y⟩:bB) (d.take (j+1))=gD (⟨f,s,n,d,y⟩:bB) (d.take j)++[(f,q,0)]):=by show _=_;rw[ae.o,PI _ _ R];simp[lH,Y,N]);by_cases z:L<A
        ·have aa:decide (L<A)=true:=aQ z;(have G:O (SX T I ((wr.alloc (.cells #[.int .i64 B, .int .i64 C, .int .i64 q, .slice D lt.length E] 49)).setCell ⟨I,f,none⟩ (.int .i64 (A))) (aO (dI (p.m.take i)++gD (⟨f,s,n,d,y⟩:bB) (d.take (j+1))) (dN (dK p) k (dH p.g.length)))):=by have J:=(V.o.u ((aH _ _).alloc (aE _) (.cells #[.int .i64 B, .int .i64 C, .int .i64 q, .slice D lt.length E] 49))).set f (A);rw[F.o,<-iP,rM];(have h8:aY (aO (dI (p.m.take i)++gD (⟨f,s,n,d,y⟩:bB) (d.take j)) (dN (dK p) k (dH p.g.length))) (f,q,0)=(aO (dI (p.m.take i)++gD (⟨f,s,n,d,y⟩:bB) (d.take j)) (dN (dK p) k (dH p.g.length))).set f (A):=by rw[K.o];exact Pw (by rw[K.o,U.o]at z;exact z));rw[h8];exact J);(have a7:O (decide (aO (dI (p.m.take i)++gD (⟨f,s,n,d,y⟩:bB) (d.take (j+1))) (dN (dK p) k (dH p.g.length))≠(dN (dK p) k (dH p.g.length)))=true):=by show _=_;rw[F.o,<-iP,BG _ _ _ (by rw[ai.o];exact ap)];have h7:decide ((aO (dI (p.m.take i)++gD (⟨f,s,n,d,y⟩:bB) (d.take j)) (dN (dK p) k (dH p.g.length))).getD f 0<(aO (dI (p.m.take i)++gD (⟨f,s,n,d,y⟩:bB) (d.take j)) (dN (dK p) k (dH p.g.length))).getD q 0+0)=true:=aQ (by rw[K.o,U.o]at z;rw[Int.add_zero];exact z);show(_||decide ((aO (dI (p.m.take i)++gD (⟨f,s,n,d,y⟩:bB) (d.take j)) (dN (dK p) k (dH p.g.length))).getD f 0<(aO (dI (p.m.take i)++gD (⟨f,s,n,d,y⟩:bB) (d.take j)) (dN (dK p) k (dH p.g.length))).getD q 0+0))=true;rw[h7,BD]);have H:O _:=a4.o.trans_row (YL (.cells #[.int .i64 B, .int .i64 C, .int .i64 q, .slice D lt.length E] 49) f (.int .i64 (A)));clear z R Y N;go_wp2_with fail;go_roundw;(case rel=>exact⟨j+1,M,by rw[a7.o],gN,G.o,H.o⟩);case measure=>exact mI
        have aa:decide (L<A)=false:=aJ z;(have G:O (aO (dI (p.m.take i)++gD (⟨f,s,n,d,y⟩:bB) (d.take (j+1))) (dN (dK p) k (dH p.g.length))=(aO (dI (p.m.take i)++gD (⟨f,s,n,d,y⟩:bB) (d.take j)) (dN (dK p) k (dH p.g.length)))):=by show _=_;rw[F.o,<-iP,rM];exact aCN (by rw[K.o,U.o]at z;exact z));have H:O _:=a4.o.trans_row (RG (.cells #[.int .i64 B, .int .i64 C, .int .i64 q, .slice D lt.length E] 49));clear z R Y N;go_wp2_with fail;go_roundw;(case rel=>exact⟨j+1,M,by rw[G.o,a5.o],gN,by rw[G.o];exact V.o.u ((aH _ _).alloc (aE _) _),H.o⟩);case measure=>exact mI
       have bo:decide (0<n)=true:=aQ oM;(have F:O (gD (⟨f,s,n,d,y⟩:bB) (d.take (j+1))=gD (⟨f,s,n,d,y⟩:bB) (d.take j)++[(f,q,1)]):=by show _=_;rw[ae.o,PI _ _ R];simp[lH,Y,N]);by_cases z:L<A+1
       ·have aa:decide (L<A+1)=true:=aQ z;(have G:O (SX T I ((wr.alloc (.cells #[.int .i64 B, .int .i64 C, .int .i64 q, .slice D lt.length E] 49)).setCell ⟨I,f,none⟩ (.int .i64 (A+1))) (aO (dI (p.m.take i)++gD (⟨f,s,n,d,y⟩:bB) (d.take (j+1))) (dN (dK p) k (dH p.g.length)))):=by have J:=(V.o.u ((aH _ _).alloc (aE _) (.cells #[.int .i64 B, .int .i64 C, .int .i64 q, .slice D lt.length E] 49))).set f (A+1);rw[F.o,<-iP,rM];(have h8:aY (aO (dI (p.m.take i)++gD (⟨f,s,n,d,y⟩:bB) (d.take j)) (dN (dK p) k (dH p.g.length))) (f,q,1)=(aO (dI (p.m.take i)++gD (⟨f,s,n,d,y⟩:bB) (d.take j)) (dN (dK p) k (dH p.g.length))).set f (A+1):=by rw[K.o];unfold aY;exact if_pos (by rw[K.o,U.o]at z;exact z));rw[h8];exact J);(have a7:O (decide (aO (dI (p.m.take i)++gD (⟨f,s,n,d,y⟩:bB) (d.take (j+1))) (dN (dK p) k (dH p.g.length))≠(dN (dK p) k (dH p.g.length)))=true):=by show _=_;rw[F.o,<-iP,BG _ _ _ (by rw[ai.o];exact ap)];have h7:decide ((aO (dI (p.m.take i)++gD (⟨f,s,n,d,y⟩:bB) (d.take j)) (dN (dK p) k (dH p.g.length))).getD f 0<(aO (dI (p.m.take i)++gD (⟨f,s,n,d,y⟩:bB) (d.take j)) (dN (dK p) k (dH p.g.length))).getD q 0+1)=true:=aQ (by rw[K.o,U.o]at z;exact z);show(_||decide ((aO (dI (p.m.take i)++gD (⟨f,s,n,d,y⟩:bB) (d.take j)) (dN (dK p) k (dH p.g.length))).getD f 0<(aO (dI (p.m.take i)++gD (⟨f,s,n,d,y⟩:bB) (d.take j)) (dN (dK p) k (dH p.g.length))).getD q 0+1))=true;rw[h7,BD]);have H:O _:=a4.o.trans_row (YL (.cells #[.int .i64 B, .int .i64 C, .int .i64 q, .slice D lt.length E] 49) f (.int .i64 (A+1)));clear z R Y N;go_wp2_with fail;go_roundw;(case rel=>exact⟨j+1,M,by rw[a7.o],gN,G.o,H.o⟩);case measure=>exact mI
       have aa:decide (L<A+1)=false:=aJ z;(have G:O (aO (dI (p.m.take i)++gD (⟨f,s,n,d,y⟩:bB) (d.take (j+1))) (dN (dK p) k (dH p.g.length))=(aO (dI (p.m.take i)++gD (⟨f,s,n,d,y⟩:bB) (d.take j)) (dN (dK p) k (dH p.g.length)))):=by show _=_;rw[F.o,<-iP,rM];unfold aY;exact if_neg (by rw[K.o,U.o]at z;exact z));have H:O _:=a4.o.trans_row (RG (.cells #[.int .i64 B, .int .i64 C, .int .i64 q, .slice D lt.length E] 49));clear z R Y N;go_wp2_with fail;go_roundw;(case rel=>exact⟨j+1,M,by rw[G.o,a5.o],gN,by rw[G.o];exact V.o.u ((aH _ _).alloc (aE _) _),H.o⟩);case measure=>exact mI
      obtain rfl:j=d.length:=oM;(have a6:O (aO (dI (p.m.take (i+1))) (dN (dK p) k (dH p.g.length))=aO (dI (p.m.take i)++gD (⟨f,s,n,d,y⟩:bB) (d.take d.length)) (dN (dK p) k (dH p.g.length))):=by show _=_;rw[bh.o,NJ,lA];rfl);obtain⟨rf,Q⟩:∃rf,rf=decide (aO (dI (p.m.take i)++gD (⟨f,s,n,d,y⟩:bB) (d.take d.length)) (dN (dK p) k (dH p.g.length))≠(dN (dK p) k (dH p.g.length))):=⟨_,rfl⟩;rw[<-Q];have a5:O _:=Q;clear Q;go_wp2_with fail;go_roundw;(case rel=>exact⟨i+1,a9,by rw[a6.o,a5.o],gN,by rw[a6.o];exact V.o⟩);case measure=>exact mI
    obtain rfl:i=p.m.length:=oM;(have a6:O (dN (dK p) (k+1) (dH p.g.length)=aO (dI (p.m.take p.m.length)) (dN (dK p) k (dH p.g.length))):=by show _=_;rw[rL,lA];rfl);obtain⟨rf,Q⟩:∃rf,rf=decide (aO (dI (p.m.take p.m.length)) (dN (dK p) k (dH p.g.length))≠(dN (dK p) k (dH p.g.length))):=⟨_,rfl⟩;rw[<-Q];have a5:O _:=Q;clear Q;go_wp2_with fail;go_roundw;(case rel=>exact⟨k+1,oM,by rw[if_neg (Nat.succ_ne_zero k),BC,a6.o,a5.o],gN,by rw[a6.o];exact HL.o.re aj.o⟩);case measure=>exact mI
  have bq:decide (k<=p.g.length)=false:=aJ b1;obtain rfl:k=p.g.length+1:=oM;(have bc:O (uW p= !(if p.g.length+1=0 then false else decide (dN (dK p) (p.g.length+1) (dH p.g.length)≠dN (dK p) (p.g.length+1-1) (dH p.g.length)))):=by show _=_;rw[if_neg (Nat.succ_ne_zero _),BC,rL];unfold uW iM;simp);generalize (if p.g.length+1=0 then false else decide (dN (dK p) (p.g.length+1) (dH p.g.length)≠dN (dK p) (p.g.length+1-1) (dH p.g.length)))=ro at *;go_wp2_with fail;refine dF (fM rfl _ _ _) rfl ⟨_,dN (dK p) (p.g.length+1) (dH p.g.length),by rw[bc.o];rfl,?_,fun hf=>?_,(ak.o T HL.o.gr).2⟩
  ·have J:=Aq p.g.length HL.o.row;rw[pG,show(dH p.g.length).length=p.g.length by simp[dH]]at J;exact J
  rw[rL];exact eL hf

structure Tz (ops:Array Oper) (T:Nat->Value->World->Prop) (a0:Act) (w0:World) (L:Nat) (a:Act) (w:World):Prop where
 u:Below w0.heap.size w0 w
 defers:a.defers=a0.defers
 size:a.tmps.size=a0.tmps.size
 still:∀t,t∉ops.toList.filterMap (·.dst)->a.tmps.getD t undef=a0.tmps.getD t undef
 all:∀(i:Nat)(o:Oper)(t:Nat),i<L->ops[i]?=some o->o.dst=some t->T t (a.tmps.getD t undef) w
section
variable {P:Program} {ops:Array Oper} {Q:Exit->Act->World->Prop}
theorem kU(T:Nat->Value->World->Prop)(L:Nat){id:Nat}{b:Act}{d:World}(l:L<ops.size)(s:tN ops L=true)(p:P.follows .mixedOrders=true)
 (m:DM ops b.tmps.size=true)
 (q:∀t v w e,Below w.heap.size w e->T t v w->T t v e)
 (hop:JL (fun o=>∀a w,LR ops T b d o a w->DS P ops Q T o a w) (ops.toList.take L))
 (htail:∀a w,Tz ops T b d L a w->wpOps P ops Q (List.range' L (ops.size-L)) a w):
 (Code.region id ops true).wp P Q b d:=
 AI T L (wR l) (fun _=>s) p m q (fun _ o n r a w h _=>JL.mem _ hop o (XG n r) a w h) (fun a w f g i j k _=>htail a w ⟨f,g,i,j,k⟩)
end
abbrev Rv:=bB×Value×Value
section
variable {P:Program} {ops:Array Oper} {Q:Exit->Act->World->Prop} {i:Nat} {o:Oper} {K:Act->World->Prop} {a:Act} {w w':World}
theorem uM{v:Value}(b:ops[i]?=some o)(e:Region.wanted o (yielded ops a.tmps)=true)(d:(execOp a.eval o).run P w=.ok (.value v) w')(h:K (a.put o.dst v) w'):wpOp P ops Q i K a w:=by unfold wpOp;rw[b];dsimp only;rw[if_pos e];left;unfold Oper.wp;rw[d,Oper.upon_value];exact h
theorem zK(d:ops[i]?=some o)(f:Region.wanted o (yielded ops a.tmps)=true)(b:o.dst=none)(e:(execOp a.eval o).run P w=.ok .skip w')(h:K a w'):wpOp P ops Q i K a w:=by unfold wpOp;rw[d];dsimp only;rw[if_pos f];left;unfold Oper.wp;rw[e,Oper.upon_skip,b];exact h
theorem CA(b:ops[i]?=some o)(d:Region.wanted o (yielded ops a.tmps)=true)(h:o.wp P a w K Q):wpOp P ops Q i K a w:=by unfold wpOp;rw[b];dsimp only;rw[if_pos d];exact .inl h
end
theorem zV{W:World}{d:Nat}{b:Array Value}{t:TypeId}(h:W.heap[d]?=some (.cells b t)):∀j u,b.toList[j]?=some u->W.cell? ((⟨d,0,none⟩:Addr).add j)=some u:=by intro j u e;rw[Addr.add_lit,dV,cD h,<-fH];exact e
theorem oU{W:World}{B:Nat}{v:Value}{l:List Int}(h:W.ownsRow B 3 1 v l.length (l.map (Value.int .i64))):dM W v l:=by
 obtain⟨d,e,rfl,_,b⟩:=FU h;refine⟨d,e,rfl,?_⟩;rcases b with f|⟨g,rfl,b⟩
 ·exact .inl (mB.mp f)
 refine .inr ⟨g,0,rfl,fun i j=>?_⟩;rw[dV,b i oM];simp[bM,j]
theorem xJ{W:World}{B c n k:Nat}{e t:TypeId}{v:Value}{m:List Value}{a:Array Value}(h:W.ownsRow B e c v n m)(d:v.ownBlock=some k)(b:W.heap[k]?=some (.cells a t)):t=e:=by
 rcases h.2 with⟨f,_⟩|⟨g,p,q,l,_,j,_⟩
 ·rw[f]at d;cases d
 rw[l]at d;(have i:g=k:=by simpa[Value.ownBlock]using d);subst i;rw[j]at b;injection b with b;injection b with _ b _;exact b.symm
end Go.Proofs.YthenjegmigeieaaGreat
