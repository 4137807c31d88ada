/- Own texts, one behind the other (part 9). -/
import Derived.Test.YtfljoehbbncooaaGreatBundleH
import Derived.Test.YtfljoehbbncooaaGreatRows
import Derived.SizedLaws
import Derived.Deep.Slices
import Derived.Deep.QuietTactic
import Derived.BigQuiet
import Derived.Deep.RegionHeld3
import Derived.Deep.DeepCutAuto
import Derived.Deep.RegionLaw
import Derived.Lib.BufferMore
import Derived.WideKeyEntry
set_option maxRecDepth 100000
set_option maxHeartbeats 8000000
namespace Go.Proofs.YtfljoehbbncooaaGreat
open Go.RowKit Go.Maps
def aZ6(k:Option Addr)(w ch:Nat)(l:Option Addr)(x m:Nat)(D E:Int)(f:Option Addr)(r n:Nat)(i:Option Addr)(s p:Nat)(j:Option Addr)(u q:Nat)(d e co:Int)(C:Nat)(b:Value)(c:World):Prop:=
 match C with
 |10=>b=.agg #[.slice k w ch, .slice l x m]
 |11=>b=.int .i64 d
 |12=>b=.agg #[.int .i64 D, .int .i64 E, .slice f r n, .slice i s p, .slice j u q]
 |13=>b=.int .i64 e
 |14=>∃g,b=.slice (some ⟨g,0,none⟩) 2 2/\c.cell? ⟨g,0,none⟩=some (.int .i64 d)/\c.cell? ⟨g,1,none⟩=some (.int .i64 e)
 |15=>b=.int .i64 co
 |6=>b=.int .i64 co
 |_=>True
theorem aVS(f:Option Addr)(w ch:Nat)(i:Option Addr)(x l:Nat)(D E:Int)(c:Option Addr)(r m:Nat)(d:Option Addr)(s n:Nat)(e:Option Addr)(u p:Nat)(j k co:Int)(C:Nat)(F:Value)(W b:World)(q:Below W.heap.size W b)(h:aZ6 f w ch i x l D E c r m d s n e u p j k co C F W):aZ6 f w ch i x l D E c r m d s n e u p j k co C F b:=by revert h;unfold aZ6;split<;>(intro h;first|exact h|exact(h.elim fun g h=>⟨g,h.1,aB q h.2.1,aB q h.2.2⟩))
def aK6(j:Option Addr)(k cl X:Nat)(f i:Int)(q:List Uv)(e:Bool)(l:Nat)(c:Value)(d:World):Prop:=
 match l with
 |26=>c=.slice j k cl
 |27=>∃b,c=.map (some b)/\BN d b q
 |28=>c=.pointer (some ⟨X,0,none⟩)
 |29=>c=.agg #[.int .i64 f, .int .i64 i]
 |30=>∃g,c=.slice (some ⟨g,0,none⟩) 1 1/\d.cell? ⟨g,0,none⟩=some (.int .i64 f)/\d.cell? ⟨g,1,none⟩=some (.int .i64 i)
 |31=>c=.bool e
 |32=>c=.bool (!e)
 |_=>True
theorem aP8(e:Option Addr)(i cl X:Nat)(k l:Int)(q:List Uv)(f:Bool)(j:Nat)(m:Value)(W d:World)(c:Below W.heap.size W d)(h:aK6 e i cl X k l q f j m W):aK6 e i cl X k l q f j m d:=by revert h;unfold aK6;split<;>(intro h;first|exact h|exact(h.elim fun b h=>⟨b,h.1,h.2.z c⟩)|exact(h.elim fun g h=>⟨g,h.1,aB c h.2.1,aB c h.2.2⟩))
theorem xZ(w:World):iI w (.slice none 0 0) []:=⟨none,0,rfl,⟨aH _,fun _=>rfl⟩, .inl rfl⟩
theorem bE1(a b:Int)(g:Nat)(w:World)(h0:w.cell? ⟨g,0,none⟩=some (.int .i64 a))(h1:w.cell? ⟨g,1,none⟩=some (.int .i64 b)):
 Calls Tryz.prog 78 #[.slice (some ⟨g,0,none⟩) 2 2] w fun e i=>e=.returned (.int .i64 (if a=0 then b else a))/\i=w:=by
 go_enter Tryz.func78,Tryz.ntmps78
 go_wp2_with fail;by_cases c:a=0
 ·subst c;refine nF 3 ?_;by_cases d:b=0
  ·subst d;rw[rounds_succ];go_wp2_with fail;rw[rounds_succ];go_wp2_with fail;rw[rounds_succ];go_wp2_with fail;go_ret;exact⟨rfl,rfl⟩
  (have f:(b != 0)=true:=by simpa using d);rw[rounds_succ];go_wp2_with fail;rw[rounds_succ];go_wp2_with fail;go_ret;exact⟨rfl,rfl⟩
 (have f:(a != 0)=true:=by simpa using c);refine nF 1 ?_;rw[rounds_succ];go_wp2_with fail;go_ret;exact⟨by first|rfl|(rw[if_neg c];rfl),rfl⟩
theorem aQ0(B:Nat)(c:List Uv)(x:fK)(g:Nat)(w:World)(f:BN w B c)(h0:w.cell? ⟨g,0,none⟩=some (.int .i64 x.a))(h1:w.cell? ⟨g,1,none⟩=some (.int .i64 x.n))(i:fR x=true):
 Calls Tryz.prog 83 #[.map (some B), .slice (some ⟨g,0,none⟩) 1 1] w fun e b=>e=.returned (.bool (eG (bV c) x))/\Below w.heap.size w b:=by
 refine(YA B c [x] _ w f (bBN g h0 h1 rfl) (by simp) (fun y j=>by rw[cP.mp j];exact i)).mono ?_;rintro e b ⟨rfl,d⟩;refine⟨?_,d⟩;rw[FX,List.all_nil,Bool.and_true]
def iW(h w:List aX)(u:aX):Int:=
 if dN h w≠0 then dN h w else if eV u≠0 then eV u else if 200<(gY (h++w) u).length then 2 else 0
theorem Dz(n r:List Uv)(hv wv:Value)(x:Uv)(w:World)(hV:iI w hv n)(wV:iI w wv r)(hl:n.length<=4611686018427387903/\r.length<=4611686018427387903)(dd:∀x,x∈n++r->gM w x)(d:gM w x):
 Calls Tryz.prog 51 #[mU hv wv,mA x] w fun e m=>∃(v1 v2:Value)(i C:List Uv),e=.returned (.tuple #[mU v1 v2, .int .i64 (iW (bV n) (bV r) x.u)])/\iI m v1 i/\iI m v2 C/\(∀x,x∈i++C->gM m x)/\(iW (bV n) (bV r) x.u=0->rP (gY (bV n++bV r) x.u) (bV i) (bV C))/\(iW (bV n) (bV r) x.u≠0->i=[]/\C=[])/\Below w.heap.size w m:=by
 have HO:O (∀x,x∈n++r->gM w x):=dd;have d6:O (iI w hv n):=hV;have d8:O (iI w wv r):=wV;have d9:O (gM w x):=d;obtain⟨Q,ch,rfl,da,_⟩:=hV;obtain⟨S,U,rfl,db,_⟩:=wV;have di:O (Q=none->ch=0):=da.2;have dj:O (S=none->U=0):=db.2;obtain⟨a1,n1,d1,a2,n2,d2,a3,n3,d3,e1,e2,e3⟩:=d.forms;obtain⟨⟨⟨D,E⟩,X,Y,Z⟩,vp,vs,vt⟩:=x;dsimp only at *;subst e1 e2 e3;clear dd d da db;have cK:O (Below w.heap.size w (((w.alloc (.cells #[.slice Q n.length ch, .slice S r.length U] 29)).alloc (.cells #[.int .i64 D, .int .i64 E, .slice a1 n1 d1, .slice a2 n2 d2, .slice a3 n3 d3] 42)).alloc (.cells #[.slice none 0 0, .slice none 0 0] 29))):=(((aG _ _).alloc (aH _) _).alloc (by simp) _).alloc (by simp;omega) _;(have cn:O ((((w.alloc (.cells #[.slice Q n.length ch, .slice S r.length U] 29)).alloc (.cells #[.int .i64 D, .int .i64 E, .slice a1 n1 d1, .slice a2 n2 d2, .slice a3 n3 d3] 42)).alloc (.cells #[.slice none 0 0, .slice none 0 0] 29)).heap.size=w.heap.size+3):=by show _=_;simp);(have cp:O ((((w.alloc (.cells #[.slice Q n.length ch, .slice S r.length U] 29)).alloc (.cells #[.int .i64 D, .int .i64 E, .slice a1 n1 d1, .slice a2 n2 d2, .slice a3 n3 d3] 42)).alloc (.cells #[.slice none 0 0, .slice none 0 0] 29)).heap[w.heap.size]?=some (.cells #[.slice Q n.length ch, .slice S r.length U] 29)):=by show _=_;rw[MQ _ _ _ (by simp;omega),MQ _ _ _ (by simp)];exact iC w _);(have cq:O ((((w.alloc (.cells #[.slice Q n.length ch, .slice S r.length U] 29)).alloc (.cells #[.int .i64 D, .int .i64 E, .slice a1 n1 d1, .slice a2 n2 d2, .slice a3 n3 d3] 42)).alloc (.cells #[.slice none 0 0, .slice none 0 0] 29)).heap[w.heap.size+1]?=some (.cells #[.int .i64 D, .int .i64 E, .slice a1 n1 d1, .slice a2 n2 d2, .slice a3 n3 d3] 42)):=by show _=_;rw[MQ _ _ _ (by simp)];have :=iC (w.alloc (.cells #[.slice Q n.length ch, .slice S r.length U] 29)) (.cells #[.int .i64 D, .int .i64 E, .slice a1 n1 d1, .slice a2 n2 d2, .slice a3 n3 d3] 42);rw[qB]at this;exact this);have cr:O ((((w.alloc (.cells #[.slice Q n.length ch, .slice S r.length U] 29)).alloc (.cells #[.int .i64 D, .int .i64 E, .slice a1 n1 d1, .slice a2 n2 d2, .slice a3 n3 d3] 42)).alloc (.cells #[.slice none 0 0, .slice none 0 0] 29)).heap[w.heap.size+2]?=some (.cells #[.slice none 0 0, .slice none 0 0] 29)):=by have :=iC ((w.alloc (.cells #[.slice Q n.length ch, .slice S r.length U] 29)).alloc (.cells #[.int .i64 D, .int .i64 E, .slice a1 n1 d1, .slice a2 n2 d2, .slice a3 n3 d3] 42)) (.cells #[.slice none 0 0, .slice none 0 0] 29);rw[qB,qB]at this;exact this
 go_enter Tryz.func51,Tryz.ntmps51
 go_upto_region 1 with fail;generalize (((w.alloc (.cells #[.slice Q n.length ch, .slice S r.length U] 29)).alloc (.cells #[.int .i64 D, .int .i64 E, .slice a1 n1 d1, .slice a2 n2 d2, .slice a3 n3 d3] 42)).alloc (.cells #[.slice none 0 0, .slice none 0 0] 29))=M at *;(have HF:O (∀z,Below M.heap.size M z->(z.cell? ⟨w.heap.size,0,none⟩=some (.slice Q n.length ch)/\z.cell? ⟨w.heap.size,1,none⟩=some (.slice S r.length U))/\(z.cell? ⟨w.heap.size+1,0,none⟩=some (.int .i64 D)/\z.cell? ⟨w.heap.size+1,1,none⟩=some (.int .i64 E)/\z.cell? ⟨w.heap.size+1,2,none⟩=some (.slice a1 n1 d1)/\z.cell? ⟨w.heap.size+1,3,none⟩=some (.slice a2 n2 d2)/\z.cell? ⟨w.heap.size+1,4,none⟩=some (.slice a3 n3 d3))):=fun z hz=>by have h1:=(hz.block _ (aK.1 cp.o).1).trans cp.o;have h2:=(hz.block _ (aK.1 cq.o).1).trans cq.o;exact⟨⟨cH h1,cH h1⟩,cH h2,cH h2,cH h2,cH h2,cH h2⟩);(have HZ:O (∀z,Below M.heap.size M z->z.heap[w.heap.size+2]?=some (.cells #[.slice none 0 0, .slice none 0 0] 29)):=fun z hz=>(hz.block _ (aK.1 cr.o).1).trans cr.o;have HT:O (∀z,Below M.heap.size M z->Below w.heap.size w z):=fun z hz=>cK.o.trans (hz.mono cK.o.size);have cR:O (∀z,Below M.heap.size M z->Calls Tryz.prog 79 #[.agg #[.slice Q n.length ch, .slice S r.length U]] z fun e m=>e=.returned (.int .i64 (dN (bV n) (bV r)))/\Below z.heap.size z m):=fun z hz=>Am n r _ _ z (d6.o.kc (Kc.z (HT.o z hz))) (d8.o.kc (Kc.z (HT.o z hz))) hl (fun x d=>(HO.o x d).z (HT.o z hz));have cS:O (∀z,Below M.heap.size M z->Calls Tryz.prog 80 #[.agg #[.int .i64 D, .int .i64 E, .slice a1 n1 d1, .slice a2 n2 d2, .slice a3 n3 d3]] z fun e m=>e=.returned (.int .i64 (eV ⟨⟨D,E⟩,X,Y,Z⟩))/\Below z.heap.size z m):=fun z hz=>by have d:=d9.o.z (HT.o z hz);exact Tx ⟨⟨D,E⟩,X,Y,Z⟩ _ _ _ z d.p d.s d.t d.f d.l);obtain⟨cO,c5⟩:∃cO,O (cO=if dN (bV n) (bV r)=0 then eV ⟨⟨D,E⟩,X,Y,Z⟩else dN (bV n) (bV r)):=⟨_,rfl⟩;refine kB (aZ6 Q n.length ch S r.length U D E a1 n1 d1 a2 n2 d2 a3 n3 d3 (dN (bV n) (bV r)) (eV ⟨⟨D,E⟩,X,Y,Z⟩) cO) (by kernel_rfl) (by kernel_rfl) (aVS _ _ _ _ _ _ _ _ _ _ _ _ _ _ _ _ _ _ _ _) ?hop1 ?hend1
 case hop1=>
  refine oC (fun a y h=>by have e2:a.eval (.tmp 2)=(.pointer (some ⟨w.heap.size,0,none⟩):Value):=h.old 2;obtain⟨⟨r0,r1⟩,_⟩:=HF.o y h.z;exact iQ (.agg #[.slice Q n.length ch, .slice S r.length U])) ?_;refine oC (fun a y h=>?_) ?_
  ·have eb:a.eval (.tmp 10)=(.agg #[.slice Q n.length ch, .slice S r.length U]:Value):=h.of 10;refine fI (f:=79) (args:=#[.agg #[.slice Q n.length ch, .slice S r.length U]]) (bI rfl) ?_ ?_
   ·have ec:=kZ a;have ef:=AO a;generalize a.eval=ev at *;clear h;go_simp
   refine(cR.o y h.z).mono ?_;rintro e m ⟨rfl,hb⟩;exact⟨_,rfl,fun t ht=>by cases ht;exact rfl,hb⟩
  refine oC (fun a y h=>by have e3:a.eval (.tmp 3)=(.pointer (some ⟨w.heap.size+1,0,none⟩):Value):=h.old 3;obtain⟨_,⟨u0,u1,u2,u3,u4⟩⟩:=HF.o y h.z;exact iQ (.agg #[.int .i64 D, .int .i64 E, .slice a1 n1 d1, .slice a2 n2 d2, .slice a3 n3 d3])) ?_;refine oC (fun a y h=>?_) ?_
  ·have ee:a.eval (.tmp 12)=(.agg #[.int .i64 D, .int .i64 E, .slice a1 n1 d1, .slice a2 n2 d2, .slice a3 n3 d3]:Value):=h.of 12;refine fI (f:=80) (args:=#[.agg #[.int .i64 D, .int .i64 E, .slice a1 n1 d1, .slice a2 n2 d2, .slice a3 n3 d3]]) (bI rfl) ?_ ?_
   ·have ec:=kZ a;have ef:=AO a;generalize a.eval=ev at *;clear h;go_simp
   refine(cS.o y h.z).mono ?_;rintro e m ⟨rfl,hb⟩;exact⟨_,rfl,fun t ht=>by cases ht;exact rfl,hb⟩
  refine oC (fun a y h=>by have ed:a.eval (.tmp 11)=(.int .i64 (dN (bV n) (bV r)):Value):=h.of 11;have eg:a.eval (.tmp 13)=(.int .i64 (eV ⟨⟨D,E⟩,X,Y,Z⟩):Value):=h.of 13;refine dG (v:=.slice (some ⟨y.heap.size,0,none⟩) 2 2) (w':=y.alloc (.cells #[.int .i64 (dN (bV n) (bV r)), .int .i64 (eV ⟨⟨D,E⟩,X,Y,Z⟩)] 31)) (bI rfl) ?_ (fun t ht=>by cases ht;exact⟨y.heap.size,rfl,(zW _ _ _ 0).trans rfl,(zW _ _ _ 1).trans rfl⟩) ((aG _ _).alloc (aH _) _);have ec:=kZ a;generalize a.eval=ev at *;clear h;go_simp) ?_;refine oC (fun a y h=>?_) ?_
  ·have dx:∃g,(a.eval (.tmp 14))=.slice (some ⟨g,0,none⟩) 2 2/\y.cell? ⟨g,0,none⟩=some (.int .i64 (dN (bV n) (bV r)))/\y.cell? ⟨g,1,none⟩=some (.int .i64 (eV ⟨⟨D,E⟩,X,Y,Z⟩)):=h.of 14;obtain⟨g,eh,g0,g1⟩:=dx;refine fI (f:=78) (args:=#[.slice (some ⟨g,0,none⟩) 2 2]) (bI rfl) ?_ ?_
   ·have ec:=kZ a;have ef:=AO a;generalize a.eval=ev at *;clear h;go_simp
   refine(bE1 _ _ g y g0 g1).mono ?_;rintro e m ⟨rfl,rfl⟩;exact⟨_,rfl,fun t ht=>by cases ht;show Value.int .i64 _=Value.int .i64 cO;rw[c5.o],aG _ _⟩
  refine oC (fun a y h=>by have ei:a.eval (.tmp 15)=(.int .i64 cO:Value):=h.of 15;exact iQ (.int .i64 cO)) ?_;exact OI.nil
 rintro⟨tm,df⟩ G bm ct bT bN bl;have k6:tm.getD 6 undef=.int .i64 cO:=tW (T:=aZ6 Q n.length ch S r.length U D E a1 n1 d1 a2 n2 d2 a3 n3 d3 (dN (bV n) (bV r)) (eV ⟨⟨D,E⟩,X,Y,Z⟩) cO) (w:=G) (a:=⟨tm,df⟩) (t:=6) bl (by kernel_rfl);obtain rfl:df=[]:=ct;clear bl;obtain⟨fQ,hQ,au⟩:=oR [10,11,12,13,14,15,6] tm _ bT bN;clear bT bN;simp only[List.foldl_cons,List.foldl_nil,(hQ 6).trans k6]at au;clear k6 hQ;simp only[List.setIfInBounds_toArray,List.set_cons_zero,List.set_cons_succ]at au;subst au;have a6:O (Below M.heap.size M G):=bm;clear bm cR cS cp cq cr;by_cases bp:cO=0;rotate_left
 ·(have ep:(cO != 0)=true:=by simpa using bp);have a9:O (iW (bV n) (bV r) ⟨⟨D,E⟩,X,Y,Z⟩=cO):=by
   show _=_;unfold iW;have V:=c5.o;by_cases h0:dN (bV n) (bV r)=0
   ·rw[if_pos h0]at V;rw[if_neg (fun e=>e h0),if_pos (by rw[<-V];exact bp),V]
   rw[if_neg h0]at V;rw[if_pos h0,V]
  have ai:=HZ.o G (a6.o);(have e6:(G).cell? ⟨w.heap.size+2,0,none⟩=some (.slice none 0 0):=cH ai);have e4:=bM ai 0;(have aj:((G).setCell ⟨w.heap.size+2,0,none⟩ (.slice none 0 0)).heap[w.heap.size+2]?=some (.cells #[.slice none 0 0, .slice none 0 0] 29):=by rw[bD ai];rfl);(have e8:((G).setCell ⟨w.heap.size+2,0,none⟩ (.slice none 0 0)).cell? ⟨w.heap.size+2,1,none⟩=some (.slice none 0 0):=cH aj);have e5:=bM aj 1;(have b1:(((G).setCell ⟨w.heap.size+2,0,none⟩ (.slice none 0 0)).setCell ⟨w.heap.size+2,1,none⟩ (.slice none 0 0)).heap[w.heap.size+2]?=some (.cells #[.slice none 0 0, .slice none 0 0] 29):=by rw[bD aj];rfl);(have cF:(((G).setCell ⟨w.heap.size+2,0,none⟩ (.slice none 0 0)).setCell ⟨w.heap.size+2,1,none⟩ (.slice none 0 0)).cell? ⟨w.heap.size+2,0,none⟩=some (.slice none 0 0):=cH b1);(have cG:(((G).setCell ⟨w.heap.size+2,0,none⟩ (.slice none 0 0)).setCell ⟨w.heap.size+2,1,none⟩ (.slice none 0 0)).cell? ⟨w.heap.size+2,1,none⟩=some (.slice none 0 0):=cH b1);have tg:(G).grownBy (((G).setCell ⟨w.heap.size+2,0,none⟩ (.slice none 0 0)).setCell ⟨w.heap.size+2,1,none⟩ (.slice none 0 0)) (some (w.heap.size+2)):=(iN _ _ _ _).trans_row (iN _ _ _ _);have tB:O (Below w.heap.size w (((G).setCell ⟨w.heap.size+2,0,none⟩ (.slice none 0 0)).setCell ⟨w.heap.size+2,1,none⟩ (.slice none 0 0))):=(HT.o G (a6.o)).grown tg (HT.o G (a6.o)).size (fun j e=>by cases e;omega);clear ai aj b1 tg;go_wp2_with fail;refine dP (v:=.tuple #[.agg #[.slice none 0 0, .slice none 0 0], .int .i64 cO]) (by simp[results,Tryz.results51,go_sem,cF,cG]) rfl ?_;exact⟨.slice none 0 0, .slice none 0 0,[],[],by rw[a9.o],xZ _,xZ _,fun x d=>absurd d (by simp),fun e0=>absurd (a9.o.symm.trans e0) (by first|decide|assumption),fun _=>⟨rfl,rfl⟩,tB.o⟩
 have cs:dN (bV n) (bV r)=0/\eV ⟨⟨D,E⟩,X,Y,Z⟩=0:=by
  have V:=c5.o;by_cases h0:dN (bV n) (bV r)=0
  ·rw[if_pos h0]at V;exact⟨h0,by rw[<-V];exact bp⟩
  rw[if_neg h0]at V;exact absurd (V.symm.trans bp) h0
 have c4:O (dN (bV n) (bV r)=0):=cs.1;have b8:O (eV ⟨⟨D,E⟩,X,Y,Z⟩=0):=cs.2;clear cs c5;subst bp;have c6:O (IJ (bV n) (bV r)):=lK.mp c4.o;(have dp:n.length+r.length<=200:=by have :=c6.o.few;rw[eH,eH]at this;exact this);obtain⟨⟨r0,r1⟩,_⟩:=HF.o G a6.o;obtain⟨q,b3⟩:∃q,O (q=n++r):=⟨_,rfl⟩;(have eq:q.length<=200:=by rw[b3.o,aV];exact dp);have a4:O (Below G.heap.size G (G.alloc (.cells #[.slice Q n.length ch, .slice S r.length U] 27))):=(aG _ _).alloc (aH _) _;(have cT:O (Calls Tryz.prog 81 #[.slice (some ⟨G.heap.size,0,none⟩) 2 2] (G.alloc (.cells #[.slice Q n.length ch, .slice S r.length U] 27)) fun e m=>∃v',e=.returned v'/\mT m G.heap.size v' q/\Below G.heap.size G m):=by have hb:=(HT.o G a6.o).trans (a4.o.mono (HT.o G a6.o).size);obtain⟨_,_,e1,_,k1⟩:=d6.o.kc (Kc.z hb);obtain⟨_,_,e2,_,k2⟩:=d8.o.kc (Kc.z hb);cases e1;cases e2;refine(Qb n r G.heap.size Q S ch U _ ⟨k1,di.o⟩ ⟨k2,dj.o⟩ (zW _ _ _ 0) (zW _ _ _ 1) (by omega) (fun x d=>(HO.o x d).z hb)).mono ?_;rintro e m ⟨v',h1,h2,h3⟩;exact⟨v',h1,by rw[b3.o];exact gP h2 a4.o.size,a4.o.trans (h3.mono a4.o.size)⟩);(go_upto_region 5 with(go_at_call 81;refine Calls.mono cT.o ?_;rintro e w4 ⟨v4,rfl,cv,cb⟩;obtain⟨al,cl,rfl⟩:=bR cv);have b9:O (Below M.heap.size M w4):=a6.o.trans (cb.mono a6.o.size);have c9:O (mT w4 G.heap.size (.slice al q.length cl) q):=cv;have dm:O (G.heap.size<=w4.heap.size):=cb.size;have dg:O (Below G.heap.size G w4):=cb;clear cv cb cT r0 r1 a4;have d0:O (Below G.heap.size G w4):=dg.o;have b2:O (∀x,x∈q->gM G x/\eV x.u=0):=fun x d=>by have bZ:x∈n++r:=b3.o▸d;refine⟨(HO.o x bZ).z (HT.o G a6.o),c6.o.each x.u ?_⟩;rw[<-nR];exact cJ.mpr ⟨x,bZ,rfl⟩);((have d7:O (∀x,x∈q->gM w4 x/\eV x.u=0):=fun x d=>by have bZ:x∈n++r:=b3.o▸d;refine⟨(HO.o x bZ).z (HT.o w4 b9.o),c6.o.each x.u ?_⟩;rw[<-nR];exact cJ.mpr ⟨x,bZ,rfl⟩);have c8:O (((bV q).map aX.id).Nodup):=by have V:=c6.o.nd;rw[<-nR,<-b3.o]at V;exact V);have cU:O (∀z,Below w4.heap.size w4 z->(z.cell? ⟨w.heap.size,0,none⟩=some (.slice Q n.length ch)/\z.cell? ⟨w.heap.size,1,none⟩=some (.slice S r.length U))/\(z.cell? ⟨w.heap.size+1,0,none⟩=some (.int .i64 D)/\z.cell? ⟨w.heap.size+1,1,none⟩=some (.int .i64 E)/\z.cell? ⟨w.heap.size+1,2,none⟩=some (.slice a1 n1 d1)/\z.cell? ⟨w.heap.size+1,3,none⟩=some (.slice a2 n2 d2)/\z.cell? ⟨w.heap.size+1,4,none⟩=some (.slice a3 n3 d3))):=fun z hz=>HF.o z (b9.o.trans (hz.mono b9.o.size))
 have cN:O (∀z,Below w4.heap.size w4 z->Calls Tryz.prog 82 #[.slice al q.length cl] z fun e m=>∃b,e=.returned (.map (some b))/\BN m b q/\Below z.heap.size z m):=fun z hz=>
  (aD4 q _ z (vE (bO c9.o hz)) (by omega) (fun x d=>(d7.o x d).1.z hz) (fun x d=>(JE (d7.o x d).2).id)).mono fun e m h=>⟨_,h.1,h.2.1.at_ c8.o,h.2.2⟩
 have dk:O (fR ⟨D,E⟩=true):=(JE b8.o).id;obtain⟨az,b4⟩:∃b,O (eG (bV q) ⟨D,E⟩=b):=⟨_,rfl⟩;refine kB (aK6 al q.length cl (w.heap.size+1) D E q az) (by kernel_rfl) (by kernel_rfl) (aP8 _ _ _ _ _ _ _ _) ?hop5 ?hend5
 case hop5=>
  refine oC (fun a y h=>by have e7:a.eval (.tmp 7)=(.slice al q.length cl:Value):=h.old 7;exact iQ (.slice al q.length cl)) ?_;refine oC (fun a y h=>?_) ?_
  ·have ej:a.eval (.tmp 26)=(.slice al q.length cl:Value):=h.of 26;refine fI (f:=82) (args:=#[.slice al q.length cl]) (bI rfl) ?_ ?_
   ·have ec:=kZ a;have ef:=AO a;generalize a.eval=ev at *;clear h;go_simp
   refine(cN.o y h.z).mono ?_;rintro e m ⟨b,rfl,hm,hb⟩;exact⟨_,rfl,fun t ht=>by cases ht;exact⟨b,rfl,hm⟩,hb⟩
  refine oC (fun a y h=>by have e3:a.eval (.tmp 3)=(.pointer (some ⟨w.heap.size+1,0,none⟩):Value):=h.old 3;exact iQ (.pointer (some ⟨w.heap.size+1,0,none⟩))) ?_;refine oC (fun a y h=>by have el:a.eval (.tmp 28)=(.pointer (some ⟨w.heap.size+1,0,none⟩):Value):=h.of 28;obtain⟨_,⟨u0,u1,u2,u3,u4⟩⟩:=cU.o y h.z;exact iQ (.agg #[.int .i64 D, .int .i64 E])) ?_;refine oC (fun a y h=>by have em:a.eval (.tmp 29)=(.agg #[.int .i64 D, .int .i64 E]:Value):=h.of 29;refine dG (v:=.slice (some ⟨y.heap.size,0,none⟩) 1 1) (w':=y.alloc (.cells #[.int .i64 D, .int .i64 E] 39)) (bI rfl) ?_ (fun t ht=>by cases ht;exact⟨y.heap.size,rfl,(zW _ _ _ 0).trans rfl,(zW _ _ _ 1).trans rfl⟩) ((aG _ _).alloc (aH _) _);have ec:=kZ a;generalize a.eval=ev at *;clear h;go_simp) ?_;refine oC (fun a y h=>?_) ?_
  ·have dy:∃b,(a.eval (.tmp 27))=.map (some b)/\BN y b q:=h.of 27;have dz:∃g,(a.eval (.tmp 30))=.slice (some ⟨g,0,none⟩) 1 1/\y.cell? ⟨g,0,none⟩=some (.int .i64 D)/\y.cell? ⟨g,1,none⟩=some (.int .i64 E):=h.of 30;obtain⟨b,ek,hm⟩:=dy;obtain⟨g,en,g0,g1⟩:=dz;refine fI (f:=83) (args:=#[.map (some b), .slice (some ⟨g,0,none⟩) 1 1]) (bI rfl) ?_ ?_
   ·have ec:=kZ a;have ef:=AO a;generalize a.eval=ev at *;clear h;go_simp
   refine(aQ0 b q ⟨D,E⟩ g y hm g0 g1 dk.o).mono ?_;rintro e m ⟨rfl,hb⟩;exact⟨_,rfl,fun t ht=>by cases ht;show Value.bool _=Value.bool az;rw[b4.o],hb⟩
  refine oC (fun a y h=>by have eo:a.eval (.tmp 31)=(.bool az:Value):=h.of 31;exact iQ (.bool (!az))) ?_;exact OI.nil
 rintro⟨tm,df⟩ W bm ct bT bN bl;have de:tm.getD 32 undef=.bool (!az):=tW (T:=aK6 al q.length cl (w.heap.size+1) D E q az) (w:=W) (a:=⟨tm,df⟩) (t:=32) bl (by kernel_rfl);obtain rfl:df=[]:=ct;clear bl;obtain⟨fQ,hQ,au⟩:=oR [26,27,28,29,30,31,32] tm _ bT bN;clear bT bN;simp only[List.foldl_cons,List.foldl_nil,(hQ 32).trans de]at au;clear de hQ;simp only[List.setIfInBounds_toArray,List.set_cons_zero,List.set_cons_succ]at au;subst au;have ba:O (Below w4.heap.size w4 W):=bm;clear bm cN;have d5:O (Below M.heap.size M W):=b9.o.trans (ba.o.mono b9.o.size);have ci:O (Below G.heap.size G W):=d0.o.trans (ba.o.mono d0.o.size);(have co:O (bV n++bV r=bV q):=by show _=_;rw[b3.o,nR]);have bu:=bO c9.o ba.o;(have ea:O (w.heap.size+2<G.heap.size):=by have h1:=a6.o.size;have h2:=cn.o;show _<_;omega);cases az
 ·
  obtain⟨_,⟨u0,u1,u2,u3,u4⟩⟩:=cU.o W ba.o;obtain⟨i0,hi,dq,dr,ds⟩:=jY KS;have et:=d5.o.size;have es:=ba.o.size;have er:=dm.o;go_upto_region 7 with(at_builtin;refine iD _ rfl _ _ 27 rfl G.heap.size 42 i0 _ 5 88 Tryz.underlying27 hi dq dr ds rfl (by decide) _ _ _ rfl (bu.alloc _) ⟨W.heap.size,0,none⟩ 1 1 ([(⟨⟨⟨D,E⟩,X,Y,Z⟩, .slice a1 n1 d1, .slice a2 n2 d2, .slice a3 n3 d3⟩:Uv)].map jC).flatten rfl rfl (bBI W _ _ _ _ _ 42) (by intro u hu;simp at hu;rcases hu with rfl|rfl|rfl|rfl|rfl<;>rfl) (by unfold maxLen;omega) (by omega) (by simp;omega) ?_;intro v6 K cu dc _;obtain⟨aL,cL,rfl⟩:=bR cu);obtain⟨L,bd⟩:∃L,O (L=q++[(⟨⟨⟨D,E⟩,X,Y,Z⟩, .slice a1 n1 d1, .slice a2 n2 d2, .slice a3 n3 d3⟩:Uv)]):=⟨_,rfl⟩;(have ca:L.length=q.length+1:=by rw[bd.o,aV];rfl);(have cz:mT K G.heap.size (.slice aL L.length cL) L:=by show World.ownsRow _ _ _ _ _ _ _;rw[ca,bd.o,dC,iL];exact cu);(have d4:O (Below G.heap.size G K):=((ci.o.alloc ci.o.size _)).grown dc (by simp;omega) (fun k hk=>(bu.lt k hk).1);have ac:O (Below M.heap.size M K):=a6.o.trans (d4.o.mono a6.o.size);have ck:O (eG (bV q) ⟨D,E⟩=false):=b4.o;have an:O (gY (bV n++bV r) ⟨⟨D,E⟩,X,Y,Z⟩=bV L):=by show _=_;rw[co.o,bd.o,nR];unfold gY;rw[if_neg (by rw[ck.o];simp)];rfl);(have ao:O (((bV L).map aX.id).Nodup):=by show List.Nodup _;rw[<-an.o,co.o];exact zZ c8.o);have a5:O (∀x,x∈L->gM K x/\eV x.u=0):=fun x d=>by
   rw[bd.o]at d;rcases cW.mp d with d|d
   ·exact⟨(b2.o x d).1.z d4.o,(b2.o x d).2⟩
   rw[cP.mp d];exact⟨d9.o.z (HT.o K ac.o),b8.o⟩
  have e9:O (L.length=q.length+1):=ca;(have dn:L.length<=201:=by omega);rw[<-ca];clear cu dc bu u0 u1 u2 u3 u4 ca c9 c8 b2 b4;by_cases aO:200<L.length
  ·have g0:decide ((200:Int)<(L.length:Int))=true:=aP (by omega);have g1:decide (200<L.length)=true:=aP aO;(have a9:O (iW (bV n) (bV r) ⟨⟨D,E⟩,X,Y,Z⟩=2):=by show _=_;unfold iW;rw[if_neg (fun e=>e c4.o),if_neg (fun e=>e b8.o),an.o,eH,if_pos aO]);have ai:=HZ.o K (ac.o);(have e6:(K).cell? ⟨w.heap.size+2,0,none⟩=some (.slice none 0 0):=cH ai);have e4:=bM ai 0;(have aj:((K).setCell ⟨w.heap.size+2,0,none⟩ (.slice none 0 0)).heap[w.heap.size+2]?=some (.cells #[.slice none 0 0, .slice none 0 0] 29):=by rw[bD ai];rfl);(have e8:((K).setCell ⟨w.heap.size+2,0,none⟩ (.slice none 0 0)).cell? ⟨w.heap.size+2,1,none⟩=some (.slice none 0 0):=cH aj);have e5:=bM aj 1;(have b1:(((K).setCell ⟨w.heap.size+2,0,none⟩ (.slice none 0 0)).setCell ⟨w.heap.size+2,1,none⟩ (.slice none 0 0)).heap[w.heap.size+2]?=some (.cells #[.slice none 0 0, .slice none 0 0] 29):=by rw[bD aj];rfl);(have cF:(((K).setCell ⟨w.heap.size+2,0,none⟩ (.slice none 0 0)).setCell ⟨w.heap.size+2,1,none⟩ (.slice none 0 0)).cell? ⟨w.heap.size+2,0,none⟩=some (.slice none 0 0):=cH b1);(have cG:(((K).setCell ⟨w.heap.size+2,0,none⟩ (.slice none 0 0)).setCell ⟨w.heap.size+2,1,none⟩ (.slice none 0 0)).cell? ⟨w.heap.size+2,1,none⟩=some (.slice none 0 0):=cH b1);have tg:(K).grownBy (((K).setCell ⟨w.heap.size+2,0,none⟩ (.slice none 0 0)).setCell ⟨w.heap.size+2,1,none⟩ (.slice none 0 0)) (some (w.heap.size+2)):=(iN _ _ _ _).trans_row (iN _ _ _ _);have tB:O (Below w.heap.size w (((K).setCell ⟨w.heap.size+2,0,none⟩ (.slice none 0 0)).setCell ⟨w.heap.size+2,1,none⟩ (.slice none 0 0))):=(HT.o K (ac.o)).grown tg (HT.o K (ac.o)).size (fun j e=>by cases e;omega);clear ai aj b1 tg;go_wp2_with fail;refine dP (v:=.tuple #[.agg #[.slice none 0 0, .slice none 0 0], .int .i64 2]) (by simp[results,Tryz.results51,go_sem,cF,cG]) rfl ?_;exact⟨.slice none 0 0, .slice none 0 0,[],[],by rw[a9.o],xZ _,xZ _,fun x d=>absurd d (by simp),fun e0=>absurd (a9.o.symm.trans e0) (by first|decide|assumption),fun _=>⟨rfl,rfl⟩,tB.o⟩
  have g0:decide ((200:Int)<(L.length:Int))=false:=aF (by omega);have g1:decide (200<L.length)=false:=aF aO;(have a9:O (iW (bV n) (bV r) ⟨⟨D,E⟩,X,Y,Z⟩=0):=by show _=_;unfold iW;rw[if_neg (fun e=>e c4.o),if_neg (fun e=>e b8.o),an.o,eH,if_neg aO]);(have bh:O (Calls Tryz.prog 84 #[.slice aL L.length cL] K fun e m=>∃(c l:List Uv)(v:Value),e=.returned (.tuple #[.map (some K.heap.size),v])/\gV mV [] (bV L)=(bV c,bV l)/\(c++l).Perm L/\BN m K.heap.size c/\mT m K.heap.size v l/\Below K.heap.size K m):=Cy L _ K (vE cz) (by omega) (fun x d=>(a5.o x d).1) (fun x d=>JE (a5.o x d).2) ao.o;go_upto_region 10 with(go_at_call 84;refine Calls.mono bh.o ?_;rintro e F ⟨c,l,v7,rfl,bz,a0,bo,aR,aa⟩;obtain⟨a7,c7,rfl⟩:=bR aR);have bg:O (gV mV [] (bV L)=(bV c,bV l)):=bz;have dl:O ((c++l).Perm L):=a0;(have aN:c.length<=1000/\l.length<=1000:=by have :=a0.length_eq;rw[aV]at this;omega);have ak:O (Below M.heap.size M F):=ac.o.trans (aa.mono ac.o.size);have dh:O (Below K.heap.size K F):=aa;have bf:O (∀x,x∈c->gM F x/\Few x.u):=fun x d=>⟨(a5.o x (a0.mem_iff.mp (eX _ d))).1.z aa,JO (a5.o x (a0.mem_iff.mp (eX _ d))).2⟩;have aq:O (∀x,x∈l->gM F x/\Few x.u):=fun x d=>⟨(a5.o x (a0.mem_iff.mp (gE _ d))).1.z aa,JO (a5.o x (a0.mem_iff.mp (gE _ d))).2⟩;have be:O (((bV c).map aX.id).Nodup/\((bV l).map aX.id).Nodup):=by have V:=GU a0 ao.o;rw[nR,dC,qH]at V;exact⟨V.1,V.2.1⟩);have cc:O (BN F K.heap.size c):=bo;have cm:O (mT F K.heap.size (.slice a7 l.length c7) l):=aR;clear bz a0 bo aR aa bh;have bi:O (Calls Tryz.prog 86 #[.map (some K.heap.size)] F fun e m=>∃lb,e=.returned (.func (.func 140) #[] lb)/\Kz 140 lb c m/\Below F.heap.size F m):=aER _ c F cc.o;go_wp2_with fail;refine Calls.mono bi.o ?_;rintro e w8 ⟨c2,rfl,bv,av⟩;have b6:O (Calls Tryz.prog 85 #[.func (.func 140) #[] c2] w8 fun e m=>∃(v:Value)(R:List Uv),e=.returned v/\(bV R).Perm (bV c)/\dI eF (bV R)=true/\mT m w8.heap.size v R/\(∀x,x∈R->Bq w8.heap.size m x)/\Below w8.heap.size w8 m):=SE 140 c2 c aN.1 w8 (fun x d=>(bf.o x d).1.z av) (fun x d=>(bf.o x d).2) be.o.1 bv;have ab:O (Below F.heap.size F w8):=av;clear bv av bi;go_wp2_with fail;refine Calls.mono b6.o ?_;rintro e wa ⟨va,i,rfl,bs,bq,aS,bU,bn⟩;obtain⟨I,J,rfl⟩:=bR aS;have a4:O (Below F.heap.size F wa):=ab.o.trans (bn.mono ab.o.size);have ar:O (mT wa F.heap.size (.slice I i.length J) i/\∀x,x∈i->Bq F.heap.size wa x):=⟨gP aS ab.o.size,fun x d=>(bU x d).le ab.o.size⟩;have bb:O ((bV i).Perm (bV c)/\dI eF (bV i)=true):=⟨bs,bq⟩;clear bs bq aS bU bn b6;have bj:O (Calls Tryz.prog 87 #[.slice a7 l.length c7] wa fun e m=>∃lb,e=.returned (.func (.func 141) #[] lb)/\Kz 141 lb l m/\Below wa.heap.size wa m):=aE2 l _ wa (vE (bO cm.o a4.o)) aN.2 (fun x d=>(aq.o x d).1.z a4.o);go_wp2_with fail;refine Calls.mono bj.o ?_;rintro e wb ⟨c3,rfl,bw,aJ⟩;have a8:O (Below F.heap.size F wb):=a4.o.trans (aJ.mono a4.o.size);have b7:O (Calls Tryz.prog 85 #[.func (.func 141) #[] c3] wb fun e m=>∃(v:Value)(R:List Uv),e=.returned v/\(bV R).Perm (bV l)/\dI eF (bV R)=true/\mT m wb.heap.size v R/\(∀x,x∈R->Bq wb.heap.size m x)/\Below wb.heap.size wb m):=SE 141 c3 l aN.2 wb (fun x d=>(aq.o x d).1.z a8.o) (fun x d=>(aq.o x d).2) be.o.2 bw;have b5:O (Below wa.heap.size wa wb):=aJ;clear bw aJ bj;go_wp2_with fail;refine Calls.mono b7.o ?_;rintro e H ⟨v9,C,rfl,bt,br,aT,bW,aC⟩;obtain⟨N,P,rfl⟩:=bR aT;have aD:=b5.o.trans (aC.mono b5.o.size);have bk:=a8.o.trans (aC.mono a8.o.size);have ad:O (mT H F.heap.size (.slice I i.length J) i/\∀x,x∈i->Bq F.heap.size H x):=⟨bO ar.o.1 aD,fun x d=>(ar.o.2 x d).z aD⟩;have ae:O (mT H F.heap.size (.slice N C.length P) C/\∀x,x∈C->Bq F.heap.size H x):=⟨gP aT a8.o.size,fun x d=>(bW x d).le a8.o.size⟩;have bc:O ((bV C).Perm (bV l)/\dI eF (bV C)=true):=⟨bt,br⟩;have am:O (Below M.heap.size M H):=ak.o.trans (bk.mono ak.o.size);(have c1:w.heap.size+2<F.heap.size:=by have h1:=ak.o.size;have h2:=cn.o;omega);clear bt br aT bW aC aD bk ar b7;have af:=HZ.o H am.o;(have dv:(H).cell? ⟨w.heap.size+2,0,none⟩=some (.slice none 0 0):=cH af);have dt:=bM af 0;(have ag:((H).setCell ⟨w.heap.size+2,0,none⟩ (.slice I i.length J)).heap[w.heap.size+2]?=some (.cells #[.slice I i.length J, .slice none 0 0] 29):=by rw[bD af];rfl);(have dw:((H).setCell ⟨w.heap.size+2,0,none⟩ (.slice I i.length J)).cell? ⟨w.heap.size+2,1,none⟩=some (.slice none 0 0):=cH ag);have du:=bM ag 1;(have b0:(((H).setCell ⟨w.heap.size+2,0,none⟩ (.slice I i.length J)).setCell ⟨w.heap.size+2,1,none⟩ (.slice N C.length P)).heap[w.heap.size+2]?=some (.cells #[.slice I i.length J, .slice N C.length P] 29):=by rw[bD ag];rfl);(have cD:(((H).setCell ⟨w.heap.size+2,0,none⟩ (.slice I i.length J)).setCell ⟨w.heap.size+2,1,none⟩ (.slice N C.length P)).cell? ⟨w.heap.size+2,0,none⟩=some (.slice I i.length J):=cH b0);(have cE:(((H).setCell ⟨w.heap.size+2,0,none⟩ (.slice I i.length J)).setCell ⟨w.heap.size+2,1,none⟩ (.slice N C.length P)).cell? ⟨w.heap.size+2,1,none⟩=some (.slice N C.length P):=cH b0);have sg:(H).grownBy (((H).setCell ⟨w.heap.size+2,0,none⟩ (.slice I i.length J)).setCell ⟨w.heap.size+2,1,none⟩ (.slice N C.length P)) (some (w.heap.size+2)):=(iN _ _ _ _).trans_row (iN _ _ _ _);have cg:O (Below w.heap.size w (((H).setCell ⟨w.heap.size+2,0,none⟩ (.slice I i.length J)).setCell ⟨w.heap.size+2,1,none⟩ (.slice N C.length P))):=(HT.o H am.o).grown sg (HT.o H am.o).size (fun j e=>by cases e;omega);have cd:O (iI (((H).setCell ⟨w.heap.size+2,0,none⟩ (.slice I i.length J)).setCell ⟨w.heap.size+2,1,none⟩ (.slice N C.length P)) (.slice I i.length J) i):=vE (ad.o.1.kept sg (.inr (fun e=>by have :=(ad.o.1.lt _ e).1;omega)));have ce:O (iI (((H).setCell ⟨w.heap.size+2,0,none⟩ (.slice I i.length J)).setCell ⟨w.heap.size+2,1,none⟩ (.slice N C.length P)) (.slice N C.length P) C):=vE (ae.o.1.kept sg (.inr (fun e=>by have :=(ae.o.1.lt _ e).1;omega)));have cf:O (∀x,x∈i++C->gM (((H).setCell ⟨w.heap.size+2,0,none⟩ (.slice I i.length J)).setCell ⟨w.heap.size+2,1,none⟩ (.slice N C.length P)) x):=fun x d=>by
   rcases cW.mp d with d|d
   ·exact((ad.o.2 x d).grown sg c1).ok
   exact((ae.o.2 x d).grown sg c1).ok
  (have cj:O (rP (gY (bV n++bV r) ⟨⟨D,E⟩,X,Y,Z⟩) (bV i) (bV C)):=by show rP _ _ _;rw[an.o];exact Eg ao.o (fun u=>by rw[bg.o];exact bb.o.1.mem_iff) (fun u=>by rw[bg.o];exact bc.o.1.mem_iff) bb.o.2 bc.o.2);clear ad ae af ag b0 sg;go_wp2_with fail;refine dP (v:=.tuple #[.agg #[.slice I i.length J, .slice N C.length P], .int .i64 0]) (by simp[results,Tryz.results51,go_sem,cD,cE]) rfl ?_;refine⟨_,_,i,C,by rw[a9.o],cd.o,ce.o,cf.o,fun _=>cj.o,fun h=>absurd a9.o h,cg.o⟩
 ·
  obtain⟨L,bd⟩:∃L,O (L=q):=⟨_,rfl⟩;have ac:O (Below M.heap.size M W):=d5.o;have ck:O (eG (bV q) ⟨D,E⟩=true):=b4.o;(have an:O (gY (bV n++bV r) ⟨⟨D,E⟩,X,Y,Z⟩=bV q):=by show _=_;rw[co.o];unfold gY;rw[if_pos ck.o]);have ao:O (((bV q).map aX.id).Nodup):=c8.o;have a5:O (∀x,x∈q->gM W x/\eV x.u=0):=fun x d=>⟨(b2.o x d).1.z ci.o,(b2.o x d).2⟩;have cz:=bu;(have dn:q.length<=201:=by omega);clear bu c9 b2 b4;go_upto_region 7 with fail;by_cases aO:200<q.length
  ·omega
  have g0:decide ((200:Int)<(q.length:Int))=false:=aF (by omega);have g1:decide (200<q.length)=false:=aF aO;(have a9:O (iW (bV n) (bV r) ⟨⟨D,E⟩,X,Y,Z⟩=0):=by show _=_;unfold iW;rw[if_neg (fun e=>e c4.o),if_neg (fun e=>e b8.o),an.o,eH,if_neg aO]);(have bh:O (Calls Tryz.prog 84 #[.slice al q.length cl] W fun e m=>∃(c l:List Uv)(v:Value),e=.returned (.tuple #[.map (some W.heap.size),v])/\gV mV [] (bV q)=(bV c,bV l)/\(c++l).Perm q/\BN m W.heap.size c/\mT m W.heap.size v l/\Below W.heap.size W m):=Cy q _ W (vE cz) (by omega) (fun x d=>(a5.o x d).1) (fun x d=>JE (a5.o x d).2) ao.o;go_upto_region 10 with(go_at_call 84;refine Calls.mono bh.o ?_;rintro e F ⟨c,l,v7,rfl,bz,a0,bo,aR,aa⟩;obtain⟨a7,c7,rfl⟩:=bR aR);have bg:O (gV mV [] (bV q)=(bV c,bV l)):=bz;have dl:O ((c++l).Perm q):=a0;(have aN:c.length<=1000/\l.length<=1000:=by have :=a0.length_eq;rw[aV]at this;omega);have ak:O (Below M.heap.size M F):=ac.o.trans (aa.mono ac.o.size);have dh:O (Below W.heap.size W F):=aa;have bf:O (∀x,x∈c->gM F x/\Few x.u):=fun x d=>⟨(a5.o x (a0.mem_iff.mp (eX _ d))).1.z aa,JO (a5.o x (a0.mem_iff.mp (eX _ d))).2⟩;have aq:O (∀x,x∈l->gM F x/\Few x.u):=fun x d=>⟨(a5.o x (a0.mem_iff.mp (gE _ d))).1.z aa,JO (a5.o x (a0.mem_iff.mp (gE _ d))).2⟩;have be:O (((bV c).map aX.id).Nodup/\((bV l).map aX.id).Nodup):=by have V:=GU a0 ao.o;rw[nR,dC,qH]at V;exact⟨V.1,V.2.1⟩);have cc:O (BN F W.heap.size c):=bo;have cm:O (mT F W.heap.size (.slice a7 l.length c7) l):=aR;clear bz a0 bo aR aa bh;have bi:O (Calls Tryz.prog 86 #[.map (some W.heap.size)] F fun e m=>∃lb,e=.returned (.func (.func 140) #[] lb)/\Kz 140 lb c m/\Below F.heap.size F m):=aER _ c F cc.o;go_wp2_with fail;refine Calls.mono bi.o ?_;rintro e w8 ⟨c2,rfl,bv,av⟩;have b6:O (Calls Tryz.prog 85 #[.func (.func 140) #[] c2] w8 fun e m=>∃(v:Value)(R:List Uv),e=.returned v/\(bV R).Perm (bV c)/\dI eF (bV R)=true/\mT m w8.heap.size v R/\(∀x,x∈R->Bq w8.heap.size m x)/\Below w8.heap.size w8 m):=SE 140 c2 c aN.1 w8 (fun x d=>(bf.o x d).1.z av) (fun x d=>(bf.o x d).2) be.o.1 bv;have ab:O (Below F.heap.size F w8):=av;clear bv av bi;go_wp2_with fail;refine Calls.mono b6.o ?_;rintro e wa ⟨va,i,rfl,bs,bq,aS,bU,bn⟩;obtain⟨I,J,rfl⟩:=bR aS;have a4:O (Below F.heap.size F wa):=ab.o.trans (bn.mono ab.o.size);have ar:O (mT wa F.heap.size (.slice I i.length J) i/\∀x,x∈i->Bq F.heap.size wa x):=⟨gP aS ab.o.size,fun x d=>(bU x d).le ab.o.size⟩;have bb:O ((bV i).Perm (bV c)/\dI eF (bV i)=true):=⟨bs,bq⟩;clear bs bq aS bU bn b6;have bj:O (Calls Tryz.prog 87 #[.slice a7 l.length c7] wa fun e m=>∃lb,e=.returned (.func (.func 141) #[] lb)/\Kz 141 lb l m/\Below wa.heap.size wa m):=aE2 l _ wa (vE (bO cm.o a4.o)) aN.2 (fun x d=>(aq.o x d).1.z a4.o);go_wp2_with fail;refine Calls.mono bj.o ?_;rintro e wb ⟨c3,rfl,bw,aJ⟩;have a8:O (Below F.heap.size F wb):=a4.o.trans (aJ.mono a4.o.size);have b7:O (Calls Tryz.prog 85 #[.func (.func 141) #[] c3] wb fun e m=>∃(v:Value)(R:List Uv),e=.returned v/\(bV R).Perm (bV l)/\dI eF (bV R)=true/\mT m wb.heap.size v R/\(∀x,x∈R->Bq wb.heap.size m x)/\Below wb.heap.size wb m):=SE 141 c3 l aN.2 wb (fun x d=>(aq.o x d).1.z a8.o) (fun x d=>(aq.o x d).2) be.o.2 bw;have b5:O (Below wa.heap.size wa wb):=aJ;clear bw aJ bj;go_wp2_with fail;refine Calls.mono b7.o ?_;rintro e H ⟨v9,C,rfl,bt,br,aT,bW,aC⟩;obtain⟨N,P,rfl⟩:=bR aT;have aD:=b5.o.trans (aC.mono b5.o.size);have bk:=a8.o.trans (aC.mono a8.o.size);have ad:O (mT H F.heap.size (.slice I i.length J) i/\∀x,x∈i->Bq F.heap.size H x):=⟨bO ar.o.1 aD,fun x d=>(ar.o.2 x d).z aD⟩;have ae:O (mT H F.heap.size (.slice N C.length P) C/\∀x,x∈C->Bq F.heap.size H x):=⟨gP aT a8.o.size,fun x d=>(bW x d).le a8.o.size⟩;have bc:O ((bV C).Perm (bV l)/\dI eF (bV C)=true):=⟨bt,br⟩;have am:O (Below M.heap.size M H):=ak.o.trans (bk.mono ak.o.size);(have c1:w.heap.size+2<F.heap.size:=by have h1:=ak.o.size;have h2:=cn.o;omega);clear bt br aT bW aC aD bk ar b7;have af:=HZ.o H am.o;(have dv:(H).cell? ⟨w.heap.size+2,0,none⟩=some (.slice none 0 0):=cH af);have dt:=bM af 0;(have ag:((H).setCell ⟨w.heap.size+2,0,none⟩ (.slice I i.length J)).heap[w.heap.size+2]?=some (.cells #[.slice I i.length J, .slice none 0 0] 29):=by rw[bD af];rfl);(have dw:((H).setCell ⟨w.heap.size+2,0,none⟩ (.slice I i.length J)).cell? ⟨w.heap.size+2,1,none⟩=some (.slice none 0 0):=cH ag);have du:=bM ag 1;(have b0:(((H).setCell ⟨w.heap.size+2,0,none⟩ (.slice I i.length J)).setCell ⟨w.heap.size+2,1,none⟩ (.slice N C.length P)).heap[w.heap.size+2]?=some (.cells #[.slice I i.length J, .slice N C.length P] 29):=by rw[bD ag];rfl);(have cD:(((H).setCell ⟨w.heap.size+2,0,none⟩ (.slice I i.length J)).setCell ⟨w.heap.size+2,1,none⟩ (.slice N C.length P)).cell? ⟨w.heap.size+2,0,none⟩=some (.slice I i.length J):=cH b0);(have cE:(((H).setCell ⟨w.heap.size+2,0,none⟩ (.slice I i.length J)).setCell ⟨w.heap.size+2,1,none⟩ (.slice N C.length P)).cell? ⟨w.heap.size+2,1,none⟩=some (.slice N C.length P):=cH b0);have sg:(H).grownBy (((H).setCell ⟨w.heap.size+2,0,none⟩ (.slice I i.length J)).setCell ⟨w.heap.size+2,1,none⟩ (.slice N C.length P)) (some (w.heap.size+2)):=(iN _ _ _ _).trans_row (iN _ _ _ _);have cg:O (Below w.heap.size w (((H).setCell ⟨w.heap.size+2,0,none⟩ (.slice I i.length J)).setCell ⟨w.heap.size+2,1,none⟩ (.slice N C.length P))):=(HT.o H am.o).grown sg (HT.o H am.o).size (fun j e=>by cases e;omega);have cd:O (iI (((H).setCell ⟨w.heap.size+2,0,none⟩ (.slice I i.length J)).setCell ⟨w.heap.size+2,1,none⟩ (.slice N C.length P)) (.slice I i.length J) i):=vE (ad.o.1.kept sg (.inr (fun e=>by have :=(ad.o.1.lt _ e).1;omega)));have ce:O (iI (((H).setCell ⟨w.heap.size+2,0,none⟩ (.slice I i.length J)).setCell ⟨w.heap.size+2,1,none⟩ (.slice N C.length P)) (.slice N C.length P) C):=vE (ae.o.1.kept sg (.inr (fun e=>by have :=(ae.o.1.lt _ e).1;omega)));have cf:O (∀x,x∈i++C->gM (((H).setCell ⟨w.heap.size+2,0,none⟩ (.slice I i.length J)).setCell ⟨w.heap.size+2,1,none⟩ (.slice N C.length P)) x):=fun x d=>by
   rcases cW.mp d with d|d
   ·exact((ad.o.2 x d).grown sg c1).ok
   exact((ae.o.2 x d).grown sg c1).ok
  (have cj:O (rP (gY (bV n++bV r) ⟨⟨D,E⟩,X,Y,Z⟩) (bV i) (bV C)):=by show rP _ _ _;rw[an.o];exact Eg ao.o (fun u=>by rw[bg.o];exact bb.o.1.mem_iff) (fun u=>by rw[bg.o];exact bc.o.1.mem_iff) bb.o.2 bc.o.2);clear ad ae af ag b0 sg;go_wp2_with fail;refine dP (v:=.tuple #[.agg #[.slice I i.length J, .slice N C.length P], .int .i64 0]) (by simp[results,Tryz.results51,go_sem,cD,cE]) rfl ?_;refine⟨_,_,i,C,by rw[a9.o],cd.o,ce.o,cf.o,fun _=>cj.o,fun h=>absurd a9.o h,cg.o⟩
end Go.Proofs.YtfljoehbbncooaaGreat
namespace Go.Proofs.YtfljoehbbncooaaGreat
open Go.RowKit
theorem aUW:Tryz.prog.cellsOf 42=5:=kR
theorem aDK:Tryz.prog.cellsOf 27=1:=kR
section
variable {H:Type} {enc:TypeId×Value->H} {w:World} {base:Nat} {spare:Nat->Bool} {held:Bool}
theorem Jc{M:Nat}{v:Value}{x:DataW H×List MemPlace}(h:DataW.trod enc Tryz.prog w base spare held M 27 [v]=some x):∃q,iI w v q/\q.length<=9223372036854775807/\∀x,x∈q->gM w x:=by
 obtain⟨G,l,cap,r,S,V,F⟩:=EE Tryz.underlying27 aUW dE uvZ (fun b j i=>TI w b j i/\gM w i) (fun n J y b j U c C=>by
  match J,U with
  |[W,X,Y,Z,v4],_=>
   obtain⟨u,k,p,N,P,Q,R⟩:=bE0 C;injection k with k;have K:W=.int .i64 u.id.a:=Option.some.inj (congrArg (fun a:Array Value=>a[0]?) k);have L:X=.int .i64 u.id.n:=Option.some.inj (congrArg (fun a:Array Value=>a[1]?) k)
   exact⟨⟨u,Y,Z,v4⟩,⟨by rw[<-K];exact c 0 dE,by rw[<-L];exact c 1 dE,c 2 dE,c 3 dE,c 4 dE⟩,⟨p,N,P,Q,R⟩⟩) h
 refine⟨l,⟨G,cap,r,⟨S,fun e=>?_⟩,?_⟩,V,fun f T=>?_⟩
 ·subst e;rcases Deep.open_slice Tryz.underlying27 h with⟨s,_⟩|⟨a,len,I,m,n,D,Pl,s,_⟩
  ·(have g:v=.slice none 0 0:=by simpa using s);rw[r]at g;injection g with _ _ C
  (have g:v=.slice (some a) len I:=by simpa using s);rw[r]at g;injection g with p;cases p
 ·rcases F with h|⟨b,j,E,c⟩
  ·exact .inl h
  exact .inr ⟨b,j,E,fun i d=>(c i d).1⟩
 obtain⟨i,d,rfl⟩:=tO T;rcases F with h|⟨b,j,E,c⟩
 ·rw[h]at d;simp at d
 have :=(c i d).2;simpa[List.getD,d]using this
end
section
variable {H:Type} {enc:TypeId×Value->H} {w:World} {base:Nat} {spare:Nat->Bool} {held:Bool}
theorem Mq{f e:TypeId}(ht:Tryz.prog.underlying f=some (.slice e))(p:0<Tryz.prog.bytesOf e){i:Nat}{a:Option Addr}{n c:Nat}{x:DataW H×List MemPlace}(h:DataW.trod enc Tryz.prog w base spare held i f [.slice a n c]=some x)
 (q:∀m,m∈x.1.weights Tryz.prog f->m<=reachBytes):n<=140737488351232:=by
 rcases Deep.open_slice ht h with⟨b,_⟩|⟨g,len,cap,m,K,D,s,b,E,G,I,J,r,F⟩
 ·(have d:(.slice a n c:Value)=.slice none 0 0:=by simpa using b);injection d with _ k _;omega
 (have d:(.slice a n c:Value)=.slice (some g) len cap:=by simpa using b);injection d with _ k _;have l:=q ((((List.range len).map D).length+((List.range (m-len)).map fun j=>D (len+j)).length)*Tryz.prog.bytesOf e) (by rw[r];simp[DataW.weights,ht]);rw[aY,PJ,aY,PJ]at l;have u:len<=(len+(m-len))*Tryz.prog.bytesOf e:=bP (Sy _ _) (Nat.le_mul_of_pos_right _ p);have C:reachBytes=140737488351232:=dE;omega
theorem Mh{c:Nat}{v:Value}{x:DataW H×List MemPlace}(h:DataW.trod enc Tryz.prog w base spare held c 27 [v]=some x)(e:∀m,m∈x.1.weights Tryz.prog 27->m<=reachBytes):∃q,iI w v q/\q.length<=140737488351232/\∀x,x∈q->gM w x:=by obtain⟨q,b,_,d⟩:=Jc h;obtain⟨f,cap,rfl,_⟩:=id b;exact⟨q,b,Mq Tryz.underlying27 (by decide+kernel) h e,d⟩
theorem aC0{t:TypeId}{b c:Field}{j:Nat}{f:List Value}{x:DataW H×List MemPlace}(ht:Tryz.prog.underlying t=some (.struct #[b,c]))(h:DataW.trod enc Tryz.prog w base spare held j t f=some x):
 ∃d e n,DataW.trod enc Tryz.prog w base spare held n b.type ((f.drop b.offset).take (Tryz.prog.cellsOf b.type))=some d/\(∀m,m∈d.1.weights Tryz.prog b.type->m∈x.1.weights Tryz.prog t)/\
  DataW.trod enc Tryz.prog w base spare held n c.type ((f.drop c.offset).take (Tryz.prog.cellsOf c.type))=some e/\(∀m,m∈e.1.weights Tryz.prog c.type->m∈x.1.weights Tryz.prog t):=by
 obtain⟨l,n,_,rfl,p,k,i⟩:=DataW.trod_struct ht h
 match l,k with
 |[d,e],_=>exact⟨d,e,n,by simpa using i 0 b rfl,(fun m g=>by simp[DataW.weights,ht,DataW.weightsEach,g]),by simpa using i 1 c rfl,(fun m g=>by simp[DataW.weights,ht,DataW.weightsEach,g])⟩
theorem aXC{l:Nat}{v0 v1:Value}{x:DataW H×List MemPlace}(h:DataW.trod enc Tryz.prog w base spare held l 29 [v0,v1]=some x)(i:∀m,m∈x.1.weights Tryz.prog 29->m<=reachBytes):
 ∃b d,iI w v0 b/\iI w v1 d/\(b.length<=140737488351232/\d.length<=140737488351232)/\∀x,x∈b++d->gM w x:=by
 obtain⟨D,E,n,f,j,g,k⟩:=aC0 Tryz.underlying29 h;simp[aDK]at f g;obtain⟨b,p,q,r⟩:=Mh f (fun m e=>i m (j m e));obtain⟨d,s,u,C⟩:=Mh g (fun m e=>i m (k m e));exact⟨b,d,p,s,⟨q,u⟩,fun x c=>by
  rcases cW.mp c with c|c
  ·exact r x c
  exact C x c⟩
end
section
variable {H:Type} {enc:TypeId×Value->H} {w:World} {base:Nat} {spare:Nat->Bool} {held:Bool}
theorem aSD{g e:TypeId}(ht:Tryz.prog.underlying g=some (.slice e)){k:Nat}{a:Option Addr}{n c:Nat}{x:DataW H×List MemPlace}(h:DataW.trod enc Tryz.prog w base spare held k g [.slice a n c]=some x)
 (p:∀m,m∈x.1.weights Tryz.prog g->m<=reachBytes):n*Tryz.prog.bytesOf e<=140737488351232:=by
 rcases Deep.open_slice ht h with⟨d,_⟩|⟨i,len,cap,m,J,D,r,d,C,F,G,I,q,E⟩
 ·(have f:(.slice a n c:Value)=.slice none 0 0:=by simpa using d);(have b:n=0:=by injection f);rw[b,BR];omega
 (have f:(.slice a n c:Value)=.slice (some i) len cap:=by simpa using d);(have b:n=len:=by injection f);have l:=p ((((List.range len).map D).length+((List.range (m-len)).map fun j=>D (len+j)).length)*Tryz.prog.bytesOf e) (by rw[q];simp[DataW.weights,ht]);rw[aY,PJ,aY,PJ]at l;have s:len*Tryz.prog.bytesOf e<=(len+(m-len))*Tryz.prog.bytesOf e:=Nat.mul_le_mul_right _ (Sy _ _);have u:reachBytes=140737488351232:=dE;rw[b];omega
theorem aXE{d:Nat}{v:Value}{x:DataW H×List MemPlace}(h:DataW.trod enc Tryz.prog w base spare held d 27 [v]=some x)(g:∀m,m∈x.1.weights Tryz.prog 27->m<=reachBytes):∃q,iI w v q/\q.length*88<=140737488351232/\∀x,x∈q->gM w x:=by obtain⟨q,b,_,e⟩:=Jc h;obtain⟨i,cap,rfl,_⟩:=id b;have c:=aSD Tryz.underlying27 h g;(have f:Tryz.prog.bytesOf 42=88:=by decide+kernel);rw[f]at c;exact⟨q,b,c,e⟩
end
def aP0(NB:Nat)(P:aQ->Bool)(w0:World)(q:List Fv):Prop:=
 ∀z x,Below w0.heap.size w0 z->x∈q->AK z x->Calls Tryz.prog 75 #[lT x.1.g x.2, .pointer (some ⟨NB,0,none⟩)] z fun e b=>e=.returned (.bool (P x.1))/\Below z.heap.size z b
theorem aQX{w w':World}{x:Fv}(h:AK w x)(b:Below w.heap.size w w'):AK w' x:=⟨bC h.1 b,h.2⟩
def CP(P:aQ->Bool)(q:List Fv):List Fv:=q.filter (fun x=> !P x.1)
theorem aEL{P:aQ->Bool}{q:List Fv}(h:∀x,x∈q->P x.1=false):CP P q=q:=YP.mpr fun x b=>by rw[h x b];rfl
theorem Zp(P:aQ->Bool)(q:List Fv)(x:Fv):CP P (q++[x])=if P x.1=true then CP P q else CP P q++[x]:=by unfold CP;rw[nN,rA];cases P x.1<;>simp
theorem aAR{q:List Fv}{k:Nat}{x:Fv}(h:q[k]?=some x):q.take (k+1)=q.take k++[x]:=by rw[gQ,h];rfl
theorem aRB(NB B g cap:Nat)(P:aQ->Bool)(q:List Fv)(w0 w:World)(G:Below w0.heap.size w0 w)(I:wS w B g cap q)(Y:q.length<=2097152)(H:∀x,x∈q->AK w x)(F:aP0 NB P w0 q):
 Calls Tryz.prog 118 #[.slice (some ⟨g,0,none⟩) q.length cap, .func (.func 75) #[] #[.pointer (some ⟨NB,0,none⟩)]] w fun e u=>((e=.returned (.int .i64 (-1))/\(∀x,x∈q->P x.1=false))\/∃k x,e=.returned (.int .i64 (k:Nat))/\q[k]?=some x/\P x.1=true/\∀y,y∈q.take k->P y.1=false)/\Below w.heap.size w u:=by
 have C:O (wS w B g cap q):=I;have D:O (∀x,x∈q->AK w x):=H;have J:O (aP0 NB P w0 q):=F;clear H F I
 go_enter Tryz.func118,Tryz.ntmps118
 go_wp2_with fail;go_loopw [8] (fun iv wr=>∃k:Nat,k<=q.length/\iv=.int .i64 k/\O (∀x,x∈q.take k->P x.1=false)/\Below w.heap.size w wr) (fun iv _=>q.length-(intOf iv).toNat);case atStart=>exact⟨0,bL _,rfl,fun x d=>absurd d sI,aG _ _⟩
 case round=>
  obtain⟨k,X,rfl,m,b⟩:=hrel;by_cases s:k<q.length
  ·obtain⟨x,d,l⟩:=DT s;obtain⟨c0,Q⟩:=(C.o.keep (b.block g C.o.lt.2)).cell d;have j:O (Calls Tryz.prog 75 #[lT x.1.g x.2, .pointer (some ⟨NB,0,none⟩)] wr fun e u=>e=.returned (.bool (P x.1))/\Below wr.heap.size wr u):=J.o wr x (G.trans (b.mono G.size)) l (aQX (D.o x l) b);have p:O (P x.1=false->∀y,y∈q.take (k+1)->P y.1=false):=fun h y i=>by
    rw[aAR d]at i;rcases cW.mp i with i|i
    ·exact m.o y i
    rw[cP.mp i];exact h
   (obtain⟨U,Z,V,E⟩:∃a n c,x.2=.slice a n c:=by obtain⟨⟨a,c,h,_⟩,_⟩:=D.o x l;exact⟨a,_,c,h⟩);have N:O (q[k]?=some x):=d;rw[E]at Q j;clear d l E;generalize S:x.1.g=xp at *;clear S;cases f:P x.1
   ·rw[f]at j;have M:O _:=p.o f;clear p f;go_wp2_with(go_at_call 75;refine Calls.mono j.o ?_;rintro e T ⟨rfl,r⟩);have R:=b.trans (r.mono b.size);go_roundw;(case rel=>exact⟨k+1,s,gN,M.o,R⟩);case measure=>exact mI
   rw[f]at j;have L:O (P x.1=true):=f;clear p f;go_wp2_with(go_at_call 75;refine Calls.mono j.o ?_;rintro e T ⟨rfl,r⟩);go_ret;exact⟨.inr ⟨k,x,rfl,N.o,L.o,m.o⟩,b.trans (r.mono b.size)⟩
  have W:decide (k<q.length)=false:=aF s;have K:O (∀x,x∈q->P x.1=false):=fun x d=>m.o x (by rw[dM oM];exact d);go_wp2_with fail;go_ret;exact⟨.inl ⟨rfl,K.o⟩,b⟩
theorem aD2{w w':World}{B e g k n:Nat}{v:Value}{xs d:List Value}(hr:w.ownsRow B 72 2 v n xs)(i:v.ownBlock=some g)(hg:w.grownBy w' (some g)){u:Value}(h:w.ownsRow e 3 1 u k d):w'.ownsRow e 3 1 u k d:=
 pY h fun b a c=>by have f:PP 0 w w' (·=3):=aW4 (i▸hg) hr dE;exact(f b a 3 _ rfl (bL _) c).trans c
structure DI (w0:World) (g cap:Nat) (q R:List Fv) (wr:World):Prop where
 row:wS wr w0.heap.size g cap R
 args:∀p,p∈q->wr.ownsRow w0.heap.size 3 1 p.2 p.1.args.length (p.1.args.map (Value.int .i64))
 sub:∀x,x∈R->x∈q
 len:R.length=q.length
 d:Below w0.heap.size w0 wr
theorem DI.z{w0:World}{g cap:Nat}{q R:List Fv}{wr c:World}(h:DI w0 g cap q R wr)(b:Below wr.heap.size wr c):DI w0 g cap q R c:=
 ⟨h.row.keep (b.block g h.row.lt.2),fun p e=>bO (h.args p e) b,h.sub,h.len,h.d.trans (b.mono h.d.size)⟩
theorem DI.put{w0:World}{g cap:Nat}{q R:List Fv}{wr:World}(h:DI w0 g cap q R wr)(i:Nat)(f:i<R.length)(y:Fv)(m:y∈q):DI w0 g cap q (R.set i y) ((wr.setCell ⟨g,i*2,none⟩ (.int .i64 y.1.g)).setCell ⟨g,i*2+1,none⟩ y.2):=by
 have c:wr.grownBy ((wr.setCell ⟨g,i*2,none⟩ (.int .i64 y.1.g)).setCell ⟨g,i*2+1,none⟩ y.2) (some g):=wI (zH _ _) (zH _ _);refine⟨h.row.put i f y,fun p j=>aD2 h.row rfl c (h.args p j),fun x l=>?_,by rw[iS];exact h.len,h.d.grown c h.d.size (fun k e=>by cases e;exact h.row.lt.1)⟩;rcases Dx l with b|b
 ·exact h.sub x b
 rw[b];exact m
theorem aLN(NB:Nat)(P:aQ->Bool)(s:List aQ)(v:Value)(w0 w:World)(Y:Below w0.heap.size w0 w)(aJ:pQ w0.heap.size w v s)(hl:s.length<=2097152)(hf:∀f,f∈s->gD f)
 (hC:∀z f vf,Below w0.heap.size w0 z->f∈s->eT z vf f.args->Calls Tryz.prog 75 #[lT f.g vf, .pointer (some ⟨NB,0,none⟩)] z fun e u=>e=.returned (.bool (P f))/\Below z.heap.size z u):
 Calls Tryz.prog 74 #[v, .func (.func 75) #[] #[.pointer (some ⟨NB,0,none⟩)]] w fun e u=>∃v',e=.returned v'/\pQ w0.heap.size u v' (s.filter (fun f=> !P f))/\Below w0.heap.size w0 u:=by
 obtain⟨q,rfl,L,X⟩:=aJ;rw[aY]at hl;have HC:O (aP0 NB P w0 q):=fun z x hz m aD=>hC z x.1 x.2 hz (cJ.mpr ⟨x,m,rfl⟩) aD.1;have a5:O (∀x,x∈q->gD x.1):=fun x m=>hf _ (cJ.mpr ⟨x,m,rfl⟩);(have HE:O ((q.map (·.1)).filter (fun f=> !P f)=(CP P q).map (·.1)):=by show _=_;unfold CP;rw[List.filter_map];rfl);rw[HE.o];have ad:O (∀x,x∈CP P q->x∈q):=fun x m=>(kG.mp m).1;clear hC hf HE;rcases lJ L with⟨rfl,h0⟩|⟨g,cap,rfl⟩
 ·have hq:q=[]:=dQ h0;subst hq;clear HC a5 L X h0 ad;have N:O (Calls Tryz.prog 118 #[.slice none 0 0, .func (.func 75) #[] #[.pointer (some ⟨NB,0,none⟩)]] w fun e u=>e=.returned (.int .i64 (-1))/\u=w):=by
   go_enter Tryz.func118,Tryz.ntmps118
   go_wp2_with fail;go_loopw [8] (fun iv wr=>wr=w/\iv=.int .i64 0) (fun _ _=>0);(case atStart=>exact⟨rfl,rfl⟩);case round=>obtain⟨rfl,rfl⟩:=hrel;go_wp2_with fail;go_ret;exact⟨rfl,rfl⟩
  go_enter Tryz.func74,Tryz.ntmps74
  go_wp2_with fail;refine Calls.mono N.o ?_;rintro e w1 ⟨rfl,rfl⟩;go_wp2_with fail;go_ret;exact⟨_,rfl,pQ.nil _ _,Y⟩
 (have aL:q.length<=cap:=by obtain⟨_,_,e9,D,_⟩:=xL L;injection e9 with _ _ e9;omega);have N:O (Calls Tryz.prog 118 #[.slice (some ⟨g,0,none⟩) q.length cap, .func (.func 75) #[] #[.pointer (some ⟨NB,0,none⟩)]] w fun e u=>((e=.returned (.int .i64 (-1))/\(∀x,x∈q->P x.1=false))\/∃k x,e=.returned (.int .i64 (k:Nat))/\q[k]?=some x/\P x.1=true/\∀y,y∈q.take k->P y.1=false)/\Below w.heap.size w u):=aRB NB w0.heap.size g cap P q w0 w Y L hl (fun x m=>⟨tY (X x m),a5.o x m⟩) HC.o;have S:O (DI w0 g cap q q w):=⟨L,X,fun _ h=>h,rfl,Y⟩;clear L X Y
 go_enter Tryz.func74,Tryz.ntmps74
 go_wp2_with fail;refine Calls.mono N.o ?_;rintro e w1 ⟨⟨rfl,aj⟩|⟨k,x,rfl,hk,ak,am⟩,Z⟩
 ·have HK:O (CP P q=q):=aEL aj;have a3:O (DI w0 g cap q q w1):=S.o.z Z;clear aj N S Z;go_wp2_with fail;go_ret;exact⟨_,rfl,⟨q,by rw[HK.o],a3.o.row,a3.o.args⟩,a3.o.d⟩
 have r:=S.o.z Z;have aT:k<q.length:=by
  rcases lP k q.length with h|h
  ·exact h
  rw[dK h]at hk;cases hk
 (have ae:O (q.take k=CP P (q.take (k+1))):=by show _=_;rw[aAR hk,Zp,if_pos ak,aEL am]);(have ax:((k:Int)== -1)=false:=by have :¬(k:Int)= -1:=oM;exact MS this);clear ak am N S Z hk;go_wp2_with fail;go_loopw [5,6] (fun iv jv wr=>∃(i j:Nat)(R:List Fv),i<j/\j<=q.length/\iv=.int .i64 i/\jv=.int .i64 j/\DI w0 g cap q R wr/\O (R.take i=CP P (q.take j))/\O (R.drop j=q.drop j)) (fun _ jv _=>q.length-(intOf jv).toNat);case atStart=>exact⟨k,k+1,q,oM,oM,rfl,gN,r,ae.o,rfl⟩
 case round=>
  clear r ae ax;obtain⟨i,j,R,aO,hj,rfl,rfl,b,J,a4⟩:=hrel;by_cases aC:j<q.length
  ·obtain⟨x,m,aa⟩:=DT aC;(have ai:R[j]?=some x:=by(have h1:R[j]?=q[j]?:=by have :=congrArg (fun l=>l[0]?) a4.o;simpa using this);rw[h1];exact m);(obtain⟨c0,c1⟩:=b.row.cell ai;have af:O (q.take (j+1)=q.take j++[x]):=aAR m;(have ab:O (R.drop (j+1)=q.drop (j+1)):=by show _=_;have :=congrArg (List.drop 1) a4.o;rw[Dv,Dv]at this;exact this);have U:O (CP P (q.take (j+1))=if P x.1=true then CP P (q.take j)else CP P (q.take j)++[x]):=by show _=_;rw[af.o,Zp]);have V:O (x∈q):=aa;have T:O (DI w0 g cap q R wr):=b;(obtain⟨E,G,F,W⟩:∃a n c,x.2=.slice a n c:=by obtain⟨a,c,h,_⟩:=xL (b.args x aa);exact⟨a,_,c,h⟩);(have av:O ((wr.alloc (.cells #[.int .i64 x.1.g, .slice E G F] 72)).heap[wr.heap.size]?=some (.cells #[.int .i64 x.1.g, .slice E G F] 72)):=iC wr _;have H:O (Below wr.heap.size wr (wr.alloc (.cells #[.int .i64 x.1.g, .slice E G F] 72))):=(aG _ _).alloc (aH _) _;have I:O (∀z,Below wr.heap.size wr z->Calls Tryz.prog 75 #[lT x.1.g (.slice E G F), .pointer (some ⟨NB,0,none⟩)] z fun e u=>e=.returned (.bool (P x.1))/\Below z.heap.size z u):=fun z hz=>by have h2:=T.o.z hz;have h3:=HC.o z x h2.d V.o ⟨tY (h2.args x V.o),a5.o x V.o⟩;rw[W]at h3;exact h3);have ag:O (x.2=.slice E G F):=W;rw[W]at c1;clear m aa ai af a4 W b;generalize an:x.1.g=Q at *;have aw:O (x.1.g=Q):=an;clear an;cases M:P x.1
   ·rw[M]at I;(have HT:O (CP P (q.take (j+1))=CP P (q.take j)++[x]):=by show _=_;rw[U.o,if_neg (by rw[M];decide)]);(clear U M;go_upto_region 9 with(go_at_call 75;refine Calls.mono (I.o _ H.o) ?_;rintro e C ⟨rfl,K⟩);have a9:=(K.block _ sI).trans av.o;(have k0:C.cell? ⟨wr.heap.size,0,none⟩=some (.int .i64 Q):=cH a9);(have k1:C.cell? ⟨wr.heap.size,1,none⟩=some (.slice E G F):=cH a9);have r:DI w0 g cap q R C:=T.o.z (H.o.trans (K.mono H.o.size));(have a0:i<R.length:=by rw[r.len];omega);obtain⟨y,hy,ao⟩:=DT a0;obtain⟨d0,ah⟩:=r.row.cell hy;obtain⟨a2,n2,f2,e2⟩:∃a n c,y.2=.slice a n c:=by obtain⟨a,c,h,_⟩:=xL (r.args y (r.sub y ao));exact⟨a,_,c,h⟩);(rw[e2]at ah;have b2:(C.setCell ⟨g,i*2,none⟩ (.int .i64 Q)).cell? ⟨g,i*2+1,none⟩=some (.slice a2 n2 f2):=(Dy C _ _ _ (fun e=>by injection e with _ e _;omega)).trans ah;have b0:C.frozen? ⟨g,i*2,none⟩=false:=World.ownsRow.frozenAt r.row _;(have b1:(C.setCell ⟨g,i*2,none⟩ (.int .i64 Q)).frozen? ⟨g,i*2+1,none⟩=false:=by rw[fW];exact World.ownsRow.frozenAt r.row _);(have HP:O (DI w0 g cap q (R.set i x) ((C.setCell ⟨g,i*2,none⟩ (.int .i64 Q)).setCell ⟨g,i*2+1,none⟩ (.slice E G F))):=by have D:=r.put i a0 x V.o;rw[aw.o,ag.o]at D;exact D);have a7:O ((R.set i x).take (i+1)=CP P (q.take (j+1))):=by show _=_;rw[HT.o,<-J.o,gQ,List.take_set_of_le (aH _),fU,if_pos rfl,if_pos a0];rfl);(have ar:O ((R.set i x).drop (j+1)=q.drop (j+1)):=by show _=_;rw[List.drop_set,if_pos oM];exact ab.o);clear r a0 hy ao e2 HT J T I a9 K ag;go_wp2_with fail;go_roundw;(case rel=>exact⟨i+1,j+1,R.set i x,oM,oM,gN,gN,HP.o,a7.o,ar.o⟩);case measure=>exact mI
   rw[M]at I;(have a7:O (R.take i=CP P (q.take (j+1))):=by show _=_;rw[U.o,if_pos M,J.o]);clear U M J;go_wp2_with(go_at_call 75;refine Calls.mono (I.o _ H.o) ?_;rintro e C ⟨rfl,K⟩);have aq:O (DI w0 g cap q R C):=T.o.z (H.o.trans (K.mono H.o.size));clear K I;go_roundw;(case rel=>exact⟨i,j+1,R,oM,oM,rfl,gN,aq.o,a7.o,ab.o⟩);case measure=>exact mI
  obtain rfl:j=q.length:=oM;obtain⟨w9,az,al,a8⟩:=aD8 wr w0.heap.size g cap R i b.row (by rw[b.len];omega);rw[b.len]at az;(have a6:O (R.take i=CP P q):=by show _=_;rw[J.o,nK]);(have au:O ((CP P q).length=i):=by show _=_;rw[<-a6.o,dV,b.len];omega);(have ac:O (pQ w0.heap.size w9 (.slice (some ⟨g,0,none⟩) i cap) ((CP P q).map (·.1))/\Below w0.heap.size w0 w9):=by refine⟨⟨CP P q,rfl,?_,fun p hp=>aD2 b.row rfl a8 (b.args p (ad.o p hp))⟩,b.d.grown a8 b.d.size (fun k e=>by cases e;exact b.row.lt.1)⟩;have D:=al;rw[a6.o]at D;have ay:=au.o;unfold wS at D;rw[ay]at D ⊢;exact D);clear al a8 J a6 b;have aR:i<=q.length:=oM;have aN:i<=cap:=oM;(have aS:decide (q.length<q.length)=false:=by simp);go_wp2_with fail;go_ret;exact⟨_,rfl,ac.o.1,ac.o.2⟩
def jQ:bK:=⟨[2,2],[[113],[112]],
 [⟨1,[⟨0,0⟩,⟨1,0⟩],0,[⟨1,0,0,[⟨0,0⟩,⟨1,0⟩]⟩],2⟩,
  ⟨1,[⟨0,0⟩,⟨2,0⟩],0,[⟨1,0,1,[⟨0,0⟩,⟨1,0⟩]⟩,⟨1,0,0,[⟨1,0⟩,⟨2,0⟩]⟩],3⟩]⟩
def qC(w:World):List Obj->World
 |[]=>w
 |o::os=>qC (w.alloc o) os
theorem PD:∀(b:List Obj)(w:World),Below w.heap.size w (qC w b):=by
 intro b
 induction b with
 |nil=>intro w;exact aG _ _
 |cons o b d=>
  intro w;have c:Below w.heap.size w (w.alloc o):=(aG _ _).alloc (aH _) o;exact c.trans ((d (w.alloc o)).mono c.size)
theorem Cq:∀(b:List Obj)(w:World)(k:Nat)(o:Obj),b[k]?=some o->(qC w b).heap[w.heap.size+k]?=some o:=by
 intro b
 induction b with
 |nil=>intro w k o h;simp at h
 |cons x b f=>
  intro w k o h
  cases k with
  |zero=>
   (have e:x=o:=by simpa using h);subst e;have c:=bA w x;exact((PD b (w.alloc x)).block _ (cV c)).trans c
  |succ k=>
   have :=f (w.alloc x) k o (by simpa using h);(have d:(w.alloc x).heap.size=w.heap.size+1:=by simp);rw[d]at this;rw[show w.heap.size+(k+1)=w.heap.size+1+k by omega];exact this
theorem zQ(b:List Obj)(w:World)(k:Nat)(c:Array Value)(t:Nat)(i:Nat)(v:Value)(h:b[k]?=some (.cells c t))(d:c[i]?=some v):
 (qC w b).cell? ⟨w.heap.size+k,i,none⟩=some v:=by
 rw[cM (Cq b w k _ h)];exact d
abbrev TJ(n k l:Nat):Value:=.slice (some ⟨n+k,0,none⟩) l l
abbrev tZ(i:Int):Value:=.int .i64 i
def tP(n:Nat):List Obj:=
 [.cells #[TJ n 4 2,TJ n 5 2,TJ n 13 2] 26,
  .cells #[tZ 0,tZ 0] 107, .cells #[tZ 1,tZ 0] 107, .cells #[tZ 2,tZ 0] 107,
  .cells #[tZ 2,tZ 2] 3,
  .cells #[.string ⟨#[113]⟩, .string ⟨#[112]⟩] 9,
  .cells #[tZ 0,tZ 0,tZ 1,tZ 0] 107,
  .cells #[tZ 0,tZ 0,tZ 1,tZ 0] 107,
  .cells #[tZ 1,tZ 0,tZ 0,TJ n 7 2] 109,
  .cells #[tZ 0,tZ 0,tZ 2,tZ 0] 107,
  .cells #[tZ 0,tZ 0,tZ 1,tZ 0] 107,
  .cells #[tZ 1,tZ 0,tZ 2,tZ 0] 107,
  .cells #[tZ 1,tZ 0,tZ 1,TJ n 10 2,tZ 1,tZ 0,tZ 0,TJ n 11 2] 109,
  .cells #[tZ 1,TJ n 6 2,tZ 0,TJ n 8 1,tZ 2,tZ 1,TJ n 9 2,tZ 0,TJ n 12 2,tZ 3] 97]
theorem JI(w:World)(c:List Obj)(k:Nat)(a b:Int)(h:c[k]?=some (.cells #[tZ a,tZ 0,tZ b,tZ 0] 107)):
 iX (qC w c) (TJ w.heap.size k 2) [⟨a,0⟩,⟨b,0⟩]:=by
 refine⟨_,_,rfl,aH _, .inr ⟨_,0,rfl,fun i d=>?_⟩⟩
 match i,d with
 |0,_=>exact⟨zQ c w k _ _ 0 _ h rfl,zQ c w k _ _ 1 _ h rfl⟩
 |1,_=>exact⟨zQ c w k _ _ 2 _ h rfl,zQ c w k _ _ 3 _ h rfl⟩
theorem aAO(w:World):nV (qC w (tP w.heap.size)) (TJ w.heap.size 4 2) (TJ w.heap.size 5 2) (TJ w.heap.size 13 2) jQ:=by
 have c:∀(k:Nat)(c:Array Value)(t i:Nat)(v:Value),(tP w.heap.size)[k]?=some (.cells c t)->c[i]?=some v->(qC w (tP w.heap.size)).cell? ⟨w.heap.size+k,i,none⟩=some v:=
  fun k c t i v=>zQ _ w k c t i v
 refine⟨?_,?_,?_⟩
 ·refine⟨_,_,rfl, .inr ⟨_,0,rfl,fun i b=>?_⟩⟩
  match i,b with
  |0,_=>exact c 4 _ _ 0 _ rfl rfl
  |1,_=>exact c 4 _ _ 1 _ rfl rfl
 ·refine⟨_,_,rfl, .inr ⟨_,0,rfl,fun i b=>?_⟩⟩
  match i,b with
  |0,_=>exact c 5 _ _ 0 _ rfl rfl
  |1,_=>exact c 5 _ _ 1 _ rfl rfl
 refine⟨_,_,rfl, .inr ⟨_,0,rfl,fun i b=>?_⟩⟩
 match i,b with
 |0,_=>
  refine⟨c 13 _ _ 0 _ rfl rfl,⟨_,c 13 _ _ 1 _ rfl rfl,JI w _ 6 0 1 rfl⟩,c 13 _ _ 2 _ rfl rfl,⟨_,c 13 _ _ 3 _ rfl rfl,?_⟩,c 13 _ _ 4 _ rfl rfl⟩;refine⟨_,_,rfl, .inr ⟨_,0,rfl,fun j d=>?_⟩⟩
  match j,d with
  |0,_=>exact⟨c 8 _ _ 0 _ rfl rfl,c 8 _ _ 1 _ rfl rfl,c 8 _ _ 2 _ rfl rfl,_,c 8 _ _ 3 _ rfl rfl,JI w _ 7 0 1 rfl⟩
 |1,_=>
  refine⟨c 13 _ _ 5 _ rfl rfl,⟨_,c 13 _ _ 6 _ rfl rfl,JI w _ 9 0 2 rfl⟩,c 13 _ _ 7 _ rfl rfl,⟨_,c 13 _ _ 8 _ rfl rfl,?_⟩,c 13 _ _ 9 _ rfl rfl⟩;refine⟨_,_,rfl, .inr ⟨_,0,rfl,fun j d=>?_⟩⟩
  match j,d with
  |0,_=>exact⟨c 12 _ _ 0 _ rfl rfl,c 12 _ _ 1 _ rfl rfl,c 12 _ _ 2 _ rfl rfl,_,c 12 _ _ 3 _ rfl rfl,JI w _ 10 0 1 rfl⟩
  |1,_=>exact⟨c 12 _ _ 4 _ rfl rfl,c 12 _ _ 5 _ rfl rfl,c 12 _ _ 6 _ rfl rfl,_,c 12 _ _ 7 _ rfl rfl,JI w _ 11 1 2 rfl⟩







abbrev bIF(r:lZ)(v u:Value):Obj:=.cells #[.int .i64 r.at_, .string ⟨r.name.toArray⟩,v, .int .i64 r.h,u] 197
abbrev bMI(r:cA)(v u:Value):Obj:=.cells #[.int .i64 r.g,v, .int .i64 r.h,u, .int .i64 r.vars] 97
abbrev bMH(x:cX)(v:Value):Obj:=.cells #[.int .i64 x.kind, .int .i64 x.op, .int .i64 x.g,v] 109
theorem Cz:lR jQ:=by
 refine⟨dE,dE,dE,fun i c=>?_⟩
 match i,c with
 |0,_=>
  refine⟨dE,dE,fun j b=>?_⟩
  match j,b with
  |0,_=>exact(by decide:(2:Nat)<=9223372036854775807)
 |1,_=>
  refine⟨dE,dE,fun j b=>?_⟩
  match j,b with
  |0,_=>exact(by decide:(2:Nat)<=9223372036854775807)
  |1,_=>exact(by decide:(2:Nat)<=9223372036854775807)
structure Cl (ZB:Nat) (yQ zQ:World):Prop where
 eq:∀b o v,b≠ZB->yQ.cell? ⟨b,o,none⟩=some v->zQ.cell? ⟨b,o,none⟩=some v
 no:∀o v,yQ.cell? ⟨ZB,o,none⟩=some v->∃a n c,v=.slice a n c
section
variable {ZB:Nat} {yQ zQ:World} (h:Cl ZB yQ zQ)
include h
theorem Cl.ni{b o:Nat}{d:IntKind}{i:Int}(c:yQ.cell? ⟨b,o,none⟩=some (.int d i)):b≠ZB:=by rintro rfl;obtain⟨_,_,_,e⟩:=h.no _ _ c;cases e
theorem Cl.ns{b o:Nat}{i:ByteArray}(c:yQ.cell? ⟨b,o,none⟩=some (.string i)):b≠ZB:=by rintro rfl;obtain⟨_,_,_,e⟩:=h.no _ _ c;cases e
theorem Cl.int{b o:Nat}{d:IntKind}{i:Int}(c:yQ.cell? ⟨b,o,none⟩=some (.int d i)):zQ.cell? ⟨b,o,none⟩=some (.int d i):=h.eq _ _ _ (h.ni c) c
theorem Cl.ints{v:Value}{l:List Int}(g:eT yQ v l):eT zQ v l:=by
 obtain⟨d,cap,rfl,c⟩:=g;refine⟨d,cap,rfl,?_⟩;rcases c with c|⟨b,j,rfl,e⟩
 ·exact .inl c
 exact .inr ⟨b,j,rfl,fun i f=>h.int (e i f)⟩
theorem Cl.strs{v:Value}{l:List (List UInt8)}(g:Xk yQ v l):Xk zQ v l:=by
 obtain⟨f,cap,rfl,c⟩:=g;refine⟨f,cap,rfl,?_⟩;rcases c with c|⟨b,j,rfl,d⟩
 ·exact .inl c
 exact .inr ⟨b,j,rfl,fun i e=>h.eq _ _ _ (h.ns (d i e)) (d i e)⟩
theorem Cl.v{v:Value}{l:List eE}(j:iX yQ v l):iX zQ v l:=by
 obtain⟨f,cap,rfl,g,c⟩:=j;refine⟨f,cap,rfl,g,?_⟩;rcases c with c|⟨b,k,rfl,d⟩
 ·exact .inl c
 exact .inr ⟨b,k,rfl,fun i e=>⟨h.int (d i e).1,h.int (d i e).2⟩⟩
theorem Cl.lits{v:Value}{l:List cX}(p:uA yQ v l):uA zQ v l:=by
 obtain⟨e,cap,rfl,c⟩:=p;refine⟨e,cap,rfl,?_⟩;rcases c with c|⟨b,q,rfl,m⟩
 ·exact .inl c
 refine .inr ⟨b,q,rfl,fun i n=>?_⟩;obtain⟨d,f,g,v,j,k⟩:=m i n;exact⟨h.int d,h.int f,h.int g,v,h.eq _ _ _ (h.ni d) j,h.v k⟩
theorem Cl.y{v:Value}{l:List cA}(r:EV yQ v l):EV zQ v l:=by
 obtain⟨e,cap,rfl,d⟩:=r;refine⟨e,cap,rfl,?_⟩;rcases d with d|⟨b,s,rfl,p⟩
 ·exact .inl d
 refine .inr ⟨b,s,rfl,fun i q=>?_⟩;obtain⟨c,⟨v,f,g⟩,j,⟨u,k,m⟩,n⟩:=p i q;exact⟨h.int c,⟨v,h.eq _ _ _ (h.ni c) f,h.v g⟩,h.int j,⟨u,h.eq _ _ _ (h.ni c) k,h.lits m⟩,h.int n⟩
theorem Cl.prog{va vn vr:Value}{p:bK}(b:nV yQ va vn vr p):nV zQ va vn vr p:=⟨h.ints b.ar,h.strs b.nm,h.y b.rl⟩
end
def Kn(w w':World):Prop:=∀b,(∃o n,w.cell? ⟨b,o,none⟩=some (.int .i64 n))->∀o v,w.cell? ⟨b,o,none⟩=some v->w'.cell? ⟨b,o,none⟩=some v
theorem Kn.trans{a b c:World}(h:Kn a b)(k:Kn b c):Kn a c:=fun i d o v e=>k i (by obtain⟨p,n,q⟩:=d;exact⟨p,n,h i ⟨p,n,q⟩ p _ q⟩) o v (h i d o v e)
theorem Kn.z{w w':World}(h:Below w.heap.size w w'):Kn w w':=fun _ _ _ _ e=>aB h e
theorem Kn.ints{w w':World}(k:Kn w w'){v:Value}{l:List Int}(h:eT w v l):eT w' v l:=by
 obtain⟨d,cap,rfl,h⟩:=h;refine⟨d,cap,rfl,?_⟩;rcases h with h|⟨b,e,rfl,h⟩
 ·exact .inl h
 exact .inr ⟨b,e,rfl,fun i c=>k _ ⟨_,_,h i c⟩ _ _ (h i c)⟩
theorem Kn.ids{w w':World}(k:Kn w w'){v:Value}{l:List fK}(h:uI w v l):uI w' v l:=by
 obtain⟨d,cap,rfl,e,h⟩:=h;refine⟨d,cap,rfl,e,?_⟩;rcases h with h|⟨b,f,rfl,h⟩
 ·exact .inl h
 exact .inr ⟨b,f,rfl,fun i c=>⟨k _ ⟨_,_,(h i c).1⟩ _ _ (h i c).1,k _ ⟨_,_,(h i c).1⟩ _ _ (h i c).2⟩⟩
theorem Kn.B{w w':World}(k:Kn w w'){b off:Nat}{f:aQ}(h:QP w b off f):QP w' b off f:=by obtain⟨c,u,d,e⟩:=h;exact⟨k _ ⟨_,_,c⟩ _ _ c,u,k _ ⟨_,_,c⟩ _ _ d,k.ints e⟩
theorem Kn.facts{w w':World}(k:Kn w w'){v:Value}{l:List aQ}(h:bS w v l):bS w' v l:=by
 obtain⟨c,cap,rfl,d,h⟩:=h;refine⟨c,cap,rfl,d,?_⟩;rcases h with h|⟨b,f,rfl,h⟩
 ·exact .inl h
 exact .inr ⟨b,f,rfl,fun i e=>k.B (h i e)⟩
theorem gM.kn{w w':World}{x:Uv}(h:gM w x)(k:Kn w w'):gM w' x:=⟨k.ids h.p,k.facts h.s,k.ids h.t,h.f,h.l⟩
theorem iI.kn{w w':World}{v:Value}{q:List Uv}(h:iI w v q)(k:Kn w w'):iI w' v q:=by
 obtain⟨d,cap,e,m,h⟩:=h;refine⟨d,cap,e,m,?_⟩;rcases h with h|⟨b,p,rfl,h⟩
 ·exact .inl h
 refine .inr ⟨b,p,rfl,fun i n=>?_⟩;obtain⟨c,f,g,j,l⟩:=h i n;exact⟨k _ ⟨_,_,c⟩ _ _ c,k _ ⟨_,_,c⟩ _ _ f,k _ ⟨_,_,c⟩ _ _ g,k _ ⟨_,_,c⟩ _ _ j,k _ ⟨_,_,c⟩ _ _ l⟩
def SR(z:World)(F:Nat)(u v:Value):World:=(z.setCell ⟨F,0,none⟩ u).setCell ⟨F,1,none⟩ v
theorem DB{z:World}{F:Nat}{x y u v:Value}{t:TypeId}(h:z.heap[F]?=some (.cells #[x,y] t)):(SR z F u v).heap[F]?=some (.cells #[u,v] t):=by unfold SR;(have b:(z.setCell ⟨F,0,none⟩ u).heap[F]?=some (.cells #[u,y] t):=by rw[bD h];rfl);rw[bD b];rfl
theorem CM{z:World}{F:Nat}{u v:Value}{b:Nat}(h:b≠F):(SR z F u v).heap[b]?=z.heap[b]?:=by unfold SR;rw[iG _ _ _ _ h,iG _ _ _ _ h]
theorem bB9{z:World}{F:Nat}{d f:Option Addr}{m g q i:Nat}{u v:Value}{t:TypeId}(h:z.heap[F]?=some (.cells #[.slice d m g, .slice f q i] t)):Kn z (SR z F u v):=fun b k o x e=>by
 have l:b≠F:=fun j=>by
  subst j;obtain⟨p,n,c⟩:=k;rw[cM h]at c
  match p with
  |0=>cases c
  |1=>cases c
  |_+2=>cases c
 rw[EC (CM l)];exact e
theorem aX6{w z:World}{F:Nat}(h:Below w.heap.size w z)(b:w.heap.size<=F)(u v:Value):Below w.heap.size w (SR z F u v):=(h.setCell (p:=⟨F,0,none⟩) b u).setCell (p:=⟨F,1,none⟩) b v
end Go.Proofs.YtfljoehbbncooaaGreat
namespace Go.Proofs.YtfljoehbbncooaaGreat
open Go.RowKit Go.Maps
theorem Zj:WideMaps.KeyLaw Tryz.prog 39:=deep_law_laid bA4 (m:=5) dE dE kR (by rw[Tryz.underlying39])
theorem aHU(w:World):(zeroValue 3).run Tryz.prog w=.ok (.int .i64 0) w:=kR
def NmD(L:List fK)(D:DataW Unit):Prop:=∀x,fR x=true->D.atKey (xB x) (.lit (.int .i64 0))=.lit (.int .i64 (L.count x))
def QW(w:World)(B:Nat)(L:List fK):Prop:=∃D:DataW Unit,w.ownsMap Tryz.prog 39 (plainElem Tryz.prog 3) B L.length D/\NmD L D
theorem QW.z{w w':World}{B:Nat}{L:List fK}(h:QW w B L)(j:Below w.heap.size w w'):QW w' B L:=by obtain⟨D,⟨d,c,b,e,f,g⟩,i⟩:=h;exact⟨D,⟨d,c,(j.block _ (aK.mp b).1).trans b,e,f,g⟩,i⟩
theorem aW8(w:World):QW (w.alloc (.map #[] 0)) w.heap.size []:=⟨_,Dp _ _ _ _,fun _ _=>rfl⟩
theorem QW.look{w:World}{B:Nat}{L:List fK}(h:QW w B L){x:fK}(b:fR x=true):(Instr.lookup 203 (.map (some B)) (rY x) false).run Tryz.prog w=.ok (.int .i64 (L.count x)) w:=by obtain⟨D,e,f⟩:=h;obtain⟨c,g,d,_⟩:=e.lookup_int PY Tryz.underlying203 Tryz.underlying3 (aHU w) (vJ b);rw[f x b]at d;(have :c=(L.count x:Int):=by simpa using d.symm);rw[<-this];exact g
theorem aAL(w:World)(b:Nat)(o o':Obj):ChangeMaps.setBlock (ChangeMaps.setBlock w b o) b o'=ChangeMaps.setBlock w b o':=by unfold ChangeMaps.setBlock;simp
theorem aCZ{w:World}{b:Nat}{o:Obj}(h:w.heap[b]?=some o):ChangeMaps.setBlock w b o=w:=by
 obtain⟨g,rfl⟩:=aK.mp h;have e:w.heap.setIfInBounds b w.heap[b]=w.heap:=by
  apply Array.ext sI;intro i d f;rw[Array.getElem_setIfInBounds];split
  ·rename_i c;subst c;rfl
  rfl
 show {w with heap:=w.heap.setIfInBounds b w.heap[b]}=w;rw[e]
theorem QW.inc{w:World}{B:Nat}{L:List fK}(h:QW w B L)(hl:L.length<=1000000){x:fK}(b:fR x=true):
 ∃(v0:Value)(r:Nat)(w1 I:World),(Instr.mapEntry 203 (.map (some B)) (rY x)).run Tryz.prog w=.ok (.tuple #[v0, .int .i64 r]) w1/\(Instr.lookup 203 (.map (some B)) (rY x) false).run Tryz.prog w1=.ok (.int .i64 (L.count x)) w1/\
  (Instr.entryStore 203 (.map (some B)) (.int .i64 r) (.int .i64 ((L.count x:Int)+1))).run Tryz.prog w1=.ok () I/\QW I B (L++[x])/\w.grownBy I (some B):=by
 have R:=h.look b;obtain⟨D,q,X⟩:=h;have P:=q.tidy PY;have a6:L.count x<=L.length:=List.count_le_length;obtain⟨g,l,k,F,hs,rfl⟩:=id q;obtain⟨v0,r,f,d,p,a7,a4⟩:=WideElems.entry_then_store Zj Tryz.underlying203 (z:=.int .i64 0) aHU k F (vJ b);have Y:(ChangeMaps.setBlock w B (.map f d)).heap[B]?=some (.map f d):=ChangeMaps.heap_setBlock_same k _;obtain⟨K,J,r3,r4⟩:=a4 (ChangeMaps.setBlock w B (.map f d)) (.int .i64 ((L.count x:Int)+1)) Y;obtain⟨H,U,q2,q3⟩:=q.update PY Tryz.underlying203 (by unfold maxLen;omega) (vJ b) (plainElem_int (a:=(L.count x:Int)+1) Tryz.underlying3 (WalkArith.wf_i64 oM));rw[r4]at U;(have a5:H=ChangeMaps.setBlock w B (.map K J):=by injection U with _ e;exact e.symm);(have a3:ChangeMaps.setBlock (ChangeMaps.setBlock w B (.map f d)) B (.map K J)=H:=by rw[a5,aAL]);have a1:(Instr.lookup 203 (.map (some B)) (rY x) false).run Tryz.prog (ChangeMaps.setBlock w B (.map f d))=.ok (.int .i64 (L.count x)) (ChangeMaps.setBlock w B (.map f d)):=by
  rcases Zj.find w (vJ b) g.toList F.keys with⟨n,E⟩|⟨j,s,n,E,M⟩
  ·
   (have G:(Instr.mapEntry 203 (.map (some B)) (rY x)).run Tryz.prog w=.ok (.tuple #[.int .i64 0,goInt l]) (ChangeMaps.setBlock w B (.map (g.push ⟨rY x, .int .i64 0,l⟩) (l+1))):=by simp[Instr.mapEntry,run_underlying Tryz.underlying203,MapKept.run_getObj_map k,Zj.check w false (vJ b),n,MapKept.run_setObj_map _ k,Result.andThen,ChangeMaps.setBlock]);(have m2:(Instr.mapUpdate 203 (.map (some B)) (rY x) (.int .i64 0)).run Tryz.prog w=.ok () (ChangeMaps.setBlock w B (.map (g.push ⟨rY x, .int .i64 0,l⟩) (l+1))):=by simp[Instr.mapUpdate,run_underlying Tryz.underlying203,MapKept.run_getObj_map k,Zj.check w false (vJ b),n,MapKept.run_setObj_map _ k,ChangeMaps.setBlock]);(rw[G]at p;(have u:ChangeMaps.setBlock w B (.map f d)=ChangeMaps.setBlock w B (.map (g.push ⟨rY x, .int .i64 0,l⟩) (l+1)):=by injection p with _ e;exact e.symm);obtain⟨V,T,p2,_⟩:=q.update PY Tryz.underlying203 (by unfold maxLen;omega) (vJ b) (plainElem_int (a:=0) Tryz.underlying3 dE);rw[m2]at T;(have C:V=ChangeMaps.setBlock w B (.map f d):=by rw[u];injection T with _ e;exact e.symm);rw[<-C];obtain⟨c,W,N,_⟩:=p2.lookup_int PY Tryz.underlying203 Tryz.underlying3 (aHU V) (vJ b);rw[atKey_put_same P.isMap (Mc _)]at N;(have Z:c=0:=by simpa using N.symm);have a0:(L.count x:Int)=0:=by have m:=R;(have l2:(Instr.lookup 203 (.map (some B)) (rY x) false).run Tryz.prog w=.ok (.int .i64 0) w:=by simp[Instr.lookup,run_underlying Tryz.underlying203,MapKept.run_getObj_map k,Zj.check w g.isEmpty (vJ b),n]);rw[l2]at m;injection m with m _;injection m with _ m;exact m.symm);rw[a0,<-Z];exact W
  ·
   (have hj:g[j]?=some s:=by simpa using E);have a2:g.modify j (fun e=>{e with key:=rY x})=g:=by
    apply Array.ext';rw[Array.toList_modify];apply kP;intro i;rw[List.getElem?_modify];by_cases Q:j=i
    ·subst Q;rw[E];simp[<-M]
    simp[Q]
   (have G:(Instr.mapEntry 203 (.map (some B)) (rY x)).run Tryz.prog w=.ok (.tuple #[s.val,goInt s.born]) (ChangeMaps.setBlock w B (.map g l)):=by simp[Instr.mapEntry,run_underlying Tryz.underlying203,MapKept.run_getObj_map k,Zj.check w false (vJ b),n,hj,M,Zj.stays w (vJ b),a2,MapKept.run_setObj_map _ k,Result.andThen,ChangeMaps.setBlock]);rw[G]at p;(have u:ChangeMaps.setBlock w B (.map f d)=w:=by(have e:ChangeMaps.setBlock w B (.map f d)=ChangeMaps.setBlock w B (.map g l):=by injection p with _ e;exact e.symm);rw[e,aCZ k]);rw[u];exact R
 refine⟨v0,r,ChangeMaps.setBlock w B (.map f d),H,p,a1,?_,?_,q3⟩
 ·rw[<-a3];exact r3
 refine⟨_,by rw[aV];exact q2,fun y S=>?_⟩;rw[List.count_append];by_cases e:y=x
 ·subst e;rw[atKey_put_same P.isMap (Mc _)];simp
 rw[atKey_put_other (fun C=>e (Cj S b C)),X y S];(have :List.count y [x]=0:=by rw[List.count_eq_zero];simp;exact e);rw[this];rfl
end Go.Proofs.YtfljoehbbncooaaGreat
namespace Go.Proofs.YtfljoehbbncooaaGreat
open Go.RowKit Go.Maps
theorem bBV{w:World}{B g cap n:Nat}{xs:List Value}{q:List Uv}(h:w.ownsRow B 42 5 (.slice (some ⟨g,0,none⟩) n cap) n xs)(D:q.length<=n)(p:∀j,j<q.length*5->xs[j]?=((q.map jC).flatten)[j]?):JV w B g cap q:=by
 obtain⟨x,c⟩:=h;rcases c with⟨c,_⟩|⟨u,s,d,r,f,m,C,i,k,l⟩
 ·cases c
 injection r with b _ e;injection b with b;injection b with b;subst b e;refine⟨FQ _, .inr ⟨g,cap,d,rfl,f,m,oM,i,k,?_⟩⟩;apply kP;intro t;rw[jA];by_cases ht:t<q.length*5
 ·rw[if_pos ht,<-p t ht,<-l,jA,if_pos oM]
 rw[if_neg ht,dK];rw[FQ];omega
theorem aQL(w:World)(B g cap:Nat)(q:List Uv)(k:Nat)(h:JV w B g cap q)(M:k<q.length):
 ∃n,(∀s,(Builtin.clear_ #[27] s #[.slice (some ⟨g,k*5,none⟩) (q.length-k) (cap-k)]).run Tryz.prog w=.ok (.tuple #[]) n)/\JV n B g cap (q.take k)/\w.grownBy n (some g):=by
 obtain⟨m,H⟩:∃m,q.length-k=m+1:=⟨q.length-k-1,oM⟩;obtain⟨c,i⟩:∃c,c=(Builtin.zeroCells (Value.agg #[.int .i64 0, .int .i64 0, .slice none 0 0, .slice none 0 0, .slice none 0 0]).cells (m+1)).toList:=⟨_,rfl⟩;(have G:c.length=(m+1)*5:=by rw[i];simp[Builtin.zeroCells,Value.cells]);have I:∀v∈c,v.oneCell'=true:=by
  intro v f;rw[i]at f;simp[Builtin.zeroCells,Value.cells]at f;obtain⟨a,L,rfl⟩:=f;have E:a% 5=0\/a% 5=1\/a% 5=2\/a% 5=3\/a% 5=4:=oM;rcases E with b|b|b|b|b
  ·simp[b];rfl
  ·simp[b];rfl
  ·simp[b];rfl
  ·simp[b];rfl
  simp[b];rfl
 have p:=run_storeCells_cells (P:=Tryz.prog) g (k*5) c 0 w (by
  intro j e;rw[G]at e;have F:=World.ownsRow.cellAt h (k*5+j) oM;obtain⟨x,r,l⟩:=aNQ q (k*5+j) oM;rw[BQ,F,l,aM (show(k*5+j)% 5<(jC x).length by show _<5;omega)]
  rfl) (by intro j _;exact World.ownsRow.frozenAt h _) I
 simp only[Nat.add_zero]at p;obtain⟨N,K,u,C,D⟩:=aMS c (k*5) w _ h;refine⟨w.setCells g (k*5) c,?_,bBV (q:=q.take k) C (by rw[dV];omega) (fun j e=>?_),D⟩
 ·intro s;have d:∀w,(zeroValue 42).run Tryz.prog w=.ok (.agg #[.int .i64 0, .int .i64 0, .slice none 0 0, .slice none 0 0, .slice none 0 0]) w:=fun w=>kR;rw[H];simp[Builtin.clear_,run_underlying Tryz.underlying27,d,<-i,p]
 rw[dV]at e;rw[u j oM];obtain⟨x,r,l⟩:=aNQ q j oM;obtain⟨z,d,J⟩:=aNQ (q.take k) j (by rw[dV];omega);rw[jA,if_pos oM,r]at d;(obtain rfl:x=z:=by simpa using d);rw[l,J]
theorem aRJ(B NB:Nat)(L:List fK)(x:Uv)(w w0:World)(k:QW w B L)(F:w.cell? ⟨NB,0,none⟩=some (.map (some B)))(m:gM w0 x)(l:fR x.u.id=true):
 Calls Tryz.prog 158 #[mA x, .pointer (some ⟨NB,0,none⟩)] w fun e G=>e=.returned (.bool (decide (0<L.count x.u.id)))/\Below w.heap.size w G:=by
 obtain⟨c,n,g,d,p,i,f,q,j,C,D,E⟩:=m.forms;obtain⟨⟨⟨r,s⟩,J,K,M⟩,N,P,Q⟩:=x;dsimp only at *;subst C D E;have b:O (Below w.heap.size w (w.alloc (.cells #[.int .i64 r, .int .i64 s, .slice c n g, .slice d p i, .slice f q j] 42))):=(aG _ _).alloc (aH _) _;have H:(w.alloc (.cells #[.int .i64 r, .int .i64 s, .slice c n g, .slice d p i, .slice f q j] 42)).cell? ⟨NB,0,none⟩=some (.map (some B)):=aB b.o F;have I:=(k.z b.o).look l;clear k m l
 go_enter Tryz.func158,Tryz.ntmps158
 go_wp2_with fail;go_ret;refine⟨?_,b.o⟩;simp
theorem aQ7(NB:Nat)(P:aX->Bool)(q:List Uv)(v:Value)(w:World)(T:iI w v q)(hl:q.length<=1000)(H:∀x,x∈q->gM w x)(G:∀z x,Below w.heap.size w z->x∈q->Calls Tryz.prog 158 #[mA x, .pointer (some ⟨NB,0,none⟩)] z fun e f=>e=.returned (.bool (P x.u))/\Below z.heap.size z f):
 Calls Tryz.prog 191 #[v, .func (.func 158) #[] #[.pointer (some ⟨NB,0,none⟩)]] w fun e f=>((e=.returned (.int .i64 (-1))/\(∀x,x∈q->P x.u=false))\/∃k:Nat,e=.returned (.int .i64 k)/\k<q.length/\P (jL q k).u=true/\∀x,x∈q.take k->P x.u=false)/\Below w.heap.size w f:=by
 obtain⟨S,cap,rfl,_,F⟩:=T;have J:O (xU w S q):=F;have M:O (∀x,x∈q->gM w x):=H;have K:O (∀z x,Below w.heap.size w z->x∈q->Calls Tryz.prog 158 #[mA x, .pointer (some ⟨NB,0,none⟩)] z fun e f=>e=.returned (.bool (P x.u))/\Below z.heap.size z f):=G;clear H G F
 go_enter Tryz.func191,Tryz.ntmps191
 go_wp2_with fail;go_loopw [8] (fun iv wr=>∃k:Nat,k<=q.length/\iv=.int .i64 k/\O (∀x,x∈q.take k->P x.u=false)/\Below w.heap.size w wr) (fun iv _=>q.length-(intOf iv).toNat);case atStart=>exact⟨0,bL _,rfl,fun x c=>absurd c sI,aG _ _⟩
 case round=>
  obtain⟨k,hk,rfl,m,d⟩:=hrel;by_cases i:k<q.length
  ·obtain⟨b,a4,rfl,c0,c1,c2,c3,c4⟩:=tS (J.o.kc (Kc.z d)) k i;have l:=mG q k i;have j:O (Calls Tryz.prog 158 #[mA (jL q k), .pointer (some ⟨NB,0,none⟩)] wr fun e f=>e=.returned (.bool (P (jL q k).u))/\Below wr.heap.size wr f):=K.o wr _ d l;have n:O (P (jL q k).u=false->∀x,x∈q.take (k+1)->P x.u=false):=fun h x c=>by
    rw[zB q k i]at c;rcases cW.mp c with c|c
    ·exact m.o x c
    rw[cP.mp c];exact h
   have r:O (∀b,P (jL q k).u=b->P (jL q k).u=b):=fun _ h=>h;obtain⟨a1,n1,d1,a2,n2,d2,a3,n3,d3,C,D,E⟩:=(M.o _ l).forms;have s:O (jL q k=jL q k):=rfl;cases g:P (jL q k).u
   ·rw[g]at j;have Q:O _:=n.o g;clear n r g s l;generalize jL q k=x at *;obtain⟨⟨⟨Y,Z⟩,V,W,X⟩,vp,vs,vt⟩:=x;dsimp only at *;subst C D E;go_wp2_with(go_at_call 158;refine Calls.mono j.o ?_;rintro e z1 ⟨rfl,p⟩);have U:=d.trans (p.mono d.size);go_roundw;(case rel=>exact⟨k+1,i,gN,Q.o,U⟩);case measure=>exact mI
   rw[g]at j;have N:O (P (jL q k).u=true):=g;clear n r g s l;generalize I:jL q k=x at *;have R:O (jL q k=x):=I;clear I;obtain⟨⟨⟨Y,Z⟩,V,W,X⟩,vp,vs,vt⟩:=x;dsimp only at *;subst C D E;go_wp2_with(go_at_call 158;refine Calls.mono j.o ?_;rintro e z1 ⟨rfl,p⟩);go_ret;exact⟨.inr ⟨k,rfl,i,by rw[R.o];exact N.o,m.o⟩,d.trans (p.mono d.size)⟩
  have a0:decide (k<q.length)=false:=aF i;have L:O (∀x,x∈q->P x.u=false):=fun x c=>m.o x (by rw[dM oM];exact c);go_wp2_with fail;go_ret;exact⟨.inl ⟨rfl,L.o⟩,d⟩
def xI(P:aX->Bool)(q:List Uv):List Uv:=q.filter (fun x=> !P x.u)
theorem aEM{P:aX->Bool}{q:List Uv}(h:∀x,x∈q->P x.u=false):xI P q=q:=YP.mpr fun x b=>by rw[h x b];rfl
theorem Zq(P:aX->Bool)(q:List Uv)(x:Uv):xI P (q++[x])=if P x.u=true then xI P q else xI P q++[x]:=by unfold xI;rw[nN];cases h:P x.u<;>simp[h]
theorem aW2(P:aX->Bool)(q:List Uv):(xI P q).length<=q.length:=nI _ _
end Go.Proofs.YtfljoehbbncooaaGreat
namespace Go.Proofs.YtfljoehbbncooaaGreat
open Go.RowKit Go.Maps
theorem aQO(NB:Nat)(P:aX->Bool)(q:List Uv)(v:Value)(w0 w:World)(L:Below w0.heap.size w0 w)(r:mT w w0.heap.size v q)(hl:q.length<=1000)(af:∀x,x∈q->gM w0 x)(hC:∀z x,Below w0.heap.size w0 z->x∈q->Calls Tryz.prog 158 #[mA x, .pointer (some ⟨NB,0,none⟩)] z fun e K=>e=.returned (.bool (P x.u))/\Below z.heap.size z K):
 Calls Tryz.prog 157 #[v, .func (.func 158) #[] #[.pointer (some ⟨NB,0,none⟩)]] w fun e K=>∃v',e=.returned v'/\mT K w0.heap.size v' (xI P q)/\Below w0.heap.size w0 K:=by
 have HI:O (Calls Tryz.prog 191 #[v, .func (.func 158) #[] #[.pointer (some ⟨NB,0,none⟩)]] w fun e K=>((e=.returned (.int .i64 (-1))/\(∀x,x∈q->P x.u=false))\/∃k:Nat,e=.returned (.int .i64 k)/\k<q.length/\P (jL q k).u=true/\∀x,x∈q.take k->P x.u=false)/\Below w.heap.size w K):=aQ7 NB P q v w (vE r) hl (fun x hx=>(af x hx).z L) (fun z x hz hx=>hC z x (L.trans (hz.mono L.size)) hx);have HO:O (∀x,x∈q->gM w0 x):=af;have HC:O (∀z x,Below w0.heap.size w0 z->x∈q->Calls Tryz.prog 158 #[mA x, .pointer (some ⟨NB,0,none⟩)] z fun e K=>e=.returned (.bool (P x.u))/\Below z.heap.size z K):=hC;obtain⟨av,cap,rfl⟩:=bR r;clear af hC
 go_enter Tryz.func157,Tryz.ntmps157
 go_wp2_with fail;refine Calls.mono HI.o ?_;rintro e w1 ⟨⟨rfl,ao⟩|⟨k,rfl,hk,aw,aC⟩,M⟩
 ·have HK:O (xI P q=q):=aEM ao;have ab:O (mT w1 w0.heap.size (.slice av q.length cap) q):=bO r M;have aJ:O (Below w0.heap.size w0 w1):=L.trans (M.mono L.size);clear ao r HI M L;go_wp2_with fail;go_ret;exact⟨_,rfl,by rw[HK.o];exact ab.o,aJ.o⟩
 obtain⟨g,rfl⟩:∃g,av=some ⟨g,0,none⟩:=by
  rcases lJ r with⟨_,h0⟩|⟨g,c,hv⟩
  ·omega
  injection hv with hv;exact⟨g,hv⟩
 (have b7:q.length<=cap:=by obtain⟨_,_,e9,I,_⟩:=xL r;injection e9 with _ _ e9;omega);(have ay:=bO r M;have aq:=L.trans (M.mono L.size);have ak:O (q.take k=xI P (q.take (k+1))):=by show _=_;rw[zB q k hk,Zq,if_pos aw,aEM aC]);(have b0:((k:Int)== -1)=false:=by have :¬(k:Int)= -1:=oM;exact MS this);have bc:=hk;clear aw aC HI r M L;go_wp2_with fail;go_loopw [5,6] (fun iv jv wr=>∃(i j:Nat)(R:List Uv),i<j/\j<=q.length/\iv=.int .i64 i/\jv=.int .i64 j/\R.length=q.length/\wr.ownsRow w0.heap.size 42 5 (.slice (some ⟨g,0,none⟩) q.length cap) q.length (R.map jC).flatten/\O (R.take i=xI P (q.take j))/\O (R.drop j=q.drop j)/\O (∀x,x∈R->x∈q)/\Below w0.heap.size w0 wr) (fun _ jv _=>q.length-(intOf jv).toNat);case atStart=>exact⟨k,k+1,q,oM,oM,rfl,gN,rfl,ay,ak.o,rfl,fun _ h=>h,aq⟩
 case round=>
  clear ay aq ak b0;obtain⟨i,j,R,b9,hj,rfl,rfl,an,r,Z,a8,aa,hb⟩:=hrel;have J:O (R.length=q.length):=an;have ar:w0.heap.size<=g:=(r.lt g rfl).1;clear an;(have r:JV wr w0.heap.size g cap R:=by unfold JV;rw[J.o];exact r);by_cases ae:j<q.length
  ·have a4:=aR2 r (m:=j) (by rw[J.o];exact ae);(have am:jL R j=jL q j:=by(have h1:R[j]?=q[j]?:=by have :=congrArg (fun l=>l[0]?) a8.o;simpa using this);unfold jL;rw[aI,aI,h1]);(rw[am]at a4;have a5:=mG q j ae;have b6:=HO.o _ a5;have al:O (q.take (j+1)=q.take j++[jL q j]):=zB q j ae;have Y:O (∀z,Below w0.heap.size w0 z->Calls Tryz.prog 158 #[mA (jL q j), .pointer (some ⟨NB,0,none⟩)] z fun e K=>e=.returned (.bool (P (jL q j).u))/\Below z.heap.size z K):=fun z hz=>HC.o z _ hz a5;(have ag:O (R.drop (j+1)=q.drop (j+1)):=by show _=_;have :=congrArg (List.drop 1) a8.o;rw[Dv,Dv]at this;exact this);have a2:O (xI P (q.take (j+1))=if P (jL q j).u=true then xI P (q.take j)else xI P (q.take j)++[jL q j]):=by show _=_;rw[al.o,Zq]);clear am al a8;have aR:O (jL q j∈q):=a5;clear a5;generalize jL q j=x at *;obtain⟨n,s,p,C,E,D,F,H,G,o1,o2,o3⟩:=b6.forms;obtain⟨⟨⟨b,f⟩,U,V,W⟩,vp,vs,vt⟩:=x;dsimp only at *;subst o1 o2 o3;obtain⟨c0,c1,c2,c3,c4⟩:=id a4;dsimp only at c0 c1 c2 c3 c4;have b5:=hb.size;have X:O (Below w0.heap.size w0 (wr.alloc (.cells #[.int .i64 b, .int .i64 f, .slice n s p, .slice C E D, .slice F H G] 42))):=hb.alloc b5 _;have a1:O (Below wr.heap.size wr (wr.alloc (.cells #[.int .i64 b, .int .i64 f, .slice n s p, .slice C E D, .slice F H G] 42))):=(aG _ _).alloc (aH _) _;have aS:O ((wr.alloc (.cells #[.int .i64 b, .int .i64 f, .slice n s p, .slice C E D, .slice F H G] 42)).heap[wr.heap.size]?=some (.cells #[.int .i64 b, .int .i64 f, .slice n s p, .slice C E D, .slice F H G] 42)):=iC wr _;cases a6:P ⟨⟨b,f⟩,U,V,W⟩
   ·
    rw[a6]at Y;have S:=a2.o;rw[a6]at S;go_upto_region 9 with(go_at_call 158;refine Calls.mono (Y.o _ X.o) ?_;rintro e d ⟨rfl,N⟩);have M:=a1.o.trans (N.mono a1.o.size);have ad:=X.o.trans (N.mono X.o.size);have a0:=(N.block _ sI).trans aS.o;(have k0:d.cell? ⟨wr.heap.size,0,none⟩=some (.int .i64 b):=cH a0);(have bd:d.cell? ⟨wr.heap.size,1,none⟩=some (.int .i64 f):=cH a0);(have be:d.cell? ⟨wr.heap.size,2,none⟩=some (.slice n s p):=cH a0);(have bf:d.cell? ⟨wr.heap.size,3,none⟩=some (.slice C E D):=cH a0);(have bg:d.cell? ⟨wr.heap.size,4,none⟩=some (.slice F H G):=cH a0);have Q:=bO r M;(have a3:i<R.length:=by rw[J.o];omega);have T:=aR2 Q (m:=i) a3;have aD:=HO.o _ (aa.o _ (mG R i a3));obtain⟨e1,l1,k1,e2,l2,k2,e3,l3,k3,y1,y2,y3⟩:=aD.forms;generalize jL R i=y at *;obtain⟨⟨⟨ya,yn⟩,bh,bs,bt⟩,bu,bv,bw⟩:=y;dsimp only at *;subst y1 y2 y3;dsimp only[TI]at T;(have bn:(d).cell? ⟨g,i*5,none⟩=some (.int .i64 ya):=by exact T.1);(have bi:(d).frozen? ⟨g,i*5,none⟩=false:=by exact World.ownsRow.frozenAt Q _);(have bo:((d).setCell ⟨g,i*5,none⟩ (.int .i64 b)).cell? ⟨g,i*5+1,none⟩=some (.int .i64 yn):=by rw[nH _ oM];exact T.2.1);(have bj:((d).setCell ⟨g,i*5,none⟩ (.int .i64 b)).frozen? ⟨g,i*5+1,none⟩=false:=by rw[fW];exact World.ownsRow.frozenAt Q _);(have bp:(((d).setCell ⟨g,i*5,none⟩ (.int .i64 b)).setCell ⟨g,i*5+1,none⟩ (.int .i64 f)).cell? ⟨g,i*5+2,none⟩=some (.slice e1 l1 k1):=by rw[nH _ oM];rw[nH _ oM];exact T.2.2.1);(have bk:(((d).setCell ⟨g,i*5,none⟩ (.int .i64 b)).setCell ⟨g,i*5+1,none⟩ (.int .i64 f)).frozen? ⟨g,i*5+2,none⟩=false:=by rw[fW];rw[fW];exact World.ownsRow.frozenAt Q _);(have bq:((((d).setCell ⟨g,i*5,none⟩ (.int .i64 b)).setCell ⟨g,i*5+1,none⟩ (.int .i64 f)).setCell ⟨g,i*5+2,none⟩ (.slice n s p)).cell? ⟨g,i*5+3,none⟩=some (.slice e2 l2 k2):=by rw[nH _ oM];rw[nH _ oM];rw[nH _ oM];exact T.2.2.2.1);(have bl:((((d).setCell ⟨g,i*5,none⟩ (.int .i64 b)).setCell ⟨g,i*5+1,none⟩ (.int .i64 f)).setCell ⟨g,i*5+2,none⟩ (.slice n s p)).frozen? ⟨g,i*5+3,none⟩=false:=by rw[fW];rw[fW];rw[fW];exact World.ownsRow.frozenAt Q _);(have br:(((((d).setCell ⟨g,i*5,none⟩ (.int .i64 b)).setCell ⟨g,i*5+1,none⟩ (.int .i64 f)).setCell ⟨g,i*5+2,none⟩ (.slice n s p)).setCell ⟨g,i*5+3,none⟩ (.slice C E D)).cell? ⟨g,i*5+4,none⟩=some (.slice e3 l3 k3):=by rw[nH _ oM];rw[nH _ oM];rw[nH _ oM];rw[nH _ oM];exact T.2.2.2.2);(have bm:(((((d).setCell ⟨g,i*5,none⟩ (.int .i64 b)).setCell ⟨g,i*5+1,none⟩ (.int .i64 f)).setCell ⟨g,i*5+2,none⟩ (.slice n s p)).setCell ⟨g,i*5+3,none⟩ (.slice C E D)).frozen? ⟨g,i*5+4,none⟩=false:=by rw[fW];rw[fW];rw[fW];rw[fW];exact World.ownsRow.frozenAt Q _);(have ax:JV ((((((d).setCell ⟨g,i*5,none⟩ (.int .i64 b)).setCell ⟨g,i*5+1,none⟩ (.int .i64 f)).setCell ⟨g,i*5+2,none⟩ (.slice n s p)).setCell ⟨g,i*5+3,none⟩ (.slice C E D)).setCell ⟨g,i*5+4,none⟩ (.slice F H G)) w0.heap.size g cap (R.set i ⟨⟨⟨b,f⟩,U,V,W⟩, .slice n s p, .slice C E D, .slice F H G⟩):=by unfold JV;rw[iS,Lq R i _ a3];exact(World.ownsRow.stored (World.ownsRow.stored (World.ownsRow.stored (World.ownsRow.stored (World.ownsRow.stored Q (i*5) _).1 (i*5+1) _).1 (i*5+2) _).1 (i*5+3) _).1 (i*5+4) _).1);(have aN:O (d.grownBy ((((((d).setCell ⟨g,i*5,none⟩ (.int .i64 b)).setCell ⟨g,i*5+1,none⟩ (.int .i64 f)).setCell ⟨g,i*5+2,none⟩ (.slice n s p)).setCell ⟨g,i*5+3,none⟩ (.slice C E D)).setCell ⟨g,i*5+4,none⟩ (.slice F H G)) (some g)):=((((iN d _ _ _).trans_row (iN _ _ _ _)).trans_row (iN _ _ _ _)).trans_row (iN _ _ _ _)).trans_row (iN _ _ _ _);have a7:O (Below w0.heap.size w0 ((((((d).setCell ⟨g,i*5,none⟩ (.int .i64 b)).setCell ⟨g,i*5+1,none⟩ (.int .i64 f)).setCell ⟨g,i*5+2,none⟩ (.slice n s p)).setCell ⟨g,i*5+3,none⟩ (.slice C E D)).setCell ⟨g,i*5+4,none⟩ (.slice F H G))):=ad.grown aN.o ad.size (fun k e=>by cases e;exact ar);have aT:O (((((((d).setCell ⟨g,i*5,none⟩ (.int .i64 b)).setCell ⟨g,i*5+1,none⟩ (.int .i64 f)).setCell ⟨g,i*5+2,none⟩ (.slice n s p)).setCell ⟨g,i*5+3,none⟩ (.slice C E D)).setCell ⟨g,i*5+4,none⟩ (.slice F H G)).ownsRow w0.heap.size 42 5 (.slice (some ⟨g,0,none⟩) q.length cap) q.length ((R.set i ⟨⟨⟨b,f⟩,U,V,W⟩, .slice n s p, .slice C E D, .slice F H G⟩).map jC).flatten):=by have I:=ax;unfold JV at I;rw[iS,J.o]at I;exact I);((have ac:O ((R.set i ⟨⟨⟨b,f⟩,U,V,W⟩, .slice n s p, .slice C E D, .slice F H G⟩).take (i+1)=xI P (q.take (j+1))):=by show _=_;rw[S];simp only[Bool.false_eq_true,if_false];rw[<-Z.o,gQ,List.take_set_of_le (aH _),fU,if_pos rfl,if_pos a3];rfl);have aL:O ((R.set i ⟨⟨⟨b,f⟩,U,V,W⟩, .slice n s p, .slice C E D, .slice F H G⟩).drop (j+1)=q.drop (j+1)):=by show _=_;rw[List.drop_set,if_pos oM];exact ag.o);have aO:O (∀x,x∈R.set i ⟨⟨⟨b,f⟩,U,V,W⟩, .slice n s p, .slice C E D, .slice F H G⟩->x∈q):=fun x hx=>by
     rcases Dx hx with h|h
     ·exact aa.o x h
     rw[h];exact aR.o
    clear r hb Q ax a4 T Z a2 S Y a0 aD N M ad c0 c1 c2 c3 c4;go_wp2_with fail;go_roundw;(case rel=>exact⟨i+1,j+1,R.set i ⟨⟨⟨b,f⟩,U,V,W⟩, .slice n s p, .slice C E D, .slice F H G⟩,oM,oM,gN,gN,by rw[iS];exact J.o,aT.o,ac.o,aL.o,aO.o,a7.o⟩);case measure=>exact mI
   rw[a6]at Y;have S:=a2.o;rw[a6]at S;(have ac:O (R.take i=xI P (q.take (j+1))):=by show _=_;rw[S,Z.o];rfl);(have aj:O (∀z,Below wr.heap.size wr z->z.ownsRow w0.heap.size 42 5 (.slice (some ⟨g,0,none⟩) q.length cap) q.length (R.map jC).flatten):=fun z hz=>by have I:=bO r hz;rw[J.o]at I;exact I);clear a2 S Z a4 r;go_wp2_with(go_at_call 158;refine Calls.mono (Y.o _ X.o) ?_;rintro e d ⟨rfl,N⟩);have ab:O _:=aj.o d (a1.o.trans (N.mono a1.o.size));have a7:O (Below w0.heap.size w0 d):=X.o.trans (N.mono X.o.size);clear aj N Y;go_roundw;(case rel=>exact⟨i,j+1,R,oM,oM,rfl,gN,J.o,ab.o,ac.o,ag.o,aa.o,a7.o⟩);case measure=>exact mI
  obtain rfl:j=q.length:=oM;obtain⟨w9,b4,az,au⟩:=aQL wr w0.heap.size g cap R i r (by rw[J.o];omega);rw[J.o]at b4;(have a9:O (R.take i=xI P q):=by show _=_;rw[Z.o,nK]);(have ai:O ((xI P q).length=i):=by show _=_;rw[<-a9.o,dV,J.o];omega);(have ah:O (mT w9 w0.heap.size (.slice (some ⟨g,0,none⟩) i cap) (xI P q)/\Below w0.heap.size w0 w9):=by refine⟨?_,hb.grown au hb.size (fun k e=>by cases e;exact ar)⟩;have I:=az;unfold JV at I;rw[a9.o,ai.o]at I;show World.ownsRow _ _ _ _ _ _ _;rw[ai.o];exact I);clear r az au Z a9 hb;have ba:i<=q.length:=oM;have b8:i<=cap:=oM;(have bb:decide (q.length<q.length)=false:=by simp);go_wp2_with fail;go_ret;exact⟨_,rfl,ah.o.1,ah.o.2⟩
end Go.Proofs.YtfljoehbbncooaaGreat
namespace Go.Proofs.YtfljoehbbncooaaGreat
open Go.RowKit Go.Maps
theorem Ih{α β:Type}(f:α->List β)(q:List α)(k:Nat)(x:α)(h:q.take (k+1)=q.take k++[x]):(q.take (k+1)).flatMap f=(q.take k).flatMap f++f x:=by rw[h,tN];simp
theorem bA6{l:List fK}{k:Nat}(b:k<l.length):l.take (k+1)=l.take k++[GS l k]:=by rw[nE b];simp[GS,List.getD_eq_getElem?_getD,b]
theorem aWH{q:List Uv}{f:Uv->List fK}(h:∀x,x∈q->(f x).length<=6):∀k,((q.take k).flatMap f).length<=k*6:=by
 intro k
 induction k with
 |zero=>simp
 |succ k c=>
  by_cases b:k<q.length
  ·rw[Ih f q k _ (zB q k b),aV];have :=h _ (mG q k b);omega
  (have e:q.take (k+1)=q.take k:=by rw[dM oM,dM oM]);rw[e];omega
theorem aRK(x:Uv)(w w0:World)(b:gM w0 x):Calls Tryz.prog 117 #[mA x] w fun e C=>e=.returned x.t/\Below w.heap.size w C:=by
 obtain⟨d,p,i,f,q,j,g,r,k,l,m,n⟩:=b.forms;obtain⟨⟨⟨s,u⟩,D,E,F⟩,G,H,I⟩:=x;dsimp only at *;subst l m n;have c:O (Below w.heap.size w (w.alloc (.cells #[.int .i64 s, .int .i64 u, .slice d p i, .slice f q j, .slice g r k] 42))):=(aG _ _).alloc (aH _) _;clear b
 go_enter Tryz.func117,Tryz.ntmps117
 go_wp2_with fail;go_ret;exact⟨rfl,c.o⟩
theorem aIV(q:List Uv)(v:Value)(w:World)(hV:iI w v q)(hl:q.length<=1000)(ak:∀x,x∈q->gM w x)(V:∀x,x∈q->TZ x.u):
 Calls Tryz.prog 116 #[v, .func (.func 117) #[] #[]] w fun e n=>∃s,e=.returned s/\mT n w.heap.size s (xI (fun u=>decide (0<(q.flatMap (fun x=>x.u.ts)).count u.id)) q)/\Below w.heap.size w n:=by
 have G:O (∀x,x∈q->gM w x/\TZ x.u):=fun x i=>⟨ak x i,V x i⟩;have HV:O (iI w v q):=hV;have ax:O (∀k,((q.take k).flatMap (fun x=>x.u.ts)).length<=k*6):=aWH (fun x i=>(V x i).lt);obtain⟨ao,cap,rfl,_,hA⟩:=hV;have HA:O (xU w ao q):=hA;clear ak V hA;have b0:=@run_makeMap Tryz.prog;have af:Below w.heap.size w ((w.alloc (.map #[] 0)).alloc (.cells #[.map (some w.heap.size)] 203)):=((aG _ _).alloc (aH _) _).alloc sI _;(have b1:((w.alloc (.map #[] 0)).alloc (.cells #[.map (some w.heap.size)] 203)).heap.size=w.heap.size+2:=by simp);(have am:((w.alloc (.map #[] 0)).alloc (.cells #[.map (some w.heap.size)] 203)).heap[w.heap.size+1]?=some (.cells #[.map (some w.heap.size)] 203):=by have :=iC (w.alloc (.map #[] 0)) (.cells #[.map (some w.heap.size)] 203);rw[qB]at this;exact this);have ai:QW ((w.alloc (.map #[] 0)).alloc (.cells #[.map (some w.heap.size)] 203)) w.heap.size []:=(aW8 w).z ((aG _ _).alloc (aH _) _)
 go_enter Tryz.func116,Tryz.ntmps116
 go_upto_region 2 with fail;generalize (w.alloc (.map #[] 0)).alloc (.cells #[.map (some w.heap.size)] 203)=w2 at *;go_wp2_with fail;clear b0;go_loopw [13] (fun iv wr=>∃k:Nat,k<=q.length/\iv=.int .i64 k/\O (QW wr w.heap.size ((q.take k).flatMap (fun x=>x.u.ts)))/\O (wr.heap[w.heap.size+1]?=some (.cells #[.map (some w.heap.size)] 203))/\Below w.heap.size w wr) (fun iv _=>q.length-(intOf iv).toNat);case atStart=>exact⟨0,bL _,rfl,ai,am,af⟩
 case round=>
  clear ai am af b1;obtain⟨k,hk,rfl,p,l,c⟩:=hrel;by_cases H:k<q.length
  ·obtain⟨b,bc,rfl,c0,L,c2,c3,c4⟩:=tS (HA.o.kc (Kc.z c)) k H;have ah:=mG q k H;have D:=G.o _ ah;have ar:O ((q.take (k+1)).flatMap (fun x=>x.u.ts)=(q.take k).flatMap (fun x=>x.u.ts)++(jL q k).u.ts):=Ih (fun x:Uv=>x.u.ts) q k _ (zB q k H);have b7:=ax.o k;generalize (q.take k).flatMap (fun x=>x.u.ts)=F at *;have aa:O (∀z,Calls Tryz.prog 117 #[mA (jL q k)] z fun e n=>e=.returned (jL q k).t/\Below z.heap.size z n):=fun z=>aRK _ z w D.1;have aw:O (uI w (jL q k).t (jL q k).u.ts):=D.1.t;have av:O (∀y,y∈(jL q k).u.ts->fR y=true):=D.2.ts;have b6:(jL q k).u.ts.length<=6:=D.2.lt;obtain⟨a1,n1,d1,a2,n2,d2,a3,n3,d3,e1,e2,e3⟩:=D.1.forms;obtain⟨ia,ic,aN,_,_⟩:=D.1.t;clear D ah;generalize jL q k=x at *;obtain⟨⟨⟨ua,un⟩,ps,be,d⟩,vp,vs,vt⟩:=x;dsimp only at *;subst e1 e2 e3;injection aN with aO aR aS;subst aO aR aS;have Q:O (Below wr.heap.size wr (wr.alloc (.cells #[.int .i64 ua, .int .i64 un, .slice a1 n1 d1, .slice a2 n2 d2, .slice a3 d.length d3] 42))):=(aG _ _).alloc (aH _) _;go_upto_region 6 with(go_at_call 117;refine Calls.mono (aa.o _) ?_;rintro e w3 ⟨rfl,ac⟩);have M:=Q.o.trans (ac.mono Q.o.size);have ag:=c.trans (M.mono c.size);have a6:O (QW w3 w.heap.size F):=p.o.z M;have ab:O (w3.heap[w.heap.size+1]?=some (.cells #[.map (some w.heap.size)] 203)):=(M.block _ (aK.1 l.o).1).trans l.o;clear p l c0 L c2 c3 c4 Q ac M c aa;go_loopw [21] (fun iv wr=>∃m:Nat,m<=d.length/\iv=.int .i64 m/\O (QW wr w.heap.size (F++d.take m))/\O (wr.heap[w.heap.size+1]?=some (.cells #[.map (some w.heap.size)] 203))/\Below w.heap.size w wr) (fun iv _=>d.length-(intOf iv).toNat);case atStart=>exact⟨0,bL _,rfl,by rw[List.take_zero,iZ];exact a6.o,ab.o,ag⟩
   case round=>
    clear a6 ab ag;obtain⟨m,hm,rfl,p,l,c⟩:=hrel;by_cases I:m<d.length
    ·obtain⟨_,_,e9,_,aJ⟩:=iO aw.o c;cases e9;obtain⟨b9,bd,rfl,c0,L⟩:=FM aJ m I;have an:=av.o (GS d m) (by simp[GS,I]);(have aC:O (F++d.take (m+1)=(F++d.take m)++[GS d m]):=by show _=_;rw[bA6 I,fM]);((have aT:(F++d.take m).length<=1000000:=by rw[aV,dV];omega);generalize F++d.take m=r at *;generalize GS d m=y at *;obtain⟨f,g⟩:=y;dsimp only at c0 L;have U:Below wr.heap.size wr (wr.alloc (.cells #[.int .i64 f, .int .i64 g] 39)):=(aG _ _).alloc (aH _) _;have al:=c.size;have R:O (Below w.heap.size w (wr.alloc (.cells #[.int .i64 f, .int .i64 g] 39))):=c.alloc al _;have a9:O (QW (wr.alloc (.cells #[.int .i64 f, .int .i64 g] 39)) w.heap.size r):=p.o.z U;have K:O ((wr.alloc (.cells #[.int .i64 f, .int .i64 g] 39)).heap[w.heap.size+1]?=some (.cells #[.map (some w.heap.size)] 203)):=(U.block _ (aK.1 l.o).1).trans l.o;have T:O ((wr.alloc (.cells #[.int .i64 f, .int .i64 g] 39)).heap[wr.heap.size]?=some (.cells #[.int .i64 f, .int .i64 g] 39)):=iC wr _;go_upto_region 8 with fail;generalize wr.heap.size=yb at *;generalize wr.alloc (.cells #[.int .i64 f, .int .i64 g] 39)=E at *;clear c0 L p l c U al;have W:QW E.drew w.heap.size r:=a9.o.z ⟨rfl,rfl,rfl,aH _,fun _ _=>rfl⟩;have b8:=W.look an;obtain⟨v0,st,w5,Z,b5,ba,bb,aj,C⟩:=W.inc aT an;(have d0:E.drew.cell? ⟨w.heap.size+1,0,none⟩=some (.map (some w.heap.size)):=by show E.cell? _=_;rw[cM K.o];rfl);(have b2:E.drew.cell? ⟨yb,0,none⟩=some (.int .i64 f):=by show E.cell? _=_;rw[cM T.o];rfl);(have b3:E.drew.cell? ⟨yb,1,none⟩=some (.int .i64 g):=by show E.cell? _=_;rw[cM T.o];rfl);have ay:O (QW Z w.heap.size (r++[⟨f,g⟩])):=aj;have au:O (Below w.heap.size w Z):=R.o.grown ⟨C.os,C.tape,C.output,C.size,C.block⟩ R.o.size (fun j e=>by cases e;exact aH _);have aD:O (Z.heap[w.heap.size+1]?=some (.cells #[.map (some w.heap.size)] 203)):=(C.block _ (aK.1 K.o).1 (fun e=>by injection e;omega)).trans K.o;have b4:IntKind.i64.wrap ((r.count ⟨f,g⟩:Int)+1)=(r.count ⟨f,g⟩:Int)+1:=by have :r.count ⟨f,g⟩<=r.length:=List.count_le_length;simp[IntKind.wrap,IntKind.bits,IntKind.signed];omega);clear W aj C a9 R K T;generalize (r.count ⟨f,g⟩:Int)=cc at *;go_region
     all_goals (
      go_wp2_with fail;go_roundw;case rel=>exact⟨m+1,I,gN,by rw[aC.o];exact ay.o,aD.o,au.o⟩
      case measure=>exact mI)
    have aL:decide (m<d.length)=false:=aF I;obtain rfl:m=d.length:=oM;(have S:O (QW wr w.heap.size ((q.take (k+1)).flatMap (fun x=>x.u.ts))):=by have h9:=p.o;rw[nK,<-ar.o]at h9;exact h9);clear p;go_wp2_with fail;go_roundw;(case rel=>exact⟨k+1,H,gN,S.o,l.o,c⟩);case measure=>exact mI
  have aL:decide (k<q.length)=false:=aF H;obtain rfl:k=q.length:=oM;have X:=p.o;rw[nK]at X;have S:O (QW wr w.heap.size (q.flatMap (fun x=>x.u.ts))):=X;have a0:O (Calls Tryz.prog 88 #[.slice ao q.length cap] wr fun e n=>∃s,e=.returned s/\mT n wr.heap.size s q/\Below wr.heap.size wr n):=Hy q _ wr (HV.o.kc (Kc.z c)) (fun x i=>(G.o x i).1.z c) hl;have J:O (Below w.heap.size w wr):=c;clear X p c;go_wp2_with fail;refine Calls.mono a0.o ?_;rintro e w7 ⟨v7,rfl,Y,ad⟩
  have a4:O (Calls Tryz.prog 157 #[v7, .func (.func 158) #[] #[.pointer (some ⟨w.heap.size+1,0,none⟩)]] w7 fun e n=>∃s,e=.returned s/\mT n wr.heap.size s (xI (fun u=>decide (0<(q.flatMap (fun x=>x.u.ts)).count u.id)) q)/\Below wr.heap.size wr n):=
   aQO (w.heap.size+1) _ q v7 wr w7 ad Y hl (fun x i=>(G.o x i).1.z J.o) (fun z x hz i=>aRJ w.heap.size (w.heap.size+1) _ x z w (S.o.z hz) (by rw[cM ((hz.block _ (aK.1 l.o).1).trans l.o)];rfl) (G.o x i).1 (G.o x i).2.id)
  obtain⟨a7,c7,rfl⟩:=bR Y;clear Y ad a0;go_wp2_with fail;refine Calls.mono a4.o ?_;rintro e w8 ⟨v8,rfl,N,ae⟩;obtain⟨P,a5⟩:∃P,O (xI (fun u=>decide (0<(q.flatMap (fun x=>x.u.ts)).count u.id)) q=P):=⟨_,rfl⟩;rw[a5.o]at N;obtain⟨a8,c8,rfl⟩:=bR N;have az:O (mT w8 w.heap.size (.slice a8 P.length c8) P):=gP (base':=w.heap.size) N J.o.size;have aq:O (Below w.heap.size w w8):=J.o.trans (ae.mono J.o.size);clear N ae a4;go_wp2_with fail;go_ret;exact⟨_,rfl,by rw[a5.o];exact az.o,aq.o⟩
end Go.Proofs.YtfljoehbbncooaaGreat
namespace Go.Proofs.YtfljoehbbncooaaGreat
open Go.RowKit Go.Maps
def AP(f:aX->List fK)(h:List aX)(u:aX):Bool:=h.any fun v=>qR (f v) u.id
def BO(f:aX->List fK)(h:List aX):List aX:=h.filter fun u=> !AP f h u
def rG(h:List aX):List aQ:=(BO aX.ts h).flatMap aX.says
def yI{α:Type}(e:Int)(l:List α):List α:=if e=0 then l else []
theorem zJ{α:Type}{e:Int}(h:e=0)(l:List α):yI e l=l:=if_pos h
theorem Ap{α:Type}{e:Int}(h:¬e=0)(l:List α):yI e l=[]:=if_neg h
def aE(h:List aX):List aQ:=eZ (rG h)
theorem aML(f:aX->List fK)(q:List Uv)(u:aX):decide (0<(q.flatMap (fun x=>f x.u)).count u.id)=AP f (bV q) u:=by
 have h:(0<(q.flatMap (fun x=>f x.u)).count u.id)↔AP f (bV q) u=true:=by
  rw[List.count_pos_iff];unfold AP bV;rw[jX,List.any_map,jW];constructor
  ·rintro⟨x,c,h⟩;exact⟨x,c,by unfold qR;simpa using h⟩
  rintro⟨x,c,h⟩;exact⟨x,c,by unfold qR at h;simpa using h⟩
 cases b:AP f (bV q) u with
 |true=>exact aP (h.mpr b)
 |false=>exact aF (fun e=>by rw[h.mp e]at b;cases b)
theorem bCE(P:aX->Bool)(q:List Uv):bV (xI P q)=(bV q).filter (fun u=> !P u):=by unfold bV xI;rw[List.filter_map];rfl
theorem bCD(f:aX->List fK)(q:List Uv):bV (xI (fun u=>decide (0<(q.flatMap (fun x=>f x.u)).count u.id)) q)=BO f (bV q):=by
 rw[bCE];unfold BO
 congr 1
 funext u;rw[aML f q u]
theorem aW3{P:aX->Bool}{q:List Uv}{x:Uv}(h:x∈xI P q):x∈q:=(kG.mp h).1
end Go.Proofs.YtfljoehbbncooaaGreat
namespace Go.Proofs.YtfljoehbbncooaaGreat
open Go.RowKit Go.Maps
theorem aT7(c d:List Uv)(hv wv:Value)(w:World)(hV:iI w hv c)(wV:iI w wv d)(hl:c.length<=4611686018427387903/\d.length<=4611686018427387903)(ag:∀x,x∈c++d->gM w x):
 Calls Tryz.prog 73 #[mU hv wv] w fun e j=>∃n,e=.returned (.tuple #[n, .int .i64 (dN (bV c) (bV d))])/\pQ w.heap.size j n (yI (dN (bV c) (bV d)) (aE (bV c)))/\(∀f,f∈yI (dN (bV c) (bV d)) (aE (bV c))->gD f)/\(yI (dN (bV c) (bV d)) (aE (bV c))).length<=2097152/\Below w.heap.size w j:=by
 have HO:O (∀x,x∈c++d->gM w x):=ag;have b3:O (iI w hv c):=hV;have am:O (∀z,Below w.heap.size w z->Calls Tryz.prog 79 #[mU hv wv] z fun e j=>e=.returned (.int .i64 (dN (bV c) (bV d)))/\Below z.heap.size z j):=fun z Z=>Am c d _ _ z (hV.kc (Kc.z Z)) (wV.kc (Kc.z Z)) hl (fun x g=>(ag x g).z Z);obtain⟨H,ch,rfl,_,_⟩:=hV;obtain⟨Q,S,rfl,_,_⟩:=wV;clear ag;have a7:O (Below w.heap.size w (w.alloc (.cells #[.slice H c.length ch, .slice Q d.length S] 29))):=(aG _ _).alloc (aH _) _;have an:O ((w.alloc (.cells #[.slice H c.length ch, .slice Q d.length S] 29)).heap[w.heap.size]?=some (.cells #[.slice H c.length ch, .slice Q d.length S] 29)):=iC w _
 go_enter Tryz.func73,Tryz.ntmps73
 go_upto_region 1 with fail;generalize w.alloc (.cells #[.slice H c.length ch, .slice Q d.length S] 29)=w1 at *;(have HF:O (∀z,Below w1.heap.size w1 z->z.cell? ⟨w.heap.size,0,none⟩=some (.slice H c.length ch)/\z.cell? ⟨w.heap.size,1,none⟩=some (.slice Q d.length S)):=fun z Z=>by have aL:=(Z.block _ (aK.1 an.o).1).trans an.o;exact⟨cH aL,cH aL⟩);obtain⟨c0,R⟩:=HF.o w1 (aG _ _);go_upto_region 2 with(go_at_call 79;refine Calls.mono (am.o _ a7.o) ?_;rintro e G ⟨rfl,ae⟩);have K:O (Below w.heap.size w G):=a7.o.trans (ae.mono a7.o.size);clear c0 R am;obtain⟨c0,R⟩:=HF.o G ae;clear ae;by_cases m:dN (bV c) (bV d)=0;rotate_left
 ·(have bk:(dN (bV c) (bV d) != 0)=true:=by simpa using m);go_wp2_with fail;go_ret2;exact⟨_,rfl,by rw[Ap m];exact pQ.nil _ _,by rw[Ap m];exact fun _ h=>absurd h sI,by rw[Ap m];exact bL _,K.o⟩
 have a0:O (dN (bV c) (bV d)=0):=m;have aq:O (IJ (bV c) (bV d)):=lK.mp m;rw[m];clear m;(have bb:c.length<=200:=by have :=aq.o.few;rw[eH,eH]at this;omega);have L:O (∀x,x∈c->gM w x/\eV x.u=0):=fun x g=>⟨HO.o x (eX _ g),aq.o.each x.u (eX _ (cJ.mpr ⟨x,g,rfl⟩))⟩;have ay:O (Calls Tryz.prog 116 #[.slice H c.length ch, .func (.func 117) #[] #[]] G fun e j=>∃n,e=.returned n/\mT j G.heap.size n (xI (fun u=>decide (0<(c.flatMap (fun x=>x.u.ts)).count u.id)) c)/\Below G.heap.size G j):=aIV c _ G (b3.o.kc (Kc.z K.o)) oM (fun x g=>(L.o x g).1.z K.o) (fun x g=>JE (L.o x g).2);have ax:O (bV (xI (fun u=>decide (0<(c.flatMap (fun x=>x.u.ts)).count u.id)) c)=BO aX.ts (bV c)):=bCD aX.ts c;have ab:O (∀x,x∈xI (fun u=>decide (0<(c.flatMap (fun x=>x.u.ts)).count u.id)) c->x∈c):=fun x g=>aW3 g;have b4:O ((xI (fun u=>decide (0<(c.flatMap (fun x=>x.u.ts)).count u.id)) c).length<=200):=bP (aW2 _ _) bb;generalize xI (fun u=>decide (0<(c.flatMap (fun x=>x.u.ts)).count u.id)) c=q at *;go_upto_region 6 with(go_at_call 116;refine Calls.mono ay.o ?_;rintro e i ⟨v3,rfl,ai,aD⟩;obtain⟨a3,k3,rfl⟩:=bR ai);have b9:O (iI i (.slice a3 q.length k3) q):=vE ai;have aa:O (Below w.heap.size w i):=K.o.trans (aD.mono K.o.size);have bl:q.length<=200:=b4.o;clear ai aD ay c0 R;have ba:O (∀k,((bV (q.take k)).flatMap aX.says).length<=k*6):=by
  intro k
  induction k with
  |zero=>simp[bV]
  |succ k ih=>
   by_cases hk:k<q.length
   ·rw[zB q k hk,nR,tN,aV];have :=(JO (L.o _ (ab.o _ (mG q k hk))).2).l.2.1;simp only[bV,List.map_cons,List.map_nil,List.flatMap_cons,List.flatMap_nil,List.append_nil]at ih ⊢;omega
   (have e:q.take (k+1)=q.take k:=by rw[dM oM,dM oM]);rw[e];omega
 go_loopw [5,17] (fun vs iv wr=>∃(k:Nat)(r:List Fv),k<=q.length/\iv=.int .i64 k/\wr.ownsRow i.heap.size 72 2 vs r.length (r.map eO).flatten/\O (r.map (·.1)=(bV (q.take k)).flatMap aX.says)/\O (∀p,p∈r->AK i p)/\Below i.heap.size i wr) (fun _ iv _=>q.length-(intOf iv).toNat);case atStart=>exact⟨0,[],bL _,rfl,eS _ _ _ _,rfl,fun p E=>absurd E sI,aG _ _⟩
 case round=>
  obtain⟨k,r,hk,rfl,Y,M,a5,I⟩:=hrel;obtain⟨av,cv,rfl⟩:=bR Y;have bh:=I.size;(have bm:r.length<=1200:=by have V:=congrArg List.length M.o;rw[aY]at V;have h2:=ba.o k;omega);by_cases X:k<q.length
  ·obtain⟨_,_,e9,_,az⟩:=b9.o.kc (Kc.z I);cases e9;obtain⟨b,bo,rfl,c0,R,c2,c3,c4⟩:=tS az k X;have aj:=L.o _ (ab.o _ (mG q k X));have g:=aj.1.z aa.o;have bj:=(JO aj.2).l.2.1;(have au:O ((bV (q.take (k+1))).flatMap aX.says=(bV (q.take k)).flatMap aX.says++(jL q k).u.says):=by show _=_;rw[zB q k X,nR,tN];simp[bV]);(obtain⟨N,n1,T,C,n2,D,P,n4,U,e1,e2,e3⟩:=g.forms;obtain⟨sa,sc,bd,aS,aR⟩:=g.s;have ac:O (lD i sa (jL q k).u.says/\(sa=none->sc=0)/\∀f,f∈(jL q k).u.says->gD f):=⟨aR,aS.2,g.f⟩;clear aR aS g aj az;generalize jL q k=x at *;obtain⟨⟨⟨ua,un⟩,ps,F,ts⟩,vp,vs,vt⟩:=x;dsimp only at *;subst e1 e2 e3;injection bd with be bf bg;subst be bf bg;generalize (bV (q.take k)).flatMap aX.says=X0 at *;have al:O (Below i.heap.size i (wr.alloc (.cells #[.int .i64 ua, .int .i64 un, .slice N n1 T, .slice C F.length D, .slice P n4 U] 42))):=I.alloc bh _;have aN:=Y.alloc (.cells #[.int .i64 ua, .int .i64 un, .slice N n1 T, .slice C F.length D, .slice P n4 U] 42);clear Y;go_upto_region 8 with fail;have b1:O ((wr.alloc (.cells #[.int .i64 ua, .int .i64 un, .slice N n1 T, .slice C F.length D, .slice P n4 U] 42)).heap[wr.heap.size]?=some (.cells #[.int .i64 ua, .int .i64 un, .slice N n1 T, .slice C F.length D, .slice P n4 U] 42)):=iC wr _;generalize wr.alloc (.cells #[.int .i64 ua, .int .i64 un, .slice N n1 T, .slice C F.length D, .slice P n4 U] 42)=w5 at *;(have x3:w5.cell? ⟨wr.heap.size,3,none⟩=some (.slice C F.length D):=cH b1.o);have bn:=al.o.size;clear c0 R c2 c3 c4;go_wp2_with(at_builtin;refine xM rfl (.tmp 21) (.tmp 23) rfl al.o _ r.length r rfl rfl aN C D F rfl ac.o.2.1 ac.o.1 ac.o.2.2 ?c1 ?_);(case c1=>omega);intro v6 w6 J H2;obtain⟨V,h2,h3,h4⟩:=H2;obtain⟨a6,c6,rfl⟩:=bR h3;have b7:O (w6.ownsRow i.heap.size 72 2 (.slice a6 (r++J).length c6) (r++J).length ((r++J).map eO).flatten):=h3;have aT:O (Below i.heap.size i w6):=h4;have b6:O ((r++J).map (·.1)=(bV (q.take (k+1))).flatMap aX.says):=by show _=_;rw[dC,M.o,V,au.o]);have b8:O (∀p,p∈r++J->AK i p):=fun p E=>by
    rcases cW.mp E with E|E
    ·exact a5.o p E
    exact h2 p E
   clear V h2 h3 h4 aN au M a5;go_wp2_with fail;go_roundw;(case rel=>exact⟨k+1,r++J,X,gN,b7.o,b6.o,b8.o,aT.o⟩);case measure=>exact mI
  have bi:decide (k<q.length)=false:=aF X;obtain rfl:k=q.length:=oM;(have ad:O (r.map (·.1)=rG (bV c)):=by show _=_;rw[M.o,nK];unfold rG;rw[ax.o]);(have aC:bS wr (.slice av r.length cv) (rG (bV c)):=by have h9:=xC Y a5.o I;rw[ad.o]at h9;exact h9);((have ao:O ((rG (bV c)).length=r.length):=by show _=_;rw[<-ad.o,aY]);(have ak:O (∀f,f∈rG (bV c)->f.args.length<=1048576):=fun f W=>by unfold rG at W;rw[<-ax.o]at W;obtain⟨u,hu,bc⟩:=jX.mp W;obtain⟨x,g,rfl⟩:=cJ.mp hu;exact bP ((JO (L.o _ (ab.o x g)).2).f f bc) dE);have ar:O (Calls Tryz.prog 64 #[.slice av r.length cv] wr fun e j=>∃n,e=.returned n/\pQ wr.heap.size j n (aE (bV c))/\Below wr.heap.size wr j):=XS (rG (bV c)) _ wr aC (by have :=ao.o;omega) ak.o;have b2:O (∀f,f∈aE (bV c)->gD f):=fun f W=>bP (ak.o f (lM.mp W)) dE;have a8:O (Below w.heap.size w wr):=aa.o.trans (I.mono aa.o.size);clear Y I aC M a5 ad;go_wp2_with fail;refine Calls.mono ar.o ?_;rintro e w9 ⟨v9,rfl,af,aJ⟩;have HE:O (pQ w.heap.size w9 v9 (aE (bV c))):=aEC af a8.o.size;have b5:O ((aE (bV c)).length<=2097152):=by have V:=DU (rG (bV c));have h2:=ao.o;show(eZ (rG (bV c))).length<=2097152;omega);obtain⟨q9,_,aO,_⟩:=id af;obtain⟨a9,c9,rfl⟩:=bR aO;have b0:O (Below w.heap.size w w9):=a8.o.trans (aJ.mono a8.o.size);clear af aO aJ ar;go_wp2_with fail;go_ret2;exact⟨_,by rw[a0.o];rfl,by rw[zJ a0.o];exact HE.o,by rw[zJ a0.o];exact b2.o,by rw[zJ a0.o];exact b5.o,b0.o⟩
end Go.Proofs.YtfljoehbbncooaaGreat
namespace Go.Proofs.YtfljoehbbncooaaGreat
open Go.RowKit Go.Maps
def dY(p:bK)(h w:List aX):List aQ:=(yI (dN h w) (aE h)).filter (fun f=>mX p f.g f.args==0)
def JJ(b e va vn vr d c:Value):Obj:=.cells #[b,e,va,vn,vr,d,c] 58
structure Vk (VB:Nat) (w w':World):Prop where
 os:w'.os=w.os
 tape:w'.tape=w.tape
 output:w'.output=w.output
 size:w.heap.size<=w'.heap.size
 block:∀k,k<w.heap.size->k≠VB->w'.heap[k]?=w.heap[k]?
theorem Vk.trans{d:Nat}{a b c:World}(h:Vk d a b)(k:Vk d b c):Vk d a c:=⟨k.os.trans h.os,k.tape.trans h.tape,k.output.trans h.output,bP h.size k.size,fun j e f=>(k.block j (dS e h.size) f).trans (h.block j e f)⟩
theorem Vk.of_below{b:Nat}{w w':World}(h:Below w.heap.size w w'):Vk b w w':=⟨h.os,h.tape,h.output,h.size,fun k c _=>h.block k c⟩
theorem Vk.set(b o:Nat)(w:World)(v:Value):Vk b w (w.setCell ⟨b,o,none⟩ v):=⟨rfl,rfl,rfl,by simp,fun k _ c=>iG _ _ _ _ c⟩
theorem Vk.z{b B:Nat}{w w':World}(h:Vk b w w')(c:B<=b)(e:B<=w.heap.size):Below B w w':=⟨h.os,h.tape,h.output,h.size,fun k d=>h.block k oM oM⟩
def MA(b:Nat)(w:World):Prop:=∀o v,w.cell? ⟨b,o,none⟩=some v->∃a n c,v=.slice a n c
theorem Vk.cl{c:Nat}{w w':World}(h:Vk c w w')(d:MA c w):Cl c w w':=⟨fun b o v f e=>by
 rw[EC (h.block b (jR w _ e) f)];exact e,d⟩
theorem Cl.kn{c:Nat}{y z:World}(h:Cl c y z):Kn y z:=fun b d o v e=>h.eq b o v (by obtain⟨p,n,f⟩:=d;exact h.ni f) e
theorem Cl.factsV{b:Nat}{y z:World}(h:Cl b y z){v:Value}{l:List aQ}(c:bS y v l):bS z v l:=h.kn.facts c
theorem OD{b:Nat}{w:World}{c d f g i j k:Option Addr}{m n p q r s u c0 c1 c2 c3 c4 c5 l:Nat}(h:w.heap[b]?=some (JJ (.slice c m c0) (.slice d n c1) (.slice f p c2) (.slice g q c3) (.slice i r c4) (.slice j s c5) (.slice k u l))):MA b w:=fun o v e=>by
 rw[cM h]at e
 match o with
 |0=>cases e;exact⟨_,_,_,rfl⟩
 |1=>cases e;exact⟨_,_,_,rfl⟩
 |2=>cases e;exact⟨_,_,_,rfl⟩
 |3=>cases e;exact⟨_,_,_,rfl⟩
 |4=>cases e;exact⟨_,_,_,rfl⟩
 |5=>cases e;exact⟨_,_,_,rfl⟩
 |6=>cases e;exact⟨_,_,_,rfl⟩
 |_+7=>cases e
theorem aW6(c NB:Nat)(p:bK)(hv wv va vn vr vR vO D:Value)(f:aQ)(w:World)(C:w.heap[c]?=some (JJ hv wv va vn vr vR vO))(U:w.cell? ⟨NB,0,none⟩=some (.pointer (some ⟨c,0,none⟩)))(u:nV w va vn vr p)(T:lR p)(I:eT w D f.args)(V:gD f):
 Calls Tryz.prog 75 #[lT f.g D, .pointer (some ⟨NB,0,none⟩)] w fun e d=>e=.returned (.bool (!(mX p f.g f.args==0)))/\Below w.heap.size w d:=by
 have Y:O (∀z,Below w.heap.size w z->Calls Tryz.prog 76 #[gU va vn vr,lT f.g D] z fun e d=>e=.returned (.int .i64 (mX p f.g f.args))/\Below z.heap.size z d):=fun z s=>RP p va vn vr f.g f.args D z (nV.z u s) T (bC I s) V;(have N:w.cell? ⟨c,2,none⟩=some va:=cH C);(have P:w.cell? ⟨c,3,none⟩=some vn:=cH C);(have Q:w.cell? ⟨c,4,none⟩=some vr:=cH C);obtain⟨F,J,rfl,_⟩:=id u.ar;obtain⟨G,K,rfl,_⟩:=id u.nm;obtain⟨H,L,rfl,_⟩:=id u.rl;obtain⟨j,m,rfl,_⟩:=id I;generalize mX p f.g f.args=k at *;have q:Below w.heap.size w (w.alloc (.cells #[.int .i64 f.g, .slice j f.args.length m] 72)):=(aG _ _).alloc (aH _) _;have W:(w.alloc (.cells #[.int .i64 f.g, .slice j f.args.length m] 72)).heap[w.heap.size]?=some (.cells #[.int .i64 f.g, .slice j f.args.length m] 72):=iC w _;have E:O (Below w.heap.size w _):=q;have M:O _:=W;have d0:=aB q U;have d2:=aB q N;have d3:=aB q P;have d4:=aB q Q;clear u I C T U N P Q q W V
 go_enter Tryz.func75,Tryz.ntmps75
 go_upto_region 1 with fail;generalize w.alloc (.cells #[.int .i64 f.g, .slice j f.args.length m] 72)=i at *;(have e0:i.cell? ⟨w.heap.size,0,none⟩=some (.int .i64 f.g):=cH M.o);(have e1:i.cell? ⟨w.heap.size,1,none⟩=some (.slice j f.args.length m):=cH M.o);have X:=E.o.size;(have Z:O (∀z,Below i.heap.size i z->Calls Tryz.prog 76 #[gU (.slice F p.x.length J) (.slice G p.r.length K) (.slice H p.y.length L),lT f.g (.slice j f.args.length m)] z fun e d=>e=.returned (.int .i64 k)/\d.cell? ⟨NB,0,none⟩=some (.pointer (some ⟨c,0,none⟩))/\d.cell? ⟨c,2,none⟩=some (.slice F p.x.length J)/\d.cell? ⟨c,3,none⟩=some (.slice G p.r.length K)/\d.cell? ⟨c,4,none⟩=some (.slice H p.y.length L)/\d.cell? ⟨w.heap.size,0,none⟩=some (.int .i64 f.g)/\d.cell? ⟨w.heap.size,1,none⟩=some (.slice j f.args.length m)/\Below i.heap.size i d):=fun z s=>by refine(Y.o z (E.o.trans (s.mono X))).mono ?_;rintro e d ⟨R,S⟩;have l:=s.trans (S.mono s.size);exact⟨R,aB l d0,aB l d2,aB l d3,aB l d4,aB l e0,aB l e1,l⟩);have a4:∀a b o,Below a.heap.size a b->Below a.heap.size a (b.alloc o):=fun _ _ o h=>h.alloc h.size o;have a5:∀a b,Below a.heap.size a b->Below a.heap.size a b.drew:=fun _ _ h=>h.drew;have a6:Below i.heap.size i i:=aG _ _
 go_region_held3 (fun n=>n.cell? ⟨NB,0,none⟩=some (.pointer (some ⟨c,0,none⟩))/\n.cell? ⟨c,2,none⟩=some (.slice F p.x.length J)/\n.cell? ⟨c,3,none⟩=some (.slice G p.r.length K)/\n.cell? ⟨c,4,none⟩=some (.slice H p.y.length L)/\n.cell? ⟨w.heap.size,0,none⟩=some (.int .i64 f.g)/\n.cell? ⟨w.heap.size,1,none⟩=some (.slice j f.args.length m)/\Below i.heap.size i n) (go_keep) (
  (go_at_call 76;refine Calls.mono (Z.o _ ?_) ?_;(simp[*]);rintro e z1 ⟨rfl,R,S,l,h4,h5,h6,h7⟩))
 have h8:Below w.heap.size w z1:=E.o.trans (h7.mono X);go_wp2_with fail;go_ret;exact⟨rfl,h8⟩
def rd5(b:Nat)(y:World):Value:=(y.cell? ⟨b,5,none⟩).getD undef
theorem aRW{b:Nat}{y:World}{v:Value}(h:y.cell? ⟨b,5,none⟩=some v):y.cell? ⟨b,5,none⟩=some (rd5 b y):=by unfold rd5;rw[h];rfl
theorem aMJ(d:Nat)(p:bK)(i j:List Uv)(G H va vn vr vR D:Value)(w:World)(N:w.heap[d]?=some (JJ G H va vn vr vR D))(Z:MA d w)(hV:iI w G i)(wV:iI w H j)(hl:i.length<=4611686018427387903/\j.length<=4611686018427387903)(ad:∀x,x∈i++j->gM w x)(hP:nV w va vn vr p)(hF:lR p):
 Calls Tryz.prog 49 #[.pointer (some ⟨d,0,none⟩)] w fun e k=>∃ag,e=.returned (.int .i64 (dN (bV i) (bV j)))/\k.heap[d]?=some (JJ G H va vn vr ag D)/\bS k ag (dY p (bV i) (bV j))/\(∀f,f∈dY p (bV i) (bV j)->gD f)/\(dY p (bV i) (bV j)).length<=2097152/\Vk d w k:=by
 have aa:d<w.heap.size:=cV N;have ai:O (∀z,Below w.heap.size w z->Calls Tryz.prog 73 #[mU G H] z fun e k=>∃v',e=.returned (.tuple #[v', .int .i64 (dN (bV i) (bV j))])/\pQ z.heap.size k v' (yI (dN (bV i) (bV j)) (aE (bV i)))/\(∀f,f∈yI (dN (bV i) (bV j)) (aE (bV i))->gD f)/\(yI (dN (bV i) (bV j)) (aE (bV i))).length<=2097152/\Below z.heap.size z k):=fun z r=>aT7 i j G H z (hV.kc (Kc.z r)) (wV.kc (Kc.z r)) hl (fun x hx=>(ad x hx).z r);have HP:O (nV w va vn vr p):=hP;have HB:O (w.heap[d]?=some (JJ G H va vn vr vR D)):=N;have ak:O (MA d w):=Z;obtain⟨K,ch,rfl,_,_⟩:=hV;obtain⟨L,M,rfl,_,_⟩:=wV;obtain⟨U,n5,V,rfl⟩:=Z 5 vR (cH N);have a7:O (dY p (bV i) (bV j)=(yI (dN (bV i) (bV j)) (aE (bV i))).filter (fun f=> !(!(mX p f.g f.args==0)))):=by
  show _=_;unfold dY
  congr 1
  funext f;rw[Bool.not_not]
 generalize dY p (bV i) (bV j)=R at *;generalize yI (dN (bV i) (bV j)) (aE (bV i))=F at *;generalize dN (bV i) (bV j)=c at *;have ab:Below w.heap.size w (w.alloc (.cells #[.pointer (some ⟨d,0,none⟩)] 88)):=(aG _ _).alloc (aH _) _;have aj:O ((w.alloc (.cells #[.pointer (some ⟨d,0,none⟩)] 88)).heap[w.heap.size]?=some (.cells #[.pointer (some ⟨d,0,none⟩)] 88)):=iC w _;have I:O (Below w.heap.size w (w.alloc (.cells #[.pointer (some ⟨d,0,none⟩)] 88))):=ab;clear ad hP N Z ab
 go_enter Tryz.func49,Tryz.ntmps49
 go_upto_region 1 with fail;generalize w.alloc (.cells #[.pointer (some ⟨d,0,none⟩)] 88)=m at *;(have J:O (∀z,Below m.heap.size m z->z.heap[d]?=some (JJ (.slice K i.length ch) (.slice L j.length M) va vn vr (.slice U n5 V) D)/\z.cell? ⟨w.heap.size,0,none⟩=some (.pointer (some ⟨d,0,none⟩))/\nV z va vn vr p):=fun z r=>by have C:=(I.o.block d aa).trans HB.o;have E:=(r.block d (dS aa I.o.size)).trans C;refine⟨E,?_,(HP.o.z I.o).z r⟩;exact aB r (cH aj.o));obtain⟨x0,x1,_⟩:=J.o m (aG _ _);(have c0:m.cell? ⟨d,0,none⟩=some (.slice K i.length ch):=cH x0);(have c1:m.cell? ⟨d,1,none⟩=some (.slice L j.length M):=cH x0);have av:O (∃X,X=w.heap.size):=⟨_,rfl⟩;clear x0;go_upto_region 2 with(go_at_call 73;refine Calls.mono (ai.o _ I.o) ?_;rintro e s ⟨v2,rfl,a1,P,a2,a0⟩;obtain⟨q9,_,ae,_⟩:=id a1;obtain⟨a9,c9,rfl⟩:=bR ae;clear ae);have ax:∀(fn:Fn)(first cap:Array Value)(w:World),(Instr.makeFunc fn first cap).run Tryz.prog w=.ok (.func fn first cap) w:=fun _ _ _ _=>rfl;obtain⟨y0,y1,_⟩:=J.o s a0;have d5:s.cell? ⟨d,5,none⟩=some (rd5 d s):=aRW (v:=.slice U n5 V) (cH y0);have z5:s.frozen? ⟨d,5,none⟩=false:=bM y0 _;have a3:O (Below m.heap.size m s):=a0;have HN:O (∀z,Below s.heap.size s z->Calls Tryz.prog 74 #[.slice a9 q9.length c9, .func (.func 75) #[] #[.pointer (some ⟨w.heap.size,0,none⟩)]] z fun e k=>∃g n l,e=.returned (.slice g n l)/\pQ m.heap.size k (.slice g n l) R/\k.cell? ⟨w.heap.size,0,none⟩=some (.pointer (some ⟨d,0,none⟩))/\k.cell? ⟨d,5,none⟩=some (rd5 d k)/\k.frozen? ⟨d,5,none⟩=false/\Below m.heap.size m k):=fun z r=>by
  have al:=a3.o.trans (r.mono a3.o.size);refine(aLN w.heap.size (fun f=> !(mX p f.g f.args==0)) F _ m z al (SI a1 r) a2 P (fun y f vf hy hf an=>?_)).mono ?_
  ·obtain⟨Q,k2,k3⟩:=J.o y hy;exact aW6 d w.heap.size p _ _ va vn vr _ D vf f y Q k2 k3 hF an (P f hf)
  rintro e k ⟨v',rfl,C,E⟩;rw[<-a7.o]at C;obtain⟨q,_,ho,_⟩:=id C;obtain⟨g,l,rfl⟩:=bR ho;obtain⟨Q,k2,_⟩:=J.o k E;exact⟨_,_,_,rfl,C,k2,aRW (v:=.slice U n5 V) (cH Q),bM Q _,E⟩
 (have a4:O ((∀f,f∈R->gD f)/\R.length<=2097152):=by show _/\_;rw[a7.o];exact⟨fun f hf=>P f (kG.mp hf).1,bP (nI _ _) a2⟩);clear x1 c0 c1 y0 a1 P a2 a0;have aq:∀a b o,Below a.heap.size a b->Below a.heap.size a (b.alloc o):=fun _ _ o h=>h.alloc h.size o;have ar:∀a b,Below a.heap.size a b->Below a.heap.size a b.drew:=fun _ _ h=>h.drew;have au:Below s.heap.size s s:=aG _ _;have am:¬w.heap.size=d:=oM
 have a6:∀(y:World)(v:Value),(y.cell? ⟨w.heap.size,0,none⟩=some (.pointer (some ⟨d,0,none⟩))/\y.cell? ⟨d,5,none⟩=some (rd5 d y)/\y.frozen? ⟨d,5,none⟩=false)->((y.setCell ⟨d,5,none⟩ v).cell? ⟨w.heap.size,0,none⟩=some (.pointer (some ⟨d,0,none⟩))/\(y.setCell ⟨d,5,none⟩ v).cell? ⟨d,5,none⟩=some (rd5 d (y.setCell ⟨d,5,none⟩ v))/\(y.setCell ⟨d,5,none⟩ v).frozen? ⟨d,5,none⟩=false):=fun y v h=>
  ⟨(Dy y _ _ _ (fun e=>by injection e with e;exact am e.symm)).trans h.1,aRW (World.cell?_setCell_same y _ v h.2.1),by rw[fW];exact h.2.2⟩
 have ao:∀(y:World),rd5 d y.drew=rd5 d y:=fun _=>rfl
 go_region_held3 (fun S=>S.cell? ⟨w.heap.size,0,none⟩=some (.pointer (some ⟨d,0,none⟩))/\S.cell? ⟨d,5,none⟩=some (rd5 d S)/\S.frozen? ⟨d,5,none⟩=false) ((first|go_keep|(refine a6 _ _ ⟨?_,?_,?_⟩<;>assumption))) (
  (go_at_call 74;refine Calls.mono (HN.o _ ?_) ?_;(simp[*]);rintro e u ⟨g,n,l,rfl,h0,C,E,h3,W⟩))
 have Y:=(J.o u W).1;(have ac:(u.setCell ⟨d,5,none⟩ (.slice g n l)).heap[d]?=some (JJ (.slice K i.length ch) (.slice L j.length M) va vn vr (.slice g n l) D):=by rw[bD Y];rfl);have a8:O (Vk d u (u.setCell ⟨d,5,none⟩ (.slice g n l))):=Vk.set d 5 u _;have af:MA d u:=fun o v e=>ak.o o v (by rw[<-EC (Y.trans HB.o.symm)];exact e)
 have T:O ((u.setCell ⟨d,5,none⟩ (.slice g n l)).heap[d]?=some (JJ (.slice K i.length ch) (.slice L j.length M) va vn vr (.slice g n l) D)/\bS (u.setCell ⟨d,5,none⟩ (.slice g n l)) (.slice g n l) R/\Vk d w (u.setCell ⟨d,5,none⟩ (.slice g n l))):=
  ⟨ac,(a8.o.cl af).factsV h0.toV,((Vk.of_below I.o).trans (Vk.of_below W)).trans a8.o⟩
 clear h0 C E h3 W Y ac af HN a6 d5 z5 y1;go_wp2_with fail;go_ret;exact⟨_,rfl,T.o.1,T.o.2.1,a4.o.1,a4.o.2,T.o.2.2⟩
end Go.Proofs.YtfljoehbbncooaaGreat
namespace Go.Proofs.YtfljoehbbncooaaGreat
open Go.RowKit
def lY(p:bK)(l:List aQ):Int:=if 60<l.length then 2 else iJ p l
theorem Qm(p:bK)(facts:List aQ)(va vn vr vf:Value)(w:World)(H:nV w va vn vr p)(U:lR p)(Y:bS w vf facts)(a8:facts.length<=9223372036854775807)(W:∀f,f∈facts->gD f):
 Calls Tryz.prog 125 #[gU va vn vr,vf] w fun e w'=>e=.returned (.int .i64 (lY p facts))/\Below w.heap.size w w':=by
 obtain⟨j,s,rfl,_⟩:=id H.ar;obtain⟨l,u,rfl,_⟩:=id H.nm;obtain⟨m,C,rfl,_⟩:=id H.rl;obtain⟨af,cf,rfl,_,V⟩:=id Y;have n:=(aG w.heap.size w).alloc (aH _) (pB j s l u m C p);have d:O _:=bA w (pB j s l u m C p);have P:O (Below w.heap.size w _):=n;have HP:O (nV w (.slice j p.x.length s) (.slice l p.r.length u) (.slice m p.y.length C) p):=H;have HF:O _:=U;have a4:O _:=V;have a5:O _:=W;clear H U Y V W n
 go_enter Tryz.func125,Tryz.ntmps125
 go_upto_region 1 with fail;generalize w.alloc (pB j s l u m C p)=w2 at *;by_cases N:60<facts.length
 ·(have K:O (lY p facts=2):=by show _=_;unfold lY;rw[if_pos N]);have g6:decide (60<facts.length)=true:=aP N;go_wp2_with fail;go_ret;exact⟨by rw[K.o];rfl,P.o⟩
 (have K:O (lY p facts=iJ p facts):=by show _=_;unfold lY;rw[if_neg N]);have g6:decide (60<facts.length)=false:=aF N;go_wp2_with fail;go_loopw [13] (fun iv wr=>∃k:Nat,k<=facts.length/\iv=.int .i64 k/\O (iJ p facts=iJ p (facts.drop k))/\O (Below w.heap.size w wr)/\O (wr.heap[w.heap.size]?=some (pB j s l u m C p))) (fun iv _=>facts.length-(intOf iv).toNat);case atStart=>exact⟨0,bL _,rfl,rfl,P.o,d.o⟩
 case round=>
  clear P d;obtain⟨k,hk,rfl,F,c,d⟩:=hrel;by_cases I:k<facts.length
  ·obtain⟨b,aa,rfl,Z,fv,p1,X⟩:=nM a4.o k I;have q0:=aB c.o Z;have q1:=aB c.o p1;have a7:O (eT w fv (bF facts k).args):=X;obtain⟨L,M,rfl,_⟩:=X;have a6:O (gD (bF facts k)):=a5.o _ (lU facts k I);have J:O _:=GK p facts k I;clear Z p1;generalize bF facts k=f at *;go_upto_region 6 with fail;have n:=(aG wr.heap.size wr).alloc (aH _) (.cells #[.int .i64 f.g, .slice L f.args.length M] 72);have Q:O _:=bA wr (.cells #[.int .i64 f.g, .slice L f.args.length M] 72);have E:O _:=c.o.trans (n.mono c.o.size);have i:O _:=(n.block _ (cV d.o)).trans d.o;clear q0 q1 n c d;generalize wr.alloc (.cells #[.int .i64 f.g, .slice L f.args.length M] 72)=D at *;generalize wr.heap.size=T at *;(have c0:D.cell? ⟨w.heap.size,0,none⟩=some (.slice j p.x.length s):=cH i.o);(have c1:D.cell? ⟨w.heap.size,1,none⟩=some (.slice l p.r.length u):=cH i.o);(have c2:D.cell? ⟨w.heap.size,2,none⟩=some (.slice m p.y.length C):=cH i.o);(have f0:D.cell? ⟨T,0,none⟩=some (.int .i64 f.g):=cH Q.o);(have f1:D.cell? ⟨T,1,none⟩=some (.slice L f.args.length M):=cH Q.o);go_wp2_with fail;refine Calls.mono (RP p _ _ _ f.g f.args _ D (nV.z HP.o E.o) HF.o (bC a7.o E.o) a6.o) ?_;rintro _ w3 ⟨rfl,R⟩;have S:O _:=E.o.trans (R.mono E.o.size);have a3:O _:=(R.block _ (cV i.o)).trans i.o;clear c0 c1 c2 f0 f1 R E i Q;by_cases q:mX p f.g f.args=0
   ·(have ge:(mX p f.g f.args != 0)=false:=by simpa using q);(have G:O (iJ p facts=iJ p (facts.drop (k+1))):=by show _=_;rw[F.o,J.o,if_neg (by simpa using q)]);clear q F J;go_wp2_with fail;go_roundw;(case rel=>exact⟨k+1,I,gN,G.o,S.o,a3.o⟩);case measure=>exact mI
   (have ge:(mX p f.g f.args != 0)=true:=by simpa using q);(have G:O (lY p facts=mX p f.g f.args):=by show _=_;rw[K.o,F.o,J.o,if_pos (by simpa using q)]);clear q F J;go_wp2_with fail;go_ret;exact⟨by rw[G.o];rfl,S.o⟩
  have a9:decide (k<facts.length)=false:=aF I;(have G:O (lY p facts=0):=by show _=_;rw[K.o,F.o,bG oM];rfl);go_wp2_with fail;go_ret;exact⟨by rw[G.o];rfl,c.o⟩
theorem Oc{p:bK}{m:List aQ}{n:Nat}(h:wT p m n none):∀k,wT p m (n+k) none
 |0=>h
 |k+1=>⟨none,Oc h k,rfl⟩
theorem LN{p:bK}{m:List aQ}{n N:Nat}(h:wT p m n none)(b:n<=N):wT p m N none:=by have :=Oc h (N-n);rwa[Nat.add_sub_cancel' b]at this
def bX(p:bK)(l o:List aQ):Int:=iV (pM p) (iV (lY p l) (lY p o))
def lE(p:bK)(l o:List aQ)(e:Int)(S:List aQ):Prop:=
 (¬bX p l o=0/\e=bX p l o/\S=[])\/(bX p l o=0/\∃x,pR p l x/\e=yU x/\S=x.getD [])
theorem UF{p:bK}(h:pM p=0):dB p=0/\yN p=true:=by
 unfold pM at h;split at h
 ·rename_i b;refine⟨b,?_⟩;split at h
  ·assumption
  cases h
 rename_i b;exact absurd h b
theorem uJ{p:bK}{l:List aQ}(b:dB p=0)(h:lY p l=0):l.length<=60/\∀f,f∈l->mD p.x f:=by
 unfold lY at h;split at h
 ·cases h
 exact⟨oM,(GG b).mp h⟩
theorem OM(l:List aQ):(eZ l).length<=l.length:=sK (nZ (kU l).1) fun _ b=>lM.mp b
theorem xP{p:bK}{l o:List aQ}(h:bX p l o=0):dB p=0/\yN p=true/\lY p l=0/\lY p o=0:=by obtain⟨b,c⟩:=yL h;obtain⟨d,e⟩:=yL c;obtain⟨f,g⟩:=UF b;exact⟨f,g,d,e⟩
theorem wC{p:bK}{l o:List aQ}{e f:Int}{S d:List aQ}(h:lE p l o e S)(g:lE p l o f d):e=f/\S=d:=by
 rcases h with⟨b,rfl,rfl⟩|⟨b,x,j,rfl,rfl⟩
 ·rcases g with⟨_,rfl,rfl⟩|⟨c,_⟩
  ·exact⟨rfl,rfl⟩
  exact absurd c b
 rcases g with⟨c,_⟩|⟨_,q,k,rfl,rfl⟩
 ·exact absurd b c
 obtain⟨i,m,n,_⟩:=xP b;have :=aFN (DR i m) (uJ i n).2 j k;subst this;exact⟨rfl,rfl⟩
theorem Lp(p:bK)(l o:List aQ)(va vn vr vl vo:Value)(w:World)(Y:nV w va vn vr p)(hF:lR p)(b2:mM w vr)(hV:bS w vl l)(b0:l.length<=9223372036854775807)(aS:∀f,f∈l->gD f)(hO:bS w vo o)(aR:o.length<=9223372036854775807)(aO:∀f,f∈o->gD f):
 Calls Tryz.prog 77 #[gU va vn vr,vl,vo] w fun e w'=>∃v c S,e=.returned (.tuple #[v, .int .i64 c])/\lE p l o c S/\bS w' v S/\Below w.heap.size w w':=by
 obtain⟨J,N,rfl,_⟩:=id Y.ar;obtain⟨K,P,rfl,_⟩:=id Y.nm;obtain⟨E,G,rfl,_⟩:=id Y.rl;obtain⟨al,cl,rfl,_⟩:=id hV;obtain⟨ao,co,rfl,_⟩:=id hO;have bT:=(aG w.heap.size w).alloc (aH _) (pB J N K P E G p);have V:O _:=bA w (pB J N K P E G p);have HB:O (Below w.heap.size w _):=bT;have HP:O (nV w (.slice J p.x.length N) (.slice K p.r.length P) (.slice E p.y.length G) p/\lR p/\mM w (.slice E p.y.length G)):=⟨Y,hF,b2⟩;have HV:O (bS w (.slice al l.length cl) l/\l.length<=9223372036854775807/\∀f,f∈l->gD f):=⟨hV,b0,aS⟩;have HO:O (bS w (.slice ao o.length co) o/\o.length<=9223372036854775807/\∀f,f∈o->gD f):=⟨hO,aR,aO⟩;have HC:O _:=aO2 p _ _ _ _ (Y.z bT) hF;clear Y hF b2 hV b0 aS hO aR aO bT
 go_enter Tryz.func77,Tryz.ntmps77
 go_upto_region 1 with fail;generalize w.alloc (pB J N K P E G p)=w1 at *;(have c0:w1.cell? ⟨w.heap.size,0,none⟩=some (.slice J p.x.length N):=cH V.o);(have L:w1.cell? ⟨w.heap.size,1,none⟩=some (.slice K p.r.length P):=cH V.o);(have M:w1.cell? ⟨w.heap.size,2,none⟩=some (.slice E p.y.length G):=cH V.o);go_wp2_with fail;refine Calls.mono HC.o ?_;rintro _ H ⟨vv,rfl,hI,am⟩;have a8:O (Below w.heap.size w H):=HB.o.trans (am.mono HB.o.size);have ae:O _:=(am.block _ (cV V.o)).trans V.o;obtain⟨av,cv,rfl,_⟩:=id hI;clear c0 L M am HC HB V;by_cases F:pM p=0
 ·obtain⟨a7,ad⟩:=UF F;have X:O (dB p=0/\aFI p):=⟨a7,DR a7 ad⟩;have bl:p.x.length<=10:=X.o.2.ok.a10;(have ah:O (eT H (.slice av (AE p).length cv) (kA p)):=by show eT _ _ _;rw[<-(MB a7 ad).2];exact hI);(have b3:(AE p).length=p.x.length:=by rw[(MB a7 ad).2];exact rK p);(have I:O (bX p l o=iV (lY p l) (lY p o)):=by show _=_;unfold bX;rw[F];rfl);rw[F];rw[b3]at ah ⊢;clear F a7 ad hI b3;go_wp2_with fail;have ac:Below H.heap.size H (H.alloc (.cells #[.slice al l.length cl, .slice ao o.length co] 30)):=(aG _ _).alloc (aH _) _;have aC:O _:=bA H (.cells #[.slice al l.length cl, .slice ao o.length co] 30);have R:O _:=a8.o.trans (ac.mono a8.o.size);have au:O _:=(ac.block _ (cV ae.o)).trans ae.o;have b8:O _:=bC ah.o ac;clear a8 ae ah ac;generalize H.alloc (.cells #[.slice al l.length cl, .slice ao o.length co] 30)=Z at *;generalize H.heap.size=RB at *;go_loopw [27] (fun iv wr=>∃k:Nat,k<=2/\iv=.int .i64 k/\O (0<k->lY p l=0)/\O (1<k->lY p o=0)/\O (Below Z.heap.size Z wr)) (fun iv _=>2-(intOf iv).toNat);case atStart=>exact⟨0,oM,rfl,fun h=>absurd h oM,fun h=>absurd h oM,aG _ _⟩
  case round=>
   obtain⟨q,bi⟩:∃q,q=wr:=⟨_,rfl⟩;subst bi;obtain⟨k,hk,rfl,ai,az,d⟩:=hrel;have u:O (Below w.heap.size w q):=R.o.trans (d.o.mono R.o.size);have a6:O _:=(d.o.block _ (cV aC.o)).trans aC.o;have D:O _:=(d.o.block _ (cV au.o)).trans au.o;(have c0:q.cell? ⟨w.heap.size,0,none⟩=some (.slice J p.x.length N):=cH D.o);(have L:q.cell? ⟨w.heap.size,1,none⟩=some (.slice K p.r.length P):=cH D.o);(have M:q.cell? ⟨w.heap.size,2,none⟩=some (.slice E p.y.length G):=cH D.o);(have d0:q.cell? ⟨RB,0,none⟩=some (.slice al l.length cl):=cH a6.o);(have d1:q.cell? ⟨RB,1,none⟩=some (.slice ao o.length co):=cH a6.o);have bh:k=0\/k=1\/k=2:=oM;rcases bh with rfl|rfl|rfl
   ·have a3:O _:=Qm p l _ _ _ _ q (HP.o.1.z u.o) HP.o.2.1 (bQ HV.o.1 u.o) HV.o.2.1 HV.o.2.2;go_wp2_with fail;refine Calls.mono a3.o ?_;rintro _ j ⟨rfl,C⟩;have s:O (Below Z.heap.size Z j):=d.o.trans (C.mono d.o.size);have af:O (Below w.heap.size w j):=R.o.trans (s.o.mono R.o.size);clear c0 L M d0 d1 C a3 a6 D d u;by_cases b:lY p l=0
    ·(have g:(lY p l != 0)=false:=by simpa using b);have i:O _:=b;clear b;go_wp2_with fail;go_roundw;(case rel=>exact⟨1,oM,gN,fun _=>i.o,fun h=>absurd h oM,s.o⟩);case measure=>simp[intOf]
    (have g:(lY p l != 0)=true:=by simpa using b);have i:O (bX p l o=lY p l/\¬lY p l=0):=⟨by rw[I.o];unfold iV;rw[if_neg b],b⟩;clear b;go_wp2_with fail;refine dP (lQ rfl _ _ _) rfl ?_;exact⟨_,_,[],rfl, .inl ⟨by rw[i.o.1];exact i.o.2,i.o.1.symm,rfl⟩,⟨none,0,rfl,⟨aH _,fun _=>rfl⟩, .inl rfl⟩,af.o⟩
   ·have a3:O _:=Qm p o _ _ _ _ q (HP.o.1.z u.o) HP.o.2.1 (bQ HO.o.1 u.o) HO.o.2.1 HO.o.2.2;go_wp2_with fail;refine Calls.mono a3.o ?_;rintro _ j ⟨rfl,C⟩;have s:O (Below Z.heap.size Z j):=d.o.trans (C.mono d.o.size);have af:O (Below w.heap.size w j):=R.o.trans (s.o.mono R.o.size);have a4:O (lY p l=0):=ai.o oM;clear c0 L M d0 d1 C a3 a6 D d u ai az;by_cases b:lY p o=0
    ·(have g:(lY p o != 0)=false:=by simpa using b);have i:O _:=b;clear b;go_wp2_with fail;go_roundw;(case rel=>exact⟨2,oM,gN,fun _=>a4.o,fun _=>i.o,s.o⟩);case measure=>simp[intOf]
    (have g:(lY p o != 0)=true:=by simpa using b);have i:O (bX p l o=lY p o/\¬lY p o=0):=⟨by rw[I.o];unfold iV;rw[if_pos a4.o],b⟩;clear b;go_wp2_with fail;refine dP (lQ rfl _ _ _) rfl ?_;exact⟨_,_,[],rfl, .inl ⟨by rw[i.o.1];exact i.o.2,i.o.1.symm,rfl⟩,⟨none,0,rfl,⟨aH _,fun _=>rfl⟩, .inl rfl⟩,af.o⟩
   have a4:O (lY p l=0):=ai.o oM;have b6:O (lY p o=0):=az.o oM;(have HZ:O (bX p l o=0):=by show _=_;rw[I.o,a4.o,b6.o];rfl);have aa:O _:=uJ X.o.1 a4.o;have bc:O _:=zL aa.o.2;have be:=OM l;(have ba:O ((eZ l).length<=60):=by show _<=_;have :=aa.o.1;omega);have b4:O (∀f,f∈l->f.args.length<=3):=fun f hf=>uL X.o.2.ok (aa.o.2 f hf);have aJ:O _:=XS l _ q (bQ HV.o.1 u.o) (by have :=aa.o.1;omega) (fun f hf=>by have :=b4.o f hf;omega);have ay:O _:=bC b8.o d.o;clear c0 L M d0 d1 be;go_wp2_with fail;refine Calls.mono aJ.o ?_;rintro _ j ⟨vs,rfl,aN,C⟩;have s:O (Below w.heap.size w j):=u.o.trans (C.mono u.o.size);have aL:O _:=(C.block _ (cV D.o)).trans D.o;have b9:O _:=bC ay.o C;have aw:O _:=aN.toV;obtain⟨bk,cs,rfl,_⟩:=id aw.o;clear aN C aJ a6 D d u ay;go_wp2_with fail;go_loopw [13,42] (fun m iv wr=>∃(n:Nat)(T:List aQ),n<=p.x.length/\iv=.int .i64 n/\O (wT p (eZ l) n (some T))/\T.length<=60/\O (bS wr m T)/\O (Below j.heap.size j wr)) (fun _ iv _=>p.x.length-(intOf iv).toNat);case atStart=>exact⟨0,eZ l,bL _,rfl,rfl,ba.o,aw.o,aG _ _⟩
   case round=>
    obtain⟨Q,bj⟩:∃Q,Q=wr:=⟨_,rfl⟩;subst bj;obtain⟨n,T,hn,rfl,aj,bf,ag,W⟩:=hrel;obtain⟨aT,cT,rfl,_⟩:=id ag.o;have a9:O (Below w.heap.size w Q):=s.o.trans (W.o.mono s.o.size);have ab:O _:=(W.o.block _ (cV aL.o)).trans aL.o;by_cases an:n<p.x.length
    ·(have c0:Q.cell? ⟨w.heap.size,0,none⟩=some (.slice J p.x.length N):=cH ab.o);(have L:Q.cell? ⟨w.heap.size,1,none⟩=some (.slice K p.r.length P):=cH ab.o);(have M:Q.cell? ⟨w.heap.size,2,none⟩=some (.slice E p.y.length G):=cH ab.o);have bd:O _:=vU X.o.2 bc.o aj.o;have ax:O _:=aWN p n T _ _ _ _ _ Q (HP.o.1.z a9.o) HP.o.2.1 (HP.o.2.2.z HP.o.1.rl a9.o) X.o.1 X.o.2 (bC b9.o W.o) ag.o bd.o bf;go_wp2_with fail;refine Calls.mono ax.o ?_;rintro _ w5 ⟨v5,x,hx,rfl,ak,b1⟩;have aq:O (Below j.heap.size j w5):=W.o.trans (b1.mono W.o.size);have b5:O (Below w.heap.size w w5):=s.o.trans (aq.o.mono s.o.size);have b7:O _:=ak;obtain⟨a5,c5,rfl,_⟩:=id ak;have aD:O (wT p (eZ l) (n+1) x):=⟨some T,aj.o,hx⟩;clear ak b1 ax c0 L M ab W a9
     cases x with
     |some U=>
      have bg:U.length<=60:=hx.2.2.len;have b:yU (some U)=0:=rfl;rw[b];clear b hx;go_wp2_with fail;go_roundw;(case rel=>exact⟨n+1,U,an,gN,aD.o,bg,b7.o,aq.o⟩);case measure=>exact mI
     |none=>
      have b:yU none=2:=rfl;rw[b];clear b hx;go_wp2_with fail;refine dP (lQ rfl _ _ _) rfl ?_;exact⟨_,_,[],rfl, .inr ⟨HZ.o,none,LN aD.o an,rfl,rfl⟩,⟨none,0,rfl,⟨aH _,fun _=>rfl⟩, .inl rfl⟩,b5.o⟩
    have bm:decide (n<p.x.length)=false:=aF an;(have bb:O (pR p l (some T)):=by have e:n=p.x.length:=oM;show wT _ _ _ _;rw[<-e];exact aj.o);go_wp2_with fail;refine dP (lQ rfl _ _ _) rfl ?_;exact⟨_,_,T,rfl, .inr ⟨HZ.o,some T,bb.o,rfl,rfl⟩,ag.o,a9.o⟩
 (have g1:(pM p != 0)=true:=by simpa using F);have I:O (bX p l o=pM p/\¬pM p=0):=⟨by unfold bX iV;rw[if_neg F],F⟩;clear F;go_wp2_with fail;refine dP (lQ rfl _ _ _) rfl ?_;exact⟨_,_,[],rfl, .inl ⟨by rw[I.o.1];exact I.o.2,I.o.1.symm,rfl⟩,⟨none,0,rfl,⟨aH _,fun _=>rfl⟩, .inl rfl⟩,a8.o⟩
theorem Kk(p:bK)(l:List aQ)(va vn vr K:Value)(w:World)(b:nV w va vn vr p)(F:lR p)(J:mM w vr)(C:bS w K l)(T:l.length<=9223372036854775807)(H:∀f,f∈l->gD f):
 Calls Tryz.prog 50 #[gU va vn vr,K] w fun e L=>∃v c S,e=.returned (.tuple #[v, .int .i64 c])/\lE p l [] c S/\bS L v S/\Below w.heap.size w L:=by
 obtain⟨i,m,rfl,_⟩:=id b.ar;obtain⟨j,n,rfl,_⟩:=id b.nm;obtain⟨k,q,rfl,_⟩:=id b.rl;obtain⟨V,cl,rfl,_⟩:=id C;have d:=(aG w.heap.size w).alloc (aH _) (pB i m j n k q p);have g:O _:=bA w (pB i m j n k q p);have s:O (Below w.heap.size w _):=d;have E:O _:=Lp p l [] _ _ _ _ (.slice none 0 0) _ (b.z d) F (J.z b.rl d) (bQ C d) T H ⟨none,0,rfl,⟨aH _,fun _=>rfl⟩, .inl rfl⟩ (bL _) (fun _ h=>absurd h sI);clear b F J C H d
 go_enter Tryz.func50,Tryz.ntmps50
 go_upto_region 1 with fail;generalize w.alloc (pB i m j n k q p)=D at *;(have c0:D.cell? ⟨w.heap.size,0,none⟩=some (.slice i p.x.length m):=cH g.o);(have Q:D.cell? ⟨w.heap.size,1,none⟩=some (.slice j p.r.length n):=cH g.o);(have R:D.cell? ⟨w.heap.size,2,none⟩=some (.slice k p.y.length q):=cH g.o);go_wp2_with fail;refine Calls.mono E.o ?_;rintro _ U ⟨v,c,S,rfl,G,u,I⟩;have P:O _:=G;have N:O _:=u;obtain⟨W,X,rfl,_⟩:=id u;have M:O (Below w.heap.size w U):=s.o.trans (I.mono s.o.size);clear I E s g c0 Q R G u;go_wp2_with fail;refine dP (lQ rfl _ _ _) rfl ?_;exact⟨_,c,S,rfl,P.o,N.o,M.o⟩
end Go.Proofs.YtfljoehbbncooaaGreat
