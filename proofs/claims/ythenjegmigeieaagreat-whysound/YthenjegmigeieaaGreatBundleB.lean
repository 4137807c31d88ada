/- Own texts, one behind the other (part 2). -/
import Derived.Test.YthenjegmigeieaaGreatBundleA
import Derived.Test.YthenjegmigeieaaGreatRows
import Derived.Sort.Grow
import Derived.WalkKit
import Derived.WalkSpells
import Derived.WalkLawsBesides
import Derived.Lib.Builder
import Derived.Lib.AppendStr
import Derived.Lib.OthersKept
import Derived.Laws.Externs
import Derived.Lib.UnsafeStr
import Derived.Deep.RegionHeld3
import Derived.Deep.DeepCutAuto
import Derived.Deep.QuietTactic
import Derived.Deep.RegionLaw
import Derived.RegionDies
import Derived.BigQuiet
import Derived.Deep.RegionHeld2
import Derived.Shelf.SlSortCmp.WholeK
import Derived.Ground.SlsfProg
import Derived.Test.YthenjegmigeieaaGreatProg
import Derived.Lib.Atoi
set_option maxRecDepth 100000
set_option maxHeartbeats 8000000
namespace Go.Proofs.YthenjegmigeieaaGreat
namespace Ru
def srt(L:List (List Int)):List (List Int):=(Rl.set (L.map (Rl.Fc.mk 0))).map (·.args)
theorem ord_mk(x y:List Int):Rl.ord ⟨0,x⟩ ⟨0,y⟩=Rl.cmpL x y:=by unfold Rl.ord;rw[if_pos (Rl.cmpI_self 0)]
theorem set_preds{L:List (List Int)}{f:Rl.Fc}(h:f∈Rl.set (L.map (Rl.Fc.mk 0))):f=⟨0,f.args⟩∧f.args∈L:=by obtain⟨x,hx,rfl⟩:=List.mem_map.mp (Rl.mem_set.mp h);exact⟨rfl,hx⟩
theorem mem_srt{L:List (List Int)}{x:List Int}:x∈srt L↔x∈L:=by
 unfold srt;rw[List.mem_map];constructor
 ·rintro⟨f,hf,rfl⟩;exact(set_preds hf).2
 intro h;exact⟨⟨0,x⟩,Rl.mem_set.mpr (List.mem_map.mpr ⟨x,h,rfl⟩),rfl⟩
def UpL(s:List (List Int)):Prop:=s.Pairwise fun x y=>Rl.cmpL x y<0
theorem srt_up(L:List (List Int)):UpL (srt L):=by unfold UpL srt;rw[List.pairwise_map];refine List.Pairwise.imp_of_mem ?_ (Rl.set_isSet (L.map (Rl.Fc.mk 0))).1;intro f g hf hg h;have h':Rl.ord f g<0:=h;rw[(set_preds hf).1,(set_preds hg).1,ord_mk]at h';exact h'
theorem srt_eq{s L:List (List Int)}(hs:UpL s)(h:∀x,x∈s↔x∈L):s=srt L:=by
 (have h1:Rl.Up (s.map (Rl.Fc.mk 0)):=by unfold Rl.Up;rw[List.pairwise_map];exact hs.imp fun {a b} hab=>by show Rl.ord _ _<0;rw[ord_mk];exact hab);have h2:s.map (Rl.Fc.mk 0)=Rl.set (L.map (Rl.Fc.mk 0)):=Rl.isSet_eq ⟨h1,fun f=>by
  constructor
  ·intro hf;obtain⟨x,hx,rfl⟩:=List.mem_map.mp hf;exact List.mem_map.mpr ⟨x,(h x).mp hx,rfl⟩
  intro hf;obtain⟨x,hx,rfl⟩:=List.mem_map.mp hf
  exact List.mem_map.mpr ⟨x,(h x).mpr hx,rfl⟩⟩
 unfold srt;rw[←h2,List.map_map];exact(List.map_id' s).symm
theorem srt_nodup(L:List (List Int)):(srt L).Nodup:=by refine(srt_up L).imp ?_;intro a b h e;rw[Rl.cmpL_zero.mpr e]at h;omega
theorem srt_perm{L:List (List Int)}(hn:L.Nodup):(srt L).Perm L:=(List.perm_ext_iff_of_nodup (srt_nodup L) hn).mpr fun _=>mem_srt
def minL:List Int→Int
 |[]=>0
 |a::r=>r.foldl (fun m x=>if x<m then x else m) a
def maxL:List Int→Int
 |[]=>0
 |a::r=>r.foldl (fun m x=>if m<x then x else m) a
def foldN(f:Int)(l:List Int):Int:=if f=1 then(l.length:Int)else if f=3 then minL l else if f=4 then maxL l else l.sum
theorem fold_min(r:List Int):∀a:Int,(r.foldl (fun m x=>if x<m then x else m) a=a∨r.foldl (fun m x=>if x<m then x else m) a∈r)∧r.foldl (fun m x=>if x<m then x else m) a≤a∧∀x,x∈r→r.foldl (fun m x=>if x<m then x else m) a≤x:=by
 induction r with
 |nil=>exact fun a=>⟨.inl rfl,Int.le_refl _,fun x hx=>absurd hx sI⟩
 |cons b r ih=>
  intro a;obtain⟨h1,h2,h3⟩:=ih (if b<a then b else a);simp only[List.foldl_cons];refine⟨?_,?_,?_⟩
  ·rcases h1 with h1|h1
   ·rw[h1];split
    ·exact .inr List.mem_cons_self
    exact .inl rfl
   exact .inr (List.mem_cons_of_mem _ h1)
  ·refine Int.le_trans h2 ?_;split<;>omega
  intro x hx;rcases List.mem_cons.mp hx with rfl|hx
  ·refine Int.le_trans h2 ?_;split<;>omega
  exact h3 x hx
theorem fold_max(r:List Int):∀a:Int,(r.foldl (fun m x=>if m<x then x else m) a=a∨r.foldl (fun m x=>if m<x then x else m) a∈r)∧a≤r.foldl (fun m x=>if m<x then x else m) a∧∀x,x∈r→x≤r.foldl (fun m x=>if m<x then x else m) a:=by
 induction r with
 |nil=>exact fun a=>⟨.inl rfl,Int.le_refl _,fun x hx=>absurd hx sI⟩
 |cons b r ih=>
  intro a;obtain⟨h1,h2,h3⟩:=ih (if a<b then b else a);simp only[List.foldl_cons];refine⟨?_,?_,?_⟩
  ·rcases h1 with h1|h1
   ·rw[h1];split
    ·exact .inr List.mem_cons_self
    exact .inl rfl
   exact .inr (List.mem_cons_of_mem _ h1)
  ·refine Int.le_trans ?_ h2;split<;>omega
  intro x hx;rcases List.mem_cons.mp hx with rfl|hx
  ·refine Int.le_trans ?_ h2;split<;>omega
  exact h3 x hx
theorem minL_mem{l:List Int}(h:l≠[]):minL l∈l∧∀x,x∈l→minL l≤x:=by
 cases l with
 |nil=>exact absurd rfl h
 |cons a r=>
  obtain⟨h1,h2,h3⟩:=fold_min r a;refine⟨?_,fun x hx=>?_⟩
  ·rcases h1 with h1|h1
   ·show r.foldl _ a∈_;rw[h1];exact List.mem_cons_self
   exact List.mem_cons_of_mem _ h1
  rcases List.mem_cons.mp hx with rfl|hx
  ·exact h2
  exact h3 x hx
theorem maxL_mem{l:List Int}(h:l≠[]):maxL l∈l∧∀x,x∈l→x≤maxL l:=by
 cases l with
 |nil=>exact absurd rfl h
 |cons a r=>
  obtain⟨h1,h2,h3⟩:=fold_max r a;refine⟨?_,fun x hx=>?_⟩
  ·rcases h1 with h1|h1
   ·show r.foldl _ a∈_;rw[h1];exact List.mem_cons_self
   exact List.mem_cons_of_mem _ h1
  rcases List.mem_cons.mp hx with rfl|hx
  ·exact h2
  exact h3 x hx
theorem perm_sum{l m:List Int}(h:l.Perm m):l.sum=m.sum:=by
 induction h with
 |nil=>rfl
 |cons a _ ih=>simp only[List.sum_cons,ih]
 |swap a b l=>simp only[List.sum_cons];omega
 |trans _ _ h1 h2=>exact h1.trans h2
theorem foldN_perm(f:Int){l m:List Int}(h:l.Perm m):foldN f l=foldN f m:=by
 unfold foldN;rw[h.length_eq,perm_sum h];by_cases hl:l=[]
 ·subst hl;have :m=[]:=List.nil_perm.mp h;subst this;rfl
 have hm:m≠[]:=fun e=>hl (by subst e;exact List.perm_nil.mp h);have a:=minL_mem hl;have b:=minL_mem hm;have c:=maxL_mem hl;have d:=maxL_mem hm;(have e1:minL l=minL m:=by have :=a.2 _ (h.mem_iff.mpr b.1);have :=b.2 _ (h.mem_iff.mp a.1);omega);(have e2:maxL l=maxL m:=by have :=c.2 _ (h.mem_iff.mpr d.1);have :=d.2 _ (h.mem_iff.mp c.1);omega);rw[e1,e2]
def pre(a:List Int):List Int:=a.dropLast
def lst(a:List Int):Int:=a.getLastD 0
def head(r:Sc.Rule)(x:List Int):Rl.Fc:=⟨r.pred,fill r.terms x⟩
def group(H:List Rl.Fc)(p:List Int):List Int:=(H.filter fun g=>decide (pre g.args=p)).map fun g=>lst g.args
def foldH(f:Int)(H:List Rl.Fc)(h:Rl.Fc):Option Rl.Fc:=
 if Sc.isNum (foldN f (group H (pre h.args)))=true then some ⟨h.pred,pre h.args++[foldN f (group H (pre h.args))]⟩else none
def headsL(r:Sc.Rule)(W:List (List Int)):List Rl.Fc:=
 if r.fold=0 then W.map (head r)else(W.map (head r)).filterMap (foldH r.fold (W.map (head r)))
def heads(r:Sc.Rule)(W:List (List Int)):List Rl.Fc:=Rl.set (headsL r W)
theorem group_perm{H K:List Rl.Fc}(h:H.Perm K)(p:List Int):(group H p).Perm (group K p):=(h.filter _).map _
theorem foldH_perm(f:Int){H K:List Rl.Fc}(h:H.Perm K)(x:Rl.Fc):foldH f H x=foldH f K x:=by unfold foldH;rw[foldN_perm f (group_perm h _)]
theorem headsL_perm(r:Sc.Rule){W V:List (List Int)}(h:W.Perm V)(x:Rl.Fc):x∈headsL r W↔x∈headsL r V:=by
 unfold headsL;have hm:=h.map (head r);split
 ·exact hm.mem_iff
 rw[List.mem_filterMap,List.mem_filterMap];constructor
 ·rintro⟨a,ha,hx⟩;exact⟨a,hm.mem_iff.mp ha,by rw[←foldH_perm _ hm];exact hx⟩
 rintro⟨a,ha,hx⟩;exact⟨a,hm.mem_iff.mpr ha,by rw[foldH_perm _ hm];exact hx⟩
theorem heads_perm(r:Sc.Rule){W V:List (List Int)}(h:W.Perm V):heads r W=heads r V:=Rl.set_same (headsL_perm r h)
theorem cmpL_pre:∀{x y:List Int},x.length=y.length→Rl.cmpL x y≤0→Rl.cmpL (pre x) (pre y)≤0
 |[],[],_,_=>dE
 |[],_::_,h,_=>by cases h
 |_::_,[],h,_=>by cases h
 |[a],[b],_,_=>by show Rl.cmpL [] []≤0;decide
 |[a],b::c::y,h,_=>by simp at h
 |a::c::x,[b],h,_=>by simp at h
 |a::a'::x,b::b'::y,hl,h=>by
  have ih:=cmpL_pre (x:=a'::x) (y:=b'::y) (by simpa using hl);show Rl.cmpL (a::pre (a'::x)) (b::pre (b'::y))≤0;have h':(if Rl.cmpI a b=0 then Rl.cmpL (a'::x) (b'::y)else Rl.cmpI a b)≤0:=h;show(if Rl.cmpI a b=0 then Rl.cmpL (pre (a'::x)) (pre (b'::y))else Rl.cmpI a b)≤0;by_cases e:Rl.cmpI a b=0
  ·rw[if_pos e]at h' ⊢;exact ih h'
  rw[if_neg e]at h' ⊢;exact h'
def folded(f:Int):List Rl.Fc→List Int→List Rl.Fc
 |[],_=>[]
 |h::t,ns=>
  (match t with
   |[]=>if Sc.isNum (foldN f (ns++[lst h.args]))=true then [⟨h.pred,pre h.args++[foldN f (ns++[lst h.args])]⟩] else []
   |g::_=>if pre h.args=pre g.args then folded f t (ns++[lst h.args])
    else(if Sc.isNum (foldN f (ns++[lst h.args]))=true then [⟨h.pred,pre h.args++[foldN f (ns++[lst h.args])]⟩] else [])++folded f t [])
def emit(f pd:Int)(p:List Int)(ns:List Int):List Rl.Fc:=if Sc.isNum (foldN f ns)=true then [⟨pd,p++[foldN f ns]⟩] else []
theorem folded_group(f pd:Int)(p:List Int):∀(G:List Rl.Fc)(h:Rl.Fc)(R:List Rl.Fc)(ns:List Int),(∀g,g∈h::G→pre g.args=p∧g.pred=pd)→(∀g,R.head?=some g→¬pre g.args=p)→
 folded f (h::G++R) ns=emit f pd p (ns++(h::G).map fun g=>lst g.args)++folded f R []
 |[],h,R,ns,hG,hR=>by
  obtain⟨h1,h2⟩:=hG h List.mem_cons_self
  cases R with
  |nil=>
   show(if Sc.isNum (foldN f (ns++[lst h.args]))=true then [(⟨h.pred,pre h.args++[foldN f (ns++[lst h.args])]⟩:Rl.Fc)] else [])=_;rw[h1,h2];show emit f pd p (ns++[lst h.args])=emit f pd p (ns++[lst h.args])++[];rw[List.append_nil]
  |cons g R=>
   show(if pre h.args=pre g.args then folded f (g::R) (ns++[lst h.args])else(if Sc.isNum (foldN f (ns++[lst h.args]))=true then [⟨h.pred,pre h.args++[foldN f (ns++[lst h.args])]⟩] else [])++folded f (g::R) [])=_;rw[h1,if_neg (fun e=>hR g rfl e.symm),h2];rfl
 |g::G,h,R,ns,hG,hR=>by obtain⟨h1,h2⟩:=hG h List.mem_cons_self;obtain⟨g1,g2⟩:=hG g (List.mem_cons_of_mem _ List.mem_cons_self);show(if pre h.args=pre g.args then folded f (g::G++R) (ns++[lst h.args])else(if Sc.isNum (foldN f (ns++[lst h.args]))=true then [⟨h.pred,pre h.args++[foldN f (ns++[lst h.args])]⟩] else [])++folded f (g::G++R) [])=_;rw[h1,g1,if_pos rfl,folded_group f pd p G g R _ (fun x hx=>hG x (List.mem_cons_of_mem _ hx)) hR];simp
theorem folded_mem(f pd:Int)(T:Nat):∀(n:Nat)(H:List Rl.Fc),H.length≤n→(∀h,h∈H→h.pred=pd∧h.args.length=T)→H.Pairwise (fun a b=>Rl.ord a b≤0)→∀x,x∈folded f H []↔∃h,h∈H∧foldH f H h=some x
 |_,[],_,_,_,x=>by
  constructor
  ·intro h;cases h
  rintro⟨h,hh,_⟩;cases hh
 |0,_::_,hl,_,_,_=>by simp at hl
 |n+1,h::t,hl,hP,hS,x=>by
  obtain⟨p,hp⟩:∃p,p=pre h.args:=⟨_,rfl⟩
  let q:Rl.Fc→Bool:=fun g=>decide (pre g.args=p)
  have hsplit:t=t.takeWhile q++t.dropWhile q:=(List.takeWhile_append_dropWhile).symm;obtain⟨G,hGd⟩:∃G,G=t.takeWhile q:=⟨_,rfl⟩;obtain⟨R,hRd⟩:∃R,R=t.dropWhile q:=⟨_,rfl⟩;rw[←hGd,←hRd]at hsplit;(have hGp:∀g,g∈G→pre g.args=p:=fun g hg=>by rw[hGd]at hg;(have :q g=true:=by have h9:=List.all_takeWhile (p:=q) (l:=t);exact List.all_eq_true.mp h9 g hg);exact of_decide_eq_true this);(have hRh:∀g,R.head?=some g→¬pre g.args=p:=fun g hg he=>by have h9:=List.head?_dropWhile_not q t;rw[←hRd,hg]at h9;simp[q,he]at h9);have hS':=List.pairwise_cons.mp hS;have hRall:∀g,g∈R→¬pre g.args=p:=by
   intro g hg
   cases hRc:R with
   |nil=>rw[hRc]at hg;cases hg
   |cons a R'=>
    have ha:¬pre a.args=p:=hRh a (by rw[hRc];rfl);(have hat:a∈t:=by rw[hsplit,hRc];simp);(have ordle:∀{u v:Rl.Fc},u∈h::t→v∈h::t→Rl.ord u v≤0→Rl.cmpL (pre u.args) (pre v.args)≤0:=by intro u v hu hv huv;obtain⟨u1,u2⟩:=hP u hu;obtain⟨v1,v2⟩:=hP v hv;refine cmpL_pre (by rw[u2,v2]) ?_;unfold Rl.ord at huv;rwa[u1,v1,if_pos (Rl.cmpI_self pd)]at huv);(have h1:=ordle List.mem_cons_self (List.mem_cons_of_mem _ hat) (hS'.1 a hat);rw[←hp]at h1;have h2:Rl.cmpL p (pre a.args)<0:=by have :¬Rl.cmpL p (pre a.args)=0:=fun e=>ha (Rl.cmpL_zero.mp e).symm;omega);rw[hRc]at hg;rcases List.mem_cons.mp hg with rfl|hg'
    ·exact ha
    (have hgt:g∈t:=by rw[hsplit,hRc];simp[hg']);(have hpw:(a::R').Pairwise (fun a b=>Rl.ord a b≤0):=by have :=hS'.2;rw[hsplit,List.pairwise_append]at this;rw[←hRc];exact this.2.1);have h3:=ordle (List.mem_cons_of_mem _ hat) (List.mem_cons_of_mem _ hgt) ((List.pairwise_cons.mp hpw).1 g hg');intro e;rw[e]at h3;have :=Rl.cmpL_flip p (pre a.args);omega
  have hfl:folded f (h::t) []=emit f pd p ((h::G).map fun g=>lst g.args)++folded f R []:=by
   have :=folded_group f pd p G h R [] (fun g hg=>by
    rcases List.mem_cons.mp hg with rfl|hg'
    ·exact⟨hp.symm,(hP g List.mem_cons_self).1⟩
    exact⟨hGp g hg',(hP g (List.mem_cons_of_mem _ (by rw[hsplit];simp[hg']))).1⟩) hRh
   rw[List.nil_append]at this;rw[←this,List.cons_append,←hsplit]
  have hgrp:group (h::t) p=(h::G).map fun g=>lst g.args:=by
   unfold group
   congr 1
   rw[List.filter_cons,if_pos (decide_eq_true hp.symm)]
   congr 1
   rw[hsplit,List.filter_append];have e1:G.filter (fun g=>decide (pre g.args=p))=G:=List.filter_eq_self.mpr fun g hg=>decide_eq_true (hGp g hg);(have e2:R.filter (fun g=>decide (pre g.args=p))=[]:=List.filter_eq_nil_iff.mpr fun g hg=>by simpa using hRall g hg);rw[e1,e2,List.append_nil]
  have hgrpR:∀g,g∈R→group (h::t) (pre g.args)=group R (pre g.args):=fun g hg=>by
   unfold group
   congr 1
   have hne:=hRall g hg;rw[List.filter_cons,if_neg (by simp only[decide_eq_true_eq];rw[←hp];exact fun e=>hne e.symm)];rw[hsplit,List.filter_append];(have e1:G.filter (fun k=>decide (pre k.args=pre g.args))=[]:=List.filter_eq_nil_iff.mpr fun k hk=>by simp only[decide_eq_true_eq];rw[hGp k hk];exact fun e=>hne e.symm);rw[e1,List.nil_append]
  have hRl:R.length≤n:=by
   (have :t.length≤n:=by simpa using hl);rw[hsplit,List.length_append]at this
   omega
  have hRm:∀g,g∈R→g∈h::t:=fun g hg=>List.mem_cons_of_mem _ (by rw[hsplit];simp[hg]);have ih:=folded_mem f pd T n R hRl (fun g hg=>hP g (hRm g hg)) (by
   have :=hS'.2;rw[hsplit,List.pairwise_append]at this
   exact this.2.1) x
  (have hfH:∀g,g∈R→foldH f (h::t) g=foldH f R g:=fun g hg=>by unfold foldH;rw[hgrpR g hg]);have hfG:∀g,g∈h::G→(foldH f (h::t) g=some x↔x∈emit f pd p ((h::G).map fun g=>lst g.args)):=fun g hg=>by
   have e:pre g.args=p:=by
    rcases List.mem_cons.mp hg with rfl|hg'
    ·exact hp.symm
    exact hGp g hg'
   have e':g.pred=pd:=by
    rcases List.mem_cons.mp hg with rfl|hg'
    ·exact(hP g List.mem_cons_self).1
    exact(hP g (List.mem_cons_of_mem _ (by rw[hsplit];simp[hg']))).1
   unfold foldH emit;rw[e,hgrp,e'];split
   ·rw[List.mem_singleton];constructor
    ·intro h;injection h with h;exact h.symm
    intro h;rw[h]
   constructor
   ·intro h;cases h
   intro h;cases h
  rw[hfl,List.mem_append,ih];constructor
  ·rintro(h1|⟨g,hg,h1⟩)
   ·exact⟨h,List.mem_cons_self,(hfG h List.mem_cons_self).mpr h1⟩
   exact⟨g,hRm g hg,by rw[hfH g hg];exact h1⟩
  rintro⟨g,hg,h1⟩;rcases List.mem_cons.mp hg with rfl|hg'
  ·exact .inl ((hfG g List.mem_cons_self).mp h1)
  rw[hsplit]at hg';rcases List.mem_append.mp hg' with hg'|hg'
  ·exact .inl ((hfG g (List.mem_cons_of_mem _ hg')).mp h1)
  exact .inr ⟨g,hg',by rw[←hfH g hg'];exact h1⟩
theorem heads_folded{r:Sc.Rule}(hf:¬r.fold=0){W:List (List Int)}{H:List Rl.Fc}(hH:H.Perm (W.map (head r)))(hS:H.Pairwise (fun a b=>Rl.ord a b≤0)):Rl.set (folded r.fold H [])=heads r W:=by
 refine Rl.set_same fun x=>?_;rw[folded_mem r.fold r.pred r.terms.length H.length H (Nat.le_refl _) (fun h hh=>by
  obtain⟨y,_,rfl⟩:=List.mem_map.mp (hH.mem_iff.mp hh)
  exact⟨rfl,by simp[head,fill]⟩) hS x]
 unfold headsL;rw[if_neg hf,List.mem_filterMap];constructor
 ·rintro⟨h,hh,hx⟩;exact⟨h,hH.mem_iff.mp hh,by rw[←foldH_perm _ hH];exact hx⟩
 rintro⟨h,hh,hx⟩;exact⟨h,hH.mem_iff.mpr hh,by rw[foldH_perm _ hH];exact hx⟩
theorem holds_more{l:Sc.Lit}{x:List Int}{f g:List Rl.Fc}(hk:¬l.kind=2)(h:∀a,a∈f→a∈g)(hh:holds f l x=true):holds g l x=true:=by
 unfold holds at hh ⊢;split
 ·rename_i h1;rw[if_pos h1,Rl.has_iff]at hh;rw[Rl.has_iff];exact h _ hh
 rename_i h1;rw[if_neg h1,if_neg hk]at hh;exact hh
theorem heads_more{r:Sc.Rule}{W V:List (List Int)}(hf:r.fold=0)(h:∀x,x∈W→x∈V)(f:Rl.Fc)(hx:f∈heads r W):f∈heads r V:=by unfold heads headsL at hx ⊢;rw[if_pos hf,Rl.mem_set]at hx ⊢;obtain⟨x,hw,rfl⟩:=List.mem_map.mp hx;exact List.mem_map.mpr ⟨x,h x hw,rfl⟩
end Ru
end Go.Proofs.YthenjegmigeieaaGreat
namespace Go.Proofs.YthenjegmigeieaaGreat
namespace Ru
theorem first0{α:Type}{f:α→Int}:∀{l:List α},Sc.first f l=0→∀x,x∈l→f x=0
 |[],_,_,hx=>by cases hx
 |a::l,h,x,hx=>by
  unfold Sc.first at h;split at h
  ·rename_i ha;rcases List.mem_cons.mp hx with rfl|hx
   ·exact ha
   exact first0 h x hx
  rename_i ha;exact absurd h ha
theorem thn0{a b:Int}(h:Sc.thn a b=0):a=0∧b=0:=by
 unfold Sc.thn at h;split at h
 ·exact⟨by assumption,h⟩
 exact absurd h (by assumption)
theorem between_iff{n a b:Int}:Tr.between n a b=true↔a≤n∧n≤b:=by unfold Tr.between;simp
structure TermOk (vars:Int) (t:Sc.Term):Prop where
 lo: -1≤t.var
 hi:t.var≤vars-1
 num:Sc.isNum t.n=true
theorem termOk_of{vars:Int}{t:Sc.Term}(h:Sc.termErr vars t=0):TermOk vars t:=by
 unfold Sc.termErr at h;split at h
 ·rename_i hb;obtain⟨h1,h2⟩:=between_iff.mp hb;split at h
  ·omega
  rename_i hn;simp only[Bool.or_eq_true,not_or,Bool.not_eq_true']at hn;exact⟨h1,h2,by simpa using hn.1⟩
 omega
structure RuleOk (ar:List Int) (r:Sc.Rule):Prop where
 p0:0≤r.pred
 p1:r.pred<(ar.length:Int)
 tl:(r.terms.length:Int)=Sc.intD ar r.pred.toNat
 v0:0≤r.vars
 v8:r.vars≤8
 tm:∀t,t∈r.terms→TermOk r.vars t
 f0:0≤r.fold
 f4:r.fold≤4
 ff:¬r.fold=0→¬r.terms.length=0∧¬r.body.length=0
 b4:r.body.length≤4
 lit:∀l,l∈r.body→Sc.litErr ar l=0∧∀t,t∈l.terms→TermOk r.vars t
 safe:Sc.safe r=true
theorem ruleOk_of{ar:List Int}{r:Sc.Rule}(h:Sc.ruleErr ar r=0):RuleOk ar r:=by
 unfold Sc.ruleErr at h;split at h
 ·rename_i hp;unfold Sc.isPred at hp;obtain⟨p0,p1⟩:=between_iff.mp hp;obtain⟨h1,h⟩:=thn0 h;obtain⟨h2,h⟩:=thn0 h;obtain⟨h3,h⟩:=thn0 h;obtain⟨h4,h⟩:=thn0 h;obtain⟨h5,h⟩:=thn0 h;obtain⟨h6,h⟩:=thn0 h;obtain⟨h7,h8⟩:=thn0 h;have hv:0≤r.vars∧r.vars≤8:=by
   split at h2
   ·rename_i hb;exact between_iff.mp hb
   omega
  have hf:0≤r.fold∧r.fold≤4:=by
   split at h4
   ·rename_i hb;exact between_iff.mp hb
   omega
  refine⟨p0,oM,?_,hv.1,hv.2,fun t ht=>termOk_of (first0 h3 t ht),hf.1,hf.2,fun hn=>?_,?_,fun l hl=>?_,?_⟩
  ·split at h1
   ·omega
   rename_i hn;exact Classical.not_not.mp hn
  ·split at h5
   ·omega
   rename_i hc;exact⟨fun e=>hc ⟨hn, .inl e⟩,fun e=>hc ⟨hn, .inr e⟩⟩
  ·split at h6
   ·omega
   omega
  ·obtain⟨a,b⟩:=thn0 (first0 h7 l hl);exact⟨a,fun t ht=>termOk_of (first0 b t ht)⟩
  split at h8
  ·assumption
  omega
 omega
structure ProgOk (p:Sc.Prog):Prop where
 a10:p.arity.length≤10
 r12:p.rules.length≤12
 nm:p.names.length=p.arity.length
 ar:∀i,i<p.arity.length→0≤Sc.intD p.arity i∧Sc.intD p.arity i≤3
 rule:∀r,r∈p.rules→RuleOk p.arity r
theorem progOk_of{p:Sc.Prog}(h:Sc.check p=0):ProgOk p:=by
 unfold Sc.check at h;split at h
 ·omega
 rename_i h1;split at h
 ·omega
 rename_i h2;obtain⟨h3,h4⟩:=thn0 h;have hnm:p.names.length=p.arity.length:=Classical.not_not.mp h2;refine⟨oM,oM,hnm,fun i hi=>?_,fun r hr=>ruleOk_of (first0 h4 r hr)⟩;have :=first0 h3 i (List.mem_range.mpr oM);unfold Sc.predErr at this;obtain⟨h5,_⟩:=thn0 this;split at h5
 ·rename_i hb;exact between_iff.mp hb
 omega
structure Right (ar:List Int) (f:Rl.Fc):Prop where
 p0:0≤f.pred
 p1:f.pred<(ar.length:Int)
 al:(f.args.length:Int)=Sc.intD ar f.pred.toNat
 nm:∀n,n∈f.args→Sc.isNum n=true
theorem right_iff{p:Sc.Prog}{f:Rl.Fc}:Sc.factErr p f.pred f.args=0↔Right p.arity f:=by
 unfold Sc.factErr Sc.isPred;constructor
 ·intro h;split at h
  ·rename_i hp;obtain⟨p0,p1⟩:=between_iff.mp hp;obtain⟨h1,h2⟩:=thn0 h;refine⟨p0,oM,?_,?_⟩
   ·split at h1
    ·omega
    rename_i hn;exact Classical.not_not.mp hn
   split at h2
   ·rename_i ha;exact List.all_eq_true.mp ha
   omega
  omega
 intro h;rw[if_pos (between_iff.mpr ⟨h.p0,by have :=h.p1;omega⟩),if_neg (fun hn=>hn h.al),if_pos (List.all_eq_true.mpr h.nm)];rfl
theorem litIn_of{ar:List Int}{r:Sc.Rule}(hr:RuleOk ar r){facts:List Rl.Fc}(hF:∀f,f∈facts→Right ar f){l:Sc.Lit}(hl:l∈r.body):LitIn r.vars.toNat facts l:=by
 obtain⟨h1,h2⟩:=hr.lit l hl;unfold Sc.litErr at h1;refine⟨fun t ht=>?_,?_,fun h3=>?_,fun h4=>?_,fun hk f hf hp=>?_⟩
 ·have :=h2 t ht;by_cases h0:t.var<0
  ·exact .inl h0
  right;have :=this.hi;omega
 ·split at h1
  ·rename_i hk;rcases hk with h|h<;>simp[h]
  split at h1
  ·rename_i hk;simp[hk]
  split at h1
  ·rename_i hk;simp[hk]
  omega
 ·rw[if_neg oM,if_pos h3]at h1;split at h1
  ·split at h1
   ·omega
   rename_i hn;refine Classical.byContradiction fun hc=>hn (.inr hc)
  omega
 ·rw[if_neg oM,if_neg oM,if_pos h4]at h1;split at h1
  ·split at h1
   ·omega
   rename_i hn;refine Classical.byContradiction fun hc=>hn (.inr hc)
  omega
 rw[if_pos (.inl hk)]at h1;split at h1
 ·omega
 split at h1
 ·split at h1
  ·omega
  rename_i hn;have e1:(l.terms.length:Int)=Sc.intD ar l.pred.toNat:=Classical.not_not.mp hn;have e2:=(hF f hf).al;rw[hp]at e2;omega
 omega
theorem lit_preds{ar:List Int}{r:Sc.Rule}(hr:RuleOk ar r){l:Sc.Lit}(hl:l∈r.body)(hk:l.kind=1∨l.kind=2):0≤l.pred∧l.pred<(ar.length:Int)∧(l.terms.length:Int)=Sc.intD ar l.pred.toNat:=by
 obtain⟨h1,_⟩:=hr.lit l hl;unfold Sc.litErr at h1;rw[if_pos hk]at h1;split at h1
 ·omega
 split at h1
 ·rename_i hp;unfold Sc.isPred at hp;obtain⟨p0,p1⟩:=between_iff.mp hp;split at h1
  ·omega
  rename_i hn;exact⟨p0,oM,Classical.not_not.mp hn⟩
 omega
theorem ruleIn_of{ar:List Int}{r:Sc.Rule}(hr:RuleOk ar r){facts:List Rl.Fc}(hF:∀f,f∈facts→Right ar f):RuleIn facts r:=
 ⟨hr.safe,by have :=hr.v8;have :=hr.v0;omega,fun l hl=>litIn_of hr hF hl⟩
theorem num_isNum{vars:Int}{t:Sc.Term}{x:List Int}(ht:TermOk vars t)(hl:x.length=vars.toNat)(hx:∀n,n∈x→Sc.isNum n=true):Sc.isNum (num x t)=true:=by
 unfold num;split
 ·exact ht.num
 rename_i h0;(have hlt:t.var.toNat<x.length:=by have :=ht.hi;omega);rw[List.getD_eq_getElem?_getD,List.getElem?_eq_getElem hlt];exact hx _ (List.getElem_mem hlt)
def hd(facts:List Rl.Fc)(r:Sc.Rule):List Rl.Fc:=heads r (ways facts r)
section
variable {ar:List Int} {r:Sc.Rule} {facts:List Rl.Fc}
theorem right_nums(hF:∀f,f∈facts→Right ar f):∀f,f∈facts→∀n,n∈f.args→Sc.isNum n=true:=fun f hf=>(hF f hf).nm
theorem head_right(hr:RuleOk ar r)(hF:∀f,f∈facts→Right ar f){x:List Int}(hx:Sol facts r x):Right ar (head r x):=by
 refine⟨hr.p0,hr.p1,?_,fun n hn=>?_⟩
 ·show((fill r.terms x).length:Int)=_;unfold fill;rw[List.length_map];exact hr.tl
 obtain⟨t,ht,rfl⟩:=List.mem_map.mp hn;exact num_isNum (hr.tm t ht) hx.1 (sol_nums (ruleIn_of hr hF) (right_nums hF) hx)
theorem pre_append_lst{a:List Int}(h:a≠[]):pre a++[lst a]=a:=by unfold pre lst;rw[List.getLastD_eq_getLast?,List.getLast?_eq_some_getLast h];exact List.dropLast_concat_getLast h
theorem hd_right(hr:RuleOk ar r)(hF:∀f,f∈facts→Right ar f){f:Rl.Fc}(hf:f∈hd facts r):Right ar f:=by
 unfold hd heads at hf;rw[Rl.mem_set]at hf;have hw:∀x,x∈ways facts r→Right ar (head r x):=fun x hx=>head_right hr hF ((mem_ways (ruleIn_of hr hF) (right_nums hF) x).mp hx);unfold headsL at hf;split at hf
 ·obtain⟨x,hx,rfl⟩:=List.mem_map.mp hf;exact hw x hx
 rename_i hfo;obtain⟨g,hg,hfg⟩:=List.mem_filterMap.mp hf;obtain⟨x,hx,rfl⟩:=List.mem_map.mp hg;have h1:=hw x hx;unfold foldH at hfg;split at hfg
 ·rename_i hn;injection hfg with hfg;subst hfg;(have hne:(head r x).args≠[]:=by show fill r.terms x≠[];intro e;(have :(fill r.terms x).length=0:=by rw[e];rfl);unfold fill at this;rw[List.length_map]at this;exact(hr.ff hfo).1 this);refine⟨h1.p0,h1.p1,?_,fun n hn'=>?_⟩
  ·(have e:(pre (head r x).args++[foldN r.fold (group (List.map (head r) (ways facts r)) (pre (head r x).args))]).length=(head r x).args.length:=by(conv=>rhs;rw[←pre_append_lst hne]);rw[List.length_append,List.length_append];rfl);rw[e];exact h1.al
  rcases List.mem_append.mp hn' with h|h
  ·exact h1.nm n (by rw[←pre_append_lst hne];exact List.mem_append_left _ h)
  rcases List.mem_singleton.mp h with rfl;exact hn
 cases hfg
theorem hd_pred{f:Rl.Fc}(hf:f∈hd facts r):f.pred=r.pred:=by
 unfold hd heads at hf;rw[Rl.mem_set]at hf;unfold headsL at hf;split at hf
 ·obtain⟨x,hx,rfl⟩:=List.mem_map.mp hf;rfl
 obtain⟨g,hg,hfg⟩:=List.mem_filterMap.mp hf;obtain⟨x,hx,rfl⟩:=List.mem_map.mp hg;unfold foldH at hfg;split at hfg
 ·injection hfg with hfg;subst hfg;rfl
 cases hfg
end
theorem holds_same{l:Sc.Lit}{x:List Int}{S T:List Rl.Fc}(h:l.kind=1∨l.kind=2→∀a,(⟨l.pred,a⟩:Rl.Fc)∈S↔(⟨l.pred,a⟩:Rl.Fc)∈T):holds S l x=holds T l x:=by
 unfold holds;(have e:l.kind=1∨l.kind=2→Rl.has S ⟨l.pred,fill l.terms x⟩=Rl.has T ⟨l.pred,fill l.terms x⟩:=fun hk=>by rw[Bool.eq_iff_iff,Rl.has_iff,Rl.has_iff];exact h hk _);split
 ·rename_i h1;exact e (.inl h1)
 split
 ·rename_i h2;rw[e (.inr h2)]
 rfl
theorem sol_agree{r:Sc.Rule}{x:List Int}{S T:List Rl.Fc}(h:∀l,l∈r.body→l.kind=1∨l.kind=2→∀a,(⟨l.pred,a⟩:Rl.Fc)∈S↔(⟨l.pred,a⟩:Rl.Fc)∈T):Sol S r x↔Sol T r x:=by
 unfold Sol;constructor
 ·rintro⟨h1,h2⟩;exact⟨h1,fun l hl=>by rw[←holds_same (h l hl)];exact h2 l hl⟩
 rintro⟨h1,h2⟩;exact⟨h1,fun l hl=>by rw[holds_same (h l hl)];exact h2 l hl⟩
section
variable {ar:List Int} {r:Sc.Rule} {S T:List Rl.Fc}
theorem ways_perm(hr:RuleOk ar r)(hS:∀f,f∈S→Right ar f)(hT:∀f,f∈T→Right ar f)(nS:S.Nodup)(nT:T.Nodup)(h:∀x,Sol S r x↔Sol T r x):(ways S r).Perm (ways T r):=
 (List.perm_ext_iff_of_nodup (ways_nodup (ruleIn_of hr hS) (right_nums hS) nS) (ways_nodup (ruleIn_of hr hT) (right_nums hT) nT)).mpr fun x=>(mem_ways (ruleIn_of hr hS) (right_nums hS) x).trans ((h x).trans (mem_ways (ruleIn_of hr hT) (right_nums hT) x).symm)
theorem hd_same(hr:RuleOk ar r)(hS:∀f,f∈S→Right ar f)(hT:∀f,f∈T→Right ar f)(nS:S.Nodup)(nT:T.Nodup)(h:∀x,Sol S r x↔Sol T r x):hd S r=hd T r:=heads_perm r (ways_perm hr hS hT nS nT h)
theorem ways_le(hr:RuleOk ar r)(hS:∀f,f∈S→Right ar f)(hT:∀f,f∈T→Right ar f)(nS:S.Nodup)(h:∀x,Sol S r x→Sol T r x):(ways S r).length≤(ways T r).length:=by refine(ways_nodup (ruleIn_of hr hS) (right_nums hS) nS).length_le_of_subset fun x hx=>?_;exact(mem_ways (ruleIn_of hr hT) (right_nums hT) x).mpr (h x ((mem_ways (ruleIn_of hr hS) (right_nums hS) x).mp hx))
theorem hd_le(hr:RuleOk ar r)(hS:∀f,f∈S→Right ar f)(hT:∀f,f∈T→Right ar f)(hf:r.fold=0)(h:∀x,Sol S r x→Sol T r x){f:Rl.Fc}(hx:f∈hd S r):f∈hd T r:=
 heads_more hf (fun x hx=>(mem_ways (ruleIn_of hr hT) (right_nums hT) x).mpr (h x ((mem_ways (ruleIn_of hr hS) (right_nums hS) x).mp hx))) f hx
end
end Ru
end Go.Proofs.YthenjegmigeieaaGreat
namespace Go.Proofs.YthenjegmigeieaaGreat
namespace Fx
abbrev Edge:=Nat×Nat×Int
def step(l:List Int)(e:Edge):List Int:=if l.getD e.1 0<l.getD e.2.1 0+e.2.2 then l.set e.1 (l.getD e.2.1 0+e.2.2)else l
def round(E:List Edge)(l:List Int):List Int:=E.foldl step l
def iter(E:List Edge):Nat→List Int→List Int
 |0,l=>l
 |k+1,l=>iter E k (round E l)
def Le(l o:List Int):Prop:=l.length=o.length∧∀i:Nat,l.getD i 0≤o.getD i 0
def Fit(E:List Edge)(o:List Int):Prop:=∀e,e∈E→o.getD e.2.1 0+e.2.2≤o.getD e.1 0
def In(E:List Edge)(n:Nat):Prop:=∀e,e∈E→e.1<n
theorem Le.refl(l:List Int):Le l l:=⟨rfl,fun _=>Int.le_refl _⟩
theorem Le.trans{a b c:List Int}(h:Le a b)(k:Le b c):Le a c:=⟨h.1.trans k.1,fun i=>Int.le_trans (h.2 i) (k.2 i)⟩
theorem Le.anti{a b:List Int}(h:Le a b)(k:Le b a):a=b:=by refine List.ext_getElem h.1 fun i h1 h2=>?_;have :=Int.le_antisymm (h.2 i) (k.2 i);rw[List.getD_eq_getElem?_getD,List.getD_eq_getElem?_getD,List.getElem?_eq_getElem h1,List.getElem?_eq_getElem h2]at this;exact this
theorem getD_set(l:List Int)(h i:Nat)(v:Int):(l.set h v).getD i 0=if i=h∧h<l.length then v else l.getD i 0:=by
 rw[List.getD_eq_getElem?_getD,List.getElem?_set,List.getD_eq_getElem?_getD];by_cases hi:h=i
 ·subst hi;by_cases hl:h<l.length
  ·simp[hl]
  simp[hl]
 rw[if_neg hi,if_neg (fun h=>hi h.1.symm)]
theorem step_le(l:List Int)(e:Edge):Le l (step l e):=by
 unfold step;split
 ·rename_i h;refine⟨by simp,fun i=>?_⟩;rw[getD_set];split
  ·rename_i h2;rw[h2.1];omega
  exact Int.le_refl _
 exact Le.refl l
theorem step_length(l:List Int)(e:Edge):(step l e).length=l.length:=(step_le l e).1.symm
theorem round_le:∀(E:List Edge)(l:List Int),Le l (round E l)
 |[],l=>Le.refl l
 |e::E,l=>(step_le l e).trans (round_le E (step l e))
theorem round_length(E:List Edge)(l:List Int):(round E l).length=l.length:=(round_le E l).1.symm
theorem step_fit{l o:List Int}{e:Edge}(h:Le l o)(hf:o.getD e.2.1 0+e.2.2≤o.getD e.1 0):Le (step l e) o:=by
 unfold step;split
 ·refine⟨by simp[h.1],fun i=>?_⟩;rw[getD_set];split
  ·rename_i h2;rw[h2.1];have :=h.2 e.2.1;omega
  exact h.2 i
 exact h
theorem round_fit:∀(E:List Edge){l o:List Int},Le l o→Fit E o→Le (round E l) o
 |[],_,_,h,_=>h
 |e::E,_,_,h,hf=>round_fit E (step_fit h (hf e List.mem_cons_self)) (fun e' he=>hf e' (List.mem_cons_of_mem _ he))
theorem step_reaches{l:List Int}{e:Edge}(h:e.1<l.length):l.getD e.2.1 0+e.2.2≤(step l e).getD e.1 0:=by
 unfold step;split
 ·rw[getD_set,if_pos ⟨rfl,h⟩];exact Int.le_refl _
 rename_i h2;omega
theorem round_reaches:∀(E:List Edge){l:List Int},In E l.length→∀e,e∈E→l.getD e.2.1 0+e.2.2≤(round E l).getD e.1 0
 |e0::E,l,hi,e,he=>by
  rcases List.mem_cons.mp he with rfl|he
  ·exact Int.le_trans (step_reaches (hi _ List.mem_cons_self)) ((round_le E (step l e)).2 _)
  have h1:=round_reaches E (l:=step l e0) (fun e' h'=>by rw[step_length];exact hi e' (List.mem_cons_of_mem _ h')) e he;have h2:=(step_le l e0).2 e.2.1;show _≤(round E (step l e0)).getD e.1 0;omega
theorem fit_of_fix{E:List Edge}{l:List Int}(hi:In E l.length)(h:round E l=l):Fit E l:=fun e he=>by have :=round_reaches E hi e he;rw[h]at this;exact this
theorem iter_succ(E:List Edge):∀(k:Nat)(l:List Int),iter E (k+1) l=round E (iter E k l)
 |0,_=>rfl
 |k+1,l=>by show iter E (k+1) (round E l)=_;rw[iter_succ E k (round E l)];rfl
theorem iter_le(E:List Edge):∀(k:Nat)(l:List Int),Le l (iter E k l)
 |0,l=>Le.refl l
 |k+1,l=>(round_le E l).trans (iter_le E k (round E l))
theorem iter_length(E:List Edge)(k:Nat)(l:List Int):(iter E k l).length=l.length:=(iter_le E k l).1.symm
theorem iter_fit(E:List Edge):∀(k:Nat){l o:List Int},Le l o→Fit E o→Le (iter E k l) o
 |0,_,_,h,_=>h
 |k+1,_,_,h,hf=>iter_fit E k (round_fit E h hf) hf
theorem iter_add(E:List Edge):∀(j k:Nat)(l:List Int),iter E (j+k) l=iter E k (iter E j l)
 |0,k,l=>by rw[Nat.zero_add];rfl
 |j+1,k,l=>by rw[Nat.add_right_comm];exact iter_add E j k (round E l)
theorem iter_fix{E:List Edge}{l:List Int}(h:round E l=l):∀k,iter E k l=l
 |0=>rfl
 |k+1=>by rw[iter_succ,iter_fix h k,h]
end Fx
end Go.Proofs.YthenjegmigeieaaGreat
namespace Go.Proofs.YthenjegmigeieaaGreat
namespace St
open Sc
def hang(x:Sc.Lit):Bool:=decide (x.kind=1∨x.kind=2)
def strict(r:Sc.Rule)(x:Sc.Lit):Int:=if x.kind=2∨r.fold≠0 then 1 else 0
def ruleE(r:Sc.Rule):List Fx.Edge:=(r.body.filter hang).map fun x=>(r.pred.toNat,x.pred.toNat,strict r x)
def edges(p:Sc.Prog):List Fx.Edge:=p.rules.flatMap ruleE
def zeros(n:Nat):List Int:=List.replicate n 0
def level(p:Sc.Prog):List Int:=Fx.iter (edges p) p.arity.length (zeros p.arity.length)
def flat(p:Sc.Prog):Bool:=decide (Fx.round (edges p) (level p)=level p)
theorem zeros_getD(n i:Nat):(zeros n).getD i 0=0:=by unfold zeros;rw[List.getD_eq_getElem?_getD,List.getElem?_replicate];split<;>rfl
theorem zeros_le{o:List Int}(h:∀i:Nat,0≤o.getD i 0):Fx.Le (zeros o.length) o:=⟨by simp[zeros],fun i=>by rw[zeros_getD];exact h i⟩
theorem level_length(p:Sc.Prog):(level p).length=p.arity.length:=by unfold level;rw[Fx.iter_length];simp[zeros]
theorem level_nonneg(p:Sc.Prog)(i:Nat):0≤(level p).getD i 0:=by have :=(Fx.iter_le (edges p) p.arity.length (zeros p.arity.length)).2 i;rw[zeros_getD]at this;exact this
def fits(p:Sc.Prog)(o:List Int):Prop:=o.length=p.arity.length∧(∀i:Nat,0≤o.getD i 0)∧Fx.Fit (edges p) o
theorem least{p:Sc.Prog}{o:List Int}(h:fits p o)(i:Nat):(level p).getD i 0≤o.getD i 0:=by(have h1:Fx.Le (zeros p.arity.length) o:=by rw[←h.1];exact zeros_le h.2.1);exact(Fx.iter_fit (edges p) p.arity.length h1 h.2.2).2 i
theorem fits_level{p:Sc.Prog}(hi:Fx.In (edges p) p.arity.length)(h:flat p=true):fits p (level p):=
 ⟨level_length p,level_nonneg p,Fx.fit_of_fix (by rw[level_length];exact hi) (of_decide_eq_true h)⟩
end St
end Go.Proofs.YthenjegmigeieaaGreat
namespace Go.Proofs.YthenjegmigeieaaGreat
namespace Md
open Ru
def lv(p:Sc.Prog)(k:Int):Int:=(St.level p).getD k.toNat 0
structure Fine (p:Sc.Prog):Prop where
 ok:ProgOk p
 fit:Fx.Fit (St.edges p) (St.level p)
theorem fine_of{p:Sc.Prog}(h:Sc.check p=0)(hf:St.flat p=true):Fine p:=by have hok:=progOk_of h;refine⟨hok,(St.fits_level ?_ hf).2.2⟩;intro e he;obtain⟨r,hr,h2⟩:=List.mem_flatMap.mp he;obtain⟨x,_,rfl⟩:=List.mem_map.mp h2;have h1:=(hok.rule r hr).p0;have h2:=(hok.rule r hr).p1;show r.pred.toNat<p.arity.length;omega
theorem lv_le{p:Sc.Prog}(h:Fine p){r:Sc.Rule}(hr:r∈p.rules){l:Sc.Lit}(hl:l∈r.body)(hk:l.kind=1∨l.kind=2):lv p l.pred+St.strict r l≤lv p r.pred:=by refine h.fit (r.pred.toNat,l.pred.toNat,St.strict r l) ?_;unfold St.edges;rw[List.mem_flatMap];refine⟨r,hr,List.mem_map.mpr ⟨l,List.mem_filter.mpr ⟨hl,decide_eq_true hk⟩,rfl⟩⟩
structure Facts (p:Sc.Prog) (S:List Rl.Fc):Prop where
 right:∀f,f∈S→Right p.arity f
 up:Rl.Up S
theorem up_nodup{S:List Rl.Fc}(h:Rl.Up S):S.Nodup:=h.imp fun {a b} hab e=>by subst e;exact Rl.Lt.irrefl _ hab
def Below(p:Sc.Prog)(k:Int)(S T:List Rl.Fc):Prop:=∀f:Rl.Fc,lv p f.pred<k→(f∈S↔f∈T)
section
variable {p:Sc.Prog} {S T:List Rl.Fc} {k:Int} {r:Sc.Rule}
theorem sol_mono(hp:Fine p)(hr:r∈p.rules)(hk:lv p r.pred=k)(hb:Below p k S T)(hs:∀f,f∈S→f∈T){x:List Int}(h:Sol S r x):Sol T r x:=by
 refine⟨h.1,fun l hl=>?_⟩;have h2:=h.2 l hl;by_cases h1:l.kind=2
 ·have hle:=lv_le hp hr hl (.inr h1);(have hst:St.strict r l=1:=by unfold St.strict;rw[if_pos (.inl h1)]);rw[←holds_same (S:=S) (fun _ a=>hb ⟨l.pred,a⟩ (by show lv p l.pred<k;omega))];exact h2
 exact holds_more h1 hs h2
theorem sol_fold(hp:Fine p)(hr:r∈p.rules)(hk:lv p r.pred=k)(hf:¬r.fold=0)(hb:Below p k S T)(x:List Int):Sol S r x↔Sol T r x:=by refine sol_agree fun l hl hkd a=>hb _ ?_;have hle:=lv_le hp hr hl hkd;(have hst:St.strict r l=1:=by unfold St.strict;rw[if_pos (.inr hf)]);show lv p l.pred<k;omega
theorem hd_mono(hp:Fine p)(hr:r∈p.rules)(hk:lv p r.pred=k)(hS:Facts p S)(hT:Facts p T)(hb:Below p k S T)(hs:∀f,f∈S→f∈T){f:Rl.Fc}(h:f∈hd S r):f∈hd T r:=by
 by_cases hf:r.fold=0
 ·exact hd_le (hp.ok.rule r hr) hS.right hT.right hf (fun x hx=>sol_mono hp hr hk hb hs hx) h
 rw[←hd_same (hp.ok.rule r hr) hS.right hT.right (up_nodup hS.up) (up_nodup hT.up) (sol_fold hp hr hk hf hb)];exact h
theorem ways_mono(hp:Fine p)(hr:r∈p.rules)(hk:lv p r.pred=k)(hS:Facts p S)(hT:Facts p T)(hb:Below p k S T)(hs:∀f,f∈S→f∈T):(Ru.ways S r).length≤(Ru.ways T r).length:=
 ways_le (hp.ok.rule r hr) hS.right hT.right (up_nodup hS.up) fun _ hx=>sol_mono hp hr hk hb hs hx
end
structure Grows (p:Sc.Prog) (k:Int) (S T:List Rl.Fc):Prop where
 sub:∀f,f∈S→f∈T
 new:∀f,f∈T→f∈S∨∃r,r∈p.rules∧lv p r.pred=k∧f∈hd S r
 up:Rl.Up T
inductive Reach (p:Sc.Prog) (k:Int) (m:List Rl.Fc):List Rl.Fc→Prop
 |refl:Reach p k m m
 |step {S T:List Rl.Fc}:Reach p k m S→Grows p k S T→Reach p k m T
def Closed(p:Sc.Prog)(k:Int)(S:List Rl.Fc):Prop:=∀r,r∈p.rules→lv p r.pred=k→∀f,f∈hd S r→f∈S
structure Small (p:Sc.Prog) (k:Int) (S:List Rl.Fc):Prop where
 len:S.length≤60
 way:∀r,r∈p.rules→lv p r.pred=k→(Ru.ways S r).length≤2000
section
variable {p:Sc.Prog} {k:Int} {m:List Rl.Fc}
theorem grows_facts(hp:Fine p){S T:List Rl.Fc}(hS:Facts p S)(h:Grows p k S T):Facts p T:=by
 refine⟨fun f hf=>?_,h.up⟩;rcases h.new f hf with h1|⟨r,hr,_,h1⟩
 ·exact hS.right f h1
 exact hd_right (hp.ok.rule r hr) hS.right h1
theorem grows_below{S T:List Rl.Fc}(h:Grows p k S T):Below p k S T:=fun f hf=>by
 refine⟨h.sub f,fun hT=>?_⟩;rcases h.new f hT with h1|⟨r,hr,hk,h1⟩
 ·exact h1
 rw[hd_pred h1]at hf;omega
theorem reach_ok(hp:Fine p)(hm:Facts p m){S:List Rl.Fc}(h:Reach p k m S):Facts p S∧Below p k m S∧∀f,f∈m→f∈S:=by
 induction h with
 |refl=>exact⟨hm,fun _ _=>Iff.rfl,fun _ h=>h⟩
 |step _ hg ih=>
  obtain⟨h1,h2,h3⟩:=ih;exact⟨grows_facts hp h1 hg,fun f hf=>(h2 f hf).trans (grows_below hg f hf),fun f hf=>hg.sub f (h3 f hf)⟩
theorem reach_in(hp:Fine p)(hm:Facts p m){S T:List Rl.Fc}(h:Reach p k m S)(hT:Facts p T)(hb:Below p k m T)(hs:∀f,f∈m→f∈T)(hc:Closed p k T):∀f,f∈S→f∈T:=by
 induction h with
 |refl=>exact hs
 |step hr hg ih=>
  obtain⟨h1,h2,_⟩:=reach_ok hp hm hr;intro f hf;rcases hg.new f hf with h3|⟨r,hrr,hk,h3⟩
  ·exact ih f h3
  refine hc r hrr hk f (hd_mono hp hrr hk h1 hT (fun g hg=>?_) ih h3);exact(h2 g hg).symm.trans (hb g hg)
theorem reach_one(hp:Fine p)(hm:Facts p m){S T:List Rl.Fc}(hS:Reach p k m S)(cS:Closed p k S)(hT:Reach p k m T)(cT:Closed p k T):S=T:=by obtain⟨s1,s2,s3⟩:=reach_ok hp hm hS;obtain⟨t1,t2,t3⟩:=reach_ok hp hm hT;exact Rl.up_ext s1.up t1.up fun f=>⟨reach_in hp hm hS t1 t2 t3 cT f,reach_in hp hm hT s1 s2 s3 cS f⟩
theorem small_back(hp:Fine p)(hm:Facts p m){S T:List Rl.Fc}(hS:Reach p k m S)(hT:Reach p k m T)(cT:Closed p k T)(h:Small p k T):Small p k S:=by obtain⟨s1,s2,s3⟩:=reach_ok hp hm hS;obtain⟨t1,t2,t3⟩:=reach_ok hp hm hT;have hin:=reach_in hp hm hS t1 t2 t3 cT;refine⟨Nat.le_trans ((up_nodup s1.up).length_le_of_subset hin) h.len,fun r hr hk=>?_⟩;exact Nat.le_trans (ways_mono hp hr hk s1 t1 (fun f hf=>(s2 f hf).symm.trans (t2 f hf)) hin) (h.way r hr hk)
end
def LevRes(p:Sc.Prog)(k:Int)(m:List Rl.Fc):Option (List Rl.Fc)→Prop
 |some S=>Reach p k m S∧Closed p k S∧Small p k S
 |none=>∀S,Reach p k m S→Closed p k S→Small p k S→False
theorem levRes_one{p:Sc.Prog}{k:Int}{m:List Rl.Fc}(hp:Fine p)(hm:Facts p m):∀{a b:Option (List Rl.Fc)},LevRes p k m a→LevRes p k m b→a=b
 |some S,some T,h1,h2=>by rw[reach_one hp hm h1.1 h1.2.1 h2.1 h2.2.1]
 |some S,none,h1,h2=>(h2 S h1.1 h1.2.1 h1.2.2).elim
 |none,some S,h1,h2=>(h1 S h2.1 h2.2.1 h2.2.2).elim
 |none,none,_,_=>rfl
def Run(p:Sc.Prog)(m:List Rl.Fc):Nat→Option (List Rl.Fc)→Prop
 |0,o=>o=some m
 |n+1,o=>∃a,Run p m n a∧(match a with
  |none=>o=none
  |some S=>LevRes p n S o)
theorem run_facts{p:Sc.Prog}{m:List Rl.Fc}(hp:Fine p)(hm:Facts p m):∀{n:Nat}{S:List Rl.Fc},Run p m n (some S)→Facts p S
 |0,S,h=>by unfold Run at h;injection h with h;subst h;exact hm
 |n+1,S,h=>by
  obtain⟨a,h1,h2⟩:=h
  cases a with
  |none=>cases h2
  |some T=>exact(reach_ok hp (run_facts hp hm h1) h2.1).1
theorem run_one{p:Sc.Prog}{m:List Rl.Fc}(hp:Fine p)(hm:Facts p m):∀{n:Nat}{a b:Option (List Rl.Fc)},Run p m n a→Run p m n b→a=b
 |0,_,_,h1,h2=>by unfold Run at h1 h2;rw[h1,h2]
 |n+1,a,b,h1,h2=>by
  obtain⟨c,c1,c2⟩:=h1;obtain⟨d,d1,d2⟩:=h2;have e:=run_one hp hm c1 d1;subst e
  cases c with
  |none=>rw[c2,d2]
  |some S=>exact levRes_one hp (run_facts hp hm c1) c2 d2
def IsModel(p:Sc.Prog)(l:List Rl.Fc)(o:Option (List Rl.Fc)):Prop:=Run p (Rl.set l) p.arity.length o
theorem set_facts{p:Sc.Prog}{l:List Rl.Fc}(h:∀f,f∈l→Right p.arity f):Facts p (Rl.set l):=⟨fun f hf=>h f (Rl.mem_set.mp hf),(Rl.set_isSet l).1⟩
theorem model_one{p:Sc.Prog}{l:List Rl.Fc}(hp:Fine p)(hl:∀f,f∈l→Right p.arity f){a b:Option (List Rl.Fc)}(h1:IsModel p l a)(h2:IsModel p l b):a=b:=run_one hp (set_facts hl) h1 h2
section
variable {p:Sc.Prog} {m:List Rl.Fc}
theorem lits_below(hp:Fine p){r:Sc.Rule}(hr:r∈p.rules){k:Int}(hk:lv p r.pred<k){S T:List Rl.Fc}(hb:Below p k S T)(x:List Int):Sol S r x↔Sol T r x:=by refine sol_agree fun l hl hkd a=>hb _ ?_;have hle:=lv_le hp hr hl hkd;(have hst:0≤St.strict r l:=by unfold St.strict;split<;>omega);show lv p l.pred<k;omega
theorem reach_new(hp:Fine p)(hm:Facts p m){k:Int}{S T:List Rl.Fc}(h:Reach p k m S)(hS:Reach p k m T)(cT:Closed p k T):∀f,f∈S→f∈m∨∃r,r∈p.rules∧lv p r.pred=k∧f∈hd T r:=by
 induction h with
 |refl=>exact fun f hf=>.inl hf
 |step hr hg ih=>
  intro f hf;rcases hg.new f hf with h3|⟨r,hrr,hk,h3⟩
  ·exact ih f h3
  obtain⟨s1,s2,_⟩:=reach_ok hp hm hr;obtain⟨t1,t2,t3⟩:=reach_ok hp hm hS;exact .inr ⟨r,hrr,hk,hd_mono hp hrr hk s1 t1 (fun g hg=>(s2 g hg).symm.trans (t2 g hg)) (reach_in hp hm hr t1 t2 t3 cT) h3⟩
structure Shut (p:Sc.Prog) (m:List Rl.Fc) (n:Int) (S:List Rl.Fc):Prop where
 closed:∀r,r∈p.rules→lv p r.pred<n→∀f,f∈hd S r→f∈S
 way:∀r,r∈p.rules→lv p r.pred<n→(Ru.ways S r).length≤2000
 from_:∀f,f∈S→f∈m∨∃r,r∈p.rules∧lv p r.pred<n∧f∈hd S r
theorem lv_nonneg(p:Sc.Prog)(k:Int):0≤lv p k:=St.level_nonneg p k.toNat
theorem run_shut(hp:Fine p)(hm:Facts p m):∀{n:Nat}{S:List Rl.Fc},Run p m n (some S)→Shut p m n S
 |0,S,h=>by unfold Run at h;injection h with h;subst h;refine⟨fun r _ hk=>?_,fun r _ hk=>?_,fun f hf=>.inl hf⟩<;> ·have :=lv_nonneg p r.pred;omega
 |n+1,S,h=>by
  obtain⟨a,h1,h2⟩:=h
  cases a with
  |none=>cases h2
  |some T=>
   have ih:=run_shut hp hm h1;have hT:=run_facts hp hm h1;obtain⟨hS,hb,hsub⟩:=reach_ok hp hT h2.1;have hsame:∀r,r∈p.rules→lv p r.pred<n→hd T r=hd S r:=fun r hr hk=>hd_same (hp.ok.rule r hr) hT.right hS.right (up_nodup hT.up) (up_nodup hS.up) (lits_below hp hr hk hb);refine⟨fun r hr hk f hf=>?_,fun r hr hk=>?_,fun f hf=>?_⟩
   ·by_cases e:lv p r.pred=n
    ·exact h2.2.1 r hr e f hf
    have hlt:lv p r.pred<n:=oM;exact hsub f (ih.closed r hr hlt f (by rw[hsame r hr hlt];exact hf))
   ·by_cases e:lv p r.pred=n
    ·exact h2.2.2.way r hr e
    have hlt:lv p r.pred<n:=oM;rw[←(ways_perm (hp.ok.rule r hr) hT.right hS.right (up_nodup hT.up) (up_nodup hS.up) (lits_below hp hr hlt hb)).length_eq];exact ih.way r hr hlt
   rcases reach_new hp hT h2.1 h2.1 h2.2.1 f hf with h3|⟨r,hr,hk,h3⟩
   ·rcases ih.from_ f h3 with h4|⟨r,hr,hk,h4⟩
    ·exact .inl h4
    exact .inr ⟨r,hr,oM,by rw[←hsame r hr hk];exact h4⟩
   exact .inr ⟨r,hr,oM,h3⟩
end
theorem lv_lt{p:Sc.Prog}(hp:Fine p){r:Sc.Rule}(hr:r∈p.rules)(hb:∀i:Nat,i<p.arity.length→(St.level p).getD i 0<(p.arity.length:Int)):lv p r.pred<p.arity.length:=by have h0:=(hp.ok.rule r hr).p0;have h1:=(hp.ok.rule r hr).p1;exact hb r.pred.toNat oM
end Md
end Go.Proofs.YthenjegmigeieaaGreat
namespace Go.Proofs.YthenjegmigeieaaGreat
namespace St
theorem strict_le(r:Sc.Rule)(x:Sc.Lit):strict r x≤1:=by unfold strict;split<;>omega
theorem edges_le{p:Sc.Prog}:∀e,e∈edges p→e.2.2≤1:=fun e he=>by obtain⟨r,_,h2⟩:=List.mem_flatMap.mp he;obtain⟨x,_,rfl⟩:=List.mem_map.mp h2;exact strict_le r x
theorem level_there{p:Sc.Prog}(hf:fits p (level p))(hin:∀e,e∈edges p→e.2.1<p.arity.length){v:Int}(h0:0≤v){i:Nat}(hi:v<(level p).getD i 0):v∈level p:=by
 refine Classical.byContradiction fun hn=>?_;obtain⟨F,hF⟩:∃F,F=level p:=⟨_,rfl⟩;have hlen:F.length=p.arity.length:=hF▸level_length p;rw[←hF]at hf hi hn;obtain⟨G,hG⟩:∃G:List Int,G=F.map (fun n=>if v<n then n-1 else n):=⟨_,rfl⟩;have hGd:∀j:Nat,G.getD j 0=if v<F.getD j 0 then F.getD j 0-1 else F.getD j 0:=fun j=>by
  rw[hG,List.getD_eq_getElem?_getD,List.getElem?_map,List.getD_eq_getElem?_getD]
  cases F[j]? with
  |none=>simp;omega
  |some b=>rfl
 (have hne:∀j:Nat,j<F.length→F.getD j 0≠v:=fun j hj he=>by refine hn ?_;rw[←he,List.getD_eq_getElem?_getD,List.getElem?_eq_getElem hj];exact List.getElem_mem hj);have hfit:fits p G:=by
  refine⟨by rw[hG,List.length_map];exact hlen,fun j=>?_,fun e he=>?_⟩
  ·rw[hGd j];have :=hf.2.1 j;split<;>omega
  have h1:=hf.2.2 e he;have h2:=edges_le e he;rw[hGd,hGd];have h3:=hne _ (hlen▸hin e he);split<;>split<;>omega
 have :=least hfit i;rw[←hF,hGd i,if_pos hi]at this;omega
theorem level_lt{p:Sc.Prog}(hf:fits p (level p))(hin:∀e,e∈edges p→e.2.1<p.arity.length){i:Nat}(hi:i<p.arity.length):(level p).getD i 0<(p.arity.length:Int):=by
 refine Classical.byContradiction fun hn=>?_;have hsub:∀v,v∈((List.range p.arity.length).map (fun(n:Nat)=>(n:Int)))++[(level p).getD i 0]→v∈level p:=fun v hv=>by
  rcases List.mem_append.mp hv with h|h
  ·obtain⟨n,h1,rfl⟩:=List.mem_map.mp h;have :=List.mem_range.mp h1;exact level_there hf hin oM (i:=i) oM
  rw[List.mem_singleton.mp h,List.getD_eq_getElem?_getD,List.getElem?_eq_getElem (by rw[level_length];exact hi)];exact List.getElem_mem _
 have hnd:(((List.range p.arity.length).map (fun(n:Nat)=>(n:Int)))++[(level p).getD i 0]).Nodup:=by
  rw[List.nodup_append];refine⟨?_,by simp,fun a ha b hb e=>?_⟩
  ·rw[List.nodup_iff_pairwise_ne,List.pairwise_map];exact(List.nodup_iff_pairwise_ne.mp List.nodup_range).imp fun {a b} h e=>h oM
  obtain⟨n,h1,rfl⟩:=List.mem_map.mp ha;have :=List.mem_range.mp h1;have :=List.mem_singleton.mp hb;omega
 have :=hnd.length_le_of_subset hsub;rw[level_length]at this;simp at this;omega
end St
namespace Md
open Ru
theorem fine_fits{p:Sc.Prog}(h:Fine p):St.fits p (St.level p):=⟨St.level_length p,St.level_nonneg p,h.fit⟩
theorem fine_in{p:Sc.Prog}(h:Fine p):∀e,e∈St.edges p→e.2.1<p.arity.length:=fun e he=>by obtain⟨r,hr,h2⟩:=List.mem_flatMap.mp he;obtain⟨x,hx,rfl⟩:=List.mem_map.mp h2;obtain⟨h3,h4⟩:=List.mem_filter.mp hx;have :=lit_preds (h.ok.rule r hr) h3 (of_decide_eq_true h4);show x.pred.toNat<_;omega
theorem lv_few{p:Sc.Prog}(h:Fine p){r:Sc.Rule}(hr:r∈p.rules):lv p r.pred<p.arity.length:=lv_lt h hr fun _ hi=>St.level_lt (fine_fits h) (fine_in h) hi
theorem model_shut{p:Sc.Prog}{l S:List Rl.Fc}(hp:Fine p)(hl:∀f,f∈l→Right p.arity f)(h:IsModel p l (some S)):
 (∀r,r∈p.rules→∀f,f∈hd S r→f∈S)∧(∀r,r∈p.rules→(Ru.ways S r).length≤2000)∧∀f,f∈S→f∈l∨∃r,r∈p.rules∧f∈hd S r:=by
 have hs:=run_shut hp (set_facts hl) h;refine⟨fun r hr=>hs.closed r hr (lv_few hp hr),fun r hr=>hs.way r hr (lv_few hp hr),fun f hf=>?_⟩;rcases hs.from_ f hf with h1|⟨r,hr,_,h1⟩
 ·exact .inl (Rl.mem_set.mp h1)
 exact .inr ⟨r,hr,h1⟩
end Md
end Go.Proofs.YthenjegmigeieaaGreat
namespace Go.Proofs.YthenjegmigeieaaGreat
namespace Wy
open Ru Md
structure Step where
 fact:Rl.Fc
 rule:Int
 vars:List Int
def ruleAt(p:Sc.Prog)(i:Int):Sc.Rule:=Sc.ruleD p.rules i.toNat
def needL(r:Sc.Rule)(x:List Int):List Rl.Fc:=(r.body.filter fun l=>decide (l.kind=1)).map fun l=>⟨l.pred,fill l.terms x⟩
def needs(p:Sc.Prog)(s:Step):List Rl.Fc:=if s.rule= -1∨¬(ruleAt p s.rule).fold=0 then [] else needL (ruleAt p s.rule) s.vars
def isOf(s:Step)(f:Rl.Fc):Bool:=Rl.ord s.fact f==0
theorem isOf_iff{s:Step}{f:Rl.Fc}:isOf s f=true↔s.fact=f:=by unfold isOf;rw[beq_iff_eq];exact Rl.ord_zero
def proven(st:List Step)(f:Rl.Fc):Bool:=st.any fun s=>isOf s f
theorem proven_iff{st:List Step}{f:Rl.Fc}:proven st f=true↔∃s,s∈st∧s.fact=f:=by unfold proven;rw[List.any_eq_true];exact⟨fun⟨s,h1,h2⟩=>⟨s,h1,isOf_iff.mp h2⟩,fun⟨s,h1,h2⟩=>⟨s,h1,isOf_iff.mpr h2⟩⟩
def isReady(p:Sc.Prog)(ahead:List Step)(s:Step):Bool:=(needs p s).all (proven ahead)
theorem ready_iff{p:Sc.Prog}{ahead:List Step}{s:Step}:isReady p ahead s=true↔∀f,f∈needs p s→proven ahead f=true:=List.all_eq_true
def headArgs(r:Sc.Rule)(x:List Int):List Int:=if r.fold=0 then fill r.terms x else pre (fill r.terms x)
def fitsH(a:List Int)(h:Rl.Fc):Bool:=decide (h.args.take a.length=a)
def stepOf(p:Sc.Prog)(i:Nat)(H:List Rl.Fc)(x:List Int):Option Step:=
 (H.find? (fitsH (headArgs (Sc.ruleD p.rules i) x))).map fun h=>⟨h,i,x⟩
def stepsBy(p:Sc.Prog)(m:List Rl.Fc)(i:Nat):List Step:=(srt (Ru.ways m (Sc.ruleD p.rules i))).filterMap (stepOf p i (hd m (Sc.ruleD p.rules i)))
def right(p:Sc.Prog)(l m:List Rl.Fc):List Step:=(Rl.set l).map (fun f=>⟨f, -1,[]⟩)++(List.range p.rules.length).flatMap (stepsBy p m)
def Fits(p:Sc.Prog)(l m:List Rl.Fc)(s:Step):Prop:=
 (s.rule= -1∧s.vars=[]∧s.fact∈l)∨
 (0≤s.rule∧s.rule<(p.rules.length:Int)∧Sol m (ruleAt p s.rule) s.vars∧
  ((ruleAt p s.rule).fold=0→s.fact=head (ruleAt p s.rule) s.vars)∧
  (¬(ruleAt p s.rule).fold=0→s.fact∈hd m (ruleAt p s.rule)∧pre s.fact.args=pre (fill (ruleAt p s.rule).terms s.vars)))
theorem fill_length(ts:List Sc.Term)(x:List Int):(fill ts x).length=ts.length:=by unfold fill;rw[List.length_map]
theorem ruleD_mem{l:List Sc.Rule}{i:Nat}(h:i<l.length):Sc.ruleD l i∈l:=by unfold Sc.ruleD;rw[List.getD_eq_getElem?_getD,List.getElem?_eq_getElem h];exact List.getElem_mem h
section
variable {ar:List Int} {r:Sc.Rule} {m:List Rl.Fc}
theorem mem_hd_zero(hf:r.fold=0)(hr:RuleOk ar r)(hF:∀f,f∈m→Right ar f){f:Rl.Fc}:f∈hd m r↔∃x,Sol m r x∧f=head r x:=by unfold hd heads headsL;rw[Rl.mem_set,if_pos hf,List.mem_map];exact⟨fun⟨x,h1,h2⟩=>⟨x,(mem_ways (ruleIn_of hr hF) (right_nums hF) x).mp h1,h2.symm⟩,fun⟨x,h1,h2⟩=>⟨x,(mem_ways (ruleIn_of hr hF) (right_nums hF) x).mpr h1,h2.symm⟩⟩
theorem hd_one(hf:¬r.fold=0){f g:Rl.Fc}(h1:f∈hd m r)(h2:g∈hd m r)(hp:pre f.args=pre g.args):f=g:=by
 unfold hd heads headsL at h1 h2;rw[Rl.mem_set,if_neg hf]at h1 h2;obtain⟨a,ha,h1⟩:=List.mem_filterMap.mp h1;obtain⟨b,hb,h2⟩:=List.mem_filterMap.mp h2;obtain⟨x,_,rfl⟩:=List.mem_map.mp ha;obtain⟨y,_,rfl⟩:=List.mem_map.mp hb;unfold foldH at h1 h2;split at h1
 ·split at h2
  ·injection h1 with h1;injection h2 with h2;subst h1 h2;(have e1:∀(a:List Int)(n:Int),pre (a++[n])=a:=fun a n=>by unfold pre;simp);simp only[e1]at hp;rw[hp];rfl
  cases h2
 cases h1
theorem hd_way(hf:¬r.fold=0)(hr:RuleOk ar r)(hF:∀f,f∈m→Right ar f){f:Rl.Fc}(h1:f∈hd m r):∃x,Sol m r x∧pre f.args=pre (fill r.terms x):=by
 unfold hd heads headsL at h1;rw[Rl.mem_set,if_neg hf]at h1;obtain⟨a,ha,h1⟩:=List.mem_filterMap.mp h1;obtain⟨x,hx,rfl⟩:=List.mem_map.mp ha;unfold foldH at h1;split at h1
 ·injection h1 with h1;subst h1;refine⟨x,(mem_ways (ruleIn_of hr hF) (right_nums hF) x).mp hx,?_⟩;unfold pre;simp only[List.dropLast_concat];rfl
 cases h1
theorem take_pre{a:List Int}{n:Nat}(h:a.length=n):a.take (n-1)=pre a:=by unfold pre;rw[List.dropLast_eq_take,h]
theorem fitsH_zero(hf:r.fold=0)(hr:RuleOk ar r)(hF:∀f,f∈m→Right ar f){x:List Int}{h:Rl.Fc}(hh:h∈hd m r):fitsH (headArgs r x) h=true↔h=head r x:=by have h1:=hd_right hr hF hh;(have h2:h.args.length=r.terms.length:=by have a:=h1.al;rw[hd_pred hh]at a;have b:=hr.tl;omega);unfold fitsH headArgs;rw[if_pos hf,decide_eq_true_eq,fill_length,←h2,List.take_length];refine⟨fun e=>?_,fun e=>by rw[e];rfl⟩;have h3:=hd_pred hh;cases h;unfold head;simp only at h3 e;rw[h3,e]
theorem fitsH_fold(hf:¬r.fold=0)(hr:RuleOk ar r)(hF:∀f,f∈m→Right ar f){x:List Int}{h:Rl.Fc}(hh:h∈hd m r):fitsH (headArgs r x) h=true↔pre h.args=pre (fill r.terms x):=by have h1:=hd_right hr hF hh;(have h2:h.args.length=r.terms.length:=by have a:=h1.al;rw[hd_pred hh]at a;have b:=hr.tl;omega);unfold fitsH headArgs;(have h3:(pre (fill r.terms x)).length=r.terms.length-1:=by unfold pre;rw[List.length_dropLast,fill_length]);rw[if_neg hf,decide_eq_true_eq,h3,take_pre h2]
end
theorem mem_right{p:Sc.Prog}(hp:ProgOk p){l m:List Rl.Fc}(hm:∀f,f∈m→Right p.arity f){s:Step}:s∈right p l m↔Fits p l m s:=by
 unfold right;rw[List.mem_append,List.mem_map,List.mem_flatMap];constructor
 ·rintro(⟨f,hf,rfl⟩|⟨i,hi,hs⟩)
  ·exact .inl ⟨rfl,rfl,Rl.mem_set.mp hf⟩
  have hi:=List.mem_range.mp hi;obtain⟨x,hx,hs⟩:=List.mem_filterMap.mp hs;obtain⟨r,hr⟩:∃r,r=Sc.ruleD p.rules i:=⟨_,rfl⟩;have hrr:=hp.rule r (hr▸ruleD_mem hi);unfold stepOf at hs;rw[←hr]at hs hx;obtain⟨h,h1,rfl⟩:=Option.map_eq_some_iff.mp hs;have hh:=List.mem_of_find?_eq_some h1;have hb:=List.find?_some h1;have hra:ruleAt p ((i:Nat):Int)=r:=hr.symm;refine .inr ⟨by simp,by simp;omega,?_,fun hf=>?_,fun hf=>?_⟩
  ·rw[hra];exact(mem_ways (ruleIn_of hrr hm) (right_nums hm) x).mp (mem_srt.mp hx)
  ·simp only[hra]at hf ⊢;exact(fitsH_zero hf hrr hm hh).mp hb
  simp only[hra]at hf ⊢;exact⟨hh,(fitsH_fold hf hrr hm hh).mp hb⟩
 rintro(⟨h1,h2,h3⟩|⟨h0,h1,h2,h3,h4⟩)
 ·refine .inl ⟨s.fact,Rl.mem_set.mpr h3,?_⟩;cases s;simp only at h1 h2;rw[h1,h2]
 refine .inr ⟨s.rule.toNat,List.mem_range.mpr oM,?_⟩;obtain⟨r,hr⟩:∃r,r=Sc.ruleD p.rules s.rule.toNat:=⟨_,rfl⟩;have hrr:=hp.rule r (hr▸ruleD_mem oM);have hra:ruleAt p s.rule=r:=hr.symm;rw[hra]at h2 h3 h4;unfold stepsBy;rw[List.mem_filterMap,←hr];refine⟨s.vars,mem_srt.mpr ((mem_ways (ruleIn_of hrr hm) (right_nums hm) _).mpr h2),?_⟩;have hfact:s.fact∈hd m r:=by
  by_cases hf:r.fold=0
  ·exact(mem_hd_zero hf hrr hm).mpr ⟨_,h2,h3 hf⟩
  exact(h4 hf).1
 have hfit:fitsH (headArgs r s.vars) s.fact=true:=by
  by_cases hf:r.fold=0
  ·exact(fitsH_zero hf hrr hm hfact).mpr (h3 hf)
  exact(fitsH_fold hf hrr hm hfact).mpr (h4 hf).2
 unfold stepOf;rw[←hr];obtain⟨g,hg⟩:∃g,(hd m r).find? (fitsH (headArgs r s.vars))=some g:=by
  cases hc:(hd m r).find? (fitsH (headArgs r s.vars))with
  |none=>exact absurd hfit (by rw[List.find?_eq_none]at hc;exact hc _ hfact)
  |some g=>exact⟨g,rfl⟩
 have hgm:=List.mem_of_find?_eq_some hg;have hgb:=List.find?_some hg;have he:g=s.fact:=by
  by_cases hf:r.fold=0
  ·rw[h3 hf];exact(fitsH_zero hf hrr hm hgm).mp hgb
  exact hd_one hf hgm hfact (((fitsH_fold hf hrr hm hgm).mp hgb).trans (h4 hf).2.symm)
 rw[hg,he];show some (Step.mk s.fact ((s.rule.toNat:Nat):Int) s.vars)=some s;have :((s.rule.toNat:Nat):Int)=s.rule:=oM;rw[this]
section
variable {p:Sc.Prog} {l M:List Rl.Fc}
theorem fits_in(hp:ProgOk p)(hM:∀f,f∈M→Right p.arity f)(hl:∀f,f∈l→f∈M)(hc:∀r,r∈p.rules→∀f,f∈hd M r→f∈M){s:Step}(h:Fits p l M s):s.fact∈M:=by
 rcases h with⟨_,_,h⟩|⟨h0,h1,h2,h3,h4⟩
 ·exact hl _ h
 have hr:=ruleD_mem (l:=p.rules) (i:=s.rule.toNat) oM;by_cases hf:(ruleAt p s.rule).fold=0
 ·refine hc _ hr _ ?_;exact(mem_hd_zero (r:=ruleAt p s.rule) hf (hp.rule _ hr) hM).mpr ⟨_,h2,h3 hf⟩
 exact hc _ hr _ (h4 hf).1
end
section
variable {p:Sc.Prog} {M:List Rl.Fc}
theorem run_later{m:List Rl.Fc}(hp:Fine p)(hm:Facts p m):∀{n k:Nat}{S T:List Rl.Fc},Run p m n (some S)→Run p m (n+k) (some T)→Below p n S T∧∀f,f∈S→f∈T
 |n,0,S,T,h1,h2=>by have e:=run_one hp hm h1 h2;injection e with e;subst e;exact⟨fun _ _=>Iff.rfl,fun _ h=>h⟩
 |n,k+1,S,T,h1,h2=>by
  obtain⟨a,h3,h4⟩:=h2
  cases a with
  |none=>cases h4
  |some U=>
   obtain⟨b1,b2⟩:=run_later hp hm h1 h3;obtain⟨_,c2,c3⟩:=reach_ok hp (run_facts hp hm h3) h4.1;refine⟨fun f hf=>(b1 f hf).trans (c2 f (by show lv p f.pred<((n+k:Nat):Int);omega)),fun f hf=>c3 f (b2 f hf)⟩
theorem reach_ind{P:Rl.Fc→Prop}{S:List Rl.Fc}{n:Nat}(hp:Fine p)(hS:Facts p S)(hM:Facts p M)(hb:∀U,Md.Reach p n S U→Below p n U M∧∀f,f∈U→f∈M)
 (h0:∀r,r∈p.rules→r.fold=0→∀x,Sol M r x→(∀f,f∈needL r x→P f)→P (head r x))
 (h1:∀r,r∈p.rules→¬r.fold=0→∀f,f∈hd M r→P f) (hPS:∀f,f∈S→P f) {T:List Rl.Fc} (hT:Md.Reach p n S T):∀f,f∈T→P f:=by
 induction hT with
 |refl=>exact hPS
 |step hU hg ih=>
  rename_i U V;intro f hf;obtain⟨u1,_,_⟩:=reach_ok hp hS hU;obtain⟨b1,b2⟩:=hb U hU;rcases hg.new f hf with h|⟨r,hr,hk,h⟩
  ·exact ih f h
  by_cases hfo:r.fold=0
  ·obtain⟨x,hx,rfl⟩:=(mem_hd_zero hfo (hp.ok.rule r hr) u1.right).mp h;refine h0 r hr hfo x (sol_mono hp hr hk b1 b2 hx) fun g hg=>?_;obtain⟨l,hl,rfl⟩:=List.mem_map.mp hg;obtain⟨hl1,hl2⟩:=List.mem_filter.mp hl;have h3:=hx.2 l hl1;unfold holds at h3;rw[if_pos (of_decide_eq_true hl2)]at h3;exact ih _ (Rl.has_iff.mp h3)
  exact h1 r hr hfo f (hd_mono hp hr hk u1 hM b1 b2 h)
theorem model_ind{P:Rl.Fc→Prop}{l:List Rl.Fc}(hp:Fine p)(hl:∀f,f∈l→Right p.arity f)(hM:IsModel p l (some M))
 (hg:∀f,f∈l→P f)
 (h0:∀r,r∈p.rules→r.fold=0→∀x,Sol M r x→(∀f,f∈needL r x→P f)→P (head r x))
 (h1:∀r,r∈p.rules→¬r.fold=0→∀f,f∈hd M r→P f):∀f,f∈M→P f:=by
 have hm:=set_facts hl;have hMf:=run_facts hp hm hM;have key:∀n,n≤p.arity.length→∀S,Run p (Rl.set l) n (some S)→∀f,f∈S→P f:=by
  intro n
  induction n with
  |zero=>
   intro _ S h;unfold Run at h;injection h with h;subst h;exact fun f hf=>hg f (Rl.mem_set.mp hf)
  |succ n ih=>
   intro hn S h;obtain⟨a,h2,h3⟩:=h
   cases a with
   |none=>cases h3
   |some T=>
    have hTf:=run_facts hp hm h2;have hrS:Run p (Rl.set l) (n+1) (some S):=⟨some T,h2,h3⟩;obtain⟨k,hk⟩:∃k,p.arity.length=n+1+k:=⟨p.arity.length-(n+1),oM⟩;obtain⟨s1,s2⟩:=run_later hp hm hrS (k:=k) (by rw[←hk];exact hM);obtain⟨z1,z2,z3⟩:=reach_ok hp hTf h3.1;refine reach_ind hp hTf hMf (fun U hU=>?_) h0 h1 (ih oM T h2) h3.1;obtain⟨u1,u2,u3⟩:=reach_ok hp hTf hU;refine⟨fun f hf=>((u2 f hf).symm.trans (z2 f hf)).trans (s1 f oM),fun f hf=>s2 f (reach_in hp hTf hU z1 z2 z3 h3.2.1 f hf)⟩
 exact key _ (Nat.le_refl _) M hM
end
theorem all_proven{p:Sc.Prog}{l M:List Rl.Fc}{st:List Step}(hp:Fine p)(hl:∀f,f∈l→Right p.arity f)(hM:IsModel p l (some M))
 (hend:∀s,s∈right p l M→proven st s.fact=true∨isReady p st s=false):∀f,f∈M→proven st f=true:=by
 have hMf:=run_facts hp (set_facts hl) hM;have got:∀s,Fits p l M s→isReady p st s=true→proven st s.fact=true:=fun s hs hr=>by
  rcases hend s ((mem_right hp.ok hMf.right).mpr hs)with h|h
  ·exact h
  rw[hr]at h;cases h
 refine model_ind hp hl hM (fun f hf=>?_) (fun r hr hfo x hx hn=>?_) (fun r hr hfo f hf=>?_)
 ·exact got ⟨f, -1,[]⟩ (.inl ⟨rfl,rfl,hf⟩) (ready_iff.mpr fun g hg=>by unfold needs at hg;rw[if_pos (.inl rfl)]at hg;cases hg)
 ·obtain⟨i,hi,he⟩:=List.getElem_of_mem hr;(have hra:ruleAt p ((i:Nat):Int)=r:=by unfold ruleAt Sc.ruleD;rw[Int.toNat_natCast,List.getD_eq_getElem?_getD,List.getElem?_eq_getElem hi,he];rfl);refine got ⟨head r x,i,x⟩ (.inr ⟨by simp,by simp;omega,by rw[hra];exact hx,fun _=>by rw[hra],fun h=>absurd hfo (by rw[hra]at h;exact h)⟩) (ready_iff.mpr fun g hg=>?_);unfold needs at hg;rw[if_neg (by simp only[hra];rintro(h|h);(omega);exact h hfo)]at hg;simp only[hra]at hg;exact hn g hg
 obtain⟨i,hi,he⟩:=List.getElem_of_mem hr;(have hra:ruleAt p ((i:Nat):Int)=r:=by unfold ruleAt Sc.ruleD;rw[Int.toNat_natCast,List.getD_eq_getElem?_getD,List.getElem?_eq_getElem hi,he];rfl);obtain⟨x,hx,hpre⟩:=hd_way hfo (hp.ok.rule r hr) hMf.right hf;refine got ⟨f,i,x⟩ (.inr ⟨by simp,by simp;omega,by rw[hra];exact hx,fun h=>absurd h (by rw[hra];exact hfo),fun _=>by simp only[hra];exact⟨hf,hpre⟩⟩) (ready_iff.mpr fun g hg=>?_);unfold needs at hg;rw[if_pos (.inr (by simp only[hra];exact hfo))]at hg;cases hg
def IsProof(p:Sc.Prog)(l m:List Rl.Fc)(st:List Step):Prop:=∀(i:Nat)(h:i<st.length),st[i]∈right p l m∧isReady p (st.take i) st[i]=true
def Once(st:List Step):Prop:=(st.map (·.fact)).Nodup
theorem proof_nil(p:Sc.Prog)(l m:List Rl.Fc):IsProof p l m []:=fun i h=>absurd h sI
theorem proof_snoc{p:Sc.Prog}{l m:List Rl.Fc}{st:List Step}{s:Step}:IsProof p l m (st++[s])↔IsProof p l m st∧s∈right p l m∧isReady p st s=true:=by
 constructor
 ·intro h;refine⟨fun i hi=>?_,?_⟩
  ·have h1:=h i sO;rw[List.getElem_append_left hi,List.take_append_of_le_length oM]at h1;exact h1
  have h1:=h st.length sI;rw[List.getElem_append_right oM,List.take_append_of_le_length oM,List.take_length]at h1;simpa using h1
 rintro⟨h1,h2,h3⟩ i hi;by_cases h:i<st.length
 ·rw[List.getElem_append_left h,List.take_append_of_le_length oM];exact h1 i h
 (have e:i=st.length:=by simp at hi;omega);subst e;rw[List.getElem_append_right oM,List.take_append_of_le_length oM,List.take_length];simpa using⟨h2,h3⟩
theorem once_snoc{st:List Step}{s:Step}(h:Once st)(hn:proven st s.fact=false):Once (st++[s]):=by unfold Once at *;rw[List.map_append,List.nodup_append];refine⟨h,by simp,fun a ha b hb e=>?_⟩;obtain⟨t,ht,rfl⟩:=List.mem_map.mp ha;rw[List.map_singleton,List.mem_singleton]at hb;rw[hb]at e;rw[proven_iff.mpr ⟨t,ht,e⟩]at hn;cases hn
theorem proof_mem{p:Sc.Prog}{l m:List Rl.Fc}{st:List Step}(h:IsProof p l m st){s:Step}(hs:s∈st):s∈right p l m:=by obtain⟨i,hi,rfl⟩:=List.getElem_of_mem hs;exact(h i hi).1
def keepB(p:Sc.Prog):List Step→List Rl.Fc→List Step
 |[],_=>[]
 |s::R,W=>if W.any (isOf s)then s::keepB p R (W++needs p s)else keepB p R W
def needed(p:Sc.Prog)(st:List Step)(f:Rl.Fc):List Step:=(keepB p st.reverse [f]).reverse
theorem any_of{W:List Rl.Fc}{s:Step}:W.any (isOf s)=true↔s.fact∈W:=by rw[List.any_eq_true];exact⟨fun⟨f,h1,h2⟩=>by rw[isOf_iff.mp h2];exact h1,fun h=>⟨_,h,isOf_iff.mpr rfl⟩⟩
theorem keepB_sub(p:Sc.Prog):∀(R:List Step)(W:List Rl.Fc),(keepB p R W).Sublist R
 |[],_=>List.Sublist.refl _
 |s::R,W=>by
  unfold keepB;split
  ·exact(keepB_sub p R _).cons_cons s
  exact(keepB_sub p R _).cons s
theorem keepB_has(p:Sc.Prog):∀(R:List Step)(W:List Rl.Fc){s:Step},s∈R→s.fact∈W→s∈keepB p R W
 |t::R,W,s,hs,hW=>by
  unfold keepB;rcases List.mem_cons.mp hs with rfl|hs
  ·rw[if_pos (any_of.mpr hW)];exact List.mem_cons_self
  split
  ·exact List.mem_cons_of_mem _ (keepB_has p R _ hs (List.mem_append_left _ hW))
  exact keepB_has p R _ hs hW
theorem keepB_proof(p:Sc.Prog)(l m:List Rl.Fc):∀(R:List Step)(W:List Rl.Fc),IsProof p l m R.reverse→IsProof p l m (keepB p R W).reverse
 |[],_,h=>h
 |s::R,W,h=>by
  rw[List.reverse_cons]at h;obtain⟨h1,h2,h3⟩:=proof_snoc.mp h;unfold keepB;split
  ·rw[List.reverse_cons];refine proof_snoc.mpr ⟨keepB_proof p l m R _ h1,h2,ready_iff.mpr fun f hf=>?_⟩;obtain⟨t,ht,he⟩:=proven_iff.mp (ready_iff.mp h3 f hf);exact proven_iff.mpr ⟨t,List.mem_reverse.mpr (keepB_has p R _ (List.mem_reverse.mp ht) (by rw[he];exact List.mem_append_right _ hf)),he⟩
  exact keepB_proof p l m R W h1
theorem needed_proof{p:Sc.Prog}{l m:List Rl.Fc}{st:List Step}(f:Rl.Fc)(h:IsProof p l m st):IsProof p l m (needed p st f):=keepB_proof p l m _ _ (by rw[List.reverse_reverse];exact h)
theorem needed_once{p:Sc.Prog}{st:List Step}(f:Rl.Fc)(h:Once st):Once (needed p st f):=by have h1:=keepB_sub p st.reverse [f];have h2:=h1.reverse;rw[List.reverse_reverse]at h2;exact List.Nodup.sublist (h2.map _) h
theorem needed_last{p:Sc.Prog}{st:List Step}{s:Step}:∃r,needed p (st++[s]) s.fact=r++[s]:=by unfold needed;rw[List.reverse_append];show∃r,(keepB p (s::st.reverse) [s.fact]).reverse=_;unfold keepB;rw[if_pos (any_of.mpr (List.mem_singleton.mpr rfl)),List.reverse_cons];exact⟨_,rfl⟩
theorem proof_take{p:Sc.Prog}{l m:List Rl.Fc}{st:List Step}(n:Nat)(h:IsProof p l m st):IsProof p l m (st.take n):=fun i hi=>by rw[List.length_take]at hi;have :=h i oM;rw[List.getElem_take,List.take_take,Nat.min_eq_left oM];exact this
theorem once_take{st:List Step}(n:Nat)(h:Once st):Once (st.take n):=List.Nodup.sublist ((List.take_sublist n st).map _) h
end Wy
end Go.Proofs.YthenjegmigeieaaGreat
namespace Go.Proofs.YthenjegmigeieaaGreat
open Go.RowKit
def TermIn(w:World)(b off:Nat)(t:Tr.Term):Prop:=
 w.cell? ⟨b,off,none⟩=some (.string ⟨t.var.toArray⟩)∧w.cell? ⟨b,off+1,none⟩=some (.int .i64 t.n)
def TermsAt(w:World)(ao:Option Addr)(l:List Tr.Term):Prop:=
 l=[]∨∃b off,ao=some ⟨b,off,none⟩∧∀i,i<l.length→TermIn w b (off+i*2) (Tr.termD l i)
def TermsV(w:World)(v:Value)(l:List Tr.Term):Prop:=∃ao cap,v=.slice ao l.length cap∧TermsAt w ao l
def LitIn(w:World)(b off:Nat)(x:Tr.Lit):Prop:=
 w.cell? ⟨b,off,none⟩=some (.int .i64 x.kind)∧w.cell? ⟨b,off+1,none⟩=some (.int .i64 x.at_)∧w.cell? ⟨b,off+2,none⟩=some (.int .i64 x.op)∧w.cell? ⟨b,off+3,none⟩=some (.string ⟨x.name.toArray⟩)∧
  ∃v,w.cell? ⟨b,off+4,none⟩=some v∧TermsV w v x.terms
def LitsAt(w:World)(ao:Option Addr)(l:List Tr.Lit):Prop:=
 l=[]∨∃b off,ao=some ⟨b,off,none⟩∧∀i,i<l.length→LitIn w b (off+i*5) (Tr.litD l i)
def LitsV(w:World)(v:Value)(l:List Tr.Lit):Prop:=∃ao cap,v=.slice ao l.length cap∧LitsAt w ao l
def RuleIn(w:World)(b off:Nat)(r:Tr.Rule):Prop:=
 w.cell? ⟨b,off,none⟩=some (.int .i64 r.at_)∧w.cell? ⟨b,off+1,none⟩=some (.string ⟨r.name.toArray⟩)∧(∃v,w.cell? ⟨b,off+2,none⟩=some v∧TermsV w v r.terms)∧w.cell? ⟨b,off+3,none⟩=some (.int .i64 r.fold)∧
  ∃v,w.cell? ⟨b,off+4,none⟩=some v∧LitsV w v r.body
def RulesAt(w:World)(ao:Option Addr)(l:List Tr.Rule):Prop:=
 l=[]∨∃b off,ao=some ⟨b,off,none⟩∧∀i,i<l.length→RuleIn w b (off+i*5) (Tr.ruleD l i)
def RulesV(w:World)(v:Value)(l:List Tr.Rule):Prop:=∃ao cap,v=.slice ao l.length cap∧RulesAt w ao l
theorem cell_below{w w':World}(hb:Below w.heap.size w w'){b o:Nat}{v:Value}(h:w.cell? ⟨b,o,none⟩=some v):w'.cell? ⟨b,o,none⟩=some v:=
 (hb.cell (p:=⟨b,o,none⟩) (World.block_lt_of_cell? w _ h)).trans h
theorem termsAt_below{w w':World}{ao:Option Addr}{l:List Tr.Term}(h:TermsAt w ao l)(hb:Below w.heap.size w w'):TermsAt w' ao l:=by
 rcases h with h|⟨b,off,rfl,hc⟩
 ·exact .inl h
 exact .inr ⟨b,off,rfl,fun i hi=>⟨cell_below hb (hc i hi).1,cell_below hb (hc i hi).2⟩⟩
theorem termsV_below{w w':World}{v:Value}{l:List Tr.Term}(h:TermsV w v l)(hb:Below w.heap.size w w'):TermsV w' v l:=by obtain⟨ao,cap,rfl,h⟩:=h;exact⟨ao,cap,rfl,termsAt_below h hb⟩
theorem litIn_below{w w':World}{b off:Nat}{x:Tr.Lit}(h:LitIn w b off x)(hb:Below w.heap.size w w'):LitIn w' b off x:=by obtain⟨h0,h1,h2,h3,v,h4,h5⟩:=h;exact⟨cell_below hb h0,cell_below hb h1,cell_below hb h2,cell_below hb h3,v,cell_below hb h4,termsV_below h5 hb⟩
theorem litsAt_below{w w':World}{ao:Option Addr}{l:List Tr.Lit}(h:LitsAt w ao l)(hb:Below w.heap.size w w'):LitsAt w' ao l:=by
 rcases h with h|⟨b,off,rfl,hc⟩
 ·exact .inl h
 exact .inr ⟨b,off,rfl,fun i hi=>litIn_below (hc i hi) hb⟩
theorem litsV_below{w w':World}{v:Value}{l:List Tr.Lit}(h:LitsV w v l)(hb:Below w.heap.size w w'):LitsV w' v l:=by obtain⟨ao,cap,rfl,h⟩:=h;exact⟨ao,cap,rfl,litsAt_below h hb⟩
theorem ruleIn_below{w w':World}{b off:Nat}{x:Tr.Rule}(h:RuleIn w b off x)(hb:Below w.heap.size w w'):RuleIn w' b off x:=by obtain⟨h0,h1,⟨v,h2,h3⟩,h4,u,h5,h6⟩:=h;exact⟨cell_below hb h0,cell_below hb h1,⟨v,cell_below hb h2,termsV_below h3 hb⟩,cell_below hb h4,u,cell_below hb h5,litsV_below h6 hb⟩
theorem rulesAt_below{w w':World}{ao:Option Addr}{l:List Tr.Rule}(h:RulesAt w ao l)(hb:Below w.heap.size w w'):RulesAt w' ao l:=by
 rcases h with h|⟨b,off,rfl,hc⟩
 ·exact .inl h
 exact .inr ⟨b,off,rfl,fun i hi=>ruleIn_below (hc i hi) hb⟩
theorem rulesV_below{w w':World}{v:Value}{l:List Tr.Rule}(h:RulesV w v l)(hb:Below w.heap.size w w'):RulesV w' v l:=by obtain⟨ao,cap,rfl,h⟩:=h;exact⟨ao,cap,rfl,rulesAt_below h hb⟩
abbrev termVal(t:Tr.Term):Value:=.agg #[.string ⟨t.var.toArray⟩, .int .i64 t.n]
abbrev litVal(x:Tr.Lit)(v:Value):Value:=.agg #[.int .i64 x.kind, .int .i64 x.at_, .int .i64 x.op, .string ⟨x.name.toArray⟩,v]
abbrev ruleVal(r:Tr.Rule)(v u:Value):Value:=.agg #[.int .i64 r.at_, .string ⟨r.name.toArray⟩,v, .int .i64 r.fold,u]
def IntsAt(w:World)(ao:Option Addr)(l:List Int):Prop:=
 l=[]∨∃b off,ao=some ⟨b,off,none⟩∧∀i,i<l.length→w.cell? ⟨b,off+i,none⟩=some (.int .i64 (Sc.intD l i))
def IntsV(w:World)(v:Value)(l:List Int):Prop:=∃ao cap,v=.slice ao l.length cap∧IntsAt w ao l
def StrsAt(w:World)(ao:Option Addr)(l:List (List UInt8)):Prop:=
 l=[]∨∃b off,ao=some ⟨b,off,none⟩∧∀i,i<l.length→w.cell? ⟨b,off+i,none⟩=some (.string ⟨(Sc.strD l i).toArray⟩)
def StrsV(w:World)(v:Value)(l:List (List UInt8)):Prop:=∃ao cap,v=.slice ao l.length cap∧StrsAt w ao l
def PTermIn(w:World)(b off:Nat)(t:Sc.Term):Prop:=
 w.cell? ⟨b,off,none⟩=some (.int .i64 t.var)∧w.cell? ⟨b,off+1,none⟩=some (.int .i64 t.n)
def PTermsAt(w:World)(ao:Option Addr)(l:List Sc.Term):Prop:=
 l=[]∨∃b off,ao=some ⟨b,off,none⟩∧∀i,i<l.length→PTermIn w b (off+i*2) (Sc.termD l i)
def PTermsV(w:World)(v:Value)(l:List Sc.Term):Prop:=∃ao cap,v=.slice ao l.length cap∧l.length≤cap∧PTermsAt w ao l
def PLitIn(w:World)(b off:Nat)(x:Sc.Lit):Prop:=
 w.cell? ⟨b,off,none⟩=some (.int .i64 x.kind)∧w.cell? ⟨b,off+1,none⟩=some (.int .i64 x.op)∧w.cell? ⟨b,off+2,none⟩=some (.int .i64 x.pred)∧
  ∃v,w.cell? ⟨b,off+3,none⟩=some v∧PTermsV w v x.terms
def PLitsAt(w:World)(ao:Option Addr)(l:List Sc.Lit):Prop:=
 l=[]∨∃b off,ao=some ⟨b,off,none⟩∧∀i,i<l.length→PLitIn w b (off+i*4) (Sc.litD l i)
def PLitsV(w:World)(v:Value)(l:List Sc.Lit):Prop:=∃ao cap,v=.slice ao l.length cap∧PLitsAt w ao l
def PRuleIn(w:World)(b off:Nat)(r:Sc.Rule):Prop:=
 w.cell? ⟨b,off,none⟩=some (.int .i64 r.pred)∧(∃v,w.cell? ⟨b,off+1,none⟩=some v∧PTermsV w v r.terms)∧w.cell? ⟨b,off+2,none⟩=some (.int .i64 r.fold)∧
  (∃v,w.cell? ⟨b,off+3,none⟩=some v∧PLitsV w v r.body)∧w.cell? ⟨b,off+4,none⟩=some (.int .i64 r.vars)
def PRulesAt(w:World)(ao:Option Addr)(l:List Sc.Rule):Prop:=
 l=[]∨∃b off,ao=some ⟨b,off,none⟩∧∀i,i<l.length→PRuleIn w b (off+i*5) (Sc.ruleD l i)
def PRulesV(w:World)(v:Value)(l:List Sc.Rule):Prop:=∃ao cap,v=.slice ao l.length cap∧PRulesAt w ao l
abbrev progVal(va vn vr:Value):Value:=.agg #[va,vn,vr]
structure ProgV (w:World) (va vn vr:Value) (p:Sc.Prog):Prop where
 ar:IntsV w va p.arity
 nm:StrsV w vn p.names
 rl:PRulesV w vr p.rules
theorem intsV_below{w w':World}{v:Value}{l:List Int}(h:IntsV w v l)(hb:Below w.heap.size w w'):IntsV w' v l:=by
 obtain⟨ao,cap,rfl,h⟩:=h;refine⟨ao,cap,rfl,?_⟩;rcases h with h|⟨b,off,rfl,hc⟩
 ·exact .inl h
 exact .inr ⟨b,off,rfl,fun i hi=>cell_below hb (hc i hi)⟩
theorem strsV_below{w w':World}{v:Value}{l:List (List UInt8)}(h:StrsV w v l)(hb:Below w.heap.size w w'):StrsV w' v l:=by
 obtain⟨ao,cap,rfl,h⟩:=h;refine⟨ao,cap,rfl,?_⟩;rcases h with h|⟨b,off,rfl,hc⟩
 ·exact .inl h
 exact .inr ⟨b,off,rfl,fun i hi=>cell_below hb (hc i hi)⟩
theorem ptermsV_below{w w':World}{v:Value}{l:List Sc.Term}(h:PTermsV w v l)(hb:Below w.heap.size w w'):PTermsV w' v l:=by
 obtain⟨ao,cap,rfl,hc,h⟩:=h;refine⟨ao,cap,rfl,hc,?_⟩;rcases h with h|⟨b,off,rfl,hc⟩
 ·exact .inl h
 exact .inr ⟨b,off,rfl,fun i hi=>⟨cell_below hb (hc i hi).1,cell_below hb (hc i hi).2⟩⟩
theorem plitIn_below{w w':World}{b off:Nat}{x:Sc.Lit}(h:PLitIn w b off x)(hb:Below w.heap.size w w'):PLitIn w' b off x:=by obtain⟨h0,h1,h2,v,h3,h4⟩:=h;exact⟨cell_below hb h0,cell_below hb h1,cell_below hb h2,v,cell_below hb h3,ptermsV_below h4 hb⟩
theorem plitsV_below{w w':World}{v:Value}{l:List Sc.Lit}(h:PLitsV w v l)(hb:Below w.heap.size w w'):PLitsV w' v l:=by
 obtain⟨ao,cap,rfl,h⟩:=h;refine⟨ao,cap,rfl,?_⟩;rcases h with h|⟨b,off,rfl,hc⟩
 ·exact .inl h
 exact .inr ⟨b,off,rfl,fun i hi=>plitIn_below (hc i hi) hb⟩
theorem pruleIn_below{w w':World}{b off:Nat}{x:Sc.Rule}(h:PRuleIn w b off x)(hb:Below w.heap.size w w'):PRuleIn w' b off x:=by obtain⟨h0,⟨v,h1,h2⟩,h3,⟨u,h4,h5⟩,h6⟩:=h;exact⟨cell_below hb h0,⟨v,cell_below hb h1,ptermsV_below h2 hb⟩,cell_below hb h3,⟨u,cell_below hb h4,plitsV_below h5 hb⟩,cell_below hb h6⟩
theorem prulesV_below{w w':World}{v:Value}{l:List Sc.Rule}(h:PRulesV w v l)(hb:Below w.heap.size w w'):PRulesV w' v l:=by
 obtain⟨ao,cap,rfl,h⟩:=h;refine⟨ao,cap,rfl,?_⟩;rcases h with h|⟨b,off,rfl,hc⟩
 ·exact .inl h
 exact .inr ⟨b,off,rfl,fun i hi=>pruleIn_below (hc i hi) hb⟩
theorem ProgV.below{w w':World}{va vn vr:Value}{p:Sc.Prog}(h:ProgV w va vn vr p)(hb:Below w.heap.size w w'):ProgV w' va vn vr p:=⟨intsV_below h.ar hb,strsV_below h.nm hb,prulesV_below h.rl hb⟩
abbrev ptermVal(t:Sc.Term):Value:=.agg #[.int .i64 t.var, .int .i64 t.n]
abbrev plitVal(x:Sc.Lit)(v:Value):Value:=.agg #[.int .i64 x.kind, .int .i64 x.op, .int .i64 x.pred,v]
abbrev pruleVal(r:Sc.Rule)(v u:Value):Value:=.agg #[.int .i64 r.pred,v, .int .i64 r.fold,u, .int .i64 r.vars]
def LitFit(x:Sc.Lit):Prop:=x.terms.length≤9223372036854775807
def RuleFit(r:Sc.Rule):Prop:=r.terms.length≤9223372036854775807∧r.body.length≤9223372036854775807∧∀i,i<r.body.length→LitFit (Sc.litD r.body i)
structure ProgFit (p:Sc.Prog):Prop where
 ar:p.arity.length≤9223372036854775807
 nm:p.names.length≤9223372036854775807
 rl:p.rules.length≤9223372036854775807
 rs:∀i,i<p.rules.length→RuleFit (Sc.ruleD p.rules i)
end Go.Proofs.YthenjegmigeieaaGreat
namespace Go.Proofs.YthenjegmigeieaaGreat
open Go.RowKit Go.Sort Go.Lib
def Gr(w w':World):Prop:=∃q os,w'=grow (w.drewN q) os
theorem Gr.refl(w:World):Gr w w:=⟨0,#[],by rw[grow_empty];rfl⟩
theorem Gr.trans{a b c:World}(h:Gr a b)(k:Gr b c):Gr a c:=by obtain⟨q,os,rfl⟩:=h;obtain⟨q2,os2,rfl⟩:=k;refine⟨q+q2,os++os2,?_⟩;show({a with drawn:=a.drawn+q+q2,heap:=a.heap++os++os2}:World)={a with drawn:=a.drawn+(q+q2),heap:=a.heap++(os++os2)};rw[Nat.add_assoc,Array.append_assoc]
theorem Gr.alloc{a b:World}(h:Gr a b)(o:Obj):Gr a (b.alloc o):=h.trans ⟨0,#[o],by rw[alloc_eq_grow];rfl⟩
theorem Gr.drew{a b:World}(h:Gr a b):Gr a b.drew:=h.trans ⟨1,#[],by rw[grow_empty];rfl⟩
theorem Gr.below{a b:World}(h:Gr a b):Below a.heap.size a b:=by
 obtain⟨q,os,rfl⟩:=h;refine⟨rfl,rfl,rfl,?_,fun k hk=>?_⟩
 ·show a.heap.size≤(a.heap++os).size;simp
 show(a.heap++os)[k]?=a.heap[k]?;rw[Array.getElem?_append_left hk]
def Rl.factD(l:List Rl.Fc)(i:Nat):Rl.Fc:=l.getD i ⟨0,[]⟩
def FactIn(w:World)(b off:Nat)(f:Rl.Fc):Prop:=
 w.cell? ⟨b,off,none⟩=some (.int .i64 f.pred)∧∃v,w.cell? ⟨b,off+1,none⟩=some v∧IntsV w v f.args
def FactsAt(w:World)(ao:Option Addr)(l:List Rl.Fc):Prop:=
 l=[]∨∃b off,ao=some ⟨b,off,none⟩∧∀i,i<l.length→FactIn w b (off+i*2) (Rl.factD l i)
def FactsV(w:World)(v:Value)(l:List Rl.Fc):Prop:=∃ao cap,v=.slice ao l.length cap∧(l.length≤cap∧(ao=none→cap=0))∧FactsAt w ao l
def FFit(f:Rl.Fc):Prop:=f.args.length≤9223372036854775807
theorem factIn_below{w w':World}{b off:Nat}{f:Rl.Fc}(h:FactIn w b off f)(hb:Below w.heap.size w w'):FactIn w' b off f:=by obtain⟨h0,v,h1,h2⟩:=h;exact⟨cell_below hb h0,v,cell_below hb h1,intsV_below h2 hb⟩
theorem factsV_below{w w':World}{v:Value}{l:List Rl.Fc}(h:FactsV w v l)(hb:Below w.heap.size w w'):FactsV w' v l:=by
 obtain⟨ao,cap,rfl,hc,h⟩:=h;refine⟨ao,cap,rfl,hc,?_⟩;rcases h with h|⟨b,off,rfl,h⟩
 ·exact .inl h
 exact .inr ⟨b,off,rfl,fun i hi=>factIn_below (h i hi) hb⟩
theorem facts_at{w:World}{ao:Option Addr}{l:List Rl.Fc}(h:FactsAt w ao l)(i:Nat)(hi:i<l.length):∃b off,ao=some ⟨b,off,none⟩∧FactIn w b (off+i*2) (Rl.factD l i):=by
 rcases h with h|⟨b,off,ha,hc⟩
 ·rw[h]at hi;exact absurd hi sI
 exact⟨b,off,ha,hc i hi⟩
theorem factD_drop(l:List Rl.Fc)(k:Nat)(hk:k<l.length):l.drop k=Rl.factD l k::l.drop (k+1):=by rw[List.drop_eq_getElem_cons hk];simp[Rl.factD,List.getD_eq_getElem?_getD,hk]
theorem factD_mem(l:List Rl.Fc)(k:Nat)(hk:k<l.length):Rl.factD l k∈l:=by simp[Rl.factD,hk]
theorem factD_get(l:List Rl.Fc)(k:Nat)(hk:k<l.length):l[k]?=some (Rl.factD l k):=by simp[Rl.factD,hk]
theorem ints_at{w:World}{ao:Option Addr}{l:List Int}(h:IntsAt w ao l)(i:Nat)(hi:i<l.length):∃b off,ao=some ⟨b,off,none⟩∧w.cell? ⟨b,off+i,none⟩=some (.int .i64 (Sc.intD l i)):=by
 rcases h with h|⟨b,off,ha,hc⟩
 ·rw[h]at hi;exact absurd hi sI
 exact⟨b,off,ha,hc i hi⟩
end Go.Proofs.YthenjegmigeieaaGreat
namespace Go.Proofs.YthenjegmigeieaaGreat
open Go.RowKit
abbrev tokObjOf(t:Tk.Tok):Obj:=.cells #[.int .i64 t.kind, .int .i64 t.at_, .string ⟨t.text.toArray⟩] 271
theorem boxCell{w w1:World}{t:Tk.Tok}(hb:Below (w.alloc (tokObjOf t)).heap.size (w.alloc (tokObjOf t)) w1):
 w1.cell? ⟨w.heap.size,0,none⟩=some (.int .i64 t.kind)∧w1.cell? ⟨w.heap.size,1,none⟩=some (.int .i64 t.at_)∧w1.cell? ⟨w.heap.size,2,none⟩=some (.string ⟨t.text.toArray⟩):=by
 obtain⟨hc,hf⟩:=bcell hb;(have h:w.heap.size<(w.alloc (tokObjOf t)).heap.size:=by simp);refine⟨?_,?_,?_⟩
 ·rw[hc _ _ h];simp[go_sem]
 ·rw[hc _ _ h];simp[go_sem]
 rw[hc _ _ h];simp[go_sem]
theorem below_box{w w1:World}{o:Obj}(hb:Below (w.alloc o).heap.size (w.alloc o) w1):Below w.heap.size w w1:=
 ((Below.refl _ _).alloc (Nat.le_refl _) _).trans (hb.mono sI)
theorem alone_any(t:Tk.Tok)(w:World):
 Calls Tryz.prog 240 #[tokVal t] w fun e w'=>e=.returned (.bool (Tk.alone t.kind t.text))∧Below w.heap.size w w':=by
 have HV:Hid (Tk.alone t.kind t.text=(((Tk.scan t.text).2.2==0)&&(((Tk.scan t.text).1.length:Int)==1)&&((tokD (Tk.scan t.text).1 0).kind==t.kind)&&((tokD (Tk.scan t.text).1 0).text==t.text))):=rfl;generalize Tk.alone t.kind t.text=V at *;have hS:=fun w=>Scan_any ⟨t.text.toArray⟩ w;have hd:(⟨t.text.toArray⟩:ByteArray).data.toList=t.text:=List.toList_toArray;rw[hd]at hS;unfold ScanTop at hS;generalize Tk.scan t.text=X at *;have HS:Hid (_):=hS;clear hS hd
 go_enter Tryz.func240,Tryz.ntmps240
 go_wp2_with fail;refine(HS.out _).mono ?_;rintro e w1 ⟨ao,cap,rfl,hown,hb⟩;obtain⟨c0,c1,c2⟩:=boxCell hb;have hT0:0<X.1.length→∃b off,ao=some ⟨b,off,none⟩∧TokIn w1 b off (tokD X.1 0):=fun h0=>by
  rcases toksAt_own hown with h|⟨b,off,rfl,hc⟩
  ·rw[h]at h0;exact absurd h0 sI
  exact⟨b,off,rfl,by simpa using hc 0 h0⟩
 have hbel:=below_box hb;clear hown hb HS;generalize tokD X.1 0=x at *;cases g1:(X.2.2==0)
 ·(have HF:Hid (V=false):=by show _=_;rw[HV.out,g1];rfl);clear HV;go_wp2_with fail;go_quiet(fail);go_wp2;go_ret;exact⟨ret_bool HF.out.symm,below_drewN hbel _⟩
 cases g2:((X.1.length:Int)==1)
 ·(have HF:Hid (V=false):=by show _=_;rw[HV.out,g2];simp);clear HV;go_wp2_with fail;go_quiet(fail);go_wp2;go_ret;exact⟨ret_bool HF.out.symm,below_drewN hbel _⟩
 (have hpos:0<X.1.length:=by have :=beq_iff_eq.1 g2;omega);obtain⟨b,off,rfl,d0,d1,d2⟩:=hT0 hpos;clear hT0;cases g3:(x.kind==t.kind)
 ·(have HF:Hid (V=false):=by show _=_;rw[HV.out,g3];simp);clear HV;go_wp2_with fail;go_quiet(fail);go_wp2;go_ret;exact⟨ret_bool HF.out.symm,below_drewN hbel _⟩
 cases g4:(x.text==t.text)
 ·(have HF:Hid (V=false):=by show _=_;rw[HV.out,g4];simp);clear HV;go_wp2_with fail;go_quiet(fail);go_wp2;go_ret;exact⟨ret_bool HF.out.symm,below_drewN hbel _⟩
 (have HF:Hid (V=true):=by show _=_;rw[HV.out,g1,g2,g3,g4];rfl);clear HV;go_wp2_with fail;go_quiet(fail);go_wp2;go_ret;exact⟨ret_bool HF.out.symm,below_drewN hbel _⟩
theorem A_info44:(Tryz.prog.info? 276).map (·.size)=some 2:=by kernel_rfl
theorem A_lies44:liesAt Tryz.prog Tryz.prog.depth 276 (2/Tryz.prog.cellsOf 276) 0 276 1=true:=by kernel_rfl
theorem A_info5:(Tryz.prog.info? 5).map (fun i=>(i.zero,i.size,i.bytes))=some (some (.int .u8 0),1,1):=by kernel_rfl
theorem check_used(b:Nat)(w:World)(h0:w.cell? ⟨b,0,none⟩=some (.pointer (some ⟨b,0,none⟩))):
 Calls Tryz.prog 246 #[.pointer (some ⟨b,0,none⟩)] w fun e w'=>e=.returned (.tuple #[])∧w'=w:=by
 obtain⟨j,hj,_⟩:=Option.map_eq_some_iff.1 A_info44
 go_enter Tryz.func246,Tryz.ntmps246
 go_wp2;rw[Lib.run_neq_ptr_same w _ Tryz.underlying273 hj];go_wp2;go_end0;exact⟨rfl,rfl⟩
theorem check_fresh(b:Nat)(w:World)(h0:w.cell? ⟨b,0,none⟩=some (.pointer none))(hsh:w.shape? b=some (276,2))(hfz:w.frozen? ⟨b,0,none⟩=false):
 Calls Tryz.prog 246 #[.pointer (some ⟨b,0,none⟩)] w fun e w'=>e=.returned (.tuple #[])∧w'=w.setCell ⟨b,0,none⟩ (.pointer (some ⟨b,0,none⟩)):=by
 obtain⟨j,hj,hjs⟩:=Option.map_eq_some_iff.1 A_info44
 go_enter Tryz.func246,Tryz.ntmps246
 go_wp2;rw[Lib.run_to_unsafe w ⟨b,0,none⟩ Tryz.underlying273 Tryz.underlying292 hj (by rw[hjs];decide) hsh (Nat.zero_lt_succ 1)];simp only[Result.andThen];rw[Oper.upon_value];go_wp2;rw[run_callFunc_extern Tryz.func248 (by kernel_rfl) (by kernel_rfl) (by kernel_rfl) (e:=Extern.AbiNoEscape.same) (by kernel_rfl)];rw[Lib.run_noEscape];simp only[Result.andThen];rw[Oper.upon_value];go_wp2;rw[Lib.run_from_unsafe w ⟨b,0,none⟩ Tryz.underlying292 Tryz.underlying273 hj hsh A_lies44];simp only[Result.andThen];rw[Oper.upon_value];go_wp2;go_end0;exact⟨rfl,rfl⟩
theorem check_any(B b:Nat)(bs:List Value)(w:World)(h:Lib.IsBuilder 276 5 B b bs w):
 Calls Tryz.prog 246 #[.pointer (some ⟨b,0,none⟩)] w fun e w'=>e=.returned (.tuple #[])∧(Lib.BuilderAt 276 5 B b (.pointer (some ⟨b,0,none⟩)) bs w'∧Below B w w'∧Lib.OthersKept 5 (some b) w w'):=by
 rcases h with h|h
 ·refine(check_fresh b w h.cell0 h.shape h.frozen0).mono ?_;rintro e w' ⟨rfl,rfl⟩;exact⟨rfl,h.used _,(Below.refl B w).setCell (p:=⟨b,0,none⟩) h.1 _,(Lib.OthersKept.refl 5 (some b) w).setCell ⟨b,0,none⟩ rfl _⟩
 refine(check_used b w h.cell0).mono ?_;rintro e w' ⟨rfl,rfl⟩;exact⟨rfl,h,Below.refl B _,Lib.OthersKept.refl _ _ _⟩
theorem own_kind{w:World}{B:Nat}{v:Value}{n:Nat}{xs:List Value}(h:w.ownsRow B 5 1 v n xs):∀g,v.ownBlock=some g→∃c fz,w.heap[g]?=some (.cells c 5 fz):=by
 intro g hg;rcases h.2 with⟨rfl,_⟩|⟨g',cap,cur,rfl,_,hgg,_⟩
 ·simp[Value.ownBlock]at hg
 simp[Value.ownBlock]at hg;subst hg;exact⟨cur,_,hgg⟩
theorem writeByte_any(B b:Nat)(bs:List Value)(c:Int)(w:World)(h:Lib.IsBuilder 276 5 B b bs w)(hlen:bs.length+1≤140737488355328)(hBw:B≤w.heap.size):
 Calls Tryz.prog 241 #[.pointer (some ⟨b,0,none⟩), .int .u8 c] w fun e w'=>e=.returned .nilIface∧(Lib.BuilderAt 276 5 B b (.pointer (some ⟨b,0,none⟩)) (bs++[.int .u8 c]) w'∧Below B w w'∧Lib.OthersKept 5 (some b) w w'):=by
 obtain⟨i0,hi,hz0,hz1,hz2⟩:=info_parts A_info5
 go_enter Tryz.func241,Tryz.ntmps241
 go_wp2_with(go_at_call 246;refine(check_any B b bs _ h).mono ?_);rintro e w1 ⟨rfl,h1,hb1,hk1⟩;obtain⟨hB,v,hbk,hown,hne⟩:=h1;(have c0:w1.cell? ⟨b,0,none⟩=some (.pointer (some ⟨b,0,none⟩)):=by rw[Lib.cell_of_heap hbk];rfl);(have c1:w1.cell? ⟨b,1,none⟩=some v:=by rw[Lib.cell_of_heap hbk];rfl);go_wp2_with(at_builtin;refine wpList_append_own _ rfl _ _ 274 rfl B 5 i0 (.int .u8 0) 1 1 Tryz.underlying274 hi hz0 hz1 hz2 rfl (by decide) _ _ _ rfl (hown.alloc _) ⟨w1.heap.size,0,none⟩ 1 1 [.int .u8 c] rfl rfl ?c1 ?c2 ?c3 ?c4 ?c5 ?_)
 case c1=>
  intro j u hj
  match j,hj with
  |0,hj=>simp at hj;subst hj;simp[Addr.add]
 (case c2=>intro u hu;simp at hu;subst hu;rfl);(case c3=>unfold maxLen;omega);(case c4=>omega);(case c5=>have :=hb1.size;simp;omega);intro v' w2 hown' hgrow _;have hlt:b<w1.heap.size:=Lib.BuilderAt.lt (T:=276) (e:=5) ⟨hB,v,hbk,hown,hne⟩;(have hb2:w2.heap[b]?=some (.cells #[.pointer (some ⟨b,0,none⟩),v] 276 (0,0)):=by rw[hgrow.block b (by simp;omega) (fun e=>hne e.symm),Lib.alloc_old w1 _ b hlt];exact hbk);(have d0:w2.cell? ⟨b,0,none⟩=some (.pointer (some ⟨b,0,none⟩)):=by rw[Lib.cell_of_heap hb2];rfl);(have d1:w2.cell? ⟨b,1,none⟩=some v:=by rw[Lib.cell_of_heap hb2];rfl);have f1:w2.frozen? ⟨b,1,none⟩=false:=Lib.frozen_of_heap hb2 1;obtain⟨g,cap,rfl⟩:∃g cap,v'=.slice (some ⟨g,0,none⟩) (bs.length+1) cap:=by
  rcases hown'.2 with⟨_,h0⟩|⟨g,cap,cur,hv,_⟩
  ·omega
  exact⟨g,cap,hv⟩
 have hk2:Lib.OthersKept 5 (some b) w w2:=(hk1.alloc _).grown hgrow (own_kind (hown.alloc _));go_wp2;go_ret;refine⟨rfl,?_,?_,?_⟩
 ·exact Lib.BuilderAt.put (T:=276) (e:=5) hB hb2 (bs':=bs++[.int .u8 c]) (by simpa using hown') (by decide)
 ·exact((hb1.alloc (by have :=hb1.size;omega) _).grown hgrow (by have :=hb1.size;simp;omega) (fun k hk=>(hown.lt k hk).1)).setCell (p:=⟨b,1,none⟩) hB _
 exact hk2.setCell ⟨b,1,none⟩ rfl _
theorem writeString_any(B b:Nat)(bs:List Value)(s:ByteArray)(w:World)(h:Lib.IsBuilder 276 5 B b bs w)(hlen:bs.length+s.size≤140737488355328)(hBw:B≤w.heap.size):
 Calls Tryz.prog 242 #[.pointer (some ⟨b,0,none⟩), .string s] w fun e w'=>e=.returned (.tuple #[.int .i64 s.size, .nilIface])∧(Lib.BuilderAt 276 5 B b (.pointer (some ⟨b,0,none⟩)) (bs++Lib.strCells s) w'∧Below B w w'∧Lib.OthersKept 5 (some b) w w'):=by
 obtain⟨i0,hi,hz0,hz1,hz2⟩:=info_parts A_info5
 go_enter Tryz.func242,Tryz.ntmps242
 go_wp2_with(go_at_call 246;refine(check_any B b bs _ h).mono ?_);rintro e w1 ⟨rfl,h1,hb1,hk1⟩;obtain⟨hB,v,hbk,hown,hne⟩:=h1;(have c0:w1.cell? ⟨b,0,none⟩=some (.pointer (some ⟨b,0,none⟩)):=by rw[Lib.cell_of_heap hbk];rfl);(have c1:w1.cell? ⟨b,1,none⟩=some v:=by rw[Lib.cell_of_heap hbk];rfl);go_wp2_with(at_builtin;refine Lib.wpList_append_own_string _ rfl _ _ 274 9 rfl B 5 i0 Tryz.underlying274 Tryz.underlying9 hi hz0 hz1 hz2 _ _ _ rfl hown s rfl ?c3 ?c4 ?c5 ?_);(case c3=>unfold maxLen;omega);(case c4=>omega);(case c5=>have :=hb1.size;omega);intro v' w2 hown' hgrow _;have hlt:b<w1.heap.size:=Lib.BuilderAt.lt (T:=276) (e:=5) ⟨hB,v,hbk,hown,hne⟩;(have hb2:w2.heap[b]?=some (.cells #[.pointer (some ⟨b,0,none⟩),v] 276 (0,0)):=by rw[hgrow.block b hlt (fun e=>hne e.symm)];exact hbk);(have d0:w2.cell? ⟨b,0,none⟩=some (.pointer (some ⟨b,0,none⟩)):=by rw[Lib.cell_of_heap hb2];rfl);(have d1:w2.cell? ⟨b,1,none⟩=some v:=by rw[Lib.cell_of_heap hb2];rfl);have f1:w2.frozen? ⟨b,1,none⟩=false:=Lib.frozen_of_heap hb2 1;obtain⟨ao,n',cap,rfl⟩:∃ao n' cap,v'=.slice ao n' cap:=by
  rcases hown'.2 with⟨hv,_⟩|⟨g,cap,cur,hv,_⟩
  ·exact⟨_,_,_,hv⟩
  exact⟨_,_,_,hv⟩
 have hk2:Lib.OthersKept 5 (some b) w w2:=hk1.grown hgrow (own_kind hown);go_wp2;go_ret2;refine⟨rfl,?_,?_,?_⟩
 ·exact Lib.BuilderAt.put (T:=276) (e:=5) hB hb2 (bs':=bs++Lib.strCells s) (by simpa[Lib.strCells_length]using hown') (by decide)
 ·exact(hb1.grown hgrow (by have :=hb1.size;omega) (fun k hk=>(hown.lt k hk).1)).setCell (p:=⟨b,1,none⟩) hB _
 exact hk2.setCell ⟨b,1,none⟩ rfl _
namespace Tk
def joinTo(l:List Tok):Nat→List UInt8
 |0=>[]
 |k+1=>(if k=0 then [] else joinTo l k++[32])++(tokD l k).text
def allTok(l:List Tok)(k:Nat):Bool:=(l.take k).all fun t=>isTok t.kind t.text
def join(l:List Tok):List UInt8×Int:=
 if allTok l l.length then(if 5000<(joinTo l l.length).length then([],2)else(joinTo l l.length,0))else([],1)
theorem allTok_snoc(l:List Tok)(k:Nat)(h:k<l.length):allTok l (k+1)=(allTok l k&&isTok (tokD l k).kind (tokD l k).text):=by unfold allTok;rw[List.take_succ_eq_append_getElem h,List.all_append];(have e:tokD l k=l[k]:=by rw[tokD,List.getD_eq_getElem?_getD,List.getElem?_eq_getElem h];rfl);rw[e];simp
theorem allTok_no(l:List Tok)(k:Nat)(h:k<l.length)(hk:isTok (tokD l k).kind (tokD l k).text=false):allTok l l.length=false:=by(have e:tokD l k=l[k]:=by rw[tokD,List.getD_eq_getElem?_getD,List.getElem?_eq_getElem h];rfl);rw[e]at hk;unfold allTok;rw[List.take_length];rw[←Bool.not_eq_true]at hk ⊢;intro ha;exact hk (List.all_eq_true.1 ha _ (List.getElem_mem h))
theorem isTok_len(k:Int)(t:List UInt8)(h:isTok k t=true):t.length≤12:=by
 have h:=of_decide_eq_true h;obtain⟨h1,h2,h3,h4,h5⟩:=h
 match t,h1 with
 |c::r,_=>
  rcases tok_cases c r with⟨c1,cE⟩|⟨c1,cK,c3,cE⟩|⟨c1,cK,c3,cE⟩|⟨c1,cK,c3,cE⟩|⟨c1,cK,c3,c4,c5,cE⟩|⟨c1,cK,c3,cE⟩|⟨c1,cK,c3,c4,c5,cE⟩|⟨c1,cK,cE⟩
  ·omega
  ·omega
  ·omega
  ·omega
  ·omega
  ·omega
  ·omega
  have e2:=lenOf_cons c r;have e1:=kindOf_cons c r;rw[cK]at e1;cases g1:Tk.small c.toNat
  ·cases g2:Tk.great c.toNat
   ·cases g3:Tk.digit c.toNat
    ·rw[g1,g2,g3]at e2;simp only[Bool.or_self,Bool.false_eq_true,if_false]at e2;have e3:Tk.signLen (c::r)≤2:=by
      unfold Tk.signLen;split
      ·omega
      dsimp only;split<;>omega
     omega
    rw[g1,g2,g3]at e1;simp at e1
   rw[g1,g2]at e1;simp at e1
  rw[g1]at e1;simp at e1
theorem joinTo_len(l:List Tok):∀k,k≤l.length→allTok l k=true→(joinTo l k).length≤13*k:=by
 intro k
 induction k with
 |zero=>intro _ _;exact Nat.le_refl 0
 |succ k ih=>
  intro hk ha;rw[allTok_snoc l k oM,Bool.and_eq_true]at ha;have h1:=ih oM ha.1;have h2:=isTok_len _ _ ha.2;rw[joinTo];split
  ·simp;omega
  simp;omega
end Tk
theorem builder_below{N:Nat}{bs:List Value}{w w':World}(h:Lib.IsBuilder 276 5 N N bs w)(hb:Below w.heap.size w w'):Lib.IsBuilder 276 5 N N bs w':=by
 (have key:∀p,Lib.BuilderAt 276 5 N N p bs w→Lib.BuilderAt 276 5 N N p bs w':=fun p h=>by have hlt:=h.lt;obtain⟨h1,v,h2,h3,h4⟩:=h;exact⟨h1,v,by rw[hb.block N hlt];exact h2,ownsRow_below h3 hb,h4⟩);rcases h with h|h
 ·exact .inl (key _ h)
 exact .inr (key _ h)
theorem builder_lt{N:Nat}{bs:List Value}{w:World}(h:Lib.IsBuilder 276 5 N N bs w):N<w.heap.size:=by
 rcases h with h|h
 ·exact h.lt
 exact h.lt
theorem kept_tok{N T:Nat}{t:Tk.Tok}{w w':World}(hk:Lib.OthersKept 5 (some N) w w')(hne:¬T=N)(h:w.heap[T]?=some (tokObjOf t)):w'.heap[T]?=some (tokObjOf t):=by refine hk T _ h (fun e=>hne (Option.some.inj e)) ?_;intro c fz e;injection e with _ e2 _;exact absurd e2 dE
theorem Join_some(l:List Tk.Tok)(w:World)(n b off cap:Nat)(hn:l.length=n)(hmax:n≤4398046511104)
 (hA:∀i,i<n→TokIn w b (off+i*3) (tokD l i)):
 Calls Tryz.prog 238 #[.slice (some ⟨b,off,none⟩) n cap] w fun e w'=>e=.returned (.tuple #[.string ⟨(Tk.join l).1.toArray⟩, .int .i64 (Tk.join l).2])∧Below w.heap.size w w':=by
 have HN:Hid (l.length=n):=hn;clear hn
 go_enter Tryz.func238,Tryz.ntmps238
 go_wp2_with fail;go_loopw [9] (fun i wr=>∃k:Nat,k≤n∧i=.int .i64 k∧Tk.allTok l k=true∧Lib.IsBuilder 276 5 w.heap.size w.heap.size (Lib.byteCells (Tk.joinTo l k)) wr∧Below w.heap.size w wr) (fun i _=>n-(intOf i).toNat);case atStart=>exact⟨0,Nat.zero_le _,rfl,rfl,Lib.fresh_isBuilder 276 5 w,(Below.refl _ _).alloc (Nat.le_refl _) _⟩
 case round=>
  obtain⟨k,hk,rfl,hall,hbu,hbel⟩:=hrel;have HA:Hid (Tk.allTok l k=true):=hall;clear hall;have hNw:=builder_lt hbu;have hlen:=Tk.joinTo_len l k (by rw[HN.out];exact hk) HA.out;by_cases hlt:k<n
  ·obtain⟨a0,a1,a2⟩:=hA k hlt;have hbw:b<w.heap.size:=World.block_lt_of_cell? w _ a0;have a0':wr.cell? ⟨b,off+k*3,none⟩=some (.int .i64 (tokD l k).kind):=(hbel.cell (p:=⟨b,_,none⟩) hbw).trans a0;have a1':wr.cell? ⟨b,off+k*3+1,none⟩=some (.int .i64 (tokD l k).at_):=(hbel.cell (p:=⟨b,_,none⟩) hbw).trans a1;have a2':wr.cell? ⟨b,off+k*3+2,none⟩=some (.string ⟨(tokD l k).text.toArray⟩):=(hbel.cell (p:=⟨b,_,none⟩) hbw).trans a2;clear a0 a1 a2 hA;go_wp2_with fail;refine(alone_any (tokD l k) _).mono ?_;rintro e w1 ⟨he,hb1⟩;rw[alone_eq]at he;subst he;have hb0:Below wr.heap.size wr w1:=below_box hb1;have hbel1:Below w.heap.size w w1:=hbel.trans (hb0.mono oM);cases hT:Tk.isTok (tokD l k).kind (tokD l k).text
   ·(have HF:Hid (Tk.join l=([],1)):=by show _=_;unfold Tk.join;rw[if_neg (by rw[Tk.allTok_no l k (by rw[HN.out];exact hlt) hT];simp)]);clear hT hb1 a0' a1' a2';go_wp2_with fail;go_ret2;refine⟨?_,hbel1⟩;rw[HF.out];rfl
   (have HT:Hid (Tk.allTok l (k+1)=true):=by show _=_;rw[Tk.allTok_snoc l k (by rw[HN.out];exact hlt),HA.out,hT];rfl);(have h12:=Tk.isTok_len _ _ hT;have hbu1:=builder_below hbu hb0;have hblk:w1.heap[wr.heap.size]?=some (tokObjOf (tokD l k)):=by rw[hb1.block wr.heap.size sI];exact heap_alloc_new wr _);obtain⟨x0,x1,x2⟩:=boxCell hb1;have hz1:w.heap.size≤w1.heap.size:=hbel1.size;clear hT hb1 a0' a1' a2' hbu hb0;by_cases hk0:0<k
   ·(have HJ:Hid (Lib.byteCells (Tk.joinTo l k)++[.int .u8 32]++Lib.strCells ⟨(tokD l k).text.toArray⟩=Lib.byteCells (Tk.joinTo l (k+1))):=by show _=_;rw[Tk.joinTo,if_neg oM,Lib.byteCells_append,Lib.byteCells_append];rfl);go_wp2_with fail;refine(writeByte_any w.heap.size w.heap.size _ 32 _ hbu1 (by rw[Lib.byteCells_length];omega) hz1).mono ?_;rintro e w2 ⟨rfl,hB2,hbel2,hk2⟩;have hblk2:=kept_tok hk2 oM hblk;(have d2:w2.cell? ⟨wr.heap.size,2,none⟩=some (.string ⟨(tokD l k).text.toArray⟩):=by rw[Lib.cell_of_heap hblk2];rfl);(have hz2:w.heap.size≤w2.heap.size:=by have :=hbel2.size;omega);clear hk2 hblk hblk2 hbu1 x0 x1 x2;go_wp2_with fail;refine(writeString_any w.heap.size w.heap.size _ _ _ (.inr hB2) (by show _+(tokD l k).text.toArray.size≤_;simp[Lib.byteCells_length];omega) hz2).mono ?_;rintro e w3 ⟨rfl,hB3,hbel3,_⟩;rw[HJ.out]at hB3;have hbel4:=(hbel1.trans hbel2).trans hbel3;clear hB2 d2 HJ;go_wp2;go_roundw;(case rel=>exact⟨k+1,oM,gN,HT.out, .inr hB3,hbel4⟩);case measure=>exact mI
   (have hd:decide ((0:Int)<(k:Int))=false:=by simp;omega);(have HJ:Hid (Lib.byteCells (Tk.joinTo l k)++Lib.strCells ⟨(tokD l k).text.toArray⟩=Lib.byteCells (Tk.joinTo l (k+1))):=by show _=_;have e0:k=0:=oM;rw[e0,Tk.joinTo,Tk.joinTo,if_pos rfl];rfl);go_wp2_with fail;refine(writeString_any w.heap.size w.heap.size _ _ _ hbu1 (by show _+(tokD l k).text.toArray.size≤_;simp[Lib.byteCells_length];omega) hz1).mono ?_;rintro e w3 ⟨rfl,hB3,hbel3,_⟩;rw[HJ.out]at hB3;have hbel4:=hbel1.trans hbel3;clear hbu1 HJ x0 x1 x2 hblk;go_wp2;go_roundw;(case rel=>exact⟨k+1,oM,gN,HT.out, .inr hB3,hbel4⟩);case measure=>exact mI
  have hkn:k=n:=oM;(have HL:Hid (k=l.length):=by show _=_;rw[HN.out];exact hkn);clear hkn;(have HA2:Hid (Tk.allTok l l.length=true):=by have :=HA.out;rw[HL.out]at this;exact this);clear hA;by_cases h5:5000<(Tk.joinTo l k).length
  ·(have HF:Hid (Tk.join l=([],2)):=by show _=_;unfold Tk.join;rw[if_pos HA2.out,if_pos (by rw[←HL.out];exact h5)]);go_wp2_with(go_at_call 243;refine(Tryz.Builder_Len _ _ _ _ hbu).mono ?_;rintro e w' ⟨rfl,rfl⟩;rw[Lib.byteCells_length]);go_ret2;refine⟨?_,hbel⟩;rw[HF.out];rfl
  (have HF:Hid (Tk.join l=(Tk.joinTo l k,0)):=by show _=_;unfold Tk.join;rw[if_pos HA2.out,if_neg (by rw[←HL.out];exact h5),HL.out]);go_wp2_with(first|(go_at_call 243;refine(Tryz.Builder_Len _ _ _ _ hbu).mono ?_;rintro e w' ⟨rfl,rfl⟩;rw[Lib.byteCells_length])|(go_at_call 244;refine(Tryz.Builder_String_any _ _ _ _ hbu oM).mono ?_;rintro e w2 ⟨rfl,hbel2⟩));go_ret2;refine⟨?_,hbel.trans hbel2⟩;rw[HF.out];rfl
theorem Join_none(w:World)(ao:Option Addr)(cap:Nat):
 Calls Tryz.prog 238 #[.slice ao 0 cap] w fun e w'=>e=.returned (.tuple #[.string ⟨#[]⟩, .int .i64 0])∧Below w.heap.size w w':=by
 have hbu:Lib.IsBuilder 276 5 w.heap.size w.heap.size (Lib.byteCells []) (w.alloc (.cells #[.pointer none, .slice none 0 0] 276)):=Lib.fresh_isBuilder 276 5 w;have hbel:Below w.heap.size w (w.alloc (.cells #[.pointer none, .slice none 0 0] 276)):=(Below.refl _ _).alloc (Nat.le_refl _) _
 go_enter Tryz.func238,Tryz.ntmps238
 go_wp2_with fail;refine wp_loop_rounds 1 ?_;rw[rounds_succ];go_wp2_with(first|(go_at_call 243;refine(Tryz.Builder_Len _ _ _ _ hbu).mono ?_;rintro e w' ⟨rfl,rfl⟩;rw[Lib.byteCells_length])|(go_at_call 244;refine(Tryz.Builder_String_any _ _ _ _ hbu sI).mono ?_;rintro e w2 ⟨rfl,hbel2⟩));go_ret2;exact⟨rfl,hbel.trans hbel2⟩
theorem Join_any(l:List Tk.Tok)(w:World)(ao:Option Addr)(cap:Nat)(hmax:l.length≤4398046511104)(hA:ToksAt w ao l):
 Calls Tryz.prog 238 #[.slice ao l.length cap] w fun e w'=>e=.returned (.tuple #[.string ⟨(Tk.join l).1.toArray⟩, .int .i64 (Tk.join l).2])∧Below w.heap.size w w':=by
 rcases hA with rfl|⟨b,off,rfl,hA⟩
 ·exact Join_none w ao cap
 exact Join_some l w l.length b off cap rfl hmax hA
theorem foldOf_any(s:List UInt8)(w:World):Calls Tryz.prog 239 #[.string ⟨s.toArray⟩] w fun e w'=>e=.returned (.int .i64 (Tr.foldOf s))∧w'=w:=by
 unfold Tr.foldOf;cases h1:(s==[99,111,117,110,116])
 ·cases h2:(s==[115,117,109])
  ·cases h3:(s==[108,101,97,115,116])
   ·cases h4:(s==[109,111,115,116])
    ·go_enter Tryz.func239,Tryz.ntmps239
     go_wp2;go_ret;exact⟨rfl,rfl⟩
    go_enter Tryz.func239,Tryz.ntmps239
    go_wp2;go_ret;exact⟨rfl,rfl⟩
   go_enter Tryz.func239,Tryz.ntmps239
   go_wp2;go_ret;exact⟨rfl,rfl⟩
  go_enter Tryz.func239,Tryz.ntmps239
  go_wp2;go_ret;exact⟨rfl,rfl⟩
 go_enter Tryz.func239,Tryz.ntmps239
 go_wp2;go_ret;exact⟨rfl,rfl⟩
theorem isWord_any(s:List UInt8)(w:World):Calls Tryz.prog 234 #[.string ⟨s.toArray⟩] w fun e w'=>e=.returned (.bool (Tr.isWord s))∧w'=w:=by
 unfold Tr.isWord;cases h1:(s==[110,111,116])
 ·go_enter Tryz.func234,Tryz.ntmps234
  go_wp2_with(go_at_call 239;refine(foldOf_any _ _).mono ?_;rintro e w' ⟨rfl,rfl⟩);go_ret;exact⟨rfl,rfl⟩
 go_enter Tryz.func234,Tryz.ntmps234
 go_wp2;go_ret;exact⟨rfl,rfl⟩
theorem isTest_any(n:Int)(w:World):Calls Tryz.prog 236 #[.int .i64 n] w fun e w'=>e=.returned (.bool (Tr.between n 1 4))∧w'=w:=by
 unfold Tr.between;by_cases h:1≤n
 ·go_enter Tryz.func236,Tryz.ntmps236
  go_wp2;go_ret;exact⟨by simp[h],rfl⟩
 have hd:decide (1≤n)=false:=by simpa using h
 go_enter Tryz.func236,Tryz.ntmps236
 go_wp2;go_ret;exact⟨rfl,rfl⟩
theorem isCalc_any(n:Int)(w:World):Calls Tryz.prog 237 #[.int .i64 n] w fun e w'=>e=.returned (.bool (Tr.between n 5 7))∧w'=w:=by
 unfold Tr.between;by_cases h:5≤n
 ·go_enter Tryz.func237,Tryz.ntmps237
  go_wp2;go_ret;exact⟨by simp[h],rfl⟩
 have hd:decide (5≤n)=false:=by simpa using h
 go_enter Tryz.func237,Tryz.ntmps237
 go_wp2;go_ret;exact⟨rfl,rfl⟩
theorem join_one(k:Int)(s:List UInt8):((Tk.join [⟨k,0,s⟩]).2==0)=Tk.isTok k s:=by
 (have e1:Tk.allTok [⟨k,0,s⟩] 1=Tk.isTok k s:=by simp[Tk.allTok]);(have e2:Tk.joinTo [⟨k,0,s⟩] 1=s:=by simp[Tk.joinTo,tokD]);unfold Tk.join;rw[List.length_singleton,e1,e2];cases h:Tk.isTok k s
 ·rfl
 have :=Tk.isTok_len k s h;rw[if_pos rfl,if_neg oM];rfl
theorem isToken_any(s:List UInt8)(k:Int)(w:World):Calls Tryz.prog 233 #[.string ⟨s.toArray⟩, .int .i64 k] w fun e w'=>e=.returned (.bool (Tk.isTok k s))∧Below w.heap.size w w':=by
 have HJ:=join_one k s;(have hA:ToksAt (w.alloc (.cells #[.int .i64 k, .int .i64 0, .string ⟨s.toArray⟩] 271)) (some ⟨w.heap.size,0,none⟩) [⟨k,0,s⟩]:=by refine .inr ⟨w.heap.size,0,rfl,fun i hi=>?_⟩;(have :i=0:=by simpa using hi);subst this;exact⟨by simp[go_sem,tokD],by simp[go_sem,tokD],by simp[go_sem,tokD]⟩);have HC:Hid (_):=Join_any [⟨k,0,s⟩] _ _ 1 sI hA;rw[←HJ];generalize Tk.join [⟨k,0,s⟩]=J at *;clear hA HJ
 go_enter Tryz.func233,Tryz.ntmps233
 go_wp2_with fail;refine Calls.mono HC.out ?_;rintro e w1 ⟨rfl,hb⟩;go_wp2;go_ret;exact⟨rfl,below_box hb⟩
theorem isName_any(s:List UInt8)(w:World):Calls Tryz.prog 228 #[.string ⟨s.toArray⟩] w fun e w'=>e=.returned (.bool (Tr.isName s))∧Below w.heap.size w w':=by
 unfold Tr.isName;cases h1:Tk.isTok 1 s
 ·go_enter Tryz.func228,Tryz.ntmps228
  go_wp2_with fail;refine(isToken_any s 1 w).mono ?_;rintro e w1 ⟨he,hb⟩;rw[h1]at he;subst he;go_wp2;go_ret;exact⟨rfl,hb⟩
 go_enter Tryz.func228,Tryz.ntmps228
 go_wp2_with fail;refine(isToken_any s 1 w).mono ?_;rintro e w1 ⟨he,hb⟩;rw[h1]at he;subst he;go_wp2_with(go_at_call 234;refine(isWord_any _ _).mono ?_;rintro e w' ⟨rfl,rfl⟩);go_ret;exact⟨rfl,hb⟩
abbrev gaveF(a c:Int):Ending:=.panicked [{v:=.iface 168 (.agg #[.int .i64 a, .int .i64 c]),recovered:=false}]
abbrev goneOn:Ending:=.returned (.tuple #[])
def finE(x:Int):Ending:=if x=0 then goneOn else gaveF 0 x
theorem finE_zero:finE 0=goneOn:=rfl
theorem finE_ne{x:Int}(h:¬x=0):finE x=gaveF 0 x:=by unfold finE;rw[if_neg h]
theorem refuseAt_yes(a c:Int)(w:World):Calls Tryz.prog 176 #[.int .i64 a, .bool true, .int .i64 c] w fun e w'=>e=gaveF a c∧Below w.heap.size w w':=by
 go_enter Tryz.func176,Tryz.ntmps176
 go_wp2;exact⟨rfl,rfl,Below.refl _ _⟩
theorem refuseAt_no(a c:Int)(w:World):Calls Tryz.prog 176 #[.int .i64 a, .bool false, .int .i64 c] w fun e w'=>e=goneOn∧w'=w:=by
 go_enter Tryz.func176,Tryz.ntmps176
 go_wp2;exact⟨rfl, .tuple #[],by simp[results,Tryz.results176],rfl,rfl⟩
theorem refuse_yes(c:Int)(w:World):Calls Tryz.prog 129 #[.bool true, .int .i64 c] w fun e w'=>e=gaveF 0 c∧Below w.heap.size w w':=by
 go_enter Tryz.func129,Tryz.ntmps129
 go_wp2_with fail;refine(refuseAt_yes _ _ _).mono ?_;rintro e w1 ⟨rfl,hb⟩;go_wp2;exact⟨rfl,rfl,hb⟩
theorem refuse_no(c:Int)(w:World):Calls Tryz.prog 129 #[.bool false, .int .i64 c] w fun e w'=>e=goneOn∧w'=w:=by
 go_enter Tryz.func129,Tryz.ntmps129
 go_wp2_with fail;refine(refuseAt_no _ _ _).mono ?_;rintro e w1 ⟨rfl,rfl⟩;go_wp2;exact⟨rfl, .tuple #[],by simp[results,Tryz.results129],rfl,rfl⟩
theorem isNumber_any(n:Int)(w:World):Calls Tryz.prog 133 #[.int .i64 n] w fun e w'=>e=.returned (.bool (Sc.isNum n))∧w'=w:=by
 unfold Sc.isNum Tr.between;by_cases h: -1000000≤n
 ·go_enter Tryz.func133,Tryz.ntmps133
  go_wp2;go_ret;exact⟨by simp[h],rfl⟩
 have hd:decide (-1000000≤n)=false:=by simpa using h
 go_enter Tryz.func133,Tryz.ntmps133
 go_wp2;go_ret;exact⟨rfl,rfl⟩
theorem isPred_any(ar:List Int)(ao:Option Addr)(cap:Nat)(vn vr:Value)(k:Int)(w:World):Calls Tryz.prog 130 #[progVal (.slice ao ar.length cap) vn vr, .int .i64 k] w fun e w'=>e=.returned (.bool (Sc.isPred ar k))∧Below w.heap.size w w':=by
 unfold Sc.isPred Tr.between;by_cases h:0≤k
 ·go_enter Tryz.func130,Tryz.ntmps130
  go_wp2;go_ret;refine⟨?_,(Below.refl _ _).alloc (Nat.le_refl _) _⟩
  congr 2
  simp[h];omega
 have hd:decide (0≤k)=false:=by simpa using h
 go_enter Tryz.func130,Tryz.ntmps130
 go_wp2;go_ret;exact⟨rfl,(Below.refl _ _).alloc (Nat.le_refl _) _⟩
theorem checkTerms_some(l:List Sc.Term)(vars:Int)(w:World)(n b off cap:Nat)(hn:l.length=n)(hmax:n≤9223372036854775807)(hA:∀i,i<n→PTermIn w b (off+i*2) (Sc.termD l i)):
 Calls Tryz.prog 207 #[.slice (some ⟨b,off,none⟩) n cap, .int .i64 vars] w fun e w'=>e=finE (Sc.termsErr vars l)∧Below w.heap.size w w':=by
 have HN:Hid (l.length=n):=hn;clear hn
 go_enter Tryz.func207,Tryz.ntmps207
 go_wp2_with fail;go_loopw [8] (fun i wr=>∃k:Nat,k≤n∧i=.int .i64 k∧Sc.termsErr vars l=Sc.first (Sc.termErr vars) (l.drop k)∧Below w.heap.size w wr) (fun i _=>n-(intOf i).toNat);case atStart=>exact⟨0,Nat.zero_le _,rfl,rfl,Below.refl _ _⟩
 case round=>
  obtain⟨k,hk,rfl,hall,hbel⟩:=hrel;have HA:Hid (Sc.termsErr vars l=Sc.first (Sc.termErr vars) (l.drop k)):=hall;clear hall;by_cases hlt:k<n
  ·obtain⟨a0,a1⟩:=hA k hlt;have hbw:b<w.heap.size:=World.block_lt_of_cell? w _ a0;have a0':=(hbel.cell (p:=⟨b,off+k*2,none⟩) hbw).trans a0;have a1':=(hbel.cell (p:=⟨b,off+k*2+1,none⟩) hbw).trans a1;have HD:Hid (Sc.termsErr vars l=Sc.thn (Sc.termErr vars (Sc.termD l k)) (Sc.first (Sc.termErr vars) (l.drop (k+1)))):=HA.out.trans (Sc.first_drop _ _ _ k (by rw[HN.out];exact hlt));clear a0 a1 hA HA;generalize Sc.termD l k=t at *;by_cases h1:t.var< -1
   ·(have HV:Hid (Sc.termsErr vars l=5):=by show _=_;rw[HD.out];have :¬(-1:Int)≤t.var:=oM;simp[Sc.termErr,Sc.thn,Tr.between,this]);clear HD;have g1:decide (t.var< -1)=true:=decide_eq_true h1;go_wp2_with fail;refine(refuse_yes 5 _).mono ?_;rintro e w1 ⟨rfl,hb1⟩;have hb2:=hbel.trans ((below_box hb1).mono hbel.size);go_wp2_with fail;exact⟨rfl,rV,hb2⟩
   have g1:decide (t.var< -1)=false:=decide_eq_false h1;by_cases h2:vars≤t.var
   ·(have HV:Hid (Sc.termsErr vars l=5):=by show _=_;rw[HD.out];have :¬t.var≤vars-1:=oM;simp[Sc.termErr,Sc.thn,Tr.between,this]);clear HD;have g2:decide (vars≤t.var)=true:=decide_eq_true h2;go_wp2_with fail;refine(refuse_yes 5 _).mono ?_;rintro e w1 ⟨rfl,hb1⟩;have hb2:=hbel.trans ((below_box hb1).mono hbel.size);go_wp2_with fail;exact⟨rfl,rV,hb2⟩
   have g2:decide (vars≤t.var)=false:=decide_eq_false h2;(have hT:Hid (Sc.termErr vars t=if !Sc.isNum t.n||(decide (0≤t.var)&&t.n != 0)then 3 else 0):=by show _=_;have h3:(-1:Int)≤t.var:=oM;have h4:t.var≤vars-1:=oM;simp[Sc.termErr,Tr.between,h3,h4]);go_wp2_with fail;refine(refuse_no 5 _).mono ?_;rintro e w1 ⟨rfl,rfl⟩;go_wp2_with fail;refine(isNumber_any t.n _).mono ?_;rintro e wn ⟨he,rfl⟩;cases hnum:Sc.isNum t.n
   ·rw[hnum]at he;subst he;(have HV:Hid (Sc.termsErr vars l=3):=by show _=_;rw[HD.out,hT.out,hnum];rfl);clear HD hT;go_wp2_with fail;refine(refuse_yes 3 _).mono ?_;rintro e w1 ⟨rfl,hb1⟩;have hb2:=hbel.trans ((below_box hb1).mono hbel.size);go_wp2_with fail;exact⟨rfl,rV,hb2⟩
   rw[hnum]at he;subst he;by_cases h5:0≤t.var
   ·have g5:decide (0≤t.var)=true:=decide_eq_true h5;cases g6:(t.n != 0)
    ·(have HV:Hid (Sc.termsErr vars l=Sc.first (Sc.termErr vars) (l.drop (k+1))):=by show _=_;rw[HD.out,hT.out,hnum,g5,g6];rfl);clear HD hT;go_wp2_with fail;refine(refuse_no 3 _).mono ?_;rintro e w1 ⟨rfl,rfl⟩;go_wp2_with fail;have hb2:=hbel.alloc hbel.size (.cells #[.int .i64 t.var, .int .i64 t.n] 147);go_roundw;(case rel=>exact⟨k+1,oM,gN,HV.out,hb2⟩);case measure=>exact mI
    (have HV:Hid (Sc.termsErr vars l=3):=by show _=_;rw[HD.out,hT.out,hnum,g5,g6];rfl);clear HD hT;go_wp2_with fail;refine(refuse_yes 3 _).mono ?_;rintro e w1 ⟨rfl,hb1⟩;have hb2:=hbel.trans ((below_box hb1).mono hbel.size);go_wp2_with fail;exact⟨rfl,rV,hb2⟩
   have g5:decide (0≤t.var)=false:=decide_eq_false h5;(have HV:Hid (Sc.termsErr vars l=Sc.first (Sc.termErr vars) (l.drop (k+1))):=by show _=_;rw[HD.out,hT.out,hnum,g5];rfl);clear HD hT;go_wp2_with fail;refine(refuse_no 3 _).mono ?_;rintro e w1 ⟨rfl,rfl⟩;go_wp2_with fail;have hb2:=hbel.alloc hbel.size (.cells #[.int .i64 t.var, .int .i64 t.n] 147);go_roundw;(case rel=>exact⟨k+1,oM,gN,HV.out,hb2⟩);case measure=>exact mI
  (have HV:Hid (Sc.termsErr vars l=0):=by show _=_;rw[HA.out,List.drop_of_length_le (by rw[HN.out];omega)];rfl);clear hA;go_wp2_with fail;exact⟨rfl, .tuple #[],by simp[results,Tryz.results207],rV,hbel⟩
theorem checkTerms_none(w:World)(vars:Int)(ao:Option Addr)(cap:Nat):Calls Tryz.prog 207 #[.slice ao 0 cap, .int .i64 vars] w fun e w'=>e=goneOn∧Below w.heap.size w w':=by
 go_enter Tryz.func207,Tryz.ntmps207
 go_wp2_with fail;refine wp_loop_rounds 1 ?_;rw[rounds_succ];go_wp2_with fail;exact⟨rfl, .tuple #[],by simp[results,Tryz.results207],rfl,Below.refl _ _⟩
theorem checkTerms_any(l:List Sc.Term)(vars:Int)(v:Value)(w:World)(hmax:l.length≤9223372036854775807)(hA:PTermsV w v l):
 Calls Tryz.prog 207 #[v, .int .i64 vars] w fun e w'=>e=finE (Sc.termsErr vars l)∧Below w.heap.size w w':=by
 obtain⟨ao,cap,rfl,_,hA⟩:=hA;rcases hA with rfl|⟨b,off,rfl,hA⟩
 ·exact checkTerms_none w vars ao cap
 exact checkTerms_some l vars w l.length b off cap rfl hmax hA
theorem nat_of{ar:List Int}{k:Int}(h:Sc.isPred ar k=true):∃n:Nat,k=n∧n<ar.length:=by unfold Sc.isPred Tr.between at h;simp at h;exact⟨k.toNat,oM,oM⟩
theorem below_two(w:World)(o1 o2:Obj):Below w.heap.size w ((w.alloc o1).alloc o2):=((Below.refl _ _).alloc (Nat.le_refl _) _).alloc sI _
theorem two_blocks{w w3:World}{o1 o2:Obj}(hb:Below ((w.alloc o1).alloc o2).heap.size ((w.alloc o1).alloc o2) w3):w3.heap[w.heap.size]?=some o1∧w3.heap[w.heap.size+1]?=some o2:=by
 constructor
 ·exact(hb.block _ sO).trans ((((Below.refl _ (w.alloc o1)).alloc (Nat.le_refl _) o2).block _ sI).trans (heap_alloc_new w o1))
 have :=heap_alloc_new (w.alloc o1) o2;exact(hb.block _ sI).trans (by simpa using this)
theorem checkLit_pred(ar:List Int)(ao:Option Addr)(cap:Nat)(vn vr:Value)(kind op pred:Int)(ts:List Sc.Term)(at_:Option Addr)(ct:Nat)(w:World)(hA:IntsAt w ao ar)(hk:kind=1∨kind=2):
 Calls Tryz.prog 208 #[progVal (.slice ao ar.length cap) vn vr,plitVal ⟨kind,op,pred,ts⟩ (.slice at_ ts.length ct)] w fun e w'=>e=finE (Sc.litErr ar ⟨kind,op,pred,ts⟩)∧Below w.heap.size w w':=by
 have hb0:Below w.heap.size w ((w.alloc (.cells #[.slice ao ar.length cap,vn,vr] 26)).alloc (.cells #[.int .i64 kind, .int .i64 op, .int .i64 pred, .slice at_ ts.length ct] 49)):=below_two w _ _;(have HL:Hid (Sc.litErr ar ⟨kind,op,pred,ts⟩=if op≠0 then 3 else if Sc.isPred ar pred then(if(ts.length:Int)≠Sc.intD ar pred.toNat then 1 else 0)else 5):=by show _=_;simp only[Sc.litErr];rw[if_pos hk]);(have hkk:kind=1∨(kind==1)=false∧kind=2:=by rcases hk with h|h<;>simp[h]);clear hk;cases g1:(op != 0)
 ·(have h0:op=0:=by simpa using g1);cases g2:Sc.isPred ar pred
  ·(have HV:Hid (Sc.litErr ar ⟨kind,op,pred,ts⟩=5):=by show _=_;rw[HL.out,h0,g2];rfl);clear HL hA h0;rcases hkk with rfl|⟨gk,rfl⟩
   all_goals
    go_enter Tryz.func208,Tryz.ntmps208
    go_wp2_with fail;refine(refuse_no 3 _).mono ?_;rintro e w1 ⟨rfl,rfl⟩;go_wp2_with fail;refine(isPred_any ar ao cap vn vr pred _).mono ?_;rintro e w2 ⟨he,hb2⟩;rw[g2]at he;subst he;go_wp2_with fail;refine(refuse_yes 5 _).mono ?_;rintro e w3 ⟨rfl,hb3⟩;go_wp2_with fail;have hb23:=hb2.trans (hb3.mono hb2.size);exact⟨rfl,rV,hb0.trans (hb23.mono hb0.size)⟩
  obtain⟨n,rfl,hn⟩:=nat_of g2;obtain⟨b,off,rfl,hc⟩:=ints_at hA n hn;have hbw:b<w.heap.size:=World.block_lt_of_cell? w _ hc;have hcc:∀y,Below w.heap.size w y→y.cell? ⟨b,off+n,none⟩=some (.int .i64 (Sc.intD ar n)):=fun y hy=>cell_below hy hc;have HC:Hid _:=hcc;clear hcc hc hA;cases g3:((ts.length:Int) != Sc.intD ar n)
  ·(have HV:Hid (Sc.litErr ar ⟨kind,op,n,ts⟩=0):=by show _=_;rw[HL.out,h0,g2];(have :(ts.length:Int)=Sc.intD ar n:=by simpa using g3);simp[this]);clear HL h0;rcases hkk with rfl|⟨gk,rfl⟩
   all_goals
    go_enter Tryz.func208,Tryz.ntmps208
    go_wp2_with fail;refine(refuse_no 3 _).mono ?_;rintro e w1 ⟨rfl,rfl⟩;go_wp2_with fail;refine(isPred_any ar _ cap vn vr n _).mono ?_;rintro e w2 ⟨he,hb2⟩;rw[g2]at he;subst he;go_wp2_with fail;refine(refuse_no 5 _).mono ?_;rintro e w3 ⟨rfl,rfl⟩;have hb02:=hb0.trans (hb2.mono hb0.size);have hq:=HC.out _ hb02;obtain⟨x1,x2⟩:=two_blocks hb2;(have c0:w3.cell? ⟨w.heap.size,0,none⟩=some (.slice (some ⟨b,off,none⟩) ar.length cap):=by rw[Lib.cell_of_heap x1];rfl);(have c1:w3.cell? ⟨w.heap.size+1,2,none⟩=some (.int .i64 n):=by rw[Lib.cell_of_heap x2];rfl);(have c2:w3.cell? ⟨w.heap.size+1,3,none⟩=some (.slice at_ ts.length ct):=by rw[Lib.cell_of_heap x2];rfl);clear x1 x2 hb2 hb0 HC;go_upto_region 7 with fail;go_region_held3 (fun y=>y.cell? ⟨w.heap.size,0,none⟩=some (.slice (some ⟨b,off,none⟩) ar.length cap)∧y.cell? ⟨w.heap.size+1,2,none⟩=some (.int .i64 n)∧y.cell? ⟨w.heap.size+1,3,none⟩=some (.slice at_ ts.length ct)∧y.cell? ⟨b,off+n,none⟩=some (.int .i64 (Sc.intD ar n))) (go_keep) ((go_at_call 129;refine Calls.mono (refuse_no 1 _) ?_;rintro e y ⟨rfl,rfl⟩));(all_goals go_wp2_with fail);all_goals exact⟨rfl, .tuple #[],by simp[results,Tryz.results208],rV,below_drewN hb02 _⟩
  (have HV:Hid (Sc.litErr ar ⟨kind,op,n,ts⟩=1):=by show _=_;rw[HL.out,h0,g2];(have :¬(ts.length:Int)=Sc.intD ar n:=by simpa using g3);simp[this]);clear HL h0;rcases hkk with rfl|⟨gk,rfl⟩
  all_goals
   go_enter Tryz.func208,Tryz.ntmps208
   go_wp2_with fail;refine(refuse_no 3 _).mono ?_;rintro e w1 ⟨rfl,rfl⟩;go_wp2_with fail;refine(isPred_any ar _ cap vn vr n _).mono ?_;rintro e w2 ⟨he,hb2⟩;rw[g2]at he;subst he;go_wp2_with fail;refine(refuse_no 5 _).mono ?_;rintro e w3 ⟨rfl,rfl⟩;have hb02:=hb0.trans (hb2.mono hb0.size);have hq:=HC.out _ hb02;obtain⟨x1,x2⟩:=two_blocks hb2;(have c0:w3.cell? ⟨w.heap.size,0,none⟩=some (.slice (some ⟨b,off,none⟩) ar.length cap):=by rw[Lib.cell_of_heap x1];rfl);(have c1:w3.cell? ⟨w.heap.size+1,2,none⟩=some (.int .i64 n):=by rw[Lib.cell_of_heap x2];rfl);(have c2:w3.cell? ⟨w.heap.size+1,3,none⟩=some (.slice at_ ts.length ct):=by rw[Lib.cell_of_heap x2];rfl);clear x1 x2 hb2 hb0 HC;go_upto_region 7 with fail;refine wp_region_held_drew (S:=(fun y=>y.cell? ⟨w.heap.size,0,none⟩=some (.slice (some ⟨b,off,none⟩) ar.length cap)∧y.cell? ⟨w.heap.size+1,2,none⟩=some (.int .i64 n)∧y.cell? ⟨w.heap.size+1,3,none⟩=some (.slice at_ ts.length ct)∧y.cell? ⟨b,off+n,none⟩=some (.int .i64 (Sc.intD ar n)))) kR (by go_keep) (fun hHeld=>?_);refine wpAnyH_take (i:=0) (v:=?v0x0) rfl kR kR kR (fun _ _ _ h=>h) (Or.inl ⟨by rfl,?hy0x0⟩) (by assumption) ?_;(case hy0x0=>intro w hSw;(try dsimp only at hSw);go_simp;try with_reducible rfl);(try simp only[Act.put,List.setIfInBounds_toArray]);refine wpAnyH_take (i:=1) (v:=?v1x1) rfl kR kR kR (fun _ _ _ h=>h) (Or.inl ⟨by rfl,?hy1x1⟩) (by assumption) ?_;(case hy1x1=>intro w hSw;(try dsimp only at hSw);go_simp;try with_reducible rfl);(try simp only[Act.put]);refine wpAnyH_take (i:=2) (v:=?v2x2) rfl kR kR kR (fun _ _ _ h=>h) (Or.inl ⟨by rfl,?hy2x2⟩) (by assumption) ?_;(case hy2x2=>intro w hSw;(try dsimp only at hSw);go_simp;try with_reducible rfl);(try simp only[Act.put]);refine wpAnyH_take (i:=3) (v:=?v3x3) rfl kR kR kR (fun _ _ _ h=>h) (Or.inl ⟨by rfl,?hy3x3⟩) (by assumption) ?_;(case hy3x3=>intro w hSw;(try dsimp only at hSw);go_simp;try with_reducible rfl);(try simp only[Act.put]);refine wpAnyH_take (i:=4) (v:=?v4x4) rfl kR kR kR (fun _ _ _ h=>h) (Or.inl ⟨by rfl,?hy4x4⟩) (by assumption) ?_;(case hy4x4=>intro w hSw;(try dsimp only at hSw);go_simp;try with_reducible rfl);(try simp only[Act.put]);refine wpAnyH_take (i:=5) (v:=?v5x5) rfl kR kR kR (fun _ _ _ h=>h) (Or.inl ⟨by rfl,?hy5x5⟩) (by assumption) ?_;(case hy5x5=>intro w hSw;(try dsimp only at hSw);go_simp;try with_reducible rfl);(try simp only[Act.put]);refine wpAnyH_take (i:=6) (v:=?v6x6) rfl kR kR kR (fun _ _ _ h=>h) (Or.inl ⟨by rfl,?hy6x6⟩) (by assumption) ?_;(case hy6x6=>intro w hSw;(try dsimp only at hSw);go_simp;try with_reducible rfl);(try simp only[Act.put]);refine wpAnyH_take (i:=7) (v:=?v7x7) rfl kR kR kR (fun _ _ _ h=>h) (Or.inl ⟨by rfl,?hy7x7⟩) (by assumption) ?_;(case hy7x7=>intro w hSw;(try dsimp only at hSw);go_simp;try with_reducible rfl);(try simp only[Act.put]);refine wpAnyH_take (i:=8) (v:=?v8x8) rfl kR kR kR (fun _ _ _ h=>h) (Or.inl ⟨by rfl,?hy8x8⟩) (by assumption) ?_;(case hy8x8=>intro w hSw;(try dsimp only at hSw);go_simp;try with_reducible rfl);(try simp only[Act.put]);refine wpAnyH_take (i:=9) (v:=?v9x9) rfl kR kR kR (fun _ _ _ h=>h) (Or.inl ⟨by rfl,?hy9x9⟩) (by assumption) ?_;(case hy9x9=>intro w hSw;(try dsimp only at hSw);go_simp;try with_reducible rfl);(try simp only[Act.put]);refine wpAnyH_ready (rs:=[10]) kR sI ?_;refine AllReadyH.cons rfl (fun K hK=>?_) AllReadyH.nil;go_simp;go_at_call 129;refine Calls.mono (refuse_yes 1 _) ?_;rintro e y2 ⟨rfl,hb4⟩;exact⟨rfl,rV,hb02.drew.trans (hb4.mono hb02.size)⟩
 (have HV:Hid (Sc.litErr ar ⟨kind,op,pred,ts⟩=3):=by show _=_;rw[HL.out,if_pos (by simpa using g1)]);clear HL hA;rcases hkk with rfl|⟨gk,rfl⟩
 all_goals
  go_enter Tryz.func208,Tryz.ntmps208
  go_wp2_with fail;refine(refuse_yes 3 _).mono ?_;rintro e w1 ⟨rfl,hb1⟩;go_wp2_with fail;exact⟨rfl,rV,hb0.trans (hb1.mono hb0.size)⟩
theorem isNaN_any(x:Int)(w:World):Calls Tryz.prog 159 #[.int .i64 x] w fun e w'=>e=.returned (.bool false)∧w'=w:=by
 have h:(x != x)=false:=by simp
 go_enter Tryz.func159,Tryz.ntmps159
 go_wp2_with fail;go_ret;exact⟨rfl,rfl⟩
theorem cmpI_any(x y:Int)(w:World):Calls Tryz.prog 104 #[.int .i64 x, .int .i64 y] w fun e w'=>e=.returned (.int .i64 (Rl.cmpI x y))∧w'=w:=by
 have HC:Hid (Rl.cmpI x y=if x<y then -1 else if y<x then 1 else 0):=rfl
 go_enter Tryz.func104,Tryz.ntmps104
 go_wp2_with fail;refine(isNaN_any x _).mono ?_;rintro e w1 ⟨rfl,rfl⟩;go_wp2_with fail;refine(isNaN_any y _).mono ?_;rintro e w1 ⟨rfl,rfl⟩;by_cases h1:x<y
 ·(have HV:Hid (Rl.cmpI x y= -1):=by show _=_;rw[HC.out,if_pos h1]);go_wp2_with fail;go_ret;exact⟨rV,rfl⟩
 by_cases h2:y<x
 ·(have HV:Hid (Rl.cmpI x y=1):=by show _=_;rw[HC.out,if_neg h1,if_pos h2]);go_wp2_with fail;go_ret;exact⟨rV,rfl⟩
 (have HV:Hid (Rl.cmpI x y=0):=by show _=_;rw[HC.out,if_neg h1,if_neg h2]);go_wp2_with fail;go_ret;exact⟨rV,rfl⟩
theorem cmpL_drop(x y:List Int)(k:Nat)(hx:k<x.length)(hy:k<y.length):Rl.cmpL (x.drop k) (y.drop k)=if Rl.cmpI (Sc.intD x k) (Sc.intD y k)=0 then Rl.cmpL (x.drop (k+1)) (y.drop (k+1))else Rl.cmpI (Sc.intD x k) (Sc.intD y k):=by(have h1:x.drop k=Sc.intD x k::x.drop (k+1):=by rw[List.drop_eq_getElem_cons hx];simp[Sc.intD,List.getD_eq_getElem?_getD,hx]);(have h2:y.drop k=Sc.intD y k::y.drop (k+1):=by rw[List.drop_eq_getElem_cons hy];simp[Sc.intD,List.getD_eq_getElem?_getD,hy]);rw[h1,h2,Rl.cmpL]
theorem cmpL_left(x y:List Int)(k:Nat)(hx:k<x.length)(hy:y.length≤k):Rl.cmpL (x.drop k) (y.drop k)=1:=by rw[List.drop_of_length_le hy,List.drop_eq_getElem_cons hx];rfl
theorem cmpL_right(x y:List Int)(k:Nat)(hx:x.length≤k)(hy:k<y.length):Rl.cmpL (x.drop k) (y.drop k)= -1:=by rw[List.drop_of_length_le hx,List.drop_eq_getElem_cons hy];rfl
theorem cmpInts_any(x y:List Int)(v u:Value)(w:World)(hV:IntsV w v x)(hU:IntsV w u y)(hx:x.length≤9223372036854775807):
 Calls Tryz.prog 56 #[v,u] w fun e w'=>e=.returned (.int .i64 (Rl.cmpL x y))∧w'=w:=by
 obtain⟨ao,cap,rfl,hA⟩:=hV;obtain⟨bo,cbp,rfl,hB⟩:=hU;have HA:Hid (IntsAt w ao x):=hA;have HB:Hid (IntsAt w bo y):=hB;clear hA hB
 go_enter Tryz.func56,Tryz.ntmps56
 go_wp2_with fail;go_loopw [11] (fun i wr=>∃k:Nat,k≤x.length∧k≤y.length∧i=.int .i64 k∧wr=w∧Rl.cmpL (x.drop k) (y.drop k)=Rl.cmpL x y) (fun i _=>x.length-(intOf i).toNat);case atStart=>exact⟨0,Nat.zero_le _,Nat.zero_le _,rfl,rfl,rfl⟩
 case round=>
  obtain⟨k,hk,hk2,rfl,rfl,hq⟩:=hrel;have HQ:Hid _:=hq;clear hq;by_cases hl:k<x.length
  ·obtain⟨b,off,rfl,p0⟩:=ints_at HA.out k hl;by_cases hl2:k<y.length
   ·obtain⟨b2,off2,rfl,p1⟩:=ints_at HB.out k hl2;(have HD:Hid (Rl.cmpL x y=if Rl.cmpI (Sc.intD x k) (Sc.intD y k)=0 then Rl.cmpL (x.drop (k+1)) (y.drop (k+1))else Rl.cmpI (Sc.intD x k) (Sc.intD y k)):=by show _=_;rw[←HQ.out];exact cmpL_drop x y k hl hl2);clear HQ;generalize Sc.intD x k=a at *;generalize Sc.intD y k=b' at *;go_wp2_with fail;refine(cmpI_any a b' _).mono ?_;rintro e w1 ⟨rfl,rfl⟩;cases hc:(Rl.cmpI a b' != 0)
    ·(have h0:Rl.cmpI a b'=0:=by simpa using hc);(have HV:Hid (Rl.cmpL (x.drop (k+1)) (y.drop (k+1))=Rl.cmpL x y):=by show _=_;rw[HD.out,if_pos h0]);clear HD h0;go_wp2_with fail;go_roundw;(case rel=>exact⟨k+1,oM,oM,gN,trivial,HV.out⟩);case measure=>exact mI
    (have h0:¬Rl.cmpI a b'=0:=by simpa using hc);(have HV:Hid (Rl.cmpL x y=Rl.cmpI a b'):=by show _=_;rw[HD.out,if_neg h0]);clear HD h0;go_wp2_with fail;go_ret;exact⟨rV,rfl⟩
   (have HV:Hid (Rl.cmpL x y=1):=by show _=_;rw[←HQ.out];exact cmpL_left x y k hl oM);go_wp2_with fail;go_ret;exact⟨rV,rfl⟩
  by_cases hl2:x.length<y.length
  ·(have HV:Hid (Rl.cmpL x y= -1):=by show _=_;rw[←HQ.out];exact cmpL_right x y k oM oM);go_wp2_with fail;go_ret;exact⟨rV,rfl⟩
  (have HV:Hid (Rl.cmpL x y=0):=by show _=_;rw[←HQ.out,List.drop_of_length_le oM,List.drop_of_length_le oM];rfl);go_wp2_with fail;go_ret;exact⟨rV,rfl⟩
abbrev fcVal(p:Int)(v:Value):Value:=.agg #[.int .i64 p,v]
def Rl.orI(x y:Int):Int:=if x=0 then y else x
theorem or2_any(b:Nat)(x y:Int)(w:World)(h0:w.cell? ⟨b,0,none⟩=some (.int .i64 x))(h1:w.cell? ⟨b,1,none⟩=some (.int .i64 y)):
 Calls Tryz.prog 116 #[.slice (some ⟨b,0,none⟩) 2 2] w fun e w'=>e=.returned (.int .i64 (Rl.orI x y))∧w'=w:=by
 go_enter Tryz.func116,Tryz.ntmps116
 go_wp2_with fail;go_loopw [8] (fun i wr=>∃k:Nat,k≤2∧i=.int .i64 k∧wr=w∧(1≤k→x=0)∧(2≤k→y=0)) (fun i _=>2-(intOf i).toNat);case atStart=>exact⟨0,oM,rfl,rfl,oM,oM⟩
 case round=>
  obtain⟨k,hk,rfl,rfl,hx,hy⟩:=hrel;have HX:Hid _:=hx;have HY:Hid _:=hy;clear hx hy
  match k,hk with
  |0,_=>
   cases hc:(x != 0)
   ·(have h9:x=0:=by simpa using hc);have HZ:Hid (x=0):=h9;clear h9;go_wp2_with fail;go_roundw;(case rel=>exact⟨1,oM,gN,trivial,fun _=>HZ.out,fun h=>absurd h oM⟩);case measure=>simp[intOf]
   have HV:Hid (Rl.orI x y=x):=if_neg (by simpa using hc);go_wp2_with fail;go_ret;exact⟨rV,rfl⟩
  |1,_=>
   have HV:Hid (Rl.orI x y=y):=if_pos (HX.out oM);cases hc:(y != 0)
   ·(have HZ:Hid (y=0):=by show y=0;simpa using hc);go_wp2_with fail;go_roundw;(case rel=>exact⟨2,oM,gN,trivial,fun _=>HX.out oM,fun _=>HZ.out⟩);case measure=>simp[intOf]
   go_wp2_with fail;go_ret;exact⟨rV,rfl⟩
  |2,_=>
   (have HV:Hid (Rl.orI x y=0):=by show _=_;unfold Rl.orI;rw[if_pos (HX.out oM)];exact HY.out oM);go_wp2_with fail;go_ret;exact⟨rV,rfl⟩
theorem Order_any(f g:Rl.Fc)(v u:Value)(w:World)(hV:IntsV w v f.args)(hU:IntsV w u g.args)(hx:FFit f)(hy:FFit g):
 Calls Tryz.prog 71 #[fcVal f.pred v,fcVal g.pred u] w fun e w'=>e=.returned (.int .i64 (Rl.ord f g))∧Gr w w':=by
 obtain⟨p,x⟩:=f;obtain⟨q,y⟩:=g;have hV:IntsV w v x:=hV;have hU:IntsV w u y:=hU;obtain⟨ao,cap,rfl,_⟩:=id hV;obtain⟨bo,cbp,rfl,_⟩:=id hU;have HV:Hid (∀z,Below w.heap.size w z→Calls Tryz.prog 56 #[.slice ao x.length cap, .slice bo y.length cbp] z fun e w'=>e=.returned (.int .i64 (Rl.cmpL x y))∧w'=z):=fun z hz=>cmpInts_any x y _ _ z (intsV_below hV hz) (intsV_below hU hz) hx;have HG:Hid (Gr w (((w.alloc (.cells #[.int .i64 p, .slice ao x.length cap] 55)).alloc (.cells #[.int .i64 q, .slice bo y.length cbp] 55)))):=((Gr.refl w).alloc _).alloc _;have t2:=two_blocks (w:=w) (o1:=.cells #[.int .i64 p, .slice ao x.length cap] 55) (o2:=.cells #[.int .i64 q, .slice bo y.length cbp] 55) (Below.refl _ _);have HO:Hid (Rl.ord ⟨p,x⟩ ⟨q,y⟩=Rl.orI (Rl.cmpI p q) (Rl.cmpL x y)):=rfl;clear hV hU hx hy
 go_enter Tryz.func71,Tryz.ntmps71
 go_upto_region 1 with fail;generalize (w.alloc (.cells #[.int .i64 p, .slice ao x.length cap] 55)).alloc (.cells #[.int .i64 q, .slice bo y.length cbp] 55)=w2 at *;(have c0:w2.cell? ⟨w.heap.size,0,none⟩=some (.int .i64 p):=by rw[Lib.cell_of_heap t2.1];rfl);(have c1:w2.cell? ⟨w.heap.size,1,none⟩=some (.slice ao x.length cap):=by rw[Lib.cell_of_heap t2.1];rfl);(have d0:w2.cell? ⟨w.heap.size+1,0,none⟩=some (.int .i64 q):=by rw[Lib.cell_of_heap t2.2];rfl);(have d1:w2.cell? ⟨w.heap.size+1,1,none⟩=some (.slice bo y.length cbp):=by rw[Lib.cell_of_heap t2.2];rfl);have HB:Hid (Below w.heap.size w w2):=HG.out.below;clear t2;generalize Rl.cmpL x y=cl at *;have HI:Hid (∀z,Calls Tryz.prog 104 #[.int .i64 p, .int .i64 q] z fun e w'=>e=.returned (.int .i64 (Rl.cmpI p q))∧w'=z):=fun z=>cmpI_any p q z;generalize Rl.cmpI p q=ci at *;have HGA:∀a b o,Gr a b→Gr a (b.alloc o):=fun _ _ o h=>h.alloc o;have HGD:∀a b,Gr a b→Gr a b.drew:=fun _ _ h=>h.drew;have HGR:Gr w2 w2:=Gr.refl w2;have HV2:Hid (∀z,Gr w2 z→Calls Tryz.prog 56 #[.slice ao x.length cap, .slice bo y.length cbp] z fun e w'=>e=.returned (.int .i64 cl)∧w'=z):=fun z hz=>HV.out z (HB.out.trans (hz.below.mono HB.out.size))
 go_region_held3 (fun yy=>yy.cell? ⟨w.heap.size,0,none⟩=some (.int .i64 p)∧yy.cell? ⟨w.heap.size,1,none⟩=some (.slice ao x.length cap)∧yy.cell? ⟨w.heap.size+1,0,none⟩=some (.int .i64 q)∧yy.cell? ⟨w.heap.size+1,1,none⟩=some (.slice bo y.length cbp)∧Gr w2 yy) (go_keep) (first
  |(go_at_call 104;refine Calls.mono (HI.out _) ?_;rintro e z1 ⟨rfl,rfl⟩)
  |(go_at_call 56;refine Calls.mono (HV2.out _ ?_) ?_;(simp[*]);rintro e z1 ⟨rfl,rfl⟩)
  |(go_at_call 116;refine Calls.mono (or2_any _ ci cl _ ?_ ?_) ?_;(simp);(simp);rintro e z1 ⟨rfl,rfl⟩))
 have HF:Hid (Gr w (w2.alloc (.cells #[.int .i64 ci, .int .i64 cl] 3)).drew):=(HG.out.alloc _).drew;clear HGA HGD HGR HV2 HV HI HB c0 c1 d0 d1 HG;go_wp2_with fail;go_ret;exact⟨by rw[HO.out];rfl,HF.out⟩
theorem same_any(f g:Rl.Fc)(v u:Value)(w:World)(hV:IntsV w v f.args)(hU:IntsV w u g.args)(hx:FFit f)(hy:FFit g):
 Calls Tryz.prog 148 #[fcVal f.pred v,fcVal g.pred u] w fun e w'=>e=.returned (.bool (Rl.ord f g==0))∧Gr w w':=by
 obtain⟨p,x⟩:=f;obtain⟨q,y⟩:=g;have hV:IntsV w v x:=hV;have hU:IntsV w u y:=hU;obtain⟨ao,cap,rfl,_⟩:=id hV;obtain⟨bo,cbp,rfl,_⟩:=id hU;have hg2:Gr w (((w.alloc (.cells #[.int .i64 p, .slice ao x.length cap] 55)).alloc (.cells #[.int .i64 q, .slice bo y.length cbp] 55))):=((Gr.refl w).alloc _).alloc _;have HC:Hid (Calls Tryz.prog 71 #[fcVal p (.slice ao x.length cap),fcVal q (.slice bo y.length cbp)] (((w.alloc (.cells #[.int .i64 p, .slice ao x.length cap] 55)).alloc (.cells #[.int .i64 q, .slice bo y.length cbp] 55))) fun e w'=>e=.returned (.int .i64 (Rl.ord ⟨p,x⟩ ⟨q,y⟩))∧Gr (((w.alloc (.cells #[.int .i64 p, .slice ao x.length cap] 55)).alloc (.cells #[.int .i64 q, .slice bo y.length cbp] 55))) w'):=Order_any ⟨p,x⟩ ⟨q,y⟩ _ _ _ (intsV_below hV hg2.below) (intsV_below hU hg2.below) hx hy;clear hV hU hx hy
 go_enter Tryz.func148,Tryz.ntmps148
 go_wp2_with fail;refine Calls.mono HC.out ?_;rintro e w3 ⟨rfl,hg3⟩;have hg:=hg2.trans hg3;clear HC hg2 hg3;go_wp2_with fail;go_ret;exact⟨rfl,hg⟩
end Go.Proofs.YthenjegmigeieaaGreat
namespace Go.Proofs
open Go.Shelf
def Tryz.sortF_ren:Go.Shelf.Ren:=⟨fun |6=>106|15=>103|14=>160|28=>157|29=>158|20=>195|21=>196|22=>197|23=>198|24=>199|25=>200|26=>201|27=>202|46=>215|47=>191|48=>192|49=>216|50=>217|57=>227|n=>n,fun |22=>27|24=>55|25=>78|3=>3|39=>144|0=>0|53=>194|55=>196|4=>4|46=>188|45=>187|50=>180|5=>5|9=>9|66=>222|70=>226|76=>248|77=>233|n=>n,fun |n=>n⟩
theorem Tryz.sortF:Go.Proofs.SlLaysF0.n6 Tryz.prog Tryz.sortF_ren:={
 mixed:=by kernel_rfl
 f6:=⟨Tryz.f106.name,by decide,Tryz.func106.trans (congrArg some (by kernel_rfl))⟩
 f14:=⟨Tryz.f160.name,by decide,Tryz.func160.trans (congrArg some (by kernel_rfl))⟩
 f15:=Tryz.func103.trans (congrArg some (by kernel_rfl))
 f20:=⟨Tryz.f195.name,by decide,Tryz.func195.trans (congrArg some (by kernel_rfl))⟩
 f21:=⟨Tryz.f196.name,by decide,Tryz.func196.trans (congrArg some (by kernel_rfl))⟩
 f22:=⟨Tryz.f197.name,by decide,Tryz.func197.trans (congrArg some (by kernel_rfl))⟩
 f23:=⟨Tryz.f198.name,by decide,Tryz.func198.trans (congrArg some (by kernel_rfl))⟩
 f24:=⟨Tryz.f199.name,by decide,Tryz.func199.trans (congrArg some (by kernel_rfl))⟩
 f25:=⟨Tryz.f200.name,by decide,Tryz.func200.trans (congrArg some (by kernel_rfl))⟩
 f26:=⟨Tryz.f201.name,by decide,Tryz.func201.trans (congrArg some (by kernel_rfl))⟩
 f27:=⟨Tryz.f202.name,by decide,Tryz.func202.trans (congrArg some (by kernel_rfl))⟩
 f28:=Tryz.func157.trans (congrArg some (by kernel_rfl))
 f29:=Tryz.func158.trans (congrArg some (by kernel_rfl))
 f46:=⟨Tryz.f215.name,by decide,Tryz.func215.trans (congrArg some (by kernel_rfl))⟩
 f47:=Tryz.func191.trans (congrArg some (by kernel_rfl))
 f48:=Tryz.func192.trans (congrArg some (by kernel_rfl))
 f49:=⟨Tryz.f216.name,by decide,Tryz.func216.trans (congrArg some (by kernel_rfl))⟩
 f50:=⟨Tryz.f217.name,by decide,Tryz.func217.trans (congrArg some (by kernel_rfl))⟩
 f57:=⟨Tryz.f227.name,by decide,Tryz.func227.trans (congrArg some (by kernel_rfl))⟩
 t0:=Tryz.underlying0
 a0:=Tryz.isAgg0
 z0:=Tryz.sizeOf0
 v0:=Tryz.zeroValue0
 t3:=Tryz.underlying3
 a3:=Tryz.isAgg3
 z3:=Tryz.sizeOf3
 v3:=Tryz.zeroValue3
 t4:=Tryz.underlying4
 a4:=Tryz.isAgg4
 z4:=Tryz.sizeOf4
 v4:=Tryz.zeroValue4
 t5:=Tryz.underlying5
 a5:=Tryz.isAgg5
 z5:=Tryz.sizeOf5
 v5:=Tryz.zeroValue5
 t9:=Tryz.underlying9
 a9:=Tryz.isAgg9
 z9:=Tryz.sizeOf9
 v9:=Tryz.zeroValue9
 t22:=Tryz.underlying27
 a22:=Tryz.isAgg27
 z22:=Tryz.sizeOf27
 v22:=Tryz.zeroValue27
 t25:=Tryz.underlying78
 a25:=Tryz.isAgg78
 z25:=Tryz.sizeOf78
 v25:=Tryz.zeroValue78
 t39:=Tryz.underlying144
 a39:=Tryz.isAgg144
 z39:=Tryz.sizeOf144
 v39:=Tryz.zeroValue144
 t45:=Tryz.underlying187
 a45:=Tryz.isAgg187
 z45:=Tryz.sizeOf187
 v45:=Tryz.zeroValue187
 t46:=Tryz.underlying188
 a46:=Tryz.isAgg188
 z46:=Tryz.sizeOf188
 v46:=Tryz.zeroValue188
 t50:=Tryz.underlying180
 a50:=Tryz.isAgg180
 z50:=Tryz.sizeOf180
 v50:=Tryz.zeroValue180
 t53:=Tryz.underlying194
 a53:=Tryz.isAgg194
 z53:=Tryz.sizeOf194
 v53:=Tryz.zeroValue194
 t55:=Tryz.underlying196
 a55:=Tryz.isAgg196
 z55:=Tryz.sizeOf196
 v55:=Tryz.zeroValue196
 t66:=Tryz.underlying222
 a66:=Tryz.isAgg222
 z66:=Tryz.sizeOf222
 v66:=Tryz.zeroValue222
 t70:=Tryz.underlying226
 a70:=Tryz.isAgg226
 z70:=Tryz.sizeOf226
 v70:=Tryz.zeroValue226
 t76:=Tryz.underlying248
 a76:=Tryz.isAgg248
 z76:=Tryz.sizeOf248
 v76:=Tryz.zeroValue248
 t77:=Tryz.underlying233
 a77:=Tryz.isAgg233
 z77:=Tryz.sizeOf233
 v77:=Tryz.zeroValue233}
end Go.Proofs

namespace Go.Proofs.YthenjegmigeieaaGreat
open Go.RowKit
theorem termIsRight_any(t:Tr.Term)(w:World):Calls Tryz.prog 235 #[termVal t] w fun e w'=>e=.returned (.bool (Tr.termOk t))∧Below w.heap.size w w':=by
 unfold Tr.termOk;cases h1:t.var.isEmpty
 ·cases h2:(t.n==0)
  ·go_enter Tryz.func235,Tryz.ntmps235
   go_wp2;go_ret;exact⟨rfl,(Below.refl _ _).alloc (Nat.le_refl _) _⟩
  go_enter Tryz.func235,Tryz.ntmps235
  go_wp2_with fail;refine(isToken_any t.var 2 _).mono ?_;rintro e w1 ⟨rfl,hb⟩;go_wp2;go_ret;exact⟨rfl,below_box hb⟩
 unfold Tr.between;by_cases h: -9999999≤t.n
 ·go_enter Tryz.func235,Tryz.ntmps235
  go_wp2;go_ret;exact⟨by simp,(Below.refl _ _).alloc (Nat.le_refl _) _⟩
 have hd:decide (-9999999≤t.n)=false:=by simpa using h
 go_enter Tryz.func235,Tryz.ntmps235
 go_wp2;go_ret;exact⟨rfl,(Below.refl _ _).alloc (Nat.le_refl _) _⟩
theorem termsAreRight_none(w:World)(ao:Option Addr)(cap:Nat):Calls Tryz.prog 229 #[.slice ao 0 cap] w fun e w'=>e=.returned (.bool true)∧Below w.heap.size w w':=by
 go_enter Tryz.func229,Tryz.ntmps229
 go_wp2_with fail;refine wp_loop_rounds 1 ?_;rw[rounds_succ];go_wp2_with fail;go_ret;exact⟨rfl,Below.refl _ _⟩
theorem termsAreRight_some(l:List Tr.Term)(w:World)(n b off cap:Nat)(hn:l.length=n)(hmax:n≤140737488355328)(hA:∀i,i<n→TermIn w b (off+i*2) (Tr.termD l i)):
 Calls Tryz.prog 229 #[.slice (some ⟨b,off,none⟩) n cap] w fun e w'=>e=.returned (.bool (Tr.termsOk l))∧Below w.heap.size w w':=by
 have HN:Hid (l.length=n):=hn;clear hn
 go_enter Tryz.func229,Tryz.ntmps229
 go_wp2_with fail;go_loopw [7] (fun i wr=>∃k:Nat,k≤n∧i=.int .i64 k∧Tr.termsOk l=(l.drop k).all Tr.termOk∧Below w.heap.size w wr) (fun i _=>n-(intOf i).toNat);case atStart=>exact⟨0,Nat.zero_le _,rfl,rfl,Below.refl _ _⟩
 case round=>
  obtain⟨k,hk,rfl,hall,hbel⟩:=hrel;have HA:Hid (Tr.termsOk l=(l.drop k).all Tr.termOk):=hall;clear hall;by_cases hlt:k<n
  ·obtain⟨a0,a1⟩:=hA k hlt;have hbw:b<w.heap.size:=World.block_lt_of_cell? w _ a0;have a0':=(hbel.cell (p:=⟨b,off+k*2,none⟩) hbw).trans a0;have a1':=(hbel.cell (p:=⟨b,off+k*2+1,none⟩) hbw).trans a1;have HD:Hid (Tr.termsOk l=(Tr.termOk (Tr.termD l k)&&(l.drop (k+1)).all Tr.termOk)):=HA.out.trans (all_drop _ _ _ k (by rw[HN.out];exact hlt));clear a0 a1 hA HA;generalize Tr.termD l k=t at *;cases hT:Tr.termOk t
   ·(have HV:Hid (Tr.termsOk l=false):=by show _=_;rw[HD.out,hT];rfl);go_wp2_with fail;refine(termIsRight_any t _).mono ?_;rintro e w1 ⟨he,hb1⟩;rw[hT]at he;subst he;have hb2:=hbel.trans ((below_box hb1).mono hbel.size);go_wp2_with fail;go_ret;exact⟨ret_bool HV.out.symm,hb2⟩
   (have HV:Hid (Tr.termsOk l=(l.drop (k+1)).all Tr.termOk):=by show _=_;rw[HD.out,hT];rfl);go_wp2_with fail;refine(termIsRight_any t _).mono ?_;rintro e w1 ⟨he,hb1⟩;rw[hT]at he;subst he;have hb2:=hbel.trans ((below_box hb1).mono hbel.size);clear hb1 hT HD;go_wp2_with fail;go_roundw;(case rel=>exact⟨k+1,oM,gN,HV.out,hb2⟩);case measure=>exact mI
  (have HV:Hid (Tr.termsOk l=true):=by show _=_;rw[HA.out,List.drop_of_length_le (by rw[HN.out];omega)];rfl);clear hA;go_wp2_with fail;go_ret;exact⟨ret_bool HV.out.symm,hbel⟩
theorem termsAreRight_any(l:List Tr.Term)(v:Value)(w:World)(hmax:l.length≤140737488355328)(hA:TermsV w v l):
 Calls Tryz.prog 229 #[v] w fun e w'=>e=.returned (.bool (Tr.termsOk l))∧Below w.heap.size w w':=by
 obtain⟨ao,cap,rfl,hA⟩:=hA;rcases hA with rfl|⟨b,off,rfl,hA⟩
 ·exact termsAreRight_none w ao cap
 exact termsAreRight_some l w l.length b off cap rfl hmax hA
end Go.Proofs.YthenjegmigeieaaGreat
