/- Own texts, one behind the other (part 2). -/
import Derived.Test.YthenjegmigeieaaGreatBundleA
import Derived.Test.YthenjegmigeieaaGreatRows
import Derived.Sort.Grow
import Derived.WalkKit
import Derived.WalkSpells
import Derived.WalkLawsBesides
import Derived.Lib.Builder
import Derived.Lib.AppendStr
import Derived.Lib.OthersKept
import Derived.Laws.Externs
import Derived.Lib.UnsafeStr
import Derived.Deep.RegionHeld3
import Derived.Deep.DeepCutAuto
import Derived.Deep.QuietTactic
import Derived.Deep.RegionLaw
import Derived.RegionDies
import Derived.BigQuiet
import Derived.Deep.RegionHeld2
set_option maxRecDepth 100000
set_option maxHeartbeats 8000000
namespace Go.Proofs.YthenjegmigeieaaGreat
namespace Ru
def nextStep(facts:List Rl.Fc)(w:Way)(l:Sc.Lit)(i:Nat)(a:Nat×Int):Nat×Int:=
 if ready w l=true then(if a.2<0∨((on facts l w).length:Int)<a.2 then(i,((on facts l w).length:Int))else a)else a
def nextAux(facts:List Rl.Fc)(w:Way):List Sc.Lit→Nat→Nat×Int→Nat×Int
 |[],_,a=>a
 |l::r,i,a=>nextAux facts w r (i+1) (nextStep facts w l i a)
def next(facts:List Rl.Fc)(body:List Sc.Lit)(w:Way):Nat:=(nextAux facts w body 0 (0, -1)).1
def eachN(facts:List Rl.Fc):Nat→List Sc.Lit→Way→List Way
 |0,_,w=>[w]
 |n+1,body,w=>(on facts (Sc.litD body (next facts body w)) w).flatMap (eachN facts n (body.eraseIdx (next facts body w)))
def each(facts:List Rl.Fc)(body:List Sc.Lit)(w:Way):List Way:=eachN facts body.length body w
def Picked(w:Way)(body:List Sc.Lit)(a:Nat×Int):Prop:=0≤a.2∧a.1<body.length∧ready w (Sc.litD body a.1)=true
theorem litD_append{a b:List Sc.Lit}{i:Nat}(h:i<a.length):Sc.litD (a++b) i=Sc.litD a i:=by unfold Sc.litD;rw[aE,aE,eH h]
theorem litD_snoc(a:List Sc.Lit)(x:Sc.Lit):Sc.litD (a++[x]) a.length=x:=by unfold Sc.litD;rw[aE,eB (aF _)];simp
theorem nextAux_ok(facts:List Rl.Fc)(w:Way):∀(r pre:List Sc.Lit)(a:Nat×Int),(Picked w pre a∨(a.2<0∧a.1=0∧∀l,l∈pre→ready w l=false))→
 Picked w (pre++r) (nextAux facts w r pre.length a)∨((nextAux facts w r pre.length a).2<0∧(nextAux facts w r pre.length a).1=0∧∀l,l∈pre++r→ready w l=false)
 |[],pre,a,h=>by rw[fE];exact h
 |l::r,pre,a,h=>by
  (have e1:pre++l::r=(pre++[l])++r:=by simp);(have e2:pre.length+1=(pre++[l]).length:=by simp);show Picked w (pre++l::r) (nextAux facts w r (pre.length+1) (nextStep facts w l pre.length a))∨_;rw[e1];show _∨((nextAux facts w r (pre.length+1) (nextStep facts w l pre.length a)).2<0∧(nextAux facts w r (pre.length+1) (nextStep facts w l pre.length a)).1=0∧_);rw[e2];refine nextAux_ok facts w r (pre++[l]) _ ?_;unfold nextStep;by_cases hr:ready w l=true
  ·rw[if_pos hr];left;split
   ·exact⟨by simp,by simp,by show ready w (Sc.litD (pre++[l]) pre.length)=true;rw[litD_snoc];exact hr⟩
   rename_i hn;rcases h with h|h
   ·exact⟨h.1,by have :=h.2.1;simp;omega,by rw[litD_append h.2.1];exact h.2.2⟩
   exact absurd (Or.inl h.1) hn
  rw[if_neg hr];rcases h with h|h
  ·exact .inl ⟨h.1,by have :=h.2.1;simp;omega,by rw[litD_append h.2.1];exact h.2.2⟩
  refine .inr ⟨h.1,h.2.1,fun x hx=>?_⟩;rcases bX.mp hx with hx|hx
  ·exact h.2.2 x hx
  rcases bI.mp hx with rfl;simpa using hr
theorem next_ok(facts:List Rl.Fc)(body:List Sc.Lit)(w:Way)(h:∃l,l∈body∧ready w l=true):next facts body w<body.length∧ready w (Sc.litD body (next facts body w))=true:=by
 have h1:=nextAux_ok facts w body [] (0, -1) (.inr ⟨dE,rfl,fun l hl=>absurd hl sI⟩);rw[eW]at h1;rcases h1 with h1|h1
 ·exact h1.2
 obtain⟨l,hl,hr⟩:=h;rw[h1.2.2 l hl]at hr;cases hr
def Lo(b c:List Bool):Prop:=∀i:Nat,b.getD i false=true→c.getD i false=true
theorem bind1_lo{b c:List Bool}(h:Lo b c)(t:Sc.Term)(hl:b.length≤c.length):Lo (Sc.bind1 b t) (Sc.bind1 c t):=by
 unfold Sc.bind1;split
 ·intro i hi;by_cases hv:t.var.toNat=i
  ·subst hv;by_cases hb:t.var.toNat<b.length
   ·exact getD_set_eq _ _ _ _ oM
   rw[List.set_eq_of_length_le oM]at hi;rw[aE,bR oM]at hi;simp at hi
  rw[getD_set_ne _ _ _ _ _ hv]at hi ⊢;exact h i hi
 exact h
theorem bindAll_lo:∀(l:List Sc.Term){b c:List Bool},Lo b c→b.length≤c.length→Lo (Sc.bindAll b l) (Sc.bindAll c l)
 |[],_,_,h,_=>h
 |t::l,b,c,h,hl=>by show Lo (Sc.bindAll (Sc.bind1 b t) l) (Sc.bindAll (Sc.bind1 c t) l);refine bindAll_lo l (bind1_lo h t hl) ?_;rw[←(Sc.bind1_le b t).1,←(Sc.bind1_le c t).1];exact hl
theorem known_lo{b c:List Bool}(h:Lo b c){t:Sc.Term}(hk:Sc.known b t=true):Sc.known c t=true:=Sc.known_le h t hk
theorem sready_lo{b c:List Bool}(h:Lo b c){l:Sc.Lit}(hr:Sc.ready b l=true):Sc.ready c l=true:=by
 unfold Sc.ready at hr ⊢;rcases eA _ _▸hr with h1|h1
 ·simp[h1]
 simp only[aW]at h1;simp[h1.1.1,known_lo h h1.1.2,known_lo h h1.2]
theorem bindLit_lo{b c:List Bool}(h:Lo b c)(hl:b.length≤c.length)(l:Sc.Lit):Lo (Sc.bindLit b l) (Sc.bindLit c l):=by
 unfold Sc.bindLit;rw[Sc.binds_ready,Sc.binds_ready];by_cases hr:Sc.ready b l=true
 ·rw[if_pos hr,if_pos (sready_lo h hr)];exact bindAll_lo _ h hl
 rw[if_neg hr];intro i hi;exact(Sc.bindAll_le _ c).2 i (h i hi)
theorem bindLit_length(b:List Bool)(l:Sc.Lit):(Sc.bindLit b l).length=b.length:=(Sc.bindLit_le b l).1.symm
theorem round_lo:∀(body:List Sc.Lit){b c:List Bool},Lo b c→b.length≤c.length→Lo (Sc.round body b) (Sc.round body c)
 |[],_,_,h,_=>h
 |l::body,b,c,h,hl=>by show Lo (Sc.round body (Sc.bindLit b l)) (Sc.round body (Sc.bindLit c l));exact round_lo body (bindLit_lo h hl l) (by rw[bindLit_length,bindLit_length];exact hl)
theorem round_length(body:List Sc.Lit)(b:List Bool):(Sc.round body b).length=b.length:=(Sc.round_le body b).1.symm
theorem rounds_lo(body:List Sc.Lit):∀(n:Nat){b c:List Bool},Lo b c→b.length≤c.length→Lo (Sc.rounds body n b) (Sc.rounds body n c)
 |0,_,_,h,_=>h
 |n+1,b,c,h,hl=>rounds_lo body n (round_lo body h hl) (by rw[round_length,round_length];exact hl)
theorem rounds_length(body:List Sc.Lit):∀(n:Nat)(b:List Bool),(Sc.rounds body n b).length=b.length
 |0,_=>rfl
 |n+1,b=>by show(Sc.rounds body n (Sc.round body b)).length=_;rw[rounds_length body n,round_length]
theorem safe_all{r:Sc.Rule}(hs:Sc.safe r=true){K:List Bool}(hl:r.vars.toNat≤K.length)(hf:Sc.round r.body K=K)(i:Nat)(hi:i<r.vars.toNat):K.getD i false=true:=by(have h0:Lo (List.replicate r.vars.toNat false) K:=fun j hj=>by rw[aE,lK]at hj;split at hj<;>simp at hj);have h1:=rounds_lo r.body r.body.length h0 (by simpa using hl);rw[Sc.rounds_fix _ _ _ hf]at h1;refine h1 i ?_;unfold Sc.safe at hs;have h2:=bE.mp hs;(have h3:i<(Sc.rounds r.body r.body.length (List.replicate r.vars.toNat false)).length:=by rw[rounds_length];simpa using hi);rw[aE,aG h3];exact h2 _ (cR h3)
structure Left (r:Sc.Rule) (K:List Bool) (R:List Sc.Lit):Prop where
 sub:∀l,l∈R→l∈r.body
 done:∀l,l∈r.body→l∈R∨((l.kind=1∨l.kind=4)→Sc.Has K (Sc.out l))
structure RuleIn (facts:List Rl.Fc) (r:Sc.Rule):Prop where
 safe:Sc.safe r=true
 v8:r.vars.toNat≤8
 lit:∀l,l∈r.body→LitIn r.vars.toNat facts l
theorem termsIn_mono{m n:Nat}{l:List Sc.Term}(h:TermsIn m l)(hmn:m≤n):TermsIn n l:=fun t ht=>by
 rcases h t ht with h|h
 ·exact .inl h
 exact .inr (bP h hmn)
theorem LitIn.mono{m n:Nat}{facts:List Rl.Fc}{l:Sc.Lit}(h:LitIn m facts l)(hmn:m≤n):LitIn n facts l:=⟨termsIn_mono h.t hmn,h.k,h.k3,h.k4,h.a⟩
theorem all_known{m:Nat}{K:List Bool}{l:List Sc.Term}(h:TermsIn m l)(hK:∀i,i<m→K.getD i false=true):∀t,t∈l→Sc.known K t=true:=fun t ht=>by
 unfold Sc.known;rcases h t ht with h|h
 ·simp[h]
 simp only[hK _ h,gH]
theorem left_ready{facts:List Rl.Fc}{r:Sc.Rule}{w:Way}{R:List Sc.Lit}(hR:RuleIn facts r)(hw:Wf 8 w)(hL:Left r w.known R)(hne:R≠[]):∃l,l∈R∧ready w l=true:=by
 refine Classical.byContradiction fun hn=>?_;have hno:∀l,l∈R→¬ready w l=true:=fun l hl hr=>hn ⟨l,hl,hr⟩;have hfix:Sc.round r.body w.known=w.known:=Sc.round_fix _ _ fun l hl hr=>by
  rcases hL.done l hl with h|h
  ·refine absurd ?_ (hno l h);unfold Sc.ready at hr;unfold ready;by_cases h1:l.kind=1
   ·rw[if_pos h1]
   rw[if_neg h1];simp only[eA,aW,beq_iff_eq,h1,false_or]at hr;rw[if_pos hr.1.1,hr.1.2,hr.2];rfl
  refine h ?_;unfold Sc.ready at hr;simp only[eA,aW,beq_iff_eq]at hr;rcases hr with hr|hr
  ·exact .inl hr
  exact .inr hr.1.1
 have hall:=safe_all hR.safe (by rw[hw.k];exact hR.v8) hfix;obtain⟨l,hl⟩:∃l,l∈R:=by
  cases R with
  |nil=>exact absurd rfl hne
  |cons a _=>exact⟨a,bA⟩
 have hLi:=hR.lit l (hL.sub l hl);have hk:=all_known hLi.t hall;refine hno l hl ?_;unfold ready;split
 ·rfl
 split
 ·rename_i h4;have h3:=hLi.k4 h4;rw[hk _ (termD_mem oM),hk _ (termD_mem oM)];rfl
 exact bE.mpr hk
theorem left_next{facts:List Rl.Fc}{r:Sc.Rule}{w w':Way}{R:List Sc.Lit}{i:Nat}(hL:Left r w.known R)(hi:i<R.length)(hr:ready w (Sc.litD R i)=true)(hw':w'∈on facts (Sc.litD R i) w)(hLi:LitIn r.vars.toNat facts (Sc.litD R i)):Left r w'.known (R.eraseIdx i):=by
 have hk:=on_known hLi hr hw';refine⟨fun l hl=>hL.sub l (List.mem_of_mem_eraseIdx hl),fun l hl=>?_⟩;(have hle:Sc.Le w.known w'.known:=by rw[hk];exact Sc.bindLit_le _ _);rcases hL.done l hl with h|h
 ·by_cases he:l=Sc.litD R i
  ·right;intro hkd;rw[he]at hkd ⊢;rw[hk];unfold Sc.bindLit;rw[Sc.binds_ready,if_pos ?_]
   ·exact Sc.has_bindAll _ _
   unfold Sc.ready;unfold ready at hr;rcases hkd with h1|h4
   ·simp[h1]
   rw[if_neg oM,if_pos h4]at hr;simp only[h4];rw[aW]at hr;simp[hr.1,hr.2]
  left;obtain⟨j,hj,hje⟩:=mZ.mp h;rw[List.mem_eraseIdx_iff_getElem];refine⟨j,hj,fun e=>he ?_,hje⟩;subst e;unfold Sc.litD;rw[aE,aG hj,hje];rfl
 exact .inr fun hkd=>(h hkd).le hle
theorem litD_mem'{R:List Sc.Lit}{i:Nat}(h:i<R.length):Sc.litD R i∈R:=by unfold Sc.litD;rw[aE,aG h];exact cR h
theorem mem_erase{R:List Sc.Lit}{i:Nat}(hi:i<R.length)(P:Sc.Lit→Prop):(∀l,l∈R→P l)↔P (Sc.litD R i)∧∀l,l∈R.eraseIdx i→P l:=by
 constructor
 ·exact fun h=>⟨h _ (litD_mem' hi),fun l hl=>h l (List.mem_of_mem_eraseIdx hl)⟩
 rintro⟨h1,h2⟩ l hl;obtain⟨j,hj,hje⟩:=mZ.mp hl;by_cases e:j=i
 ·subst e;(have :l=Sc.litD R j:=by unfold Sc.litD;rw[aE,aG hj,hje];rfl);rw[this];exact h1
 exact h2 l (by rw[List.mem_eraseIdx_iff_getElem];exact⟨j,hj,e,hje⟩)
theorem erase_len{R:List Sc.Lit}{i n:Nat}(hi:i<R.length)(h:R.length=n+1):(R.eraseIdx i).length=n:=by rw[List.length_eraseIdx,if_pos hi];omega
section
variable {facts:List Rl.Fc} {r:Sc.Rule}
theorem each_step(hR:RuleIn facts r){n:Nat}{R:List Sc.Lit}{w:Way}(hl:R.length=n+1)(hw:Wf 8 w)(hL:Left r w.known R):
 next facts R w<R.length∧ready w (Sc.litD R (next facts R w))=true∧LitIn r.vars.toNat facts (Sc.litD R (next facts R w)):=by
 obtain⟨h1,h2⟩:=next_ok facts R w (left_ready hR hw hL (fun e=>by rw[e]at hl;cases hl));exact⟨h1,h2,hR.lit _ (hL.sub _ (litD_mem' h1))⟩
theorem eachN_ext(hR:RuleIn facts r)(x:List Int):∀(n:Nat)(R:List Sc.Lit)(w:Way),R.length=n→Wf 8 w→Left r w.known R→((∃w',w'∈eachN facts n R w∧Ext w' x)↔Ext w x∧∀l,l∈R→holds facts l x=true)
 |0,R,w,hl,_,_=>by
  have :R=[]:=gG.mp hl;subst this;constructor
  ·rintro⟨w',h,he⟩;rcases bI.mp h with rfl;exact⟨he,fun l hl=>absurd hl sI⟩
  rintro⟨he,_⟩;exact⟨w,bI.mpr rfl,he⟩
 |n+1,R,w,hl,hw,hL=>by
  obtain⟨hi,hr,hLi⟩:=each_step hR hl hw hL;have hon:=on_ext (x:=x) hw (hLi.mono hR.v8) hr;rw[mem_erase hi];show(∃w',w'∈(on facts (Sc.litD R (next facts R w)) w).flatMap (eachN facts n (R.eraseIdx (next facts R w)))∧Ext w' x)↔_;constructor
  ·rintro⟨w',h,he⟩;obtain⟨w1,h1,h2⟩:=jI.mp h;obtain⟨e1,e2⟩:=(eachN_ext hR x n _ w1 (erase_len hi hl) (on_wf hw h1) (left_next hL hi hr h1 hLi)).mp ⟨w',h2,he⟩;obtain⟨e3,e4⟩:=hon.mp ⟨w1,h1,e1⟩;exact⟨e3,e4,e2⟩
  rintro⟨he,e1,e2⟩;obtain⟨w1,h1,he1⟩:=hon.mpr ⟨he,e1⟩;obtain⟨w',h,he'⟩:=(eachN_ext hR x n _ w1 (erase_len hi hl) (on_wf hw h1) (left_next hL hi hr h1 hLi)).mpr ⟨he1,e2⟩;exact⟨w',jI.mpr ⟨w1,h1,h⟩,he'⟩
theorem eachN_apart(hR:RuleIn facts r)(hn:facts.Nodup):∀(n:Nat)(R:List Sc.Lit)(w:Way),R.length=n→Wf 8 w→Left r w.known R→(eachN facts n R w).Pairwise Apart
 |0,_,_,_,_,_=>fM _ _
 |n+1,R,w,hl,hw,hL=>by obtain⟨hi,hr,hLi⟩:=each_step hR hl hw hL;show((on facts (Sc.litD R (next facts R w)) w).flatMap (eachN facts n (R.eraseIdx (next facts R w)))).Pairwise Apart;rw[List.pairwise_flatMap];refine⟨fun w1 h1=>eachN_apart hR hn n _ w1 (erase_len hi hl) (on_wf hw h1) (left_next hL hi hr h1 hLi),?_⟩;refine iN ?_ (on_apart hw (hLi.mono hR.v8) hn);intro a b ha hb hab x hx y hy z hz1 hz2;have e1:=((eachN_ext hR z n _ a (erase_len hi hl) (on_wf hw ha) (left_next hL hi hr ha hLi)).mp ⟨x,hx,hz1⟩).1;have e2:=((eachN_ext hR z n _ b (erase_len hi hl) (on_wf hw hb) (left_next hL hi hr hb hLi)).mp ⟨y,hy,hz2⟩).1;exact hab z e1 e2
structure Good (m:Nat) (w:Way):Prop where
 wf:Wf 8 w
 lo:∀i,w.known.getD i false=true→i<m
 nm:∀i,w.known.getD i false=true→Sc.isNum (w.nums.getD i 0)=true
theorem with1_good{m:Nat}{w w':Way}{t:Sc.Term}{n:Int}(hg:Good m w)(ht:TermIn m t)(hm:m≤8)(hn:Sc.isNum n=true)(h:with1 w t n=some w'):Good m w':=by
 refine⟨with1_wf hg.wf h,fun i hi=>?_,fun i hi=>?_⟩<;>unfold with1 at h<;>split at h
 ·split at h
  ·injection h with h;subst h;exact hg.lo i hi
  cases h
 ·rename_i hk;injection h with h;subst h;by_cases hv:t.var.toNat=i
  ·have h0:=(known_in hk).1;rcases ht with h|h<;>omega
  refine hg.lo i ?_;have :(w.known.set t.var.toNat true).getD i false=true:=hi;rwa[getD_set_ne _ _ _ _ _ hv]at this
 ·split at h
  ·injection h with h;subst h;exact hg.nm i hi
  cases h
 rename_i hk;injection h with h;subst h;show Sc.isNum ((w.nums.set t.var.toNat n).getD i 0)=true;by_cases hv:t.var.toNat=i
 ·have h0:=(known_in hk).1;(have hlt:t.var.toNat<w.nums.length:=by rw[hg.wf.n];rcases ht with h|h<;>omega);rw[←hv,getD_set_eq _ _ _ _ hlt];exact hn
 rw[getD_set_ne _ _ _ _ _ hv];refine hg.nm i ?_;have :(w.known.set t.var.toNat true).getD i false=true:=hi;rwa[getD_set_ne _ _ _ _ _ hv]at this
theorem withW_good{m:Nat}(hm:m≤8):∀{ts:List Sc.Term}{ns:List Int}{w w':Way},Good m w→TermsIn m ts→(∀n,n∈ns→Sc.isNum n=true)→ts.length=ns.length→withW w ts ns=some w'→Good m w'
 |[],_,_,_,hg,_,_,_,h=>by unfold withW at h;injection h with h;subst h;exact hg
 |t::ts,[],_,_,_,_,_,hl,_=>by cases hl
 |t::ts,n::ns,w,w',hg,hT,hN,hl,h=>by
  have h':(match with1 w t n with |none=>none|some w1=>withW w1 ts ns)=some w':=h
  cases h1:with1 w t n with
  |none=>rw[h1]at h';cases h'
  |some w1=>
   rw[h1]at h';exact withW_good hm (with1_good hg (hT t bA) hm (hN n bA) h1) (fun t ht=>hT t (aP _ ht)) (fun n hn=>hN n (aP _ hn)) (by simpa using hl) h'
theorem on_good{m:Nat}{l:Sc.Lit}{w w':Way}(hm:m≤8)(hg:Good m w)(hl:LitIn m facts l)(hN:∀f,f∈facts→∀n,n∈f.args→Sc.isNum n=true)(h:w'∈on facts l w):Good m w':=by
 unfold on at h;split at h
 ·rename_i h1;obtain⟨f,hf,hfw⟩:=dM.mp h;split at hfw
  ·rename_i hp;exact withW_good hm hg hl.t (hN f hf) (hl.a h1 f hf hp) hfw
  cases hfw
 split at h
 ·split at h
  ·cases h
  rcases bI.mp h with rfl;exact hg
 split at h
 ·split at h
  ·rcases bI.mp h with rfl;exact hg
  cases h
 split at h
 ·cases h
 rename_i h1 h2 h3 _ w1 hw1;(have h4:l.kind=4:=by rcases hl.k with h|h|h|h<;>first|exact h|contradiction);have hd:=drop2_three (hl.k4 h4);split at h
 ·rename_i hn;rcases bI.mp h with rfl;exact withW_good hm hg (fun t ht=>hl.t t (gC ht)) (fun n hn'=>by rcases bI.mp hn' with rfl;exact hn) (by rw[hd];rfl) hw1
 cases h
theorem eachN_good(hR:RuleIn facts r)(hN:∀f,f∈facts→∀n,n∈f.args→Sc.isNum n=true):∀(n:Nat)(R:List Sc.Lit)(w w':Way),R.length=n→Good r.vars.toNat w→Left r w.known R→w'∈eachN facts n R w→Good r.vars.toNat w'∧Left r w'.known []
 |0,R,w,w',hl,hg,hL,h=>by have :R=[]:=gG.mp hl;subst this;rcases bI.mp h with rfl;exact⟨hg,hL⟩
 |n+1,R,w,w',hl,hg,hL,h=>by obtain⟨hi,hr,hLi⟩:=each_step hR hl hg.wf hL;have h':w'∈(on facts (Sc.litD R (next facts R w)) w).flatMap (eachN facts n (R.eraseIdx (next facts R w))):=h;obtain⟨w1,h1,h2⟩:=jI.mp h';exact eachN_good hR hN n _ w1 w' (erase_len hi hl) (on_good hR.v8 hg hLi hN h1) (left_next hL hi hr h1 hLi) h2
theorem left_all(hR:RuleIn facts r){w:Way}(hg:Good r.vars.toNat w)(hL:Left r w.known [])(i:Nat)(hi:i<r.vars.toNat):w.known.getD i false=true:=by
 refine safe_all hR.safe (by rw[hg.wf.k];exact hR.v8) (Sc.round_fix _ _ fun l hl hr=>?_) i hi;rcases hL.done l hl with h|h
 ·exact absurd h sI
 refine h ?_;unfold Sc.ready at hr;simp only[eA,aW,beq_iff_eq]at hr;rcases hr with hr|hr
 ·exact .inl hr
 exact .inr hr.1.1
end
def way0:Way:=⟨List.replicate 8 0,List.replicate 8 false⟩
def ways(facts:List Rl.Fc)(r:Sc.Rule):List (List Int):=(each facts r.body way0).map fun w=>w.nums.take r.vars.toNat
def Sol(facts:List Rl.Fc)(r:Sc.Rule)(x:List Int):Prop:=x.length=r.vars.toNat∧∀l,l∈r.body→holds facts l x=true
theorem way0_known(i:Nat):way0.known.getD i false=false:=by show(List.replicate 8 false).getD i false=false;rw[aE,lK];split<;>rfl
theorem way0_good(m:Nat):Good m way0:=⟨⟨rfl,rfl⟩,fun i hi=>(by rw[way0_known]at hi;cases hi),fun i hi=>(by rw[way0_known]at hi;cases hi)⟩
theorem way0_ext(x:List Int):Ext way0 x:=fun i hi=>by rw[way0_known]at hi;cases hi
theorem way0_left(r:Sc.Rule):Left r way0.known r.body:=⟨fun _ h=>h,fun _ h=>.inl h⟩
theorem getD_take{x:List Int}{m i:Nat}(h:i<m):(x.take m).getD i 0=x.getD i 0:=by rw[aE,List.getElem?_take_of_lt h,aE]
theorem ext_take{m:Nat}{w:Way}(hg:Good m w):Ext w (w.nums.take m):=fun i hi=>by rw[getD_take (hg.lo i hi)]
theorem take_ext{m:Nat}{w:Way}{x:List Int}(hg:Good m w)(hm:m≤8)(hk:∀i,i<m→w.known.getD i false=true)(hx:x.length=m)(he:Ext w x):w.nums.take m=x:=by(have hl:(w.nums.take m).length=m:=by rw[bC,hg.wf.n];omega);refine List.ext_getElem (by rw[hl,hx]) fun i h1 h2=>?_;(have h3:i<m:=by rw[←hx];exact h2);have h4:=he i (hk i h3);rw[←getD_take (m:=m) h3]at h4;rw[aE,aG h1,aE,aG h2]at h4;exact h4
section
variable {facts:List Rl.Fc} {r:Sc.Rule}
theorem mem_ways(hR:RuleIn facts r)(hN:∀f,f∈facts→∀n,n∈f.args→Sc.isNum n=true)(x:List Int):x∈ways facts r↔Sol facts r x:=by
 unfold ways;rw[bO];constructor
 ·rintro⟨w,hw,rfl⟩;obtain⟨hg,hL⟩:=eachN_good hR hN _ _ _ w rfl (way0_good _) (way0_left r) hw;obtain⟨_,h⟩:=(eachN_ext hR (w.nums.take r.vars.toNat) _ _ _ rfl (way0_good 8).wf (way0_left r)).mp ⟨w,hw,ext_take hg⟩;refine⟨?_,h⟩;rw[bC,hg.wf.n];have :=hR.v8;omega
 rintro⟨hx,h⟩;obtain⟨w,hw,he⟩:=(eachN_ext hR x _ _ _ rfl (way0_good 8).wf (way0_left r)).mpr ⟨way0_ext x,h⟩;obtain⟨hg,hL⟩:=eachN_good hR hN _ _ _ w rfl (way0_good _) (way0_left r) hw;exact⟨w,hw,take_ext hg hR.v8 (left_all hR hg hL) hx he⟩
theorem ways_nodup(hR:RuleIn facts r)(hN:∀f,f∈facts→∀n,n∈f.args→Sc.isNum n=true)(hn:facts.Nodup):(ways facts r).Nodup:=by unfold ways List.Nodup;rw[kE];refine iN ?_ (eachN_apart hR hn _ _ _ rfl (way0_good 8).wf (way0_left r));intro a b ha hb hab e;obtain⟨hga,_⟩:=eachN_good hR hN _ _ _ a rfl (way0_good _) (way0_left r) ha;obtain⟨hgb,_⟩:=eachN_good hR hN _ _ _ b rfl (way0_good _) (way0_left r) hb;exact hab (a.nums.take r.vars.toNat) (ext_take hga) (by rw[e];exact ext_take hgb)
theorem sol_nums(hR:RuleIn facts r)(hN:∀f,f∈facts→∀n,n∈f.args→Sc.isNum n=true){x:List Int}(h:Sol facts r x):∀n,n∈x→Sc.isNum n=true:=by obtain⟨w,hw,rfl⟩:=bO.mp ((mem_ways hR hN x).mpr h);obtain⟨hg,hL⟩:=eachN_good hR hN _ _ _ w rfl (way0_good _) (way0_left r) hw;intro n hn;obtain⟨i,hi,rfl⟩:=mZ.mp hn;(have hi':i<r.vars.toNat:=by rw[bC]at hi;omega);have :=hg.nm i (left_all hR hg hL i hi');rw[←getD_take hi',aE,aG hi]at this;exact this
end
end Ru
end Go.Proofs.YthenjegmigeieaaGreat
namespace Go.Proofs.YthenjegmigeieaaGreat
namespace Ru
def reck1(w:Way)(l:Sc.Lit):Option Way:=
 if l.kind=4∧(l.terms.take 2).all (Sc.known w.known)=true∧¬(l.terms.drop 2).all (Sc.known w.known)=true then
  (if Sc.isNum (calc3 l w.nums)=true then some ⟨w.nums.set (Sc.termD l.terms 2).var.toNat (calc3 l w.nums),w.known.set (Sc.termD l.terms 2).var.toNat true⟩else none)
 else some w
def reckR:List Sc.Lit→Way→Option Way
 |[],w=>some w
 |l::r,w=>match reck1 w l with
  |none=>none
  |some w'=>reckR r w'
def reckN(body:List Sc.Lit):Nat→Way→Option Way
 |0,w=>some w
 |n+1,w=>match reckR body w with
  |none=>none
  |some w'=>reckN body n w'
def wrong(facts:List Rl.Fc)(body:List Sc.Lit)(w:Way):Bool:=body.any fun l=>l.terms.all (Sc.known w.known)&& !holds facts l w.nums
def skip:List Sc.Lit→Nat→Nat
 |[],i=>i
 |l::r,i=>if l.kind=1 then i else skip r (i+1)
def skipTo(body:List Sc.Lit)(i:Nat):Nat:=skip (body.drop i) i
def fromN(facts:List Rl.Fc)(body:List Sc.Lit):Nat→Nat→Way→List (List Int)
 |0,_,_=>[]
 |k+1,i,w=>match reckN body (body.length+1) w with
  |none=>[]
  |some w1=>if wrong facts body w1=true then [] else
   if skipTo body i<body.length then
    facts.flatMap fun f=>if f.pred=(Sc.litD body (skipTo body i)).pred then
     (match withW w1 (Sc.litD body (skipTo body i)).terms f.args with
      |none=>[]
      |some w2=>fromN facts body k (skipTo body i+1) w2)else []
   else [w1.nums]
theorem take2_all{l:List Sc.Term}{K:List Bool}(h:l.length=3):(l.take 2).all (Sc.known K)=(Sc.known K (Sc.termD l 0)&&Sc.known K (Sc.termD l 1)):=by
 match l,h with
 |[a,b,c],_=>simp[Sc.termD]
theorem drop2_all{l:List Sc.Term}{K:List Bool}(h:l.length=3):(l.drop 2).all (Sc.known K)=Sc.known K (Sc.termD l 2):=by
 match l,h with
 |[a,b,c],_=>simp[Sc.termD]
section
variable {m:Nat} {facts:List Rl.Fc}
theorem reck1_wf{w w':Way}{l:Sc.Lit}(hw:Wf m w)(h:reck1 w l=some w'):Wf m w':=by
 unfold reck1 at h;split at h
 ·split at h
  ·injection h with h;subst h;exact⟨by simpa using hw.n,by simpa using hw.k⟩
  cases h
 injection h with h;subst h;exact hw
theorem reck1_known{w w':Way}{l:Sc.Lit}(hl:LitIn m facts l)(h:reck1 w l=some w'):w'.known=if l.kind=4 then Sc.bindLit w.known l else w.known:=by
 unfold reck1 at h;by_cases h4:l.kind=4
 ·rw[take2_all (hl.k4 h4),drop2_all (hl.k4 h4)]at h;simp only[aW]at h;rw[if_pos h4];unfold Sc.bindLit Sc.binds;rw[if_neg oM];by_cases hr:Sc.known w.known (Sc.termD l.terms 0)=true∧Sc.known w.known (Sc.termD l.terms 1)=true
  ·rw[if_pos ⟨h4,hr.1,hr.2⟩,drop2_three (hl.k4 h4)];show _=Sc.bind1 w.known _;by_cases hk:Sc.known w.known (Sc.termD l.terms 2)=true
   ·rw[if_neg (fun hc=>hc.2.2 hk)]at h;injection h with h;subst h;symm;refine Sc.bind1_has fun h0 _=>?_;unfold Sc.known at hk;simpa[show¬(Sc.termD l.terms 2).var<0 by omega]using hk
   rw[if_pos ⟨h4,hr,hk⟩]at h;split at h
   ·injection h with h;subst h;unfold Sc.bind1;rw[if_pos (known_in hk).1]
   cases h
  rw[if_neg (fun hc=>hr hc.2)];rw[if_neg (fun hc=>hr hc.2.1)]at h;injection h with h;subst h;rfl
 rw[if_neg (fun hc=>h4 hc.1)]at h;injection h with h;subst h;rw[if_neg h4]
theorem reck1_back{w w':Way}{l:Sc.Lit}{x:List Int}(hl:LitIn m facts l)(h:reck1 w l=some w')(he:Ext w' x):Ext w x:=by
 unfold reck1 at h;split at h
 ·rename_i hc;rw[drop2_all (hl.k4 hc.1)]at hc;split at h
  ·injection h with h;subst h;obtain⟨h0,hf⟩:=known_in hc.2.2;intro i hi;by_cases hv:(Sc.termD l.terms 2).var.toNat=i
   ·subst hv;rw[hf]at hi;cases hi
   have :=he i (by show(w.known.set _ true).getD i false=true;rw[getD_set_ne _ _ _ _ _ hv];exact hi);rw[←this];show _=(w.nums.set _ _).getD i 0;rw[getD_set_ne _ _ _ _ _ hv]
  cases h
 injection h with h;subst h;exact he
theorem reck1_on{w:Way}{l:Sc.Lit}{x:List Int}(hw:Wf m w)(hl:LitIn m facts l)(he:Ext w x)(hh:holds facts l x=true):∃w',reck1 w l=some w'∧Ext w' x:=by
 unfold reck1;split
 ·rename_i hc;have h4:=hc.1;rw[take2_all (hl.k4 h4),drop2_all (hl.k4 h4),aW]at hc;unfold holds at hh;rw[if_neg oM,if_neg oM,if_neg oM,aW,decide_eq_true_eq]at hh;(have hcal:calc3 l w.nums=calc3 l x:=by unfold calc3;rw[num_known he hc.2.1.1,num_known he hc.2.1.2]);rw[if_pos (by rw[hcal];exact hh.1)];refine⟨_,rfl,fun i hi=>?_⟩;obtain⟨h0,hf⟩:=known_in hc.2.2;have hv3:(Sc.termD l.terms 2).var.toNat<m:=by
   rcases hl.t _ (termD_mem (i:=2) (by rw[hl.k4 h4];omega))with h|h
   ·omega
   exact h
  by_cases hv:(Sc.termD l.terms 2).var.toNat=i
  ·subst hv;show(w.nums.set _ _).getD _ 0=_;rw[getD_set_eq _ _ _ _ (by rw[hw.n];exact hv3),hcal,hh.2];unfold num;rw[if_neg oM]
  show(w.nums.set _ _).getD i 0=_;rw[getD_set_ne _ _ _ _ _ hv];refine he i ?_;have :(w.known.set _ true).getD i false=true:=hi;rwa[getD_set_ne _ _ _ _ _ hv]at this
 exact⟨w,rfl,he⟩
theorem reckR_wf:∀{body:List Sc.Lit}{w w':Way},Wf m w→reckR body w=some w'→Wf m w'
 |[],_,_,hw,h=>by unfold reckR at h;injection h with h;subst h;exact hw
 |l::r,w,w',hw,h=>by
  unfold reckR at h
  cases h1:reck1 w l with
  |none=>rw[h1]at h;cases h
  |some w1=>rw[h1]at h;exact reckR_wf (reck1_wf hw h1) h
def calcs(body:List Sc.Lit):List Sc.Lit:=body.filter fun l=>decide (l.kind=4)
theorem reckR_known:∀{body:List Sc.Lit}{w w':Way},(∀l,l∈body→LitIn m facts l)→reckR body w=some w'→w'.known=Sc.round (calcs body) w.known
 |[],_,_,_,h=>by unfold reckR at h;injection h with h;subst h;rfl
 |l::r,w,w',hB,h=>by
  unfold reckR at h
  cases h1:reck1 w l with
  |none=>rw[h1]at h;cases h
  |some w1=>
   rw[h1]at h;rw[reckR_known (fun l hl=>hB l (aP _ hl)) h,reck1_known (hB l bA) h1];unfold calcs;rw[gA];by_cases h4:l.kind=4
   ·rw[if_pos h4,if_pos (decide_eq_true h4)];rfl
   rw[if_neg h4,if_neg (by simpa using h4)]
theorem reckR_back{x:List Int}:∀{body:List Sc.Lit}{w w':Way},(∀l,l∈body→LitIn m facts l)→reckR body w=some w'→Ext w' x→Ext w x
 |[],_,_,_,h,he=>by unfold reckR at h;injection h with h;subst h;exact he
 |l::r,w,w',hB,h,he=>by
  unfold reckR at h
  cases h1:reck1 w l with
  |none=>rw[h1]at h;cases h
  |some w1=>
   rw[h1]at h;exact reck1_back (hB l bA) h1 (reckR_back (fun l hl=>hB l (aP _ hl)) h he)
theorem reckR_on{x:List Int}:∀{body:List Sc.Lit}{w:Way},Wf m w→(∀l,l∈body→LitIn m facts l)→Ext w x→(∀l,l∈body→holds facts l x=true)→∃w',reckR body w=some w'∧Ext w' x
 |[],w,_,_,he,_=>⟨w,rfl,he⟩
 |l::r,w,hw,hB,he,hh=>by obtain⟨w1,h1,he1⟩:=reck1_on hw (hB l bA) he (hh l bA);obtain⟨w2,h2,he2⟩:=reckR_on (reck1_wf hw h1) (fun l hl=>hB l (aP _ hl)) he1 (fun l hl=>hh l (aP _ hl));refine⟨w2,?_,he2⟩;unfold reckR;rw[h1];exact h2
theorem reckN_wf{body:List Sc.Lit}:∀{n:Nat}{w w':Way},Wf m w→reckN body n w=some w'→Wf m w'
 |0,_,_,hw,h=>by unfold reckN at h;injection h with h;subst h;exact hw
 |n+1,w,w',hw,h=>by
  unfold reckN at h
  cases h1:reckR body w with
  |none=>rw[h1]at h;cases h
  |some w1=>rw[h1]at h;exact reckN_wf (reckR_wf hw h1) h
theorem reckN_known{body:List Sc.Lit}(hB:∀l,l∈body→LitIn m facts l):∀{n:Nat}{w w':Way},reckN body n w=some w'→w'.known=Sc.rounds (calcs body) n w.known
 |0,_,_,h=>by unfold reckN at h;injection h with h;subst h;rfl
 |n+1,w,w',h=>by
  unfold reckN at h
  cases h1:reckR body w with
  |none=>rw[h1]at h;cases h
  |some w1=>rw[h1]at h;rw[reckN_known hB h,reckR_known hB h1];rfl
theorem reckN_back{x:List Int}{body:List Sc.Lit}(hB:∀l,l∈body→LitIn m facts l):∀{n:Nat}{w w':Way},reckN body n w=some w'→Ext w' x→Ext w x
 |0,_,_,h,he=>by unfold reckN at h;injection h with h;subst h;exact he
 |n+1,w,w',h,he=>by
  unfold reckN at h
  cases h1:reckR body w with
  |none=>rw[h1]at h;cases h
  |some w1=>rw[h1]at h;exact reckR_back hB h1 (reckN_back hB h he)
theorem reckN_on{x:List Int}{body:List Sc.Lit}(hB:∀l,l∈body→LitIn m facts l)(hh:∀l,l∈body→holds facts l x=true):∀{n:Nat}{w:Way},Wf m w→Ext w x→∃w',reckN body n w=some w'∧Ext w' x
 |0,w,_,he=>⟨w,rfl,he⟩
 |n+1,w,hw,he=>by obtain⟨w1,h1,he1⟩:=reckR_on hw hB he hh;obtain⟨w2,h2,he2⟩:=reckN_on hB hh (n:=n) (reckR_wf hw h1) he1;refine⟨w2,?_,he2⟩;unfold reckN;rw[h1];exact h2
end
theorem rounds_succ(body:List Sc.Lit):∀(n:Nat)(b:List Bool),Sc.rounds body (n+1) b=Sc.round body (Sc.rounds body n b)
 |0,_=>rfl
 |n+1,b=>by show Sc.rounds body (n+1) (Sc.round body b)=_;rw[rounds_succ body n];rfl
theorem rounds_settled(body:List Sc.Lit)(b:List Bool){n:Nat}(h:body.length≤n):Sc.round body (Sc.rounds body n b)=Sc.rounds body n b:=by
 (have h1:Sc.round body (Sc.rounds body body.length b)=Sc.rounds body body.length b:=by rw[←rounds_succ];exact Sc.rounds_enough body b);obtain⟨k,rfl⟩:∃k,n=body.length+k:=⟨n-body.length,oM⟩;clear h
 induction k with
 |zero=>exact h1
 |succ k ih=>
  rw[←jD,rounds_succ,ih];exact ih
theorem reck_closed{m:Nat}{facts:List Rl.Fc}{body:List Sc.Lit}(hB:∀l,l∈body→LitIn m facts l){w w':Way}(h:reckN body (body.length+1) w=some w')(l:Sc.Lit)(hl:l∈body)(h4:l.kind=4)(hr:Sc.ready w'.known l=true):Sc.Has w'.known (Sc.out l):=by have hk:=reckN_known hB h;(have hs:Sc.round (calcs body) w'.known=w'.known:=by rw[hk];exact rounds_settled _ _ (aX (gU _ _) (iB _)));rw[←hs];exact Sc.round_has _ _ l (eX.mpr ⟨hl,by simpa using h4⟩) hr
theorem skip_ge:∀(l:List Sc.Lit)(i:Nat),i≤skip l i∧skip l i≤i+l.length
 |[],i=>⟨aF _,aF _⟩
 |x::l,i=>by
  unfold skip;split
  ·exact⟨aF _,by simp⟩
  have :=skip_ge l (i+1);simp only[dK];omega
theorem skip_between:∀(l:List Sc.Lit)(i j:Nat),i≤j→j<skip l i→¬(Sc.litD l (j-i)).kind=1
 |[],i,j,h1,h2=>by unfold skip at h2;omega
 |x::l,i,j,h1,h2=>by
  unfold skip at h2;split at h2
  ·omega
  rename_i hx;by_cases e:j=i
  ·subst e;rw[iU];exact hx
  have :=skip_between l (i+1) j oM h2;rw[show j-i=(j-(i+1))+1 by omega];exact this
theorem skip_at:∀(l:List Sc.Lit)(i:Nat),skip l i<i+l.length→(Sc.litD l (skip l i-i)).kind=1
 |[],i,h=>by unfold skip at h;simp at h
 |x::l,i,h=>by
  unfold skip at h ⊢;split
  ·rename_i hx;rw[iU];exact hx
  rename_i hx;rw[if_neg hx]at h;have :=skip_at l (i+1) (by simp only[dK]at h;omega);have hg:=(skip_ge l (i+1)).1;rw[show skip l (i+1)-i=(skip l (i+1)-(i+1))+1 by omega];exact this
theorem litD_drop(l:List Sc.Lit)(i j:Nat):Sc.litD (l.drop i) j=Sc.litD l (i+j):=by unfold Sc.litD;rw[aE,List.getElem?_drop,aE]
theorem skipTo_ge(body:List Sc.Lit)(i:Nat)(h:i≤body.length):i≤skipTo body i∧skipTo body i≤body.length:=by have :=skip_ge (body.drop i) i;rw[fT]at this;unfold skipTo;omega
theorem skipTo_between(body:List Sc.Lit){i j:Nat}(h1:i≤j)(h2:j<skipTo body i):¬(Sc.litD body j).kind=1:=by have :=skip_between (body.drop i) i j h1 h2;rw[litD_drop,show i+(j-i)=j by omega]at this;exact this
theorem skipTo_at(body:List Sc.Lit){i:Nat}(hi:i≤body.length)(h:skipTo body i<body.length):(Sc.litD body (skipTo body i)).kind=1:=by have hg:=(skipTo_ge body i hi).1;have :=skip_at (body.drop i) i (by rw[fT];unfold skipTo at h;omega);rw[litD_drop]at this;unfold skipTo at hg ⊢;rwa[show i+(skip (body.drop i) i-i)=skip (body.drop i) i by omega]at this
section
variable {facts:List Rl.Fc} {r:Sc.Rule}
def Done(body:List Sc.Lit)(i:Nat)(K:List Bool):Prop:=∀j,j<i→(Sc.litD body j).kind=1→Sc.Has K (Sc.litD body j).terms
theorem wrong_no{body:List Sc.Lit}{w:Way}{x:List Int}(hB:∀l,l∈body→LitIn r.vars.toNat facts l)(he:Ext w x)(hh:∀l,l∈body→holds facts l x=true):wrong facts body w=false:=by
 unfold wrong;rw[List.any_eq_false];intro l hl;rw[aW,not_and];intro ha;have hk:=bE.mp ha;have hLi:=hB l hl;have h1:=hh l hl;have :holds facts l w.nums=holds facts l x:=by
  unfold holds;rw[fill_known he ha];by_cases h3:l.kind=3
  ·have e0:=num_known he (hk _ (termD_mem (i:=0) (by rw[hLi.k3 h3];omega)));have e1:=num_known he (hk _ (termD_mem (i:=1) (by rw[hLi.k3 h3];omega)));rw[e0,e1];simp[h3]
  by_cases h4:l.kind=4
  ·have e0:=num_known he (hk _ (termD_mem (i:=0) (by rw[hLi.k4 h4];omega)));have e1:=num_known he (hk _ (termD_mem (i:=1) (by rw[hLi.k4 h4];omega)));have e2:=num_known he (hk _ (termD_mem (i:=2) (by rw[hLi.k4 h4];omega)));unfold calc3;rw[e0,e1,e2]
  rcases hLi.k with h|h|h|h
  ·simp[h]
  ·simp[h]
  ·exact absurd h h3
  exact absurd h h4
 rw[this,h1];simp
theorem leaf_known(hR:RuleIn facts r){w w1:Way}{i:Nat}(hw:Wf r.vars.toNat w)(hD:Done r.body i w.known)(h:reckN r.body (r.body.length+1) w=some w1)(hs:¬skipTo r.body i<r.body.length)(j:Nat)(hj:j<r.vars.toNat):w1.known.getD j false=true:=by
 have hw1:=reckN_wf hw h;have hle:Sc.Le w.known w1.known:=by
  rw[reckN_known hR.lit h];clear h hs;generalize r.body.length+1=n;generalize w.known=K
  induction n generalizing K with
  |zero=>exact Sc.Le.refl K
  |succ n ih=>exact(Sc.round_le _ K).trans (ih _)
 refine safe_all hR.safe (by rw[hw1.k];exact aF _) (Sc.round_fix _ _ fun l hl hr=>?_) j hj;by_cases h4:l.kind=4
 ·exact reck_closed hR.lit h l hl h4 hr
 have h1:l.kind=1:=by
  unfold Sc.ready at hr;simp only[eA,aW,beq_iff_eq]at hr;rcases hr with hr|hr
  ·exact hr
  exact absurd hr.1.1 h4
 obtain⟨q,hq,hqe⟩:=mZ.mp hl;(have hq2:Sc.litD r.body q=l:=by unfold Sc.litD;rw[aE,aG hq,hqe];rfl);unfold Sc.out;rw[if_pos h1,←hq2];refine(hD q ?_ (by rw[hq2];exact h1)).le hle;rcases dF q i with hqi|hqi
 ·exact hqi
 refine absurd h1 ?_;rw[←hq2];exact skipTo_between r.body hqi oM
theorem done_next{w2:Way}{w1:Way}{i:Nat}{ns:List Int}(hD:Done r.body i w1.known)(hw2:withW w1 (Sc.litD r.body (skipTo r.body i)).terms ns=some w2):Done r.body (skipTo r.body i+1) w2.known:=by
 have hk:=withW_known hw2;intro j hj h1;by_cases e:j=skipTo r.body i
 ·rw[hk,e];exact Sc.has_bindAll _ _
 rcases dF j i with hji|hji
 ·exact(hD j hji h1).le (by rw[hk];exact Sc.bindAll_le _ _)
 exact absurd h1 (skipTo_between r.body hji oM)
theorem fromN_mem(hR:RuleIn facts r)(x:List Int):∀(k i:Nat)(w:Way),i≤r.body.length→r.body.length<i+k→Wf r.vars.toNat w→Done r.body i w.known→(x∈fromN facts r.body k i w↔Ext w x∧Sol facts r x)
 |0,i,w,h1,h2,_,_=>oM
 |k+1,i,w,hi,hk,hw,hD=>by
  unfold fromN
  cases h1:reckN r.body (r.body.length+1) w with
  |none=>
   constructor
   ·intro h;cases h
   rintro⟨he,hs⟩;obtain⟨w1,h,_⟩:=reckN_on hR.lit hs.2 hw he;rw[h1]at h;cases h
  |some w1=>
   have hw1:=reckN_wf hw h1;have hback:Ext w1 x→Ext w x:=reckN_back hR.lit h1;(have hon:Ext w x→Sol facts r x→Ext w1 x:=fun he hs=>by obtain⟨w1',h,he'⟩:=reckN_on (n:=r.body.length+1) hR.lit hs.2 hw he;rw[h1]at h;injection h with h;subst h;exact he');have hD1:Done r.body i w1.known:=fun j hj hk1=>(hD j hj hk1).le (by
    rw[reckN_known hR.lit h1];generalize r.body.length+1=n;generalize w.known=K
    induction n generalizing K with
    |zero=>exact Sc.Le.refl K
    |succ n ih=>exact(Sc.round_le _ K).trans (ih _))
   show x∈(if wrong facts r.body w1=true then [] else _)↔_;by_cases hwr:wrong facts r.body w1=true
   ·rw[if_pos hwr];constructor
    ·intro h;cases h
    rintro⟨he,hs⟩;rw[wrong_no hR.lit (hon he hs) hs.2]at hwr;cases hwr
   rw[if_neg hwr];obtain⟨hg1,hg2⟩:=skipTo_ge r.body i hi;by_cases hsk:skipTo r.body i<r.body.length
   ·rw[if_pos hsk];have hk1:=skipTo_at r.body hi hsk;have hLi:=hR.lit _ (litD_mem' hsk);rw[jI];constructor
    ·rintro⟨f,hf,hx⟩;split at hx
     ·rename_i hp;split at hx
      ·cases hx
      rename_i w2 hw2;obtain⟨he2,hs⟩:=(fromN_mem hR x k (skipTo r.body i+1) w2 oM oM (withW_wf hw1 hw2) (done_next hD1 hw2)).mp hx;exact⟨hback ((withW_ext hw1 hLi.t (hLi.a hk1 f hf hp)).mp ⟨w2,hw2,he2⟩).1,hs⟩
     cases hx
    rintro⟨he,hs⟩;have hh:=hs.2 _ (litD_mem' hsk);unfold holds at hh;rw[if_pos hk1,Rl.has_iff]at hh;obtain⟨w2,hw2,he2⟩:=(withW_ext (ns:=fill (Sc.litD r.body (skipTo r.body i)).terms x) (x:=x) hw1 hLi.t (by unfold fill;simp)).mpr ⟨hon he hs,rfl⟩;refine⟨_,hh,?_⟩;rw[if_pos rfl];(show x∈match withW w1 (Sc.litD r.body (skipTo r.body i)).terms (fill (Sc.litD r.body (skipTo r.body i)).terms x)with |none=>[]|some w2=>fromN facts r.body k (skipTo r.body i+1) w2);rw[hw2];exact(fromN_mem hR x k (skipTo r.body i+1) w2 oM oM (withW_wf hw1 hw2) (done_next hD1 hw2)).mpr ⟨he2,hs⟩
   rw[if_neg hsk,bI];have hall:=leaf_known hR hw hD h1 hsk;constructor
   ·rintro rfl;have he1:Ext w1 w1.nums:=fun _ _=>rfl;refine⟨hback he1,hw1.n,fun l hl=>?_⟩;refine Classical.byContradiction fun hn=>hwr ?_;unfold wrong;rw[gT];refine⟨l,hl,?_⟩;rw[aW];exact⟨bE.mpr (all_known (hR.lit l hl).t hall),by simpa using hn⟩
   rintro⟨he,hs⟩;have he1:=hon he hs;refine List.ext_getElem (by rw[hs.1,hw1.n]) fun j h3 h4=>?_;have :=he1 j (hall j (by rw[←hs.1];exact h3));rw[aE,aG h4,aE,aG h3]at this;exact this.symm
theorem fromN_nodup(hR:RuleIn facts r)(hn:facts.Nodup):∀(k i:Nat)(w:Way),i≤r.body.length→r.body.length<i+k→Wf r.vars.toNat w→Done r.body i w.known→(fromN facts r.body k i w).Nodup
 |0,i,w,h1,h2,_,_=>oM
 |k+1,i,w,hi,hk,hw,hD=>by
  unfold fromN
  cases h1:reckN r.body (r.body.length+1) w with
  |none=>exact List.Pairwise.nil
  |some w1=>
   have hw1:=reckN_wf hw h1;have hD1:Done r.body i w1.known:=fun j hj hk1=>(hD j hj hk1).le (by
    rw[reckN_known hR.lit h1];generalize r.body.length+1=n;generalize w.known=K
    induction n generalizing K with
    |zero=>exact Sc.Le.refl K
    |succ n ih=>exact(Sc.round_le _ K).trans (ih _))
   show(if wrong facts r.body w1=true then [] else _:List (List Int)).Nodup;split
   ·exact List.Pairwise.nil
   obtain⟨hg1,hg2⟩:=skipTo_ge r.body i hi;split
   ·rename_i hsk;have hk1:=skipTo_at r.body hi hsk;have hLi:=hR.lit _ (litD_mem' hsk);unfold List.Nodup;rw[List.pairwise_flatMap];refine⟨fun f hf=>?_,iN ?_ hn⟩
    ·split
     ·split
      ·exact List.Pairwise.nil
      rename_i w2 hw2;exact fromN_nodup hR hn k _ w2 oM oM (withW_wf hw1 hw2) (done_next hD1 hw2)
     exact List.Pairwise.nil
    intro f g hf hg hfg a ha b hb e;subst e;split at ha
    ·rename_i hp;split at ha
     ·cases ha
     rename_i w2 hw2;split at hb
     ·rename_i hq;split at hb
      ·cases hb
      rename_i w3 hw3;have e1:=((fromN_mem hR a k (skipTo r.body i+1) w2 oM oM (withW_wf hw1 hw2) (done_next hD1 hw2)).mp ha).1;have e2:=((fromN_mem hR a k (skipTo r.body i+1) w3 oM oM (withW_wf hw1 hw3) (done_next hD1 hw3)).mp hb).1;have f1:=((withW_ext hw1 hLi.t (hLi.a hk1 f hf hp)).mp ⟨w2,hw2,e1⟩).2;have f2:=((withW_ext hw1 hLi.t (hLi.a hk1 g hg hq)).mp ⟨w3,hw3,e2⟩).2;apply hfg;obtain⟨fp,fa⟩:=f;obtain⟨gp,ga⟩:=g;dsimp only at *;rw[hp,hq,←f1,←f2]
     cases hb
    cases ha
   exact fM _ _
def wayV(m:Nat):Way:=⟨List.replicate m 0,List.replicate m false⟩
def refWays(facts:List Rl.Fc)(r:Sc.Rule):List (List Int):=fromN facts r.body (r.body.length+1) 0 (wayV r.vars.toNat)
theorem wayV_wf(m:Nat):Wf m (wayV m):=⟨by simp[wayV],by simp[wayV]⟩
theorem mem_refWays(hR:RuleIn facts r)(x:List Int):x∈refWays facts r↔Sol facts r x:=by unfold refWays;rw[fromN_mem hR x _ _ _ (aR _) oM (wayV_wf _) (fun j hj=>oM)];refine⟨fun h=>h.2,fun h=>⟨fun i hi=>?_,h⟩⟩;have :(List.replicate r.vars.toNat false).getD i false=true:=hi;rw[aE,lK]at this;split at this<;>simp at this
theorem refWays_nodup(hR:RuleIn facts r)(hn:facts.Nodup):(refWays facts r).Nodup:=fromN_nodup hR hn _ _ _ (aR _) oM (wayV_wf _) (fun j hj=>oM)
theorem same_many(hR:RuleIn facts r)(hN:∀f,f∈facts→∀n,n∈f.args→Sc.isNum n=true)(hn:facts.Nodup):(ways facts r).Perm (refWays facts r):=
 (kJ (ways_nodup hR hN hn) (refWays_nodup hR hn)).mpr fun x=>(mem_ways hR hN x).trans (mem_refWays hR x).symm
end
end Ru
end Go.Proofs.YthenjegmigeieaaGreat
namespace Go.Proofs.YthenjegmigeieaaGreat
namespace Ru
def srt(L:List (List Int)):List (List Int):=(Rl.set (L.map (Rl.Fc.mk 0))).map (·.args)
theorem ord_mk(x y:List Int):Rl.ord ⟨0,x⟩ ⟨0,y⟩=Rl.cmpL x y:=by unfold Rl.ord;rw[if_pos (Rl.cmpI_self 0)]
theorem set_preds{L:List (List Int)}{f:Rl.Fc}(h:f∈Rl.set (L.map (Rl.Fc.mk 0))):f=⟨0,f.args⟩∧f.args∈L:=by obtain⟨x,hx,rfl⟩:=bO.mp (Rl.mem_set.mp h);exact⟨rfl,hx⟩
theorem mem_srt{L:List (List Int)}{x:List Int}:x∈srt L↔x∈L:=by
 unfold srt;rw[bO];constructor
 ·rintro⟨f,hf,rfl⟩;exact(set_preds hf).2
 intro h;exact⟨⟨0,x⟩,Rl.mem_set.mpr (bO.mpr ⟨x,h,rfl⟩),rfl⟩
def UpL(s:List (List Int)):Prop:=s.Pairwise fun x y=>Rl.cmpL x y<0
theorem srt_up(L:List (List Int)):UpL (srt L):=by unfold UpL srt;rw[kE];refine iN ?_ (Rl.set_isSet (L.map (Rl.Fc.mk 0))).1;intro f g hf hg h;have h':Rl.ord f g<0:=h;rw[(set_preds hf).1,(set_preds hg).1,ord_mk]at h';exact h'
theorem srt_eq{s L:List (List Int)}(hs:UpL s)(h:∀x,x∈s↔x∈L):s=srt L:=by
 (have h1:Rl.Up (s.map (Rl.Fc.mk 0)):=by unfold Rl.Up;rw[kE];exact hs.imp fun {a b} hab=>by show Rl.ord _ _<0;rw[ord_mk];exact hab);have h2:s.map (Rl.Fc.mk 0)=Rl.set (L.map (Rl.Fc.mk 0)):=Rl.isSet_eq ⟨h1,fun f=>by
  constructor
  ·intro hf;obtain⟨x,hx,rfl⟩:=bO.mp hf;exact bO.mpr ⟨x,(h x).mp hx,rfl⟩
  intro hf;obtain⟨x,hx,rfl⟩:=bO.mp hf
  exact bO.mpr ⟨x,(h x).mpr hx,rfl⟩⟩
 unfold srt;rw[←h2,List.map_map];exact(List.map_id' s).symm
theorem srt_nodup(L:List (List Int)):(srt L).Nodup:=by refine(srt_up L).imp ?_;intro a b h e;rw[Rl.cmpL_zero.mpr e]at h;omega
theorem srt_perm{L:List (List Int)}(hn:L.Nodup):(srt L).Perm L:=(kJ (srt_nodup L) hn).mpr fun _=>mem_srt
def minL:List Int→Int
 |[]=>0
 |a::r=>r.foldl (fun m x=>if x<m then x else m) a
def maxL:List Int→Int
 |[]=>0
 |a::r=>r.foldl (fun m x=>if m<x then x else m) a
def foldN(f:Int)(l:List Int):Int:=if f=1 then(l.length:Int)else if f=3 then minL l else if f=4 then maxL l else l.sum
theorem fold_min(r:List Int):∀a:Int,(r.foldl (fun m x=>if x<m then x else m) a=a∨r.foldl (fun m x=>if x<m then x else m) a∈r)∧r.foldl (fun m x=>if x<m then x else m) a≤a∧∀x,x∈r→r.foldl (fun m x=>if x<m then x else m) a≤x:=by
 induction r with
 |nil=>exact fun a=>⟨.inl rfl,Int.le_refl _,fun x hx=>absurd hx sI⟩
 |cons b r ih=>
  intro a;obtain⟨h1,h2,h3⟩:=ih (if b<a then b else a);simp only[cL];refine⟨?_,?_,?_⟩
  ·rcases h1 with h1|h1
   ·rw[h1];split
    ·exact .inr bA
    exact .inl rfl
   exact .inr (aP _ h1)
  ·refine lA h2 ?_;split<;>omega
  intro x hx;rcases bD.mp hx with rfl|hx
  ·refine lA h2 ?_;split<;>omega
  exact h3 x hx
theorem fold_max(r:List Int):∀a:Int,(r.foldl (fun m x=>if m<x then x else m) a=a∨r.foldl (fun m x=>if m<x then x else m) a∈r)∧a≤r.foldl (fun m x=>if m<x then x else m) a∧∀x,x∈r→x≤r.foldl (fun m x=>if m<x then x else m) a:=by
 induction r with
 |nil=>exact fun a=>⟨.inl rfl,Int.le_refl _,fun x hx=>absurd hx sI⟩
 |cons b r ih=>
  intro a;obtain⟨h1,h2,h3⟩:=ih (if a<b then b else a);simp only[cL];refine⟨?_,?_,?_⟩
  ·rcases h1 with h1|h1
   ·rw[h1];split
    ·exact .inr bA
    exact .inl rfl
   exact .inr (aP _ h1)
  ·refine lA ?_ h2;split<;>omega
  intro x hx;rcases bD.mp hx with rfl|hx
  ·refine lA ?_ h2;split<;>omega
  exact h3 x hx
theorem minL_mem{l:List Int}(h:l≠[]):minL l∈l∧∀x,x∈l→minL l≤x:=by
 cases l with
 |nil=>exact absurd rfl h
 |cons a r=>
  obtain⟨h1,h2,h3⟩:=fold_min r a;refine⟨?_,fun x hx=>?_⟩
  ·rcases h1 with h1|h1
   ·show r.foldl _ a∈_;rw[h1];exact bA
   exact aP _ h1
  rcases bD.mp hx with rfl|hx
  ·exact h2
  exact h3 x hx
theorem maxL_mem{l:List Int}(h:l≠[]):maxL l∈l∧∀x,x∈l→x≤maxL l:=by
 cases l with
 |nil=>exact absurd rfl h
 |cons a r=>
  obtain⟨h1,h2,h3⟩:=fold_max r a;refine⟨?_,fun x hx=>?_⟩
  ·rcases h1 with h1|h1
   ·show r.foldl _ a∈_;rw[h1];exact bA
   exact aP _ h1
  rcases bD.mp hx with rfl|hx
  ·exact h2
  exact h3 x hx
theorem perm_sum{l m:List Int}(h:l.Perm m):l.sum=m.sum:=by
 induction h with
 |nil=>rfl
 |cons a _ ih=>simp only[List.sum_cons,ih]
 |swap a b l=>simp only[List.sum_cons];omega
 |trans _ _ h1 h2=>exact h1.trans h2
theorem foldN_perm(f:Int){l m:List Int}(h:l.Perm m):foldN f l=foldN f m:=by
 unfold foldN;rw[h.length_eq,perm_sum h];by_cases hl:l=[]
 ·subst hl;have :m=[]:=List.nil_perm.mp h;subst this;rfl
 have hm:m≠[]:=fun e=>hl (by subst e;exact List.perm_nil.mp h);have a:=minL_mem hl;have b:=minL_mem hm;have c:=maxL_mem hl;have d:=maxL_mem hm;(have e1:minL l=minL m:=by have :=a.2 _ (h.mem_iff.mpr b.1);have :=b.2 _ (h.mem_iff.mp a.1);omega);(have e2:maxL l=maxL m:=by have :=c.2 _ (h.mem_iff.mpr d.1);have :=d.2 _ (h.mem_iff.mp c.1);omega);rw[e1,e2]
def pre(a:List Int):List Int:=a.dropLast
def lst(a:List Int):Int:=a.getLastD 0
def head(r:Sc.Rule)(x:List Int):Rl.Fc:=⟨r.pred,fill r.terms x⟩
def group(H:List Rl.Fc)(p:List Int):List Int:=(H.filter fun g=>decide (pre g.args=p)).map fun g=>lst g.args
def foldH(f:Int)(H:List Rl.Fc)(h:Rl.Fc):Option Rl.Fc:=
 if Sc.isNum (foldN f (group H (pre h.args)))=true then some ⟨h.pred,pre h.args++[foldN f (group H (pre h.args))]⟩else none
def headsL(r:Sc.Rule)(W:List (List Int)):List Rl.Fc:=
 if r.fold=0 then W.map (head r)else(W.map (head r)).filterMap (foldH r.fold (W.map (head r)))
def heads(r:Sc.Rule)(W:List (List Int)):List Rl.Fc:=Rl.set (headsL r W)
theorem group_perm{H K:List Rl.Fc}(h:H.Perm K)(p:List Int):(group H p).Perm (group K p):=(h.filter _).map _
theorem foldH_perm(f:Int){H K:List Rl.Fc}(h:H.Perm K)(x:Rl.Fc):foldH f H x=foldH f K x:=by unfold foldH;rw[foldN_perm f (group_perm h _)]
theorem headsL_perm(r:Sc.Rule){W V:List (List Int)}(h:W.Perm V)(x:Rl.Fc):x∈headsL r W↔x∈headsL r V:=by
 unfold headsL;have hm:=h.map (head r);split
 ·exact hm.mem_iff
 rw[dM,dM];constructor
 ·rintro⟨a,ha,hx⟩;exact⟨a,hm.mem_iff.mp ha,by rw[←foldH_perm _ hm];exact hx⟩
 rintro⟨a,ha,hx⟩;exact⟨a,hm.mem_iff.mpr ha,by rw[foldH_perm _ hm];exact hx⟩
theorem heads_perm(r:Sc.Rule){W V:List (List Int)}(h:W.Perm V):heads r W=heads r V:=Rl.set_same (headsL_perm r h)
theorem cmpL_pre:∀{x y:List Int},x.length=y.length→Rl.cmpL x y≤0→Rl.cmpL (pre x) (pre y)≤0
 |[],[],_,_=>dE
 |[],_::_,h,_=>by cases h
 |_::_,[],h,_=>by cases h
 |[a],[b],_,_=>by show Rl.cmpL [] []≤0;decide
 |[a],b::c::y,h,_=>by simp at h
 |a::c::x,[b],h,_=>by simp at h
 |a::a'::x,b::b'::y,hl,h=>by
  have ih:=cmpL_pre (x:=a'::x) (y:=b'::y) (by simpa using hl);show Rl.cmpL (a::pre (a'::x)) (b::pre (b'::y))≤0;have h':(if Rl.cmpI a b=0 then Rl.cmpL (a'::x) (b'::y)else Rl.cmpI a b)≤0:=h;show(if Rl.cmpI a b=0 then Rl.cmpL (pre (a'::x)) (pre (b'::y))else Rl.cmpI a b)≤0;by_cases e:Rl.cmpI a b=0
  ·rw[if_pos e]at h' ⊢;exact ih h'
  rw[if_neg e]at h' ⊢;exact h'
def folded(f:Int):List Rl.Fc→List Int→List Rl.Fc
 |[],_=>[]
 |h::t,ns=>
  (match t with
   |[]=>if Sc.isNum (foldN f (ns++[lst h.args]))=true then [⟨h.pred,pre h.args++[foldN f (ns++[lst h.args])]⟩] else []
   |g::_=>if pre h.args=pre g.args then folded f t (ns++[lst h.args])
    else(if Sc.isNum (foldN f (ns++[lst h.args]))=true then [⟨h.pred,pre h.args++[foldN f (ns++[lst h.args])]⟩] else [])++folded f t [])
def emit(f pd:Int)(p:List Int)(ns:List Int):List Rl.Fc:=if Sc.isNum (foldN f ns)=true then [⟨pd,p++[foldN f ns]⟩] else []
theorem folded_group(f pd:Int)(p:List Int):∀(G:List Rl.Fc)(h:Rl.Fc)(R:List Rl.Fc)(ns:List Int),(∀g,g∈h::G→pre g.args=p∧g.pred=pd)→(∀g,R.head?=some g→¬pre g.args=p)→
 folded f (h::G++R) ns=emit f pd p (ns++(h::G).map fun g=>lst g.args)++folded f R []
 |[],h,R,ns,hG,hR=>by
  obtain⟨h1,h2⟩:=hG h bA
  cases R with
  |nil=>
   show(if Sc.isNum (foldN f (ns++[lst h.args]))=true then [(⟨h.pred,pre h.args++[foldN f (ns++[lst h.args])]⟩:Rl.Fc)] else [])=_;rw[h1,h2];show emit f pd p (ns++[lst h.args])=emit f pd p (ns++[lst h.args])++[];rw[fE]
  |cons g R=>
   show(if pre h.args=pre g.args then folded f (g::R) (ns++[lst h.args])else(if Sc.isNum (foldN f (ns++[lst h.args]))=true then [⟨h.pred,pre h.args++[foldN f (ns++[lst h.args])]⟩] else [])++folded f (g::R) [])=_;rw[h1,if_neg (fun e=>hR g rfl e.symm),h2];rfl
 |g::G,h,R,ns,hG,hR=>by obtain⟨h1,h2⟩:=hG h bA;obtain⟨g1,g2⟩:=hG g (aP _ bA);show(if pre h.args=pre g.args then folded f (g::G++R) (ns++[lst h.args])else(if Sc.isNum (foldN f (ns++[lst h.args]))=true then [⟨h.pred,pre h.args++[foldN f (ns++[lst h.args])]⟩] else [])++folded f (g::G++R) [])=_;rw[h1,g1,if_pos rfl,folded_group f pd p G g R _ (fun x hx=>hG x (aP _ hx)) hR];simp
theorem folded_mem(f pd:Int)(T:Nat):∀(n:Nat)(H:List Rl.Fc),H.length≤n→(∀h,h∈H→h.pred=pd∧h.args.length=T)→H.Pairwise (fun a b=>Rl.ord a b≤0)→∀x,x∈folded f H []↔∃h,h∈H∧foldH f H h=some x
 |_,[],_,_,_,x=>by
  constructor
  ·intro h;cases h
  rintro⟨h,hh,_⟩;cases hh
 |0,_::_,hl,_,_,_=>by simp at hl
 |n+1,h::t,hl,hP,hS,x=>by
  obtain⟨p,hp⟩:∃p,p=pre h.args:=⟨_,rfl⟩
  let q:Rl.Fc→Bool:=fun g=>decide (pre g.args=p)
  have hsplit:t=t.takeWhile q++t.dropWhile q:=(List.takeWhile_append_dropWhile).symm;obtain⟨G,hGd⟩:∃G,G=t.takeWhile q:=⟨_,rfl⟩;obtain⟨R,hRd⟩:∃R,R=t.dropWhile q:=⟨_,rfl⟩;rw[←hGd,←hRd]at hsplit;(have hGp:∀g,g∈G→pre g.args=p:=fun g hg=>by rw[hGd]at hg;(have :q g=true:=by have h9:=List.all_takeWhile (p:=q) (l:=t);exact bE.mp h9 g hg);exact of_decide_eq_true this);(have hRh:∀g,R.head?=some g→¬pre g.args=p:=fun g hg he=>by have h9:=List.head?_dropWhile_not q t;rw[←hRd,hg]at h9;simp[q,he]at h9);have hS':=eD.mp hS;have hRall:∀g,g∈R→¬pre g.args=p:=by
   intro g hg
   cases hRc:R with
   |nil=>rw[hRc]at hg;cases hg
   |cons a R'=>
    have ha:¬pre a.args=p:=hRh a (by rw[hRc];rfl);(have hat:a∈t:=by rw[hsplit,hRc];simp);(have ordle:∀{u v:Rl.Fc},u∈h::t→v∈h::t→Rl.ord u v≤0→Rl.cmpL (pre u.args) (pre v.args)≤0:=by intro u v hu hv huv;obtain⟨u1,u2⟩:=hP u hu;obtain⟨v1,v2⟩:=hP v hv;refine cmpL_pre (by rw[u2,v2]) ?_;unfold Rl.ord at huv;rwa[u1,v1,if_pos (Rl.cmpI_self pd)]at huv);(have h1:=ordle bA (aP _ hat) (hS'.1 a hat);rw[←hp]at h1;have h2:Rl.cmpL p (pre a.args)<0:=by have :¬Rl.cmpL p (pre a.args)=0:=fun e=>ha (Rl.cmpL_zero.mp e).symm;omega);rw[hRc]at hg;rcases bD.mp hg with rfl|hg'
    ·exact ha
    (have hgt:g∈t:=by rw[hsplit,hRc];simp[hg']);(have hpw:(a::R').Pairwise (fun a b=>Rl.ord a b≤0):=by have :=hS'.2;rw[hsplit,gB]at this;rw[←hRc];exact this.2.1);have h3:=ordle (aP _ hat) (aP _ hgt) ((eD.mp hpw).1 g hg');intro e;rw[e]at h3;have :=Rl.cmpL_flip p (pre a.args);omega
  have hfl:folded f (h::t) []=emit f pd p ((h::G).map fun g=>lst g.args)++folded f R []:=by
   have :=folded_group f pd p G h R [] (fun g hg=>by
    rcases bD.mp hg with rfl|hg'
    ·exact⟨hp.symm,(hP g bA).1⟩
    exact⟨hGp g hg',(hP g (aP _ (by rw[hsplit];simp[hg']))).1⟩) hRh
   rw[eW]at this;rw[←this,gS,←hsplit]
  have hgrp:group (h::t) p=(h::G).map fun g=>lst g.args:=by
   unfold group
   congr 1
   rw[gA,if_pos (decide_eq_true hp.symm)]
   congr 1
   rw[hsplit,fZ];have e1:G.filter (fun g=>decide (pre g.args=p))=G:=List.filter_eq_self.mpr fun g hg=>decide_eq_true (hGp g hg);(have e2:R.filter (fun g=>decide (pre g.args=p))=[]:=List.filter_eq_nil_iff.mpr fun g hg=>by simpa using hRall g hg);rw[e1,e2,fE]
  have hgrpR:∀g,g∈R→group (h::t) (pre g.args)=group R (pre g.args):=fun g hg=>by
   unfold group
   congr 1
   have hne:=hRall g hg;rw[gA,if_neg (by simp only[decide_eq_true_eq];rw[←hp];exact fun e=>hne e.symm)];rw[hsplit,fZ];(have e1:G.filter (fun k=>decide (pre k.args=pre g.args))=[]:=List.filter_eq_nil_iff.mpr fun k hk=>by simp only[decide_eq_true_eq];rw[hGp k hk];exact fun e=>hne e.symm);rw[e1,eW]
  have hRl:R.length≤n:=by
   (have :t.length≤n:=by simpa using hl);rw[hsplit,aN]at this
   omega
  have hRm:∀g,g∈R→g∈h::t:=fun g hg=>aP _ (by rw[hsplit];simp[hg]);have ih:=folded_mem f pd T n R hRl (fun g hg=>hP g (hRm g hg)) (by
   have :=hS'.2;rw[hsplit,gB]at this
   exact this.2.1) x
  (have hfH:∀g,g∈R→foldH f (h::t) g=foldH f R g:=fun g hg=>by unfold foldH;rw[hgrpR g hg]);have hfG:∀g,g∈h::G→(foldH f (h::t) g=some x↔x∈emit f pd p ((h::G).map fun g=>lst g.args)):=fun g hg=>by
   have e:pre g.args=p:=by
    rcases bD.mp hg with rfl|hg'
    ·exact hp.symm
    exact hGp g hg'
   have e':g.pred=pd:=by
    rcases bD.mp hg with rfl|hg'
    ·exact(hP g bA).1
    exact(hP g (aP _ (by rw[hsplit];simp[hg']))).1
   unfold foldH emit;rw[e,hgrp,e'];split
   ·rw[bI];constructor
    ·intro h;injection h with h;exact h.symm
    intro h;rw[h]
   constructor
   ·intro h;cases h
   intro h;cases h
  rw[hfl,bX,ih];constructor
  ·rintro(h1|⟨g,hg,h1⟩)
   ·exact⟨h,bA,(hfG h bA).mpr h1⟩
   exact⟨g,hRm g hg,by rw[hfH g hg];exact h1⟩
  rintro⟨g,hg,h1⟩;rcases bD.mp hg with rfl|hg'
  ·exact .inl ((hfG g bA).mp h1)
  rw[hsplit]at hg';rcases bX.mp hg' with hg'|hg'
  ·exact .inl ((hfG g (aP _ hg')).mp h1)
  exact .inr ⟨g,hg',by rw[←hfH g hg'];exact h1⟩
theorem heads_folded{r:Sc.Rule}(hf:¬r.fold=0){W:List (List Int)}{H:List Rl.Fc}(hH:H.Perm (W.map (head r)))(hS:H.Pairwise (fun a b=>Rl.ord a b≤0)):Rl.set (folded r.fold H [])=heads r W:=by
 refine Rl.set_same fun x=>?_;rw[folded_mem r.fold r.pred r.terms.length H.length H (aF _) (fun h hh=>by
  obtain⟨y,_,rfl⟩:=bO.mp (hH.mem_iff.mp hh)
  exact⟨rfl,by simp[head,fill]⟩) hS x]
 unfold headsL;rw[if_neg hf,dM];constructor
 ·rintro⟨h,hh,hx⟩;exact⟨h,hH.mem_iff.mp hh,by rw[←foldH_perm _ hH];exact hx⟩
 rintro⟨h,hh,hx⟩;exact⟨h,hH.mem_iff.mpr hh,by rw[foldH_perm _ hH];exact hx⟩
theorem holds_more{l:Sc.Lit}{x:List Int}{f g:List Rl.Fc}(hk:¬l.kind=2)(h:∀a,a∈f→a∈g)(hh:holds f l x=true):holds g l x=true:=by
 unfold holds at hh ⊢;split
 ·rename_i h1;rw[if_pos h1,Rl.has_iff]at hh;rw[Rl.has_iff];exact h _ hh
 rename_i h1;rw[if_neg h1,if_neg hk]at hh;exact hh
theorem heads_more{r:Sc.Rule}{W V:List (List Int)}(hf:r.fold=0)(h:∀x,x∈W→x∈V)(f:Rl.Fc)(hx:f∈heads r W):f∈heads r V:=by unfold heads headsL at hx ⊢;rw[if_pos hf,Rl.mem_set]at hx ⊢;obtain⟨x,hw,rfl⟩:=bO.mp hx;exact bO.mpr ⟨x,h x hw,rfl⟩
end Ru
end Go.Proofs.YthenjegmigeieaaGreat
namespace Go.Proofs.YthenjegmigeieaaGreat
namespace Ru
theorem first0{α:Type}{f:α→Int}:∀{l:List α},Sc.first f l=0→∀x,x∈l→f x=0
 |[],_,_,hx=>by cases hx
 |a::l,h,x,hx=>by
  unfold Sc.first at h;split at h
  ·rename_i ha;rcases bD.mp hx with rfl|hx
   ·exact ha
   exact first0 h x hx
  rename_i ha;exact absurd h ha
theorem thn0{a b:Int}(h:Sc.thn a b=0):a=0∧b=0:=by
 unfold Sc.thn at h;split at h
 ·exact⟨by assumption,h⟩
 exact absurd h (by assumption)
theorem between_iff{n a b:Int}:Tr.between n a b=true↔a≤n∧n≤b:=by unfold Tr.between;simp
structure TermOk (vars:Int) (t:Sc.Term):Prop where
 lo: -1≤t.var
 hi:t.var≤vars-1
 num:Sc.isNum t.n=true
theorem termOk_of{vars:Int}{t:Sc.Term}(h:Sc.termErr vars t=0):TermOk vars t:=by
 unfold Sc.termErr at h;split at h
 ·rename_i hb;obtain⟨h1,h2⟩:=between_iff.mp hb;split at h
  ·omega
  rename_i hn;simp only[eA,not_or,Bool.not_eq_true']at hn;exact⟨h1,h2,by simpa using hn.1⟩
 omega
structure RuleOk (ar:List Int) (r:Sc.Rule):Prop where
 p0:0≤r.pred
 p1:r.pred<(ar.length:Int)
 tl:(r.terms.length:Int)=Sc.intD ar r.pred.toNat
 v0:0≤r.vars
 v8:r.vars≤8
 tm:∀t,t∈r.terms→TermOk r.vars t
 f0:0≤r.fold
 f4:r.fold≤4
 ff:¬r.fold=0→¬r.terms.length=0∧¬r.body.length=0
 b4:r.body.length≤4
 lit:∀l,l∈r.body→Sc.litErr ar l=0∧∀t,t∈l.terms→TermOk r.vars t
 safe:Sc.safe r=true
theorem ruleOk_of{ar:List Int}{r:Sc.Rule}(h:Sc.ruleErr ar r=0):RuleOk ar r:=by
 unfold Sc.ruleErr at h;split at h
 ·rename_i hp;unfold Sc.isPred at hp;obtain⟨p0,p1⟩:=between_iff.mp hp;obtain⟨h1,h⟩:=thn0 h;obtain⟨h2,h⟩:=thn0 h;obtain⟨h3,h⟩:=thn0 h;obtain⟨h4,h⟩:=thn0 h;obtain⟨h5,h⟩:=thn0 h;obtain⟨h6,h⟩:=thn0 h;obtain⟨h7,h8⟩:=thn0 h;have hv:0≤r.vars∧r.vars≤8:=by
   split at h2
   ·rename_i hb;exact between_iff.mp hb
   omega
  have hf:0≤r.fold∧r.fold≤4:=by
   split at h4
   ·rename_i hb;exact between_iff.mp hb
   omega
  refine⟨p0,oM,?_,hv.1,hv.2,fun t ht=>termOk_of (first0 h3 t ht),hf.1,hf.2,fun hn=>?_,?_,fun l hl=>?_,?_⟩
  ·split at h1
   ·omega
   rename_i hn;exact Classical.not_not.mp hn
  ·split at h5
   ·omega
   rename_i hc;exact⟨fun e=>hc ⟨hn, .inl e⟩,fun e=>hc ⟨hn, .inr e⟩⟩
  ·split at h6
   ·omega
   omega
  ·obtain⟨a,b⟩:=thn0 (first0 h7 l hl);exact⟨a,fun t ht=>termOk_of (first0 b t ht)⟩
  split at h8
  ·assumption
  omega
 omega
structure ProgOk (p:Sc.Prog):Prop where
 a10:p.arity.length≤10
 r12:p.rules.length≤12
 nm:p.names.length=p.arity.length
 ar:∀i,i<p.arity.length→0≤Sc.intD p.arity i∧Sc.intD p.arity i≤3
 rule:∀r,r∈p.rules→RuleOk p.arity r
theorem progOk_of{p:Sc.Prog}(h:Sc.check p=0):ProgOk p:=by
 unfold Sc.check at h;split at h
 ·omega
 rename_i h1;split at h
 ·omega
 rename_i h2;obtain⟨h3,h4⟩:=thn0 h;have hnm:p.names.length=p.arity.length:=Classical.not_not.mp h2;refine⟨oM,oM,hnm,fun i hi=>?_,fun r hr=>ruleOk_of (first0 h4 r hr)⟩;have :=first0 h3 i (cZ.mpr oM);unfold Sc.predErr at this;obtain⟨h5,_⟩:=thn0 this;split at h5
 ·rename_i hb;exact between_iff.mp hb
 omega
structure Right (ar:List Int) (f:Rl.Fc):Prop where
 p0:0≤f.pred
 p1:f.pred<(ar.length:Int)
 al:(f.args.length:Int)=Sc.intD ar f.pred.toNat
 nm:∀n,n∈f.args→Sc.isNum n=true
theorem right_iff{p:Sc.Prog}{f:Rl.Fc}:Sc.factErr p f.pred f.args=0↔Right p.arity f:=by
 unfold Sc.factErr Sc.isPred;constructor
 ·intro h;split at h
  ·rename_i hp;obtain⟨p0,p1⟩:=between_iff.mp hp;obtain⟨h1,h2⟩:=thn0 h;refine⟨p0,oM,?_,?_⟩
   ·split at h1
    ·omega
    rename_i hn;exact Classical.not_not.mp hn
   split at h2
   ·rename_i ha;exact bE.mp ha
   omega
  omega
 intro h;rw[if_pos (between_iff.mpr ⟨h.p0,by have :=h.p1;omega⟩),if_neg (fun hn=>hn h.al),if_pos (bE.mpr h.nm)];rfl
theorem litIn_of{ar:List Int}{r:Sc.Rule}(hr:RuleOk ar r){facts:List Rl.Fc}(hF:∀f,f∈facts→Right ar f){l:Sc.Lit}(hl:l∈r.body):LitIn r.vars.toNat facts l:=by
 obtain⟨h1,h2⟩:=hr.lit l hl;unfold Sc.litErr at h1;refine⟨fun t ht=>?_,?_,fun h3=>?_,fun h4=>?_,fun hk f hf hp=>?_⟩
 ·have :=h2 t ht;by_cases h0:t.var<0
  ·exact .inl h0
  right;have :=this.hi;omega
 ·split at h1
  ·rename_i hk;rcases hk with h|h<;>simp[h]
  split at h1
  ·rename_i hk;simp[hk]
  split at h1
  ·rename_i hk;simp[hk]
  omega
 ·rw[if_neg oM,if_pos h3]at h1;split at h1
  ·split at h1
   ·omega
   rename_i hn;refine Classical.byContradiction fun hc=>hn (.inr hc)
  omega
 ·rw[if_neg oM,if_neg oM,if_pos h4]at h1;split at h1
  ·split at h1
   ·omega
   rename_i hn;refine Classical.byContradiction fun hc=>hn (.inr hc)
  omega
 rw[if_pos (.inl hk)]at h1;split at h1
 ·omega
 split at h1
 ·split at h1
  ·omega
  rename_i hn;have e1:(l.terms.length:Int)=Sc.intD ar l.pred.toNat:=Classical.not_not.mp hn;have e2:=(hF f hf).al;rw[hp]at e2;omega
 omega
theorem lit_preds{ar:List Int}{r:Sc.Rule}(hr:RuleOk ar r){l:Sc.Lit}(hl:l∈r.body)(hk:l.kind=1∨l.kind=2):0≤l.pred∧l.pred<(ar.length:Int)∧(l.terms.length:Int)=Sc.intD ar l.pred.toNat:=by
 obtain⟨h1,_⟩:=hr.lit l hl;unfold Sc.litErr at h1;rw[if_pos hk]at h1;split at h1
 ·omega
 split at h1
 ·rename_i hp;unfold Sc.isPred at hp;obtain⟨p0,p1⟩:=between_iff.mp hp;split at h1
  ·omega
  rename_i hn;exact⟨p0,oM,Classical.not_not.mp hn⟩
 omega
theorem ruleIn_of{ar:List Int}{r:Sc.Rule}(hr:RuleOk ar r){facts:List Rl.Fc}(hF:∀f,f∈facts→Right ar f):RuleIn facts r:=
 ⟨hr.safe,by have :=hr.v8;have :=hr.v0;omega,fun l hl=>litIn_of hr hF hl⟩
theorem num_isNum{vars:Int}{t:Sc.Term}{x:List Int}(ht:TermOk vars t)(hl:x.length=vars.toNat)(hx:∀n,n∈x→Sc.isNum n=true):Sc.isNum (num x t)=true:=by
 unfold num;split
 ·exact ht.num
 rename_i h0;(have hlt:t.var.toNat<x.length:=by have :=ht.hi;omega);rw[aE,aG hlt];exact hx _ (cR hlt)
def hd(facts:List Rl.Fc)(r:Sc.Rule):List Rl.Fc:=heads r (ways facts r)
section
variable {ar:List Int} {r:Sc.Rule} {facts:List Rl.Fc}
theorem right_nums(hF:∀f,f∈facts→Right ar f):∀f,f∈facts→∀n,n∈f.args→Sc.isNum n=true:=fun f hf=>(hF f hf).nm
theorem head_right(hr:RuleOk ar r)(hF:∀f,f∈facts→Right ar f){x:List Int}(hx:Sol facts r x):Right ar (head r x):=by
 refine⟨hr.p0,hr.p1,?_,fun n hn=>?_⟩
 ·show((fill r.terms x).length:Int)=_;unfold fill;rw[aO];exact hr.tl
 obtain⟨t,ht,rfl⟩:=bO.mp hn;exact num_isNum (hr.tm t ht) hx.1 (sol_nums (ruleIn_of hr hF) (right_nums hF) hx)
theorem pre_append_lst{a:List Int}(h:a≠[]):pre a++[lst a]=a:=by unfold pre lst;rw[List.getLastD_eq_getLast?,List.getLast?_eq_some_getLast h];exact List.dropLast_concat_getLast h
theorem hd_right(hr:RuleOk ar r)(hF:∀f,f∈facts→Right ar f){f:Rl.Fc}(hf:f∈hd facts r):Right ar f:=by
 unfold hd heads at hf;rw[Rl.mem_set]at hf;have hw:∀x,x∈ways facts r→Right ar (head r x):=fun x hx=>head_right hr hF ((mem_ways (ruleIn_of hr hF) (right_nums hF) x).mp hx);unfold headsL at hf;split at hf
 ·obtain⟨x,hx,rfl⟩:=bO.mp hf;exact hw x hx
 rename_i hfo;obtain⟨g,hg,hfg⟩:=dM.mp hf;obtain⟨x,hx,rfl⟩:=bO.mp hg;have h1:=hw x hx;unfold foldH at hfg;split at hfg
 ·rename_i hn;injection hfg with hfg;subst hfg;(have hne:(head r x).args≠[]:=by show fill r.terms x≠[];intro e;(have :(fill r.terms x).length=0:=by rw[e];rfl);unfold fill at this;rw[aO]at this;exact(hr.ff hfo).1 this);refine⟨h1.p0,h1.p1,?_,fun n hn'=>?_⟩
  ·(have e:(pre (head r x).args++[foldN r.fold (group (List.map (head r) (ways facts r)) (pre (head r x).args))]).length=(head r x).args.length:=by(conv=>rhs;rw[←pre_append_lst hne]);rw[aN,aN];rfl);rw[e];exact h1.al
  rcases bX.mp hn' with h|h
  ·exact h1.nm n (by rw[←pre_append_lst hne];exact List.mem_append_left _ h)
  rcases bI.mp h with rfl;exact hn
 cases hfg
theorem hd_pred{f:Rl.Fc}(hf:f∈hd facts r):f.pred=r.pred:=by
 unfold hd heads at hf;rw[Rl.mem_set]at hf;unfold headsL at hf;split at hf
 ·obtain⟨x,hx,rfl⟩:=bO.mp hf;rfl
 obtain⟨g,hg,hfg⟩:=dM.mp hf;obtain⟨x,hx,rfl⟩:=bO.mp hg;unfold foldH at hfg;split at hfg
 ·injection hfg with hfg;subst hfg;rfl
 cases hfg
end
theorem holds_same{l:Sc.Lit}{x:List Int}{S T:List Rl.Fc}(h:l.kind=1∨l.kind=2→∀a,(⟨l.pred,a⟩:Rl.Fc)∈S↔(⟨l.pred,a⟩:Rl.Fc)∈T):holds S l x=holds T l x:=by
 unfold holds;(have e:l.kind=1∨l.kind=2→Rl.has S ⟨l.pred,fill l.terms x⟩=Rl.has T ⟨l.pred,fill l.terms x⟩:=fun hk=>by rw[nV,Rl.has_iff,Rl.has_iff];exact h hk _);split
 ·rename_i h1;exact e (.inl h1)
 split
 ·rename_i h2;rw[e (.inr h2)]
 rfl
theorem sol_agree{r:Sc.Rule}{x:List Int}{S T:List Rl.Fc}(h:∀l,l∈r.body→l.kind=1∨l.kind=2→∀a,(⟨l.pred,a⟩:Rl.Fc)∈S↔(⟨l.pred,a⟩:Rl.Fc)∈T):Sol S r x↔Sol T r x:=by
 unfold Sol;constructor
 ·rintro⟨h1,h2⟩;exact⟨h1,fun l hl=>by rw[←holds_same (h l hl)];exact h2 l hl⟩
 rintro⟨h1,h2⟩;exact⟨h1,fun l hl=>by rw[holds_same (h l hl)];exact h2 l hl⟩
section
variable {ar:List Int} {r:Sc.Rule} {S T:List Rl.Fc}
theorem ways_perm(hr:RuleOk ar r)(hS:∀f,f∈S→Right ar f)(hT:∀f,f∈T→Right ar f)(nS:S.Nodup)(nT:T.Nodup)(h:∀x,Sol S r x↔Sol T r x):(ways S r).Perm (ways T r):=
 (kJ (ways_nodup (ruleIn_of hr hS) (right_nums hS) nS) (ways_nodup (ruleIn_of hr hT) (right_nums hT) nT)).mpr fun x=>(mem_ways (ruleIn_of hr hS) (right_nums hS) x).trans ((h x).trans (mem_ways (ruleIn_of hr hT) (right_nums hT) x).symm)
theorem hd_same(hr:RuleOk ar r)(hS:∀f,f∈S→Right ar f)(hT:∀f,f∈T→Right ar f)(nS:S.Nodup)(nT:T.Nodup)(h:∀x,Sol S r x↔Sol T r x):hd S r=hd T r:=heads_perm r (ways_perm hr hS hT nS nT h)
theorem ways_le(hr:RuleOk ar r)(hS:∀f,f∈S→Right ar f)(hT:∀f,f∈T→Right ar f)(nS:S.Nodup)(h:∀x,Sol S r x→Sol T r x):(ways S r).length≤(ways T r).length:=by refine(ways_nodup (ruleIn_of hr hS) (right_nums hS) nS).length_le_of_subset fun x hx=>?_;exact(mem_ways (ruleIn_of hr hT) (right_nums hT) x).mpr (h x ((mem_ways (ruleIn_of hr hS) (right_nums hS) x).mp hx))
theorem hd_le(hr:RuleOk ar r)(hS:∀f,f∈S→Right ar f)(hT:∀f,f∈T→Right ar f)(hf:r.fold=0)(h:∀x,Sol S r x→Sol T r x){f:Rl.Fc}(hx:f∈hd S r):f∈hd T r:=
 heads_more hf (fun x hx=>(mem_ways (ruleIn_of hr hT) (right_nums hT) x).mpr (h x ((mem_ways (ruleIn_of hr hS) (right_nums hS) x).mp hx))) f hx
end
end Ru
end Go.Proofs.YthenjegmigeieaaGreat
namespace Go.Proofs.YthenjegmigeieaaGreat
namespace Fx
abbrev Edge:=Nat×Nat×Int
def step(l:List Int)(e:Edge):List Int:=if l.getD e.1 0<l.getD e.2.1 0+e.2.2 then l.set e.1 (l.getD e.2.1 0+e.2.2)else l
def round(E:List Edge)(l:List Int):List Int:=E.foldl step l
def iter(E:List Edge):Nat→List Int→List Int
 |0,l=>l
 |k+1,l=>iter E k (round E l)
def Le(l o:List Int):Prop:=l.length=o.length∧∀i:Nat,l.getD i 0≤o.getD i 0
def Fit(E:List Edge)(o:List Int):Prop:=∀e,e∈E→o.getD e.2.1 0+e.2.2≤o.getD e.1 0
def In(E:List Edge)(n:Nat):Prop:=∀e,e∈E→e.1<n
theorem Le.refl(l:List Int):Le l l:=⟨rfl,fun _=>Int.le_refl _⟩
theorem Le.trans{a b c:List Int}(h:Le a b)(k:Le b c):Le a c:=⟨h.1.trans k.1,fun i=>lA (h.2 i) (k.2 i)⟩
theorem Le.anti{a b:List Int}(h:Le a b)(k:Le b a):a=b:=by refine List.ext_getElem h.1 fun i h1 h2=>?_;have :=Int.le_antisymm (h.2 i) (k.2 i);rw[aE,aE,aG h1,aG h2]at this;exact this
theorem getD_set(l:List Int)(h i:Nat)(v:Int):(l.set h v).getD i 0=if i=h∧h<l.length then v else l.getD i 0:=by
 rw[aE,dS,aE];by_cases hi:h=i
 ·subst hi;by_cases hl:h<l.length
  ·simp[hl]
  simp[hl]
 rw[if_neg hi,if_neg (fun h=>hi h.1.symm)]
theorem step_le(l:List Int)(e:Edge):Le l (step l e):=by
 unfold step;split
 ·rename_i h;refine⟨by simp,fun i=>?_⟩;rw[getD_set];split
  ·rename_i h2;rw[h2.1];omega
  exact Int.le_refl _
 exact Le.refl l
theorem step_length(l:List Int)(e:Edge):(step l e).length=l.length:=(step_le l e).1.symm
theorem round_le:∀(E:List Edge)(l:List Int),Le l (round E l)
 |[],l=>Le.refl l
 |e::E,l=>(step_le l e).trans (round_le E (step l e))
theorem round_length(E:List Edge)(l:List Int):(round E l).length=l.length:=(round_le E l).1.symm
theorem step_reaches{l:List Int}{e:Edge}(h:e.1<l.length):l.getD e.2.1 0+e.2.2≤(step l e).getD e.1 0:=by
 unfold step;split
 ·rw[getD_set,if_pos ⟨rfl,h⟩];exact Int.le_refl _
 rename_i h2;omega
theorem round_reaches:∀(E:List Edge){l:List Int},In E l.length→∀e,e∈E→l.getD e.2.1 0+e.2.2≤(round E l).getD e.1 0
 |e0::E,l,hi,e,he=>by
  rcases bD.mp he with rfl|he
  ·exact lA (step_reaches (hi _ bA)) ((round_le E (step l e)).2 _)
  have h1:=round_reaches E (l:=step l e0) (fun e' h'=>by rw[step_length];exact hi e' (aP _ h')) e he;have h2:=(step_le l e0).2 e.2.1;show _≤(round E (step l e0)).getD e.1 0;omega
theorem fit_of_fix{E:List Edge}{l:List Int}(hi:In E l.length)(h:round E l=l):Fit E l:=fun e he=>by have :=round_reaches E hi e he;rw[h]at this;exact this
theorem iter_succ(E:List Edge):∀(k:Nat)(l:List Int),iter E (k+1) l=round E (iter E k l)
 |0,_=>rfl
 |k+1,l=>by show iter E (k+1) (round E l)=_;rw[iter_succ E k (round E l)];rfl
theorem iter_le(E:List Edge):∀(k:Nat)(l:List Int),Le l (iter E k l)
 |0,l=>Le.refl l
 |k+1,l=>(round_le E l).trans (iter_le E k (round E l))
theorem iter_length(E:List Edge)(k:Nat)(l:List Int):(iter E k l).length=l.length:=(iter_le E k l).1.symm
theorem iter_add(E:List Edge):∀(j k:Nat)(l:List Int),iter E (j+k) l=iter E k (iter E j l)
 |0,k,l=>by rw[cV];rfl
 |j+1,k,l=>by rw[Nat.add_right_comm];exact iter_add E j k (round E l)
theorem iter_fix{E:List Edge}{l:List Int}(h:round E l=l):∀k,iter E k l=l
 |0=>rfl
 |k+1=>by rw[iter_succ,iter_fix h k,h]
end Fx
end Go.Proofs.YthenjegmigeieaaGreat
namespace Go.Proofs.YthenjegmigeieaaGreat
namespace St
open Sc
def hang(x:Sc.Lit):Bool:=decide (x.kind=1∨x.kind=2)
def strict(r:Sc.Rule)(x:Sc.Lit):Int:=if x.kind=2∨r.fold≠0 then 1 else 0
def ruleE(r:Sc.Rule):List Fx.Edge:=(r.body.filter hang).map fun x=>(r.pred.toNat,x.pred.toNat,strict r x)
def edges(p:Sc.Prog):List Fx.Edge:=p.rules.flatMap ruleE
def zeros(n:Nat):List Int:=List.replicate n 0
def level(p:Sc.Prog):List Int:=Fx.iter (edges p) p.arity.length (zeros p.arity.length)
def flat(p:Sc.Prog):Bool:=decide (Fx.round (edges p) (level p)=level p)
theorem zeros_getD(n i:Nat):(zeros n).getD i 0=0:=by unfold zeros;rw[aE,lK];split<;>rfl
theorem level_length(p:Sc.Prog):(level p).length=p.arity.length:=by unfold level;rw[Fx.iter_length];simp[zeros]
theorem level_nonneg(p:Sc.Prog)(i:Nat):0≤(level p).getD i 0:=by have :=(Fx.iter_le (edges p) p.arity.length (zeros p.arity.length)).2 i;rw[zeros_getD]at this;exact this
def fits(p:Sc.Prog)(o:List Int):Prop:=o.length=p.arity.length∧(∀i:Nat,0≤o.getD i 0)∧Fx.Fit (edges p) o
theorem fits_level{p:Sc.Prog}(hi:Fx.In (edges p) p.arity.length)(h:flat p=true):fits p (level p):=
 ⟨level_length p,level_nonneg p,Fx.fit_of_fix (by rw[level_length];exact hi) (of_decide_eq_true h)⟩
end St
end Go.Proofs.YthenjegmigeieaaGreat
namespace Go.Proofs.YthenjegmigeieaaGreat
namespace Md
open Ru
def lv(p:Sc.Prog)(k:Int):Int:=(St.level p).getD k.toNat 0
structure Fine (p:Sc.Prog):Prop where
 ok:ProgOk p
 fit:Fx.Fit (St.edges p) (St.level p)
theorem fine_of{p:Sc.Prog}(h:Sc.check p=0)(hf:St.flat p=true):Fine p:=by have hok:=progOk_of h;refine⟨hok,(St.fits_level ?_ hf).2.2⟩;intro e he;obtain⟨r,hr,h2⟩:=jI.mp he;obtain⟨x,_,rfl⟩:=bO.mp h2;have h1:=(hok.rule r hr).p0;have h2:=(hok.rule r hr).p1;show r.pred.toNat<p.arity.length;omega
theorem lv_le{p:Sc.Prog}(h:Fine p){r:Sc.Rule}(hr:r∈p.rules){l:Sc.Lit}(hl:l∈r.body)(hk:l.kind=1∨l.kind=2):lv p l.pred+St.strict r l≤lv p r.pred:=by refine h.fit (r.pred.toNat,l.pred.toNat,St.strict r l) ?_;unfold St.edges;rw[jI];refine⟨r,hr,bO.mpr ⟨l,eX.mpr ⟨hl,decide_eq_true hk⟩,rfl⟩⟩
structure Facts (p:Sc.Prog) (S:List Rl.Fc):Prop where
 right:∀f,f∈S→Right p.arity f
 up:Rl.Up S
theorem up_nodup{S:List Rl.Fc}(h:Rl.Up S):S.Nodup:=h.imp fun {a b} hab e=>by subst e;exact Rl.Lt.irrefl _ hab
def Below(p:Sc.Prog)(k:Int)(S T:List Rl.Fc):Prop:=∀f:Rl.Fc,lv p f.pred<k→(f∈S↔f∈T)
section
variable {p:Sc.Prog} {S T:List Rl.Fc} {k:Int} {r:Sc.Rule}
theorem sol_mono(hp:Fine p)(hr:r∈p.rules)(hk:lv p r.pred=k)(hb:Below p k S T)(hs:∀f,f∈S→f∈T){x:List Int}(h:Sol S r x):Sol T r x:=by
 refine⟨h.1,fun l hl=>?_⟩;have h2:=h.2 l hl;by_cases h1:l.kind=2
 ·have hle:=lv_le hp hr hl (.inr h1);(have hst:St.strict r l=1:=by unfold St.strict;rw[if_pos (.inl h1)]);rw[←holds_same (S:=S) (fun _ a=>hb ⟨l.pred,a⟩ (by show lv p l.pred<k;omega))];exact h2
 exact holds_more h1 hs h2
theorem sol_fold(hp:Fine p)(hr:r∈p.rules)(hk:lv p r.pred=k)(hf:¬r.fold=0)(hb:Below p k S T)(x:List Int):Sol S r x↔Sol T r x:=by refine sol_agree fun l hl hkd a=>hb _ ?_;have hle:=lv_le hp hr hl hkd;(have hst:St.strict r l=1:=by unfold St.strict;rw[if_pos (.inr hf)]);show lv p l.pred<k;omega
theorem hd_mono(hp:Fine p)(hr:r∈p.rules)(hk:lv p r.pred=k)(hS:Facts p S)(hT:Facts p T)(hb:Below p k S T)(hs:∀f,f∈S→f∈T){f:Rl.Fc}(h:f∈hd S r):f∈hd T r:=by
 by_cases hf:r.fold=0
 ·exact hd_le (hp.ok.rule r hr) hS.right hT.right hf (fun x hx=>sol_mono hp hr hk hb hs hx) h
 rw[←hd_same (hp.ok.rule r hr) hS.right hT.right (up_nodup hS.up) (up_nodup hT.up) (sol_fold hp hr hk hf hb)];exact h
theorem ways_mono(hp:Fine p)(hr:r∈p.rules)(hk:lv p r.pred=k)(hS:Facts p S)(hT:Facts p T)(hb:Below p k S T)(hs:∀f,f∈S→f∈T):(Ru.ways S r).length≤(Ru.ways T r).length:=
 ways_le (hp.ok.rule r hr) hS.right hT.right (up_nodup hS.up) fun _ hx=>sol_mono hp hr hk hb hs hx
end
structure Grows (p:Sc.Prog) (k:Int) (S T:List Rl.Fc):Prop where
 sub:∀f,f∈S→f∈T
 new:∀f,f∈T→f∈S∨∃r,r∈p.rules∧lv p r.pred=k∧f∈hd S r
 up:Rl.Up T
inductive Reach (p:Sc.Prog) (k:Int) (m:List Rl.Fc):List Rl.Fc→Prop
 |refl:Reach p k m m
 |step {S T:List Rl.Fc}:Reach p k m S→Grows p k S T→Reach p k m T
def Closed(p:Sc.Prog)(k:Int)(S:List Rl.Fc):Prop:=∀r,r∈p.rules→lv p r.pred=k→∀f,f∈hd S r→f∈S
structure Small (p:Sc.Prog) (k:Int) (S:List Rl.Fc):Prop where
 len:S.length≤60
 way:∀r,r∈p.rules→lv p r.pred=k→(Ru.ways S r).length≤2000
section
variable {p:Sc.Prog} {k:Int} {m:List Rl.Fc}
theorem grows_facts(hp:Fine p){S T:List Rl.Fc}(hS:Facts p S)(h:Grows p k S T):Facts p T:=by
 refine⟨fun f hf=>?_,h.up⟩;rcases h.new f hf with h1|⟨r,hr,_,h1⟩
 ·exact hS.right f h1
 exact hd_right (hp.ok.rule r hr) hS.right h1
theorem grows_below{S T:List Rl.Fc}(h:Grows p k S T):Below p k S T:=fun f hf=>by
 refine⟨h.sub f,fun hT=>?_⟩;rcases h.new f hT with h1|⟨r,hr,hk,h1⟩
 ·exact h1
 rw[hd_pred h1]at hf;omega
theorem reach_ok(hp:Fine p)(hm:Facts p m){S:List Rl.Fc}(h:Reach p k m S):Facts p S∧Below p k m S∧∀f,f∈m→f∈S:=by
 induction h with
 |refl=>exact⟨hm,fun _ _=>Iff.rfl,fun _ h=>h⟩
 |step _ hg ih=>
  obtain⟨h1,h2,h3⟩:=ih;exact⟨grows_facts hp h1 hg,fun f hf=>(h2 f hf).trans (grows_below hg f hf),fun f hf=>hg.sub f (h3 f hf)⟩
theorem reach_in(hp:Fine p)(hm:Facts p m){S T:List Rl.Fc}(h:Reach p k m S)(hT:Facts p T)(hb:Below p k m T)(hs:∀f,f∈m→f∈T)(hc:Closed p k T):∀f,f∈S→f∈T:=by
 induction h with
 |refl=>exact hs
 |step hr hg ih=>
  obtain⟨h1,h2,_⟩:=reach_ok hp hm hr;intro f hf;rcases hg.new f hf with h3|⟨r,hrr,hk,h3⟩
  ·exact ih f h3
  refine hc r hrr hk f (hd_mono hp hrr hk h1 hT (fun g hg=>?_) ih h3);exact(h2 g hg).symm.trans (hb g hg)
theorem reach_one(hp:Fine p)(hm:Facts p m){S T:List Rl.Fc}(hS:Reach p k m S)(cS:Closed p k S)(hT:Reach p k m T)(cT:Closed p k T):S=T:=by obtain⟨s1,s2,s3⟩:=reach_ok hp hm hS;obtain⟨t1,t2,t3⟩:=reach_ok hp hm hT;exact Rl.up_ext s1.up t1.up fun f=>⟨reach_in hp hm hS t1 t2 t3 cT f,reach_in hp hm hT s1 s2 s3 cS f⟩
theorem small_back(hp:Fine p)(hm:Facts p m){S T:List Rl.Fc}(hS:Reach p k m S)(hT:Reach p k m T)(cT:Closed p k T)(h:Small p k T):Small p k S:=by obtain⟨s1,s2,s3⟩:=reach_ok hp hm hS;obtain⟨t1,t2,t3⟩:=reach_ok hp hm hT;have hin:=reach_in hp hm hS t1 t2 t3 cT;refine⟨aX ((up_nodup s1.up).length_le_of_subset hin) h.len,fun r hr hk=>?_⟩;exact aX (ways_mono hp hr hk s1 t1 (fun f hf=>(s2 f hf).symm.trans (t2 f hf)) hin) (h.way r hr hk)
end
def LevRes(p:Sc.Prog)(k:Int)(m:List Rl.Fc):Option (List Rl.Fc)→Prop
 |some S=>Reach p k m S∧Closed p k S∧Small p k S
 |none=>∀S,Reach p k m S→Closed p k S→Small p k S→False
theorem levRes_one{p:Sc.Prog}{k:Int}{m:List Rl.Fc}(hp:Fine p)(hm:Facts p m):∀{a b:Option (List Rl.Fc)},LevRes p k m a→LevRes p k m b→a=b
 |some S,some T,h1,h2=>by rw[reach_one hp hm h1.1 h1.2.1 h2.1 h2.2.1]
 |some S,none,h1,h2=>(h2 S h1.1 h1.2.1 h1.2.2).elim
 |none,some S,h1,h2=>(h1 S h2.1 h2.2.1 h2.2.2).elim
 |none,none,_,_=>rfl
def Run(p:Sc.Prog)(m:List Rl.Fc):Nat→Option (List Rl.Fc)→Prop
 |0,o=>o=some m
 |n+1,o=>∃a,Run p m n a∧(match a with
  |none=>o=none
  |some S=>LevRes p n S o)
theorem run_facts{p:Sc.Prog}{m:List Rl.Fc}(hp:Fine p)(hm:Facts p m):∀{n:Nat}{S:List Rl.Fc},Run p m n (some S)→Facts p S
 |0,S,h=>by unfold Run at h;injection h with h;subst h;exact hm
 |n+1,S,h=>by
  obtain⟨a,h1,h2⟩:=h
  cases a with
  |none=>cases h2
  |some T=>exact(reach_ok hp (run_facts hp hm h1) h2.1).1
theorem run_one{p:Sc.Prog}{m:List Rl.Fc}(hp:Fine p)(hm:Facts p m):∀{n:Nat}{a b:Option (List Rl.Fc)},Run p m n a→Run p m n b→a=b
 |0,_,_,h1,h2=>by unfold Run at h1 h2;rw[h1,h2]
 |n+1,a,b,h1,h2=>by
  obtain⟨c,c1,c2⟩:=h1;obtain⟨d,d1,d2⟩:=h2;have e:=run_one hp hm c1 d1;subst e
  cases c with
  |none=>rw[c2,d2]
  |some S=>exact levRes_one hp (run_facts hp hm c1) c2 d2
def IsModel(p:Sc.Prog)(l:List Rl.Fc)(o:Option (List Rl.Fc)):Prop:=Run p (Rl.set l) p.arity.length o
theorem set_facts{p:Sc.Prog}{l:List Rl.Fc}(h:∀f,f∈l→Right p.arity f):Facts p (Rl.set l):=⟨fun f hf=>h f (Rl.mem_set.mp hf),(Rl.set_isSet l).1⟩
theorem model_one{p:Sc.Prog}{l:List Rl.Fc}(hp:Fine p)(hl:∀f,f∈l→Right p.arity f){a b:Option (List Rl.Fc)}(h1:IsModel p l a)(h2:IsModel p l b):a=b:=run_one hp (set_facts hl) h1 h2
end Md
end Go.Proofs.YthenjegmigeieaaGreat
namespace Go.Proofs.YthenjegmigeieaaGreat
namespace Md
open Ru
end Md
end Go.Proofs.YthenjegmigeieaaGreat
namespace Go.Proofs.YthenjegmigeieaaGreat
open Go.RowKit
def TermIn(w:World)(b off:Nat)(t:Tr.Term):Prop:=
 w.cell? ⟨b,off,none⟩=some (.string ⟨t.var.toArray⟩)∧w.cell? ⟨b,off+1,none⟩=some (.int .i64 t.n)
def TermsAt(w:World)(ao:Option Addr)(l:List Tr.Term):Prop:=
 l=[]∨∃b off,ao=some ⟨b,off,none⟩∧∀i,i<l.length→TermIn w b (off+i*2) (Tr.termD l i)
def TermsV(w:World)(v:Value)(l:List Tr.Term):Prop:=∃ao cap,v=.slice ao l.length cap∧TermsAt w ao l
def LitIn(w:World)(b off:Nat)(x:Tr.Lit):Prop:=
 w.cell? ⟨b,off,none⟩=some (.int .i64 x.kind)∧w.cell? ⟨b,off+1,none⟩=some (.int .i64 x.at_)∧w.cell? ⟨b,off+2,none⟩=some (.int .i64 x.op)∧w.cell? ⟨b,off+3,none⟩=some (.string ⟨x.name.toArray⟩)∧
  ∃v,w.cell? ⟨b,off+4,none⟩=some v∧TermsV w v x.terms
def LitsAt(w:World)(ao:Option Addr)(l:List Tr.Lit):Prop:=
 l=[]∨∃b off,ao=some ⟨b,off,none⟩∧∀i,i<l.length→LitIn w b (off+i*5) (Tr.litD l i)
def LitsV(w:World)(v:Value)(l:List Tr.Lit):Prop:=∃ao cap,v=.slice ao l.length cap∧LitsAt w ao l
def RuleIn(w:World)(b off:Nat)(r:Tr.Rule):Prop:=
 w.cell? ⟨b,off,none⟩=some (.int .i64 r.at_)∧w.cell? ⟨b,off+1,none⟩=some (.string ⟨r.name.toArray⟩)∧(∃v,w.cell? ⟨b,off+2,none⟩=some v∧TermsV w v r.terms)∧w.cell? ⟨b,off+3,none⟩=some (.int .i64 r.fold)∧
  ∃v,w.cell? ⟨b,off+4,none⟩=some v∧LitsV w v r.body
def RulesAt(w:World)(ao:Option Addr)(l:List Tr.Rule):Prop:=
 l=[]∨∃b off,ao=some ⟨b,off,none⟩∧∀i,i<l.length→RuleIn w b (off+i*5) (Tr.ruleD l i)
def RulesV(w:World)(v:Value)(l:List Tr.Rule):Prop:=∃ao cap,v=.slice ao l.length cap∧RulesAt w ao l
theorem aD{w w':World}(hb:Below w.heap.size w w'){b o:Nat}{v:Value}(h:w.cell? ⟨b,o,none⟩=some v):w'.cell? ⟨b,o,none⟩=some v:=
 (hb.cell (p:=⟨b,o,none⟩) (dX w _ h)).trans h
theorem sL{w w':World}{ao:Option Addr}{l:List Tr.Term}(h:TermsAt w ao l)(hb:Below w.heap.size w w'):TermsAt w' ao l:=by
 rcases h with h|⟨b,off,rfl,hc⟩
 ·exact .inl h
 exact .inr ⟨b,off,rfl,fun i hi=>⟨aD hb (hc i hi).1,aD hb (hc i hi).2⟩⟩
theorem gJ{w w':World}{v:Value}{l:List Tr.Term}(h:TermsV w v l)(hb:Below w.heap.size w w'):TermsV w' v l:=by obtain⟨ao,cap,rfl,h⟩:=h;exact⟨ao,cap,rfl,sL h hb⟩
theorem yM{w w':World}{b off:Nat}{x:Tr.Lit}(h:LitIn w b off x)(hb:Below w.heap.size w w'):LitIn w' b off x:=by obtain⟨h0,h1,h2,h3,v,h4,h5⟩:=h;exact⟨aD hb h0,aD hb h1,aD hb h2,aD hb h3,v,aD hb h4,gJ h5 hb⟩
theorem wH{w w':World}{ao:Option Addr}{l:List Tr.Lit}(h:LitsAt w ao l)(hb:Below w.heap.size w w'):LitsAt w' ao l:=by
 rcases h with h|⟨b,off,rfl,hc⟩
 ·exact .inl h
 exact .inr ⟨b,off,rfl,fun i hi=>yM (hc i hi) hb⟩
theorem fY{w w':World}{v:Value}{l:List Tr.Lit}(h:LitsV w v l)(hb:Below w.heap.size w w'):LitsV w' v l:=by obtain⟨ao,cap,rfl,h⟩:=h;exact⟨ao,cap,rfl,wH h hb⟩
theorem vH{w w':World}{b off:Nat}{x:Tr.Rule}(h:RuleIn w b off x)(hb:Below w.heap.size w w'):RuleIn w' b off x:=by obtain⟨h0,h1,⟨v,h2,h3⟩,h4,u,h5,h6⟩:=h;exact⟨aD hb h0,aD hb h1,⟨v,aD hb h2,gJ h3 hb⟩,aD hb h4,u,aD hb h5,fY h6 hb⟩
theorem sP{w w':World}{ao:Option Addr}{l:List Tr.Rule}(h:RulesAt w ao l)(hb:Below w.heap.size w w'):RulesAt w' ao l:=by
 rcases h with h|⟨b,off,rfl,hc⟩
 ·exact .inl h
 exact .inr ⟨b,off,rfl,fun i hi=>vH (hc i hi) hb⟩
theorem jJ{w w':World}{v:Value}{l:List Tr.Rule}(h:RulesV w v l)(hb:Below w.heap.size w w'):RulesV w' v l:=by obtain⟨ao,cap,rfl,h⟩:=h;exact⟨ao,cap,rfl,sP h hb⟩
abbrev termVal(t:Tr.Term):Value:=.agg #[.string ⟨t.var.toArray⟩, .int .i64 t.n]
abbrev litVal(x:Tr.Lit)(v:Value):Value:=.agg #[.int .i64 x.kind, .int .i64 x.at_, .int .i64 x.op, .string ⟨x.name.toArray⟩,v]
abbrev ruleVal(r:Tr.Rule)(v u:Value):Value:=.agg #[.int .i64 r.at_, .string ⟨r.name.toArray⟩,v, .int .i64 r.fold,u]
def IntsAt(w:World)(ao:Option Addr)(l:List Int):Prop:=
 l=[]∨∃b off,ao=some ⟨b,off,none⟩∧∀i,i<l.length→w.cell? ⟨b,off+i,none⟩=some (.int .i64 (Sc.intD l i))
def IntsV(w:World)(v:Value)(l:List Int):Prop:=∃ao cap,v=.slice ao l.length cap∧IntsAt w ao l
def StrsAt(w:World)(ao:Option Addr)(l:List (List UInt8)):Prop:=
 l=[]∨∃b off,ao=some ⟨b,off,none⟩∧∀i,i<l.length→w.cell? ⟨b,off+i,none⟩=some (.string ⟨(Sc.strD l i).toArray⟩)
def StrsV(w:World)(v:Value)(l:List (List UInt8)):Prop:=∃ao cap,v=.slice ao l.length cap∧StrsAt w ao l
def PTermIn(w:World)(b off:Nat)(t:Sc.Term):Prop:=
 w.cell? ⟨b,off,none⟩=some (.int .i64 t.var)∧w.cell? ⟨b,off+1,none⟩=some (.int .i64 t.n)
def PTermsAt(w:World)(ao:Option Addr)(l:List Sc.Term):Prop:=
 l=[]∨∃b off,ao=some ⟨b,off,none⟩∧∀i,i<l.length→PTermIn w b (off+i*2) (Sc.termD l i)
def PTermsV(w:World)(v:Value)(l:List Sc.Term):Prop:=∃ao cap,v=.slice ao l.length cap∧l.length≤cap∧PTermsAt w ao l
def PLitIn(w:World)(b off:Nat)(x:Sc.Lit):Prop:=
 w.cell? ⟨b,off,none⟩=some (.int .i64 x.kind)∧w.cell? ⟨b,off+1,none⟩=some (.int .i64 x.op)∧w.cell? ⟨b,off+2,none⟩=some (.int .i64 x.pred)∧
  ∃v,w.cell? ⟨b,off+3,none⟩=some v∧PTermsV w v x.terms
def PLitsAt(w:World)(ao:Option Addr)(l:List Sc.Lit):Prop:=
 l=[]∨∃b off,ao=some ⟨b,off,none⟩∧∀i,i<l.length→PLitIn w b (off+i*4) (Sc.litD l i)
def PLitsV(w:World)(v:Value)(l:List Sc.Lit):Prop:=∃ao cap,v=.slice ao l.length cap∧PLitsAt w ao l
def PRuleIn(w:World)(b off:Nat)(r:Sc.Rule):Prop:=
 w.cell? ⟨b,off,none⟩=some (.int .i64 r.pred)∧(∃v,w.cell? ⟨b,off+1,none⟩=some v∧PTermsV w v r.terms)∧w.cell? ⟨b,off+2,none⟩=some (.int .i64 r.fold)∧
  (∃v,w.cell? ⟨b,off+3,none⟩=some v∧PLitsV w v r.body)∧w.cell? ⟨b,off+4,none⟩=some (.int .i64 r.vars)
def PRulesAt(w:World)(ao:Option Addr)(l:List Sc.Rule):Prop:=
 l=[]∨∃b off,ao=some ⟨b,off,none⟩∧∀i,i<l.length→PRuleIn w b (off+i*5) (Sc.ruleD l i)
def PRulesV(w:World)(v:Value)(l:List Sc.Rule):Prop:=∃ao cap,v=.slice ao l.length cap∧PRulesAt w ao l
abbrev progVal(va vn vr:Value):Value:=.agg #[va,vn,vr]
structure ProgV (w:World) (va vn vr:Value) (p:Sc.Prog):Prop where
 ar:IntsV w va p.arity
 nm:StrsV w vn p.names
 rl:PRulesV w vr p.rules
theorem aK{w w':World}{v:Value}{l:List Int}(h:IntsV w v l)(hb:Below w.heap.size w w'):IntsV w' v l:=by
 obtain⟨ao,cap,rfl,h⟩:=h;refine⟨ao,cap,rfl,?_⟩;rcases h with h|⟨b,off,rfl,hc⟩
 ·exact .inl h
 exact .inr ⟨b,off,rfl,fun i hi=>aD hb (hc i hi)⟩
theorem xF{w w':World}{v:Value}{l:List (List UInt8)}(h:StrsV w v l)(hb:Below w.heap.size w w'):StrsV w' v l:=by
 obtain⟨ao,cap,rfl,h⟩:=h;refine⟨ao,cap,rfl,?_⟩;rcases h with h|⟨b,off,rfl,hc⟩
 ·exact .inl h
 exact .inr ⟨b,off,rfl,fun i hi=>aD hb (hc i hi)⟩
theorem bM{w w':World}{v:Value}{l:List Sc.Term}(h:PTermsV w v l)(hb:Below w.heap.size w w'):PTermsV w' v l:=by
 obtain⟨ao,cap,rfl,hc,h⟩:=h;refine⟨ao,cap,rfl,hc,?_⟩;rcases h with h|⟨b,off,rfl,hc⟩
 ·exact .inl h
 exact .inr ⟨b,off,rfl,fun i hi=>⟨aD hb (hc i hi).1,aD hb (hc i hi).2⟩⟩
theorem vW{w w':World}{b off:Nat}{x:Sc.Lit}(h:PLitIn w b off x)(hb:Below w.heap.size w w'):PLitIn w' b off x:=by obtain⟨h0,h1,h2,v,h3,h4⟩:=h;exact⟨aD hb h0,aD hb h1,aD hb h2,v,aD hb h3,bM h4 hb⟩
theorem fR{w w':World}{v:Value}{l:List Sc.Lit}(h:PLitsV w v l)(hb:Below w.heap.size w w'):PLitsV w' v l:=by
 obtain⟨ao,cap,rfl,h⟩:=h;refine⟨ao,cap,rfl,?_⟩;rcases h with h|⟨b,off,rfl,hc⟩
 ·exact .inl h
 exact .inr ⟨b,off,rfl,fun i hi=>vW (hc i hi) hb⟩
theorem sR{w w':World}{b off:Nat}{x:Sc.Rule}(h:PRuleIn w b off x)(hb:Below w.heap.size w w'):PRuleIn w' b off x:=by obtain⟨h0,⟨v,h1,h2⟩,h3,⟨u,h4,h5⟩,h6⟩:=h;exact⟨aD hb h0,⟨v,aD hb h1,bM h2 hb⟩,aD hb h3,⟨u,aD hb h4,fR h5 hb⟩,aD hb h6⟩
theorem sQ{w w':World}{v:Value}{l:List Sc.Rule}(h:PRulesV w v l)(hb:Below w.heap.size w w'):PRulesV w' v l:=by
 obtain⟨ao,cap,rfl,h⟩:=h;refine⟨ao,cap,rfl,?_⟩;rcases h with h|⟨b,off,rfl,hc⟩
 ·exact .inl h
 exact .inr ⟨b,off,rfl,fun i hi=>sR (hc i hi) hb⟩
theorem ProgV.below{w w':World}{va vn vr:Value}{p:Sc.Prog}(h:ProgV w va vn vr p)(hb:Below w.heap.size w w'):ProgV w' va vn vr p:=⟨aK h.ar hb,xF h.nm hb,sQ h.rl hb⟩
abbrev ptermVal(t:Sc.Term):Value:=.agg #[.int .i64 t.var, .int .i64 t.n]
abbrev plitVal(x:Sc.Lit)(v:Value):Value:=.agg #[.int .i64 x.kind, .int .i64 x.op, .int .i64 x.pred,v]
abbrev pruleVal(r:Sc.Rule)(v u:Value):Value:=.agg #[.int .i64 r.pred,v, .int .i64 r.fold,u, .int .i64 r.vars]
def LitFit(x:Sc.Lit):Prop:=x.terms.length≤9223372036854775807
def RuleFit(r:Sc.Rule):Prop:=r.terms.length≤9223372036854775807∧r.body.length≤9223372036854775807∧∀i,i<r.body.length→LitFit (Sc.litD r.body i)
structure ProgFit (p:Sc.Prog):Prop where
 ar:p.arity.length≤9223372036854775807
 nm:p.names.length≤9223372036854775807
 rl:p.rules.length≤9223372036854775807
 rs:∀i,i<p.rules.length→RuleFit (Sc.ruleD p.rules i)
end Go.Proofs.YthenjegmigeieaaGreat
namespace Go.Proofs.YthenjegmigeieaaGreat
open Go.RowKit Go.Sort Go.Lib
def Gr(w w':World):Prop:=∃q os,w'=grow (w.drewN q) os
theorem Gr.refl(w:World):Gr w w:=⟨0,#[],by rw[grow_empty];rfl⟩
theorem Gr.trans{a b c:World}(h:Gr a b)(k:Gr b c):Gr a c:=by obtain⟨q,os,rfl⟩:=h;obtain⟨q2,os2,rfl⟩:=k;refine⟨q+q2,os++os2,?_⟩;show({a with drawn:=a.drawn+q+q2,heap:=a.heap++os++os2}:World)={a with drawn:=a.drawn+(q+q2),heap:=a.heap++(os++os2)};rw[jD,Array.append_assoc]
theorem Gr.alloc{a b:World}(h:Gr a b)(o:Obj):Gr a (b.alloc o):=h.trans ⟨0,#[o],by rw[alloc_eq_grow];rfl⟩
theorem Gr.drew{a b:World}(h:Gr a b):Gr a b.drew:=h.trans ⟨1,#[],by rw[grow_empty];rfl⟩
theorem Gr.below{a b:World}(h:Gr a b):Below a.heap.size a b:=by
 obtain⟨q,os,rfl⟩:=h;refine⟨rfl,rfl,rfl,?_,fun k hk=>?_⟩
 ·show a.heap.size≤(a.heap++os).size;simp
 show(a.heap++os)[k]?=a.heap[k]?;rw[fU hk]
def Rl.factD(l:List Rl.Fc)(i:Nat):Rl.Fc:=l.getD i ⟨0,[]⟩
def FactIn(w:World)(b off:Nat)(f:Rl.Fc):Prop:=
 w.cell? ⟨b,off,none⟩=some (.int .i64 f.pred)∧∃v,w.cell? ⟨b,off+1,none⟩=some v∧IntsV w v f.args
def FactsAt(w:World)(ao:Option Addr)(l:List Rl.Fc):Prop:=
 l=[]∨∃b off,ao=some ⟨b,off,none⟩∧∀i,i<l.length→FactIn w b (off+i*2) (Rl.factD l i)
def FactsV(w:World)(v:Value)(l:List Rl.Fc):Prop:=∃ao cap,v=.slice ao l.length cap∧(l.length≤cap∧(ao=none→cap=0))∧FactsAt w ao l
def FFit(f:Rl.Fc):Prop:=f.args.length≤9223372036854775807
theorem lT{w w':World}{b off:Nat}{f:Rl.Fc}(h:FactIn w b off f)(hb:Below w.heap.size w w'):FactIn w' b off f:=by obtain⟨h0,v,h1,h2⟩:=h;exact⟨aD hb h0,v,aD hb h1,aK h2 hb⟩
theorem aI{w w':World}{v:Value}{l:List Rl.Fc}(h:FactsV w v l)(hb:Below w.heap.size w w'):FactsV w' v l:=by
 obtain⟨ao,cap,rfl,hc,h⟩:=h;refine⟨ao,cap,rfl,hc,?_⟩;rcases h with h|⟨b,off,rfl,h⟩
 ·exact .inl h
 exact .inr ⟨b,off,rfl,fun i hi=>lT (h i hi) hb⟩
theorem eY{w:World}{ao:Option Addr}{l:List Rl.Fc}(h:FactsAt w ao l)(i:Nat)(hi:i<l.length):∃b off,ao=some ⟨b,off,none⟩∧FactIn w b (off+i*2) (Rl.factD l i):=by
 rcases h with h|⟨b,off,ha,hc⟩
 ·rw[h]at hi;exact absurd hi sI
 exact⟨b,off,ha,hc i hi⟩
theorem lU(l:List Rl.Fc)(k:Nat)(hk:k<l.length):l.drop k=Rl.factD l k::l.drop (k+1):=by rw[bG hk];simp[Rl.factD,List.getD_eq_getElem?_getD,hk]
theorem eP(l:List Rl.Fc)(k:Nat)(hk:k<l.length):Rl.factD l k∈l:=by simp[Rl.factD,hk]
theorem jQ(l:List Rl.Fc)(k:Nat)(hk:k<l.length):l[k]?=some (Rl.factD l k):=by simp[Rl.factD,hk]
theorem fS{w:World}{ao:Option Addr}{l:List Int}(h:IntsAt w ao l)(i:Nat)(hi:i<l.length):∃b off,ao=some ⟨b,off,none⟩∧w.cell? ⟨b,off+i,none⟩=some (.int .i64 (Sc.intD l i)):=by
 rcases h with h|⟨b,off,ha,hc⟩
 ·rw[h]at hi;exact absurd hi sI
 exact⟨b,off,ha,hc i hi⟩
end Go.Proofs.YthenjegmigeieaaGreat
namespace Go.Proofs.YthenjegmigeieaaGreat
open Go.RowKit
abbrev tokObjOf(t:Tk.Tok):Obj:=.cells #[.int .i64 t.kind, .int .i64 t.at_, .string ⟨t.text.toArray⟩] 271
theorem boxCell{w w1:World}{t:Tk.Tok}(hb:Below (w.alloc (tokObjOf t)).heap.size (w.alloc (tokObjOf t)) w1):
 w1.cell? ⟨w.heap.size,0,none⟩=some (.int .i64 t.kind)∧w1.cell? ⟨w.heap.size,1,none⟩=some (.int .i64 t.at_)∧w1.cell? ⟨w.heap.size,2,none⟩=some (.string ⟨t.text.toArray⟩):=by
 obtain⟨hc,hf⟩:=bcell hb;(have h:w.heap.size<(w.alloc (tokObjOf t)).heap.size:=by simp);refine⟨?_,?_,?_⟩
 ·rw[hc _ _ h];simp[go_sem]
 ·rw[hc _ _ h];simp[go_sem]
 rw[hc _ _ h];simp[go_sem]
theorem dR{w w1:World}{o:Obj}(hb:Below (w.alloc o).heap.size (w.alloc o) w1):Below w.heap.size w w1:=
 ((aH _ _).alloc (aF _) _).trans (hb.mono sI)
theorem aBS(t:Tk.Tok)(w:World):
 Calls Tryz.prog 240 #[tokVal t] w fun e w'=>e=.returned (.bool (Tk.alone t.kind t.text))∧Below w.heap.size w w':=by
 have HV:Hid (Tk.alone t.kind t.text=(((Tk.scan t.text).2.2==0)&&(((Tk.scan t.text).1.length:Int)==1)&&((tokD (Tk.scan t.text).1 0).kind==t.kind)&&((tokD (Tk.scan t.text).1 0).text==t.text))):=rfl;generalize Tk.alone t.kind t.text=V at *;have hS:=fun w=>aCI ⟨t.text.toArray⟩ w;have hd:(⟨t.text.toArray⟩:ByteArray).data.toList=t.text:=List.toList_toArray;rw[hd]at hS;unfold ScanTop at hS;generalize Tk.scan t.text=X at *;have HS:Hid (_):=hS;clear hS hd
 go_enter Tryz.func240,Tryz.ntmps240
 go_wp2_with fail;refine(HS.out _).mono ?_;rintro e w1 ⟨ao,cap,rfl,hown,hb⟩;obtain⟨c0,c1,c2⟩:=boxCell hb;have hT0:0<X.1.length→∃b off,ao=some ⟨b,off,none⟩∧TokIn w1 b off (tokD X.1 0):=fun h0=>by
  rcases zR hown with h|⟨b,off,rfl,hc⟩
  ·rw[h]at h0;exact absurd h0 sI
  exact⟨b,off,rfl,by simpa using hc 0 h0⟩
 have hbel:=dR hb;clear hown hb HS;generalize tokD X.1 0=x at *;cases g1:(X.2.2==0)
 ·(have HF:Hid (V=false):=by show _=_;rw[HV.out,g1];rfl);clear HV;go_wp2_with fail;go_quiet(fail);go_wp2;go_ret;exact⟨dQ HF.out.symm,below_drewN hbel _⟩
 cases g2:((X.1.length:Int)==1)
 ·(have HF:Hid (V=false):=by show _=_;rw[HV.out,g2];simp);clear HV;go_wp2_with fail;go_quiet(fail);go_wp2;go_ret;exact⟨dQ HF.out.symm,below_drewN hbel _⟩
 (have hpos:0<X.1.length:=by have :=beq_iff_eq.1 g2;omega);obtain⟨b,off,rfl,d0,d1,d2⟩:=hT0 hpos;clear hT0;cases g3:(x.kind==t.kind)
 ·(have HF:Hid (V=false):=by show _=_;rw[HV.out,g3];simp);clear HV;go_wp2_with fail;go_quiet(fail);go_wp2;go_ret;exact⟨dQ HF.out.symm,below_drewN hbel _⟩
 cases g4:(x.text==t.text)
 ·(have HF:Hid (V=false):=by show _=_;rw[HV.out,g4];simp);clear HV;go_wp2_with fail;go_quiet(fail);go_wp2;go_ret;exact⟨dQ HF.out.symm,below_drewN hbel _⟩
 (have HF:Hid (V=true):=by show _=_;rw[HV.out,g1,g2,g3,g4];rfl);clear HV;go_wp2_with fail;go_quiet(fail);go_wp2;go_ret;exact⟨dQ HF.out.symm,below_drewN hbel _⟩
theorem zP:(Tryz.prog.info? 276).map (·.size)=some 2:=by kernel_rfl
theorem aCM:liesAt Tryz.prog Tryz.prog.depth 276 (2/Tryz.prog.cellsOf 276) 0 276 1=true:=by kernel_rfl
theorem aA1:(Tryz.prog.info? 5).map (fun i=>(i.zero,i.size,i.bytes))=some (some (.int .u8 0),1,1):=by kernel_rfl
theorem aAK(b:Nat)(w:World)(h0:w.cell? ⟨b,0,none⟩=some (.pointer (some ⟨b,0,none⟩))):
 Calls Tryz.prog 246 #[.pointer (some ⟨b,0,none⟩)] w fun e w'=>e=.returned (.tuple #[])∧w'=w:=by
 obtain⟨j,hj,_⟩:=Option.map_eq_some_iff.1 zP
 go_enter Tryz.func246,Tryz.ntmps246
 go_wp2;rw[Lib.run_neq_ptr_same w _ Tryz.underlying273 hj];go_wp2;go_end0;exact⟨rfl,rfl⟩
theorem zF(b:Nat)(w:World)(h0:w.cell? ⟨b,0,none⟩=some (.pointer none))(hsh:w.shape? b=some (276,2))(hfz:w.frozen? ⟨b,0,none⟩=false):
 Calls Tryz.prog 246 #[.pointer (some ⟨b,0,none⟩)] w fun e w'=>e=.returned (.tuple #[])∧w'=w.setCell ⟨b,0,none⟩ (.pointer (some ⟨b,0,none⟩)):=by
 obtain⟨j,hj,hjs⟩:=Option.map_eq_some_iff.1 zP
 go_enter Tryz.func246,Tryz.ntmps246
 go_wp2;rw[Lib.run_to_unsafe w ⟨b,0,none⟩ Tryz.underlying273 Tryz.underlying292 hj (by rw[hjs];decide) hsh (Nat.zero_lt_succ 1)];simp only[Result.andThen];rw[Oper.upon_value];go_wp2;rw[run_callFunc_extern Tryz.func248 (by kernel_rfl) (by kernel_rfl) (by kernel_rfl) (e:=Extern.AbiNoEscape.same) (by kernel_rfl)];rw[Lib.run_noEscape];simp only[Result.andThen];rw[Oper.upon_value];go_wp2;rw[Lib.run_from_unsafe w ⟨b,0,none⟩ Tryz.underlying292 Tryz.underlying273 hj hsh aCM];simp only[Result.andThen];rw[Oper.upon_value];go_wp2;go_end0;exact⟨rfl,rfl⟩
theorem uP(B b:Nat)(bs:List Value)(w:World)(h:Lib.IsBuilder 276 5 B b bs w):
 Calls Tryz.prog 246 #[.pointer (some ⟨b,0,none⟩)] w fun e w'=>e=.returned (.tuple #[])∧(Lib.BuilderAt 276 5 B b (.pointer (some ⟨b,0,none⟩)) bs w'∧Below B w w'∧Lib.OthersKept 5 (some b) w w'):=by
 rcases h with h|h
 ·refine(zF b w h.cell0 h.shape h.frozen0).mono ?_;rintro e w' ⟨rfl,rfl⟩;exact⟨rfl,h.used _,(aH B w).setCell (p:=⟨b,0,none⟩) h.1 _,(Lib.OthersKept.refl 5 (some b) w).setCell ⟨b,0,none⟩ rfl _⟩
 refine(aAK b w h.cell0).mono ?_;rintro e w' ⟨rfl,rfl⟩;exact⟨rfl,h,aH B _,Lib.OthersKept.refl _ _ _⟩
theorem yC{w:World}{B:Nat}{v:Value}{n:Nat}{xs:List Value}(h:w.ownsRow B 5 1 v n xs):∀g,v.ownBlock=some g→∃c fz,w.heap[g]?=some (.cells c 5 fz):=by
 intro g hg;rcases h.2 with⟨rfl,_⟩|⟨g',cap,cur,rfl,_,hgg,_⟩
 ·simp[Value.ownBlock]at hg
 simp[Value.ownBlock]at hg;subst hg;exact⟨cur,_,hgg⟩
theorem sJ(B b:Nat)(bs:List Value)(c:Int)(w:World)(h:Lib.IsBuilder 276 5 B b bs w)(hlen:bs.length+1≤140737488355328)(hBw:B≤w.heap.size):
 Calls Tryz.prog 241 #[.pointer (some ⟨b,0,none⟩), .int .u8 c] w fun e w'=>e=.returned .nilIface∧(Lib.BuilderAt 276 5 B b (.pointer (some ⟨b,0,none⟩)) (bs++[.int .u8 c]) w'∧Below B w w'∧Lib.OthersKept 5 (some b) w w'):=by
 obtain⟨i0,hi,hz0,hz1,hz2⟩:=info_parts aA1
 go_enter Tryz.func241,Tryz.ntmps241
 go_wp2_with(go_at_call 246;refine(uP B b bs _ h).mono ?_);rintro e w1 ⟨rfl,h1,hb1,hk1⟩;obtain⟨hB,v,hbk,hown,hne⟩:=h1;(have c0:w1.cell? ⟨b,0,none⟩=some (.pointer (some ⟨b,0,none⟩)):=by rw[aC hbk];rfl);(have c1:w1.cell? ⟨b,1,none⟩=some v:=by rw[aC hbk];rfl);go_wp2_with(at_builtin;refine wpList_append_own _ rfl _ _ 274 rfl B 5 i0 (.int .u8 0) 1 1 Tryz.underlying274 hi hz0 hz1 hz2 rfl (by decide) _ _ _ rfl (hown.alloc _) ⟨w1.heap.size,0,none⟩ 1 1 [.int .u8 c] rfl rfl ?c1 ?c2 ?c3 ?c4 ?c5 ?_)
 case c1=>
  intro j u hj
  match j,hj with
  |0,hj=>simp at hj;subst hj;simp[Addr.add]
 (case c2=>intro u hu;simp at hu;subst hu;rfl);(case c3=>unfold maxLen;omega);(case c4=>omega);(case c5=>have :=hb1.size;simp;omega);intro v' w2 hown' hgrow _;have hlt:b<w1.heap.size:=Lib.BuilderAt.lt (T:=276) (e:=5) ⟨hB,v,hbk,hown,hne⟩;(have hb2:w2.heap[b]?=some (.cells #[.pointer (some ⟨b,0,none⟩),v] 276 (0,0)):=by rw[hgrow.block b (by simp;omega) (fun e=>hne e.symm),Lib.alloc_old w1 _ b hlt];exact hbk);(have d0:w2.cell? ⟨b,0,none⟩=some (.pointer (some ⟨b,0,none⟩)):=by rw[aC hb2];rfl);(have d1:w2.cell? ⟨b,1,none⟩=some v:=by rw[aC hb2];rfl);have f1:w2.frozen? ⟨b,1,none⟩=false:=bQ hb2 1;obtain⟨g,cap,rfl⟩:∃g cap,v'=.slice (some ⟨g,0,none⟩) (bs.length+1) cap:=by
  rcases hown'.2 with⟨_,h0⟩|⟨g,cap,cur,hv,_⟩
  ·omega
  exact⟨g,cap,hv⟩
 have hk2:Lib.OthersKept 5 (some b) w w2:=(hk1.alloc _).grown hgrow (yC (hown.alloc _));go_wp2;go_ret;refine⟨rfl,?_,?_,?_⟩
 ·exact Lib.BuilderAt.put (T:=276) (e:=5) hB hb2 (bs':=bs++[.int .u8 c]) (by simpa using hown') (by decide)
 ·exact((hb1.alloc (by have :=hb1.size;omega) _).grown hgrow (by have :=hb1.size;simp;omega) (fun k hk=>(hown.lt k hk).1)).setCell (p:=⟨b,1,none⟩) hB _
 exact hk2.setCell ⟨b,1,none⟩ rfl _
theorem lZ(B b:Nat)(bs:List Value)(s:ByteArray)(w:World)(h:Lib.IsBuilder 276 5 B b bs w)(hlen:bs.length+s.size≤140737488355328)(hBw:B≤w.heap.size):
 Calls Tryz.prog 242 #[.pointer (some ⟨b,0,none⟩), .string s] w fun e w'=>e=.returned (.tuple #[.int .i64 s.size, .nilIface])∧(Lib.BuilderAt 276 5 B b (.pointer (some ⟨b,0,none⟩)) (bs++Lib.strCells s) w'∧Below B w w'∧Lib.OthersKept 5 (some b) w w'):=by
 obtain⟨i0,hi,hz0,hz1,hz2⟩:=info_parts aA1
 go_enter Tryz.func242,Tryz.ntmps242
 go_wp2_with(go_at_call 246;refine(uP B b bs _ h).mono ?_);rintro e w1 ⟨rfl,h1,hb1,hk1⟩;obtain⟨hB,v,hbk,hown,hne⟩:=h1;(have c0:w1.cell? ⟨b,0,none⟩=some (.pointer (some ⟨b,0,none⟩)):=by rw[aC hbk];rfl);(have c1:w1.cell? ⟨b,1,none⟩=some v:=by rw[aC hbk];rfl);go_wp2_with(at_builtin;refine Lib.wpList_append_own_string _ rfl _ _ 274 9 rfl B 5 i0 Tryz.underlying274 Tryz.underlying9 hi hz0 hz1 hz2 _ _ _ rfl hown s rfl ?c3 ?c4 ?c5 ?_);(case c3=>unfold maxLen;omega);(case c4=>omega);(case c5=>have :=hb1.size;omega);intro v' w2 hown' hgrow _;have hlt:b<w1.heap.size:=Lib.BuilderAt.lt (T:=276) (e:=5) ⟨hB,v,hbk,hown,hne⟩;(have hb2:w2.heap[b]?=some (.cells #[.pointer (some ⟨b,0,none⟩),v] 276 (0,0)):=by rw[hgrow.block b hlt (fun e=>hne e.symm)];exact hbk);(have d0:w2.cell? ⟨b,0,none⟩=some (.pointer (some ⟨b,0,none⟩)):=by rw[aC hb2];rfl);(have d1:w2.cell? ⟨b,1,none⟩=some v:=by rw[aC hb2];rfl);have f1:w2.frozen? ⟨b,1,none⟩=false:=bQ hb2 1;obtain⟨ao,n',cap,rfl⟩:∃ao n' cap,v'=.slice ao n' cap:=by
  rcases hown'.2 with⟨hv,_⟩|⟨g,cap,cur,hv,_⟩
  ·exact⟨_,_,_,hv⟩
  exact⟨_,_,_,hv⟩
 have hk2:Lib.OthersKept 5 (some b) w w2:=hk1.grown hgrow (yC hown);go_wp2;go_ret2;refine⟨rfl,?_,?_,?_⟩
 ·exact Lib.BuilderAt.put (T:=276) (e:=5) hB hb2 (bs':=bs++Lib.strCells s) (by simpa[Lib.strCells_length]using hown') (by decide)
 ·exact(hb1.grown hgrow (by have :=hb1.size;omega) (fun k hk=>(hown.lt k hk).1)).setCell (p:=⟨b,1,none⟩) hB _
 exact hk2.setCell ⟨b,1,none⟩ rfl _
namespace Tk
def joinTo(l:List Tok):Nat→List UInt8
 |0=>[]
 |k+1=>(if k=0 then [] else joinTo l k++[32])++(tokD l k).text
def allTok(l:List Tok)(k:Nat):Bool:=(l.take k).all fun t=>isTok t.kind t.text
def join(l:List Tok):List UInt8×Int:=
 if allTok l l.length then(if 5000<(joinTo l l.length).length then([],2)else(joinTo l l.length,0))else([],1)
theorem allTok_snoc(l:List Tok)(k:Nat)(h:k<l.length):allTok l (k+1)=(allTok l k&&isTok (tokD l k).kind (tokD l k).text):=by unfold allTok;rw[lQ h,List.all_append];(have e:tokD l k=l[k]:=by rw[tokD,aE,aG h];rfl);rw[e];simp
theorem allTok_no(l:List Tok)(k:Nat)(h:k<l.length)(hk:isTok (tokD l k).kind (tokD l k).text=false):allTok l l.length=false:=by(have e:tokD l k=l[k]:=by rw[tokD,aE,aG h];rfl);rw[e]at hk;unfold allTok;rw[gR];rw[←Bool.not_eq_true]at hk ⊢;intro ha;exact hk (bE.1 ha _ (cR h))
theorem isTok_len(k:Int)(t:List UInt8)(h:isTok k t=true):t.length≤12:=by
 have h:=of_decide_eq_true h;obtain⟨h1,h2,h3,h4,h5⟩:=h
 match t,h1 with
 |c::r,_=>
  rcases oO c r with⟨c1,cE⟩|⟨c1,cK,c3,cE⟩|⟨c1,cK,c3,cE⟩|⟨c1,cK,c3,cE⟩|⟨c1,cK,c3,c4,c5,cE⟩|⟨c1,cK,c3,cE⟩|⟨c1,cK,c3,c4,c5,cE⟩|⟨c1,cK,cE⟩
  ·omega
  ·omega
  ·omega
  ·omega
  ·omega
  ·omega
  ·omega
  have e2:=lS c r;have e1:=lD c r;rw[cK]at e1;cases g1:Tk.small c.toNat
  ·cases g2:Tk.great c.toNat
   ·cases g3:Tk.digit c.toNat
    ·rw[g1,g2,g3]at e2;simp only[gV,eF,if_false]at e2;have e3:Tk.signLen (c::r)≤2:=by
      unfold Tk.signLen;split
      ·omega
      dsimp only;split<;>omega
     omega
    rw[g1,g2,g3]at e1;simp at e1
   rw[g1,g2]at e1;simp at e1
  rw[g1]at e1;simp at e1
theorem joinTo_len(l:List Tok):∀k,k≤l.length→allTok l k=true→(joinTo l k).length≤13*k:=by
 intro k
 induction k with
 |zero=>intro _ _;exact aF 0
 |succ k ih=>
  intro hk ha;rw[allTok_snoc l k oM,aW]at ha;have h1:=ih oM ha.1;have h2:=isTok_len _ _ ha.2;rw[joinTo];split
  ·simp;omega
  simp;omega
end Tk
theorem tM{N:Nat}{bs:List Value}{w w':World}(h:Lib.IsBuilder 276 5 N N bs w)(hb:Below w.heap.size w w'):Lib.IsBuilder 276 5 N N bs w':=by
 (have key:∀p,Lib.BuilderAt 276 5 N N p bs w→Lib.BuilderAt 276 5 N N p bs w':=fun p h=>by have hlt:=h.lt;obtain⟨h1,v,h2,h3,h4⟩:=h;exact⟨h1,v,by rw[hb.block N hlt];exact h2,aU h3 hb,h4⟩);rcases h with h|h
 ·exact .inl (key _ h)
 exact .inr (key _ h)
theorem aAP{N:Nat}{bs:List Value}{w:World}(h:Lib.IsBuilder 276 5 N N bs w):N<w.heap.size:=by
 rcases h with h|h
 ·exact h.lt
 exact h.lt
theorem aCp{N T:Nat}{t:Tk.Tok}{w w':World}(hk:Lib.OthersKept 5 (some N) w w')(hne:¬T=N)(h:w.heap[T]?=some (tokObjOf t)):w'.heap[T]?=some (tokObjOf t):=by refine hk T _ h (fun e=>hne (Option.some.inj e)) ?_;intro c fz e;injection e with _ e2 _;exact absurd e2 dE
theorem aB2(l:List Tk.Tok)(w:World)(n b off cap:Nat)(hn:l.length=n)(hmax:n≤4398046511104)
 (hA:∀i,i<n→TokIn w b (off+i*3) (tokD l i)):
 Calls Tryz.prog 238 #[.slice (some ⟨b,off,none⟩) n cap] w fun e w'=>e=.returned (.tuple #[.string ⟨(Tk.join l).1.toArray⟩, .int .i64 (Tk.join l).2])∧Below w.heap.size w w':=by
 have HN:Hid (l.length=n):=hn;clear hn
 go_enter Tryz.func238,Tryz.ntmps238
 go_wp2_with fail;go_loopw [9] (fun i wr=>∃k:Nat,k≤n∧i=.int .i64 k∧Tk.allTok l k=true∧Lib.IsBuilder 276 5 w.heap.size w.heap.size (Lib.byteCells (Tk.joinTo l k)) wr∧Below w.heap.size w wr) (fun i _=>n-(intOf i).toNat);case atStart=>exact⟨0,aR _,rfl,rfl,Lib.fresh_isBuilder 276 5 w,(aH _ _).alloc (aF _) _⟩
 case round=>
  obtain⟨k,hk,rfl,hall,hbu,hbel⟩:=hrel;have HA:Hid (Tk.allTok l k=true):=hall;clear hall;have hNw:=aAP hbu;have hlen:=Tk.joinTo_len l k (by rw[HN.out];exact hk) HA.out;by_cases hlt:k<n
  ·obtain⟨a0,a1,a2⟩:=hA k hlt;have hbw:b<w.heap.size:=dX w _ a0;have a0':wr.cell? ⟨b,off+k*3,none⟩=some (.int .i64 (tokD l k).kind):=(hbel.cell (p:=⟨b,_,none⟩) hbw).trans a0;have a1':wr.cell? ⟨b,off+k*3+1,none⟩=some (.int .i64 (tokD l k).at_):=(hbel.cell (p:=⟨b,_,none⟩) hbw).trans a1;have a2':wr.cell? ⟨b,off+k*3+2,none⟩=some (.string ⟨(tokD l k).text.toArray⟩):=(hbel.cell (p:=⟨b,_,none⟩) hbw).trans a2;clear a0 a1 a2 hA;go_wp2_with fail;refine(aBS (tokD l k) _).mono ?_;rintro e w1 ⟨he,hb1⟩;rw[aCG]at he;subst he;have hb0:Below wr.heap.size wr w1:=dR hb1;have hbel1:Below w.heap.size w w1:=hbel.trans (hb0.mono oM);cases hT:Tk.isTok (tokD l k).kind (tokD l k).text
   ·(have HF:Hid (Tk.join l=([],1)):=by show _=_;unfold Tk.join;rw[if_neg (by rw[Tk.allTok_no l k (by rw[HN.out];exact hlt) hT];simp)]);clear hT hb1 a0' a1' a2';go_wp2_with fail;go_ret2;refine⟨?_,hbel1⟩;rw[HF.out];rfl
   (have HT:Hid (Tk.allTok l (k+1)=true):=by show _=_;rw[Tk.allTok_snoc l k (by rw[HN.out];exact hlt),HA.out,hT];rfl);(have h12:=Tk.isTok_len _ _ hT;have hbu1:=tM hbu hb0;have hblk:w1.heap[wr.heap.size]?=some (tokObjOf (tokD l k)):=by rw[hb1.block wr.heap.size sI];exact heap_alloc_new wr _);obtain⟨x0,x1,x2⟩:=boxCell hb1;have hz1:w.heap.size≤w1.heap.size:=hbel1.size;clear hT hb1 a0' a1' a2' hbu hb0;by_cases hk0:0<k
   ·(have HJ:Hid (Lib.byteCells (Tk.joinTo l k)++[.int .u8 32]++Lib.strCells ⟨(tokD l k).text.toArray⟩=Lib.byteCells (Tk.joinTo l (k+1))):=by show _=_;rw[Tk.joinTo,if_neg oM,Lib.byteCells_append,Lib.byteCells_append];rfl);go_wp2_with fail;refine(sJ w.heap.size w.heap.size _ 32 _ hbu1 (by rw[iK];omega) hz1).mono ?_;rintro e w2 ⟨rfl,hB2,hbel2,hk2⟩;have hblk2:=aCp hk2 oM hblk;(have d2:w2.cell? ⟨wr.heap.size,2,none⟩=some (.string ⟨(tokD l k).text.toArray⟩):=by rw[aC hblk2];rfl);(have hz2:w.heap.size≤w2.heap.size:=by have :=hbel2.size;omega);clear hk2 hblk hblk2 hbu1 x0 x1 x2;go_wp2_with fail;refine(lZ w.heap.size w.heap.size _ _ _ (.inr hB2) (by show _+(tokD l k).text.toArray.size≤_;simp[Lib.byteCells_length];omega) hz2).mono ?_;rintro e w3 ⟨rfl,hB3,hbel3,_⟩;rw[HJ.out]at hB3;have hbel4:=(hbel1.trans hbel2).trans hbel3;clear hB2 d2 HJ;go_wp2;go_roundw;(case rel=>exact⟨k+1,oM,gN,HT.out, .inr hB3,hbel4⟩);case measure=>exact mI
   (have hd:decide ((0:Int)<(k:Int))=false:=by simp;omega);(have HJ:Hid (Lib.byteCells (Tk.joinTo l k)++Lib.strCells ⟨(tokD l k).text.toArray⟩=Lib.byteCells (Tk.joinTo l (k+1))):=by show _=_;have e0:k=0:=oM;rw[e0,Tk.joinTo,Tk.joinTo,if_pos rfl];rfl);go_wp2_with fail;refine(lZ w.heap.size w.heap.size _ _ _ hbu1 (by show _+(tokD l k).text.toArray.size≤_;simp[Lib.byteCells_length];omega) hz1).mono ?_;rintro e w3 ⟨rfl,hB3,hbel3,_⟩;rw[HJ.out]at hB3;have hbel4:=hbel1.trans hbel3;clear hbu1 HJ x0 x1 x2 hblk;go_wp2;go_roundw;(case rel=>exact⟨k+1,oM,gN,HT.out, .inr hB3,hbel4⟩);case measure=>exact mI
  have hkn:k=n:=oM;(have HL:Hid (k=l.length):=by show _=_;rw[HN.out];exact hkn);clear hkn;(have HA2:Hid (Tk.allTok l l.length=true):=by have :=HA.out;rw[HL.out]at this;exact this);clear hA;by_cases h5:5000<(Tk.joinTo l k).length
  ·(have HF:Hid (Tk.join l=([],2)):=by show _=_;unfold Tk.join;rw[if_pos HA2.out,if_pos (by rw[←HL.out];exact h5)]);go_wp2_with(go_at_call 243;refine(Tryz.Builder_Len _ _ _ _ hbu).mono ?_;rintro e w' ⟨rfl,rfl⟩;rw[iK]);go_ret2;refine⟨?_,hbel⟩;rw[HF.out];rfl
  (have HF:Hid (Tk.join l=(Tk.joinTo l k,0)):=by show _=_;unfold Tk.join;rw[if_pos HA2.out,if_neg (by rw[←HL.out];exact h5),HL.out]);go_wp2_with(first|(go_at_call 243;refine(Tryz.Builder_Len _ _ _ _ hbu).mono ?_;rintro e w' ⟨rfl,rfl⟩;rw[iK])|(go_at_call 244;refine(Tryz.Builder_String_any _ _ _ _ hbu oM).mono ?_;rintro e w2 ⟨rfl,hbel2⟩));go_ret2;refine⟨?_,hbel.trans hbel2⟩;rw[HF.out];rfl
theorem aB3(w:World)(ao:Option Addr)(cap:Nat):
 Calls Tryz.prog 238 #[.slice ao 0 cap] w fun e w'=>e=.returned (.tuple #[.string ⟨#[]⟩, .int .i64 0])∧Below w.heap.size w w':=by
 have hbu:Lib.IsBuilder 276 5 w.heap.size w.heap.size (Lib.byteCells []) (w.alloc (.cells #[.pointer none, .slice none 0 0] 276)):=Lib.fresh_isBuilder 276 5 w;have hbel:Below w.heap.size w (w.alloc (.cells #[.pointer none, .slice none 0 0] 276)):=(aH _ _).alloc (aF _) _
 go_enter Tryz.func238,Tryz.ntmps238
 go_wp2_with fail;refine wp_loop_rounds 1 ?_;rw[rounds_succ];go_wp2_with(first|(go_at_call 243;refine(Tryz.Builder_Len _ _ _ _ hbu).mono ?_;rintro e w' ⟨rfl,rfl⟩;rw[iK])|(go_at_call 244;refine(Tryz.Builder_String_any _ _ _ _ hbu sI).mono ?_;rintro e w2 ⟨rfl,hbel2⟩));go_ret2;exact⟨rfl,hbel.trans hbel2⟩
theorem aCK(l:List Tk.Tok)(w:World)(ao:Option Addr)(cap:Nat)(hmax:l.length≤4398046511104)(hA:ToksAt w ao l):
 Calls Tryz.prog 238 #[.slice ao l.length cap] w fun e w'=>e=.returned (.tuple #[.string ⟨(Tk.join l).1.toArray⟩, .int .i64 (Tk.join l).2])∧Below w.heap.size w w':=by
 rcases hA with rfl|⟨b,off,rfl,hA⟩
 ·exact aB3 w ao cap
 exact aB2 l w l.length b off cap rfl hmax hA
theorem aAF(s:List UInt8)(w:World):Calls Tryz.prog 239 #[.string ⟨s.toArray⟩] w fun e w'=>e=.returned (.int .i64 (Tr.foldOf s))∧w'=w:=by
 unfold Tr.foldOf;cases h1:(s==[99,111,117,110,116])
 ·cases h2:(s==[115,117,109])
  ·cases h3:(s==[108,101,97,115,116])
   ·cases h4:(s==[109,111,115,116])
    ·go_enter Tryz.func239,Tryz.ntmps239
     go_wp2;go_ret;exact⟨rfl,rfl⟩
    go_enter Tryz.func239,Tryz.ntmps239
    go_wp2;go_ret;exact⟨rfl,rfl⟩
   go_enter Tryz.func239,Tryz.ntmps239
   go_wp2;go_ret;exact⟨rfl,rfl⟩
  go_enter Tryz.func239,Tryz.ntmps239
  go_wp2;go_ret;exact⟨rfl,rfl⟩
 go_enter Tryz.func239,Tryz.ntmps239
 go_wp2;go_ret;exact⟨rfl,rfl⟩
theorem aAu(s:List UInt8)(w:World):Calls Tryz.prog 234 #[.string ⟨s.toArray⟩] w fun e w'=>e=.returned (.bool (Tr.isWord s))∧w'=w:=by
 unfold Tr.isWord;cases h1:(s==[110,111,116])
 ·go_enter Tryz.func234,Tryz.ntmps234
  go_wp2_with(go_at_call 239;refine(aAF _ _).mono ?_;rintro e w' ⟨rfl,rfl⟩);go_ret;exact⟨rfl,rfl⟩
 go_enter Tryz.func234,Tryz.ntmps234
 go_wp2;go_ret;exact⟨rfl,rfl⟩
theorem nL(n:Int)(w:World):Calls Tryz.prog 236 #[.int .i64 n] w fun e w'=>e=.returned (.bool (Tr.between n 1 4))∧w'=w:=by
 unfold Tr.between;by_cases h:1≤n
 ·go_enter Tryz.func236,Tryz.ntmps236
  go_wp2;go_ret;exact⟨by simp[h],rfl⟩
 have hd:decide (1≤n)=false:=by simpa using h
 go_enter Tryz.func236,Tryz.ntmps236
 go_wp2;go_ret;exact⟨rfl,rfl⟩
theorem nN(n:Int)(w:World):Calls Tryz.prog 237 #[.int .i64 n] w fun e w'=>e=.returned (.bool (Tr.between n 5 7))∧w'=w:=by
 unfold Tr.between;by_cases h:5≤n
 ·go_enter Tryz.func237,Tryz.ntmps237
  go_wp2;go_ret;exact⟨by simp[h],rfl⟩
 have hd:decide (5≤n)=false:=by simpa using h
 go_enter Tryz.func237,Tryz.ntmps237
 go_wp2;go_ret;exact⟨rfl,rfl⟩
theorem aCq(k:Int)(s:List UInt8):((Tk.join [⟨k,0,s⟩]).2==0)=Tk.isTok k s:=by
 (have e1:Tk.allTok [⟨k,0,s⟩] 1=Tk.isTok k s:=by simp[Tk.allTok]);(have e2:Tk.joinTo [⟨k,0,s⟩] 1=s:=by simp[Tk.joinTo,tokD]);unfold Tk.join;rw[jW,e1,e2];cases h:Tk.isTok k s
 ·rfl
 have :=Tk.isTok_len k s h;rw[if_pos rfl,if_neg oM];rfl
theorem mM(s:List UInt8)(k:Int)(w:World):Calls Tryz.prog 233 #[.string ⟨s.toArray⟩, .int .i64 k] w fun e w'=>e=.returned (.bool (Tk.isTok k s))∧Below w.heap.size w w':=by
 have HJ:=aCq k s;(have hA:ToksAt (w.alloc (.cells #[.int .i64 k, .int .i64 0, .string ⟨s.toArray⟩] 271)) (some ⟨w.heap.size,0,none⟩) [⟨k,0,s⟩]:=by refine .inr ⟨w.heap.size,0,rfl,fun i hi=>?_⟩;(have :i=0:=by simpa using hi);subst this;exact⟨by simp[go_sem,tokD],by simp[go_sem,tokD],by simp[go_sem,tokD]⟩);have HC:Hid (_):=aCK [⟨k,0,s⟩] _ _ 1 sI hA;rw[←HJ];generalize Tk.join [⟨k,0,s⟩]=J at *;clear hA HJ
 go_enter Tryz.func233,Tryz.ntmps233
 go_wp2_with fail;refine Calls.mono HC.out ?_;rintro e w1 ⟨rfl,hb⟩;go_wp2;go_ret;exact⟨rfl,dR hb⟩
theorem nM(s:List UInt8)(w:World):Calls Tryz.prog 228 #[.string ⟨s.toArray⟩] w fun e w'=>e=.returned (.bool (Tr.isName s))∧Below w.heap.size w w':=by
 unfold Tr.isName;cases h1:Tk.isTok 1 s
 ·go_enter Tryz.func228,Tryz.ntmps228
  go_wp2_with fail;refine(mM s 1 w).mono ?_;rintro e w1 ⟨he,hb⟩;rw[h1]at he;subst he;go_wp2;go_ret;exact⟨rfl,hb⟩
 go_enter Tryz.func228,Tryz.ntmps228
 go_wp2_with fail;refine(mM s 1 w).mono ?_;rintro e w1 ⟨he,hb⟩;rw[h1]at he;subst he;go_wp2_with(go_at_call 234;refine(aAu _ _).mono ?_;rintro e w' ⟨rfl,rfl⟩);go_ret;exact⟨rfl,hb⟩
abbrev gaveF(a c:Int):Ending:=.panicked [{v:=.iface 168 (.agg #[.int .i64 a, .int .i64 c]),recovered:=false}]
abbrev goneOn:Ending:=.returned (.tuple #[])
def finE(x:Int):Ending:=if x=0 then goneOn else gaveF 0 x
theorem kO:finE 0=goneOn:=rfl
theorem iQ{x:Int}(h:¬x=0):finE x=gaveF 0 x:=by unfold finE;rw[if_neg h]
theorem vK(a c:Int)(w:World):Calls Tryz.prog 176 #[.int .i64 a, .bool true, .int .i64 c] w fun e w'=>e=gaveF a c∧Below w.heap.size w w':=by
 go_enter Tryz.func176,Tryz.ntmps176
 go_wp2;exact⟨rfl,rfl,aH _ _⟩
theorem xT(a c:Int)(w:World):Calls Tryz.prog 176 #[.int .i64 a, .bool false, .int .i64 c] w fun e w'=>e=goneOn∧w'=w:=by
 go_enter Tryz.func176,Tryz.ntmps176
 go_wp2;exact⟨rfl, .tuple #[],by simp[results,Tryz.results176],rfl,rfl⟩
theorem cX(c:Int)(w:World):Calls Tryz.prog 129 #[.bool true, .int .i64 c] w fun e w'=>e=gaveF 0 c∧Below w.heap.size w w':=by
 go_enter Tryz.func129,Tryz.ntmps129
 go_wp2_with fail;refine(vK _ _ _).mono ?_;rintro e w1 ⟨rfl,hb⟩;go_wp2;exact⟨rfl,rfl,hb⟩
theorem dJ(c:Int)(w:World):Calls Tryz.prog 129 #[.bool false, .int .i64 c] w fun e w'=>e=goneOn∧w'=w:=by
 go_enter Tryz.func129,Tryz.ntmps129
 go_wp2_with fail;refine(xT _ _ _).mono ?_;rintro e w1 ⟨rfl,rfl⟩;go_wp2;exact⟨rfl, .tuple #[],by simp[results,Tryz.results129],rfl,rfl⟩
theorem oA(n:Int)(w:World):Calls Tryz.prog 133 #[.int .i64 n] w fun e w'=>e=.returned (.bool (Sc.isNum n))∧w'=w:=by
 unfold Sc.isNum Tr.between;by_cases h: -1000000≤n
 ·go_enter Tryz.func133,Tryz.ntmps133
  go_wp2;go_ret;exact⟨by simp[h],rfl⟩
 have hd:decide (-1000000≤n)=false:=by simpa using h
 go_enter Tryz.func133,Tryz.ntmps133
 go_wp2;go_ret;exact⟨rfl,rfl⟩
theorem jP(ar:List Int)(ao:Option Addr)(cap:Nat)(vn vr:Value)(k:Int)(w:World):Calls Tryz.prog 130 #[progVal (.slice ao ar.length cap) vn vr, .int .i64 k] w fun e w'=>e=.returned (.bool (Sc.isPred ar k))∧Below w.heap.size w w':=by
 unfold Sc.isPred Tr.between;by_cases h:0≤k
 ·go_enter Tryz.func130,Tryz.ntmps130
  go_wp2;go_ret;refine⟨?_,(aH _ _).alloc (aF _) _⟩
  congr 2
  simp[h];omega
 have hd:decide (0≤k)=false:=by simpa using h
 go_enter Tryz.func130,Tryz.ntmps130
 go_wp2;go_ret;exact⟨rfl,(aH _ _).alloc (aF _) _⟩
theorem pV(l:List Sc.Term)(vars:Int)(w:World)(n b off cap:Nat)(hn:l.length=n)(hmax:n≤9223372036854775807)(hA:∀i,i<n→PTermIn w b (off+i*2) (Sc.termD l i)):
 Calls Tryz.prog 207 #[.slice (some ⟨b,off,none⟩) n cap, .int .i64 vars] w fun e w'=>e=finE (Sc.termsErr vars l)∧Below w.heap.size w w':=by
 have HN:Hid (l.length=n):=hn;clear hn
 go_enter Tryz.func207,Tryz.ntmps207
 go_wp2_with fail;go_loopw [8] (fun i wr=>∃k:Nat,k≤n∧i=.int .i64 k∧Sc.termsErr vars l=Sc.first (Sc.termErr vars) (l.drop k)∧Below w.heap.size w wr) (fun i _=>n-(intOf i).toNat);case atStart=>exact⟨0,aR _,rfl,rfl,aH _ _⟩
 case round=>
  obtain⟨k,hk,rfl,hall,hbel⟩:=hrel;have HA:Hid (Sc.termsErr vars l=Sc.first (Sc.termErr vars) (l.drop k)):=hall;clear hall;by_cases hlt:k<n
  ·obtain⟨a0,a1⟩:=hA k hlt;have hbw:b<w.heap.size:=dX w _ a0;have a0':=(hbel.cell (p:=⟨b,off+k*2,none⟩) hbw).trans a0;have a1':=(hbel.cell (p:=⟨b,off+k*2+1,none⟩) hbw).trans a1;have HD:Hid (Sc.termsErr vars l=Sc.thn (Sc.termErr vars (Sc.termD l k)) (Sc.first (Sc.termErr vars) (l.drop (k+1)))):=HA.out.trans (Sc.first_drop _ _ _ k (by rw[HN.out];exact hlt));clear a0 a1 hA HA;generalize Sc.termD l k=t at *;by_cases h1:t.var< -1
   ·(have HV:Hid (Sc.termsErr vars l=5):=by show _=_;rw[HD.out];have :¬(-1:Int)≤t.var:=oM;simp[Sc.termErr,Sc.thn,Tr.between,this]);clear HD;have g1:decide (t.var< -1)=true:=decide_eq_true h1;go_wp2_with fail;refine(cX 5 _).mono ?_;rintro e w1 ⟨rfl,hb1⟩;have hb2:=hbel.trans ((dR hb1).mono hbel.size);go_wp2_with fail;exact⟨rfl,rV,hb2⟩
   have g1:decide (t.var< -1)=false:=decide_eq_false h1;by_cases h2:vars≤t.var
   ·(have HV:Hid (Sc.termsErr vars l=5):=by show _=_;rw[HD.out];have :¬t.var≤vars-1:=oM;simp[Sc.termErr,Sc.thn,Tr.between,this]);clear HD;have g2:decide (vars≤t.var)=true:=decide_eq_true h2;go_wp2_with fail;refine(cX 5 _).mono ?_;rintro e w1 ⟨rfl,hb1⟩;have hb2:=hbel.trans ((dR hb1).mono hbel.size);go_wp2_with fail;exact⟨rfl,rV,hb2⟩
   have g2:decide (vars≤t.var)=false:=decide_eq_false h2;(have hT:Hid (Sc.termErr vars t=if !Sc.isNum t.n||(decide (0≤t.var)&&t.n != 0)then 3 else 0):=by show _=_;have h3:(-1:Int)≤t.var:=oM;have h4:t.var≤vars-1:=oM;simp[Sc.termErr,Tr.between,h3,h4]);go_wp2_with fail;refine(dJ 5 _).mono ?_;rintro e w1 ⟨rfl,rfl⟩;go_wp2_with fail;refine(oA t.n _).mono ?_;rintro e wn ⟨he,rfl⟩;cases hnum:Sc.isNum t.n
   ·rw[hnum]at he;subst he;(have HV:Hid (Sc.termsErr vars l=3):=by show _=_;rw[HD.out,hT.out,hnum];rfl);clear HD hT;go_wp2_with fail;refine(cX 3 _).mono ?_;rintro e w1 ⟨rfl,hb1⟩;have hb2:=hbel.trans ((dR hb1).mono hbel.size);go_wp2_with fail;exact⟨rfl,rV,hb2⟩
   rw[hnum]at he;subst he;by_cases h5:0≤t.var
   ·have g5:decide (0≤t.var)=true:=decide_eq_true h5;cases g6:(t.n != 0)
    ·(have HV:Hid (Sc.termsErr vars l=Sc.first (Sc.termErr vars) (l.drop (k+1))):=by show _=_;rw[HD.out,hT.out,hnum,g5,g6];rfl);clear HD hT;go_wp2_with fail;refine(dJ 3 _).mono ?_;rintro e w1 ⟨rfl,rfl⟩;go_wp2_with fail;have hb2:=hbel.alloc hbel.size (.cells #[.int .i64 t.var, .int .i64 t.n] 147);go_roundw;(case rel=>exact⟨k+1,oM,gN,HV.out,hb2⟩);case measure=>exact mI
    (have HV:Hid (Sc.termsErr vars l=3):=by show _=_;rw[HD.out,hT.out,hnum,g5,g6];rfl);clear HD hT;go_wp2_with fail;refine(cX 3 _).mono ?_;rintro e w1 ⟨rfl,hb1⟩;have hb2:=hbel.trans ((dR hb1).mono hbel.size);go_wp2_with fail;exact⟨rfl,rV,hb2⟩
   have g5:decide (0≤t.var)=false:=decide_eq_false h5;(have HV:Hid (Sc.termsErr vars l=Sc.first (Sc.termErr vars) (l.drop (k+1))):=by show _=_;rw[HD.out,hT.out,hnum,g5];rfl);clear HD hT;go_wp2_with fail;refine(dJ 3 _).mono ?_;rintro e w1 ⟨rfl,rfl⟩;go_wp2_with fail;have hb2:=hbel.alloc hbel.size (.cells #[.int .i64 t.var, .int .i64 t.n] 147);go_roundw;(case rel=>exact⟨k+1,oM,gN,HV.out,hb2⟩);case measure=>exact mI
  (have HV:Hid (Sc.termsErr vars l=0):=by show _=_;rw[HA.out,aL (by rw[HN.out];omega)];rfl);clear hA;go_wp2_with fail;exact⟨rfl, .tuple #[],by simp[results,Tryz.results207],rV,hbel⟩
theorem pW(w:World)(vars:Int)(ao:Option Addr)(cap:Nat):Calls Tryz.prog 207 #[.slice ao 0 cap, .int .i64 vars] w fun e w'=>e=goneOn∧Below w.heap.size w w':=by
 go_enter Tryz.func207,Tryz.ntmps207
 go_wp2_with fail;refine wp_loop_rounds 1 ?_;rw[rounds_succ];go_wp2_with fail;exact⟨rfl, .tuple #[],by simp[results,Tryz.results207],rfl,aH _ _⟩
theorem mO(l:List Sc.Term)(vars:Int)(v:Value)(w:World)(hmax:l.length≤9223372036854775807)(hA:PTermsV w v l):
 Calls Tryz.prog 207 #[v, .int .i64 vars] w fun e w'=>e=finE (Sc.termsErr vars l)∧Below w.heap.size w w':=by
 obtain⟨ao,cap,rfl,_,hA⟩:=hA;rcases hA with rfl|⟨b,off,rfl,hA⟩
 ·exact pW w vars ao cap
 exact pV l vars w l.length b off cap rfl hmax hA
theorem nI{ar:List Int}{k:Int}(h:Sc.isPred ar k=true):∃n:Nat,k=n∧n<ar.length:=by unfold Sc.isPred Tr.between at h;simp at h;exact⟨k.toNat,oM,oM⟩
theorem jB(w:World)(o1 o2:Obj):Below w.heap.size w ((w.alloc o1).alloc o2):=((aH _ _).alloc (aF _) _).alloc sI _
theorem gY{w w3:World}{o1 o2:Obj}(hb:Below ((w.alloc o1).alloc o2).heap.size ((w.alloc o1).alloc o2) w3):w3.heap[w.heap.size]?=some o1∧w3.heap[w.heap.size+1]?=some o2:=by
 constructor
 ·exact(hb.block _ sO).trans ((((aH _ (w.alloc o1)).alloc (aF _) o2).block _ sI).trans (heap_alloc_new w o1))
 have :=heap_alloc_new (w.alloc o1) o2;exact(hb.block _ sI).trans (by simpa using this)
theorem tK(ar:List Int)(ao:Option Addr)(cap:Nat)(vn vr:Value)(kind op pred:Int)(ts:List Sc.Term)(at_:Option Addr)(ct:Nat)(w:World)(hA:IntsAt w ao ar)(hk:kind=1∨kind=2):
 Calls Tryz.prog 208 #[progVal (.slice ao ar.length cap) vn vr,plitVal ⟨kind,op,pred,ts⟩ (.slice at_ ts.length ct)] w fun e w'=>e=finE (Sc.litErr ar ⟨kind,op,pred,ts⟩)∧Below w.heap.size w w':=by
 have hb0:Below w.heap.size w ((w.alloc (.cells #[.slice ao ar.length cap,vn,vr] 26)).alloc (.cells #[.int .i64 kind, .int .i64 op, .int .i64 pred, .slice at_ ts.length ct] 49)):=jB w _ _;(have HL:Hid (Sc.litErr ar ⟨kind,op,pred,ts⟩=if op≠0 then 3 else if Sc.isPred ar pred then(if(ts.length:Int)≠Sc.intD ar pred.toNat then 1 else 0)else 5):=by show _=_;simp only[Sc.litErr];rw[if_pos hk]);(have hkk:kind=1∨(kind==1)=false∧kind=2:=by rcases hk with h|h<;>simp[h]);clear hk;cases g1:(op != 0)
 ·(have h0:op=0:=by simpa using g1);cases g2:Sc.isPred ar pred
  ·(have HV:Hid (Sc.litErr ar ⟨kind,op,pred,ts⟩=5):=by show _=_;rw[HL.out,h0,g2];rfl);clear HL hA h0;rcases hkk with rfl|⟨gk,rfl⟩
   all_goals
    go_enter Tryz.func208,Tryz.ntmps208
    go_wp2_with fail;refine(dJ 3 _).mono ?_;rintro e w1 ⟨rfl,rfl⟩;go_wp2_with fail;refine(jP ar ao cap vn vr pred _).mono ?_;rintro e w2 ⟨he,hb2⟩;rw[g2]at he;subst he;go_wp2_with fail;refine(cX 5 _).mono ?_;rintro e w3 ⟨rfl,hb3⟩;go_wp2_with fail;have hb23:=hb2.trans (hb3.mono hb2.size);exact⟨rfl,rV,hb0.trans (hb23.mono hb0.size)⟩
  obtain⟨n,rfl,hn⟩:=nI g2;obtain⟨b,off,rfl,hc⟩:=fS hA n hn;have hbw:b<w.heap.size:=dX w _ hc;have hcc:∀y,Below w.heap.size w y→y.cell? ⟨b,off+n,none⟩=some (.int .i64 (Sc.intD ar n)):=fun y hy=>aD hy hc;have HC:Hid _:=hcc;clear hcc hc hA;cases g3:((ts.length:Int) != Sc.intD ar n)
  ·(have HV:Hid (Sc.litErr ar ⟨kind,op,n,ts⟩=0):=by show _=_;rw[HL.out,h0,g2];(have :(ts.length:Int)=Sc.intD ar n:=by simpa using g3);simp[this]);clear HL h0;rcases hkk with rfl|⟨gk,rfl⟩
   all_goals
    go_enter Tryz.func208,Tryz.ntmps208
    go_wp2_with fail;refine(dJ 3 _).mono ?_;rintro e w1 ⟨rfl,rfl⟩;go_wp2_with fail;refine(jP ar _ cap vn vr n _).mono ?_;rintro e w2 ⟨he,hb2⟩;rw[g2]at he;subst he;go_wp2_with fail;refine(dJ 5 _).mono ?_;rintro e w3 ⟨rfl,rfl⟩;have hb02:=hb0.trans (hb2.mono hb0.size);have hq:=HC.out _ hb02;obtain⟨x1,x2⟩:=gY hb2;(have c0:w3.cell? ⟨w.heap.size,0,none⟩=some (.slice (some ⟨b,off,none⟩) ar.length cap):=by rw[aC x1];rfl);(have c1:w3.cell? ⟨w.heap.size+1,2,none⟩=some (.int .i64 n):=by rw[aC x2];rfl);(have c2:w3.cell? ⟨w.heap.size+1,3,none⟩=some (.slice at_ ts.length ct):=by rw[aC x2];rfl);clear x1 x2 hb2 hb0 HC;go_upto_region 7 with fail;go_region_held3 (fun y=>y.cell? ⟨w.heap.size,0,none⟩=some (.slice (some ⟨b,off,none⟩) ar.length cap)∧y.cell? ⟨w.heap.size+1,2,none⟩=some (.int .i64 n)∧y.cell? ⟨w.heap.size+1,3,none⟩=some (.slice at_ ts.length ct)∧y.cell? ⟨b,off+n,none⟩=some (.int .i64 (Sc.intD ar n))) (go_keep) ((go_at_call 129;refine Calls.mono (dJ 1 _) ?_;rintro e y ⟨rfl,rfl⟩));(all_goals go_wp2_with fail);all_goals exact⟨rfl, .tuple #[],by simp[results,Tryz.results208],rV,below_drewN hb02 _⟩
  (have HV:Hid (Sc.litErr ar ⟨kind,op,n,ts⟩=1):=by show _=_;rw[HL.out,h0,g2];(have :¬(ts.length:Int)=Sc.intD ar n:=by simpa using g3);simp[this]);clear HL h0;rcases hkk with rfl|⟨gk,rfl⟩
  all_goals
   go_enter Tryz.func208,Tryz.ntmps208
   go_wp2_with fail;refine(dJ 3 _).mono ?_;rintro e w1 ⟨rfl,rfl⟩;go_wp2_with fail;refine(jP ar _ cap vn vr n _).mono ?_;rintro e w2 ⟨he,hb2⟩;rw[g2]at he;subst he;go_wp2_with fail;refine(dJ 5 _).mono ?_;rintro e w3 ⟨rfl,rfl⟩;have hb02:=hb0.trans (hb2.mono hb0.size);have hq:=HC.out _ hb02;obtain⟨x1,x2⟩:=gY hb2;(have c0:w3.cell? ⟨w.heap.size,0,none⟩=some (.slice (some ⟨b,off,none⟩) ar.length cap):=by rw[aC x1];rfl);(have c1:w3.cell? ⟨w.heap.size+1,2,none⟩=some (.int .i64 n):=by rw[aC x2];rfl);(have c2:w3.cell? ⟨w.heap.size+1,3,none⟩=some (.slice at_ ts.length ct):=by rw[aC x2];rfl);clear x1 x2 hb2 hb0 HC;go_upto_region 7 with fail;refine wp_region_held_drew (S:=(fun y=>y.cell? ⟨w.heap.size,0,none⟩=some (.slice (some ⟨b,off,none⟩) ar.length cap)∧y.cell? ⟨w.heap.size+1,2,none⟩=some (.int .i64 n)∧y.cell? ⟨w.heap.size+1,3,none⟩=some (.slice at_ ts.length ct)∧y.cell? ⟨b,off+n,none⟩=some (.int .i64 (Sc.intD ar n)))) kR (by go_keep) (fun hHeld=>?_);refine wpAnyH_take (i:=0) (v:=?v0x0) rfl kR kR kR (fun _ _ _ h=>h) (Or.inl ⟨by rfl,?hy0x0⟩) (by assumption) ?_;(case hy0x0=>intro w hSw;(try dsimp only at hSw);go_simp;try with_reducible rfl);(try simp only[Act.put,aV]);refine wpAnyH_take (i:=1) (v:=?v1x1) rfl kR kR kR (fun _ _ _ h=>h) (Or.inl ⟨by rfl,?hy1x1⟩) (by assumption) ?_;(case hy1x1=>intro w hSw;(try dsimp only at hSw);go_simp;try with_reducible rfl);(try simp only[Act.put]);refine wpAnyH_take (i:=2) (v:=?v2x2) rfl kR kR kR (fun _ _ _ h=>h) (Or.inl ⟨by rfl,?hy2x2⟩) (by assumption) ?_;(case hy2x2=>intro w hSw;(try dsimp only at hSw);go_simp;try with_reducible rfl);(try simp only[Act.put]);refine wpAnyH_take (i:=3) (v:=?v3x3) rfl kR kR kR (fun _ _ _ h=>h) (Or.inl ⟨by rfl,?hy3x3⟩) (by assumption) ?_;(case hy3x3=>intro w hSw;(try dsimp only at hSw);go_simp;try with_reducible rfl);(try simp only[Act.put]);refine wpAnyH_take (i:=4) (v:=?v4x4) rfl kR kR kR (fun _ _ _ h=>h) (Or.inl ⟨by rfl,?hy4x4⟩) (by assumption) ?_;(case hy4x4=>intro w hSw;(try dsimp only at hSw);go_simp;try with_reducible rfl);(try simp only[Act.put]);refine wpAnyH_take (i:=5) (v:=?v5x5) rfl kR kR kR (fun _ _ _ h=>h) (Or.inl ⟨by rfl,?hy5x5⟩) (by assumption) ?_;(case hy5x5=>intro w hSw;(try dsimp only at hSw);go_simp;try with_reducible rfl);(try simp only[Act.put]);refine wpAnyH_take (i:=6) (v:=?v6x6) rfl kR kR kR (fun _ _ _ h=>h) (Or.inl ⟨by rfl,?hy6x6⟩) (by assumption) ?_;(case hy6x6=>intro w hSw;(try dsimp only at hSw);go_simp;try with_reducible rfl);(try simp only[Act.put]);refine wpAnyH_take (i:=7) (v:=?v7x7) rfl kR kR kR (fun _ _ _ h=>h) (Or.inl ⟨by rfl,?hy7x7⟩) (by assumption) ?_;(case hy7x7=>intro w hSw;(try dsimp only at hSw);go_simp;try with_reducible rfl);(try simp only[Act.put]);refine wpAnyH_take (i:=8) (v:=?v8x8) rfl kR kR kR (fun _ _ _ h=>h) (Or.inl ⟨by rfl,?hy8x8⟩) (by assumption) ?_;(case hy8x8=>intro w hSw;(try dsimp only at hSw);go_simp;try with_reducible rfl);(try simp only[Act.put]);refine wpAnyH_take (i:=9) (v:=?v9x9) rfl kR kR kR (fun _ _ _ h=>h) (Or.inl ⟨by rfl,?hy9x9⟩) (by assumption) ?_;(case hy9x9=>intro w hSw;(try dsimp only at hSw);go_simp;try with_reducible rfl);(try simp only[Act.put]);refine wpAnyH_ready (rs:=[10]) kR sI ?_;refine AllReadyH.cons rfl (fun K hK=>?_) AllReadyH.nil;go_simp;go_at_call 129;refine Calls.mono (cX 1 _) ?_;rintro e y2 ⟨rfl,hb4⟩;exact⟨rfl,rV,hb02.drew.trans (hb4.mono hb02.size)⟩
 (have HV:Hid (Sc.litErr ar ⟨kind,op,pred,ts⟩=3):=by show _=_;rw[HL.out,if_pos (by simpa using g1)]);clear HL hA;rcases hkk with rfl|⟨gk,rfl⟩
 all_goals
  go_enter Tryz.func208,Tryz.ntmps208
  go_wp2_with fail;refine(cX 3 _).mono ?_;rintro e w1 ⟨rfl,hb1⟩;go_wp2_with fail;exact⟨rfl,rV,hb0.trans (hb1.mono hb0.size)⟩
end Go.Proofs.YthenjegmigeieaaGreat
