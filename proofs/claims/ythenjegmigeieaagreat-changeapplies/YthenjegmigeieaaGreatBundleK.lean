/- Own texts, one behind the other (part 11). -/
import Derived.Test.YthenjegmigeieaaGreatBundleJ
import Derived.Test.YthenjegmigeieaaGreatRows
import Derived.ArgAppend
set_option maxRecDepth 100000
set_option maxHeartbeats 8000000
namespace Go.Proofs.YthenjegmigeieaaGreat
open Go.RowKit
def FromOk(w0 wF:World)(m FB:Nat)(vt vb vf:Value)(r:Sc.Rule)(facts:List Rl.Fc)(kf:Nat):Prop:=
 ∀(i:Nat)(y:Ru.Way)(s:Ru.Out)(q:List (List Int×Value))(vo:Value)(B:Nat)(vn vs:Value)(w:World),Kp w0.heap.size FB wF w→FindI FB vt vb vf r s q vo w→FB<B→Rows2 B w vn vs m y→i≤r.body.length→r.body.length<i+kf→s.1.length≤2000→
  Calls Tryz.prog 60 #[.pointer (some ⟨FB,0,none⟩), .int .i64 (i:Nat),vn,vs] w fun e w'=>e=.returned (.tuple #[])∧(∃q' vo',FindI FB vt vb vf r (Ru.runO s (Ru.fromN facts r.body kf i y)) q' vo' w')∧Kp w0.heap.size FB w w'
structure FromIn (w0 wF:World) (m FB:Nat) (vb vf:Value) (r:Sc.Rule) (facts:List Rl.Fc):Prop where
 lo:w0.heap.size≤FB
 b:PLitsV w0 vb r.body
 f:∀w,Kp w0.heap.size FB wF w→FactsV w vf facts
 base:Below w0.heap.size w0 wF
 fl:facts.length≤1000000
 ff:∀f,f∈facts→FFit f
 fn:∀f,f∈facts→∀n,n∈f.args→Sc.isNum n=true
 l:∀l,l∈r.body→Ru.LitFine facts m l
 b4:r.body.length≤4
 m8:m≤8
structure NbR (NB:Nat) (w w':World):Prop where
 os:w'.os=w.os
 tape:w'.tape=w.tape
 output:w'.output=w.output
 size:w.heap.size≤w'.heap.size
 block:∀k,k<w.heap.size→¬k=NB→w'.heap[k]?=w.heap[k]?
theorem NbR.trans{NB:Nat}{a b c:World}(h:NbR NB a b)(k:NbR NB b c):NbR NB a c:=⟨k.os.trans h.os,k.tape.trans h.tape,k.output.trans h.output,aX h.size k.size,fun j hj hne=>(k.block j (bP hj h.size) hne).trans (h.block j hj hne)⟩
theorem NbR.of_below{NB:Nat}{w w':World}(h:Below w.heap.size w w'):NbR NB w w':=⟨h.os,h.tape,h.output,h.size,fun k hk _=>h.block k hk⟩
theorem NbR.set{NB:Nat}(w:World)(o:Nat)(v:Value):NbR NB w (w.setCell ⟨NB,o,none⟩ v):=⟨rfl,rfl,rfl,by simp,fun _ _ hne=>bH hne⟩
theorem NbR.cell{NB:Nat}{w w':World}(h:NbR NB w w'){b o:Nat}{v:Value}(hc:w.cell? ⟨b,o,none⟩=some v)(hne:¬b=NB):w'.cell? ⟨b,o,none⟩=some v:=(fP (a:=⟨b,o,none⟩) (h.block b (dX w _ hc) hne)).trans hc
theorem yG{P:Program}{o:Oper}{a:Act}{w w':World}{K:Act→World→Prop}{Q:Exit→Act→World→Prop}(hr:(execOp a.eval o).run P w=.ok .skip w')(hk:K (a.put o.dst undef) w'):o.wp P a w K Q:=by unfold Oper.wp;rw[hr,Oper.upon_skip];exact hk
def from21W(i:Nat):Bool:=i==12
def from21Tv(NB SB TB XB gb goff t v:Nat)(an1:Int)(VN VS VA:Value):Nat→Value
 |143=>VN
 |144=>.pointer (some ⟨TB,0,none⟩)
 |145=>.int .i64 (v:Nat)
 |146=>VS
 |147=>.pointer (some ⟨TB,0,none⟩)
 |148=>.int .i64 (v:Nat)
 |149=>.pointer (some ⟨XB,1,none⟩)
 |150=>VA
 |151=>.int .i64 (t:Nat)
 |152=>.pointer (some ⟨gb,goff+t,none⟩)
 |153=>.int .i64 an1
 |154=>.pointer (some ⟨NB,v,none⟩)
 |155=>.pointer (some ⟨SB,v,none⟩)
 |_=>.bool false
theorem aB5(w0 wF:World)(m FB:Nat)(vt vb vf:Value)(r:Sc.Rule)(facts:List Rl.Fc)(kf:Nat)(hF:FromIn w0 wF m FB vb vf r facts)(IH:FromOk w0 wF m FB vt vb vf r facts kf):FromOk w0 wF m FB vt vb vf r facts (kf+1):=by
 intro i y s q vo B vn vs w hK1 hFI hFB hR hi hik hsl;have hw0:Below w0.heap.size w0 w:=Kp.below hK1 hF.base;have HKF:Hid _:=hK1;clear hK1;obtain⟨i3,h30,h31,h32,h33⟩:=info_parts kS;obtain⟨i4,h40,h41,h42,h43⟩:=info_parts xK;obtain⟨sl,many⟩:=s;obtain⟨ab,cb,rfl,hBA⟩:=id hF.b;obtain⟨af,cf,rfl,hfc,_⟩:=id (hF.f wF (Kp.refl _ _ _));(have f7:w.cell? ⟨FB,7,none⟩=some (.bool many):=by rw[aC hFI.b];rfl);obtain⟨an,cn,rfl⟩:=aZ hR.n;obtain⟨as_,cs,rfl⟩:=aZ hR.s;have HF:Hid _:=hF;have HBA:Hid _:=hBA;have HW0:Hid _:=hw0;have HIH:Hid _:=IH;have HFI:Hid (FindI FB vt (.slice ab r.body.length cb) (.slice af facts.length cf) r (sl,many) q vo w):=hFI;have HR:Hid (Rows2 B w (.slice an m cn) (.slice as_ m cs) m y):=hR;have hm8:=hF.m8;have hb4:=hF.b4;have hfl:=hF.fl;have hszF:=hFI.lt;clear hF hBA hw0 IH hFI hR
 cases many with
 |true=>
  have HE:Hid (Ru.runO (sl,true) (Ru.fromN facts r.body (kf+1) i y)=(sl,true)):=Ru.runO_many rfl _
  go_enter Tryz.func60,Tryz.ntmps60
  go_wp2_with fail;refine bodyPost_ret (results_none rfl _ _ _) rfl ?_;exact⟨rfl,⟨q,vo,by rw[HE.out];exact HFI.out⟩,Kp.refl _ _ _⟩
 |false=>
  have hb1:Below w.heap.size w (w.alloc (.cells #[] 3)):=cJ _ _;have hBsz:B≤B:=aF _
  go_enter Tryz.func60,Tryz.ntmps60
  go_wp2_with(at_builtin;refine nX rfl (.tmp 20) (.tmp 21) 22 3 i3 _ 8 rfl Tryz.underlying22 h30 h31 h32 h33 rfl dE w.heap.size B m _ _ _ rfl rfl (fL w #[] 0 (aF _) (aR _) sI) (HR.out.n.alloc _) (fun c hc=>by obtain⟨n,_,rfl⟩:=bO.mp hc;rfl) oM hb1.size ?_);intro v1 w1 hn1 hg1;have hB1:Below w.heap.size w w1:=hb1.grown hg1 hb1.size (fun kQ hk=>by have :w.heap.size=kQ:=(by simpa[Value.ownBlock]using hk);omega);obtain⟨a1,c1,rfl⟩:=aZ hn1;have HR1:Hid (Rows2 B w1 (.slice an m cn) (.slice as_ m cs) m y):=HR.out.below hB1;have hb2:Below w1.heap.size w1 (w1.alloc (.cells #[] 4)):=cJ _ _;have HN1:Hid (w1.ownsRow w.heap.size 3 1 (.slice a1 m c1) m (y.nums.map (Value.int .i64))):=hn1;have HB1:Hid _:=hB1;have hsz1:=hB1.size;clear hn1 hg1 hB1 hb1;go_wp2_with(at_builtin;refine nX rfl (.tmp 23) (.tmp 24) 57 4 i4 _ 1 rfl Tryz.underlying57 h40 h41 h42 h43 rfl dE w.heap.size B m _ _ _ rfl rfl (fL w1 #[] 0 hsz1 (aR _) sI) (HR1.out.s.alloc _) (fun c hc=>by obtain⟨n,_,rfl⟩:=bO.mp hc;rfl) oM (aX hsz1 hb2.size) ?_);intro v2 w2 hs2 hg2;obtain⟨a2,c2,rfl⟩:=aZ hs2;have HB2:Hid (Below w.heap.size w w2):=(HB1.out.trans (hb2.mono hsz1)).grown hg2 (aX hsz1 hb2.size) (fun kQ hk=>by have :w1.heap.size=kQ:=(by simpa[Value.ownBlock]using hk);omega);have HR2:Hid (Rows2 w.heap.size w2 (.slice a1 m c1) (.slice a2 m c2) m y):=⟨fF HN1.out (fun k c hk=>(hg2.block k (bP (aY hk) hb2.size) (fun e=>by
   have h9:w1.heap.size=k:=(by simpa[Value.ownBlock]using e.symm);have :=aY hk
   omega)).trans ((hb2.block k (aY hk)).trans hk)),hs2,HR1.out.ok⟩
  clear hs2 hg2 hb2 HN1 HB1 HR1 HR hsz1;have HFI2:Hid (FindI FB vt (.slice ab r.body.length cb) (.slice af facts.length cf) r (sl,false) q vo w2):=HFI.out.below HB2.out;have HW2:Hid (Below w0.heap.size w0 w2):=HW0.out.trans (HB2.out.mono HW0.out.size);have HRK:Hid _:=aAS w0 w.heap.size m FB facts r vt (.slice ab r.body.length cb) (.slice af facts.length cf) vo (.slice a1 m c1) (.slice a2 m c2) false y w2 HW0.out.size hszF HB2.out.size HW2.out HFI2.out.b HF.out.b hb4 HF.out.l hm8 HR2.out;go_wp2_with fail;refine Calls.mono HRK.out ?_;rintro e w3 ⟨he,hb3⟩;have HB3:Hid (Below w.heap.size w w3):=HB2.out.trans hb3;clear hb3 HRK HR2 HB2 HFI2 HW2;rcases he with⟨hrk,rfl⟩|⟨y1,hrk,rfl,hR3⟩
  ·have HE:Hid (Ru.fromN facts r.body (kf+1) i y=[]):=Ru.fromN_none hrk;clear hrk;go_wp2_with fail;refine bodyPost_ret (results_none rfl _ _ _) rfl ?_;exact⟨rfl,⟨q,vo,by rw[HE.out];exact HFI.out.below HB3.out⟩,Kp.of_below HB3.out HW0.out.size⟩
  have HRK:Hid _:=hrk;have HR3:Hid _:=hR3;have HFI3:Hid (FindI FB vt (.slice ab r.body.length cb) (.slice af facts.length cf) r (sl,false) q vo w3):=HFI.out.below HB3.out;have HW3:Hid (Below w0.heap.size w0 w3):=HW0.out.trans (HB3.out.mono HW0.out.size);have HWR:Hid _:=aBT m FB facts r vt (.slice ab r.body.length cb) (.slice af facts.length cf) vo (.slice a1 m c1) (.slice a2 m c2) false y1 w3 HFI3.out.b (fR HF.out.b HW3.out) (HF.out.f w3 (HKF.out.trans (Kp.of_below HB3.out HW0.out.size))) hfl HF.out.ff hb4 HF.out.l HR3.out.ints HR3.out.bools HR3.out.ok;clear hrk hR3;go_wp2_with fail;refine Calls.mono HWR.out ?_;rintro e w4 ⟨rfl,hb4w⟩;have HB4:Hid (Below w.heap.size w w4):=HB3.out.trans (hb4w.mono HB3.out.size);have HR4:Hid (Rows2 w.heap.size w4 (.slice a1 m c1) (.slice a2 m c2) m y1):=HR3.out.below hb4w;clear HWR HR3 HFI3 HW3 HB3 hb4w;cases hwr:Ru.wrong facts r.body y1
  ·have HWF:Hid _:=hwr;clear hwr;have HFI4:Hid (FindI FB vt (.slice ab r.body.length cb) (.slice af facts.length cf) r (sl,false) q vo w4):=HFI.out.below HB4.out;have HW4:Hid (Below w0.heap.size w0 w4):=HW0.out.trans (HB4.out.mono HW0.out.size);(have f3:w4.cell? ⟨FB,3,none⟩=some (.slice ab r.body.length cb):=by rw[aC HFI4.out.b];rfl);go_wp2_with fail;go_loopw [1] (fun iv wr=>w4=wr∧∃j:Nat,i≤j∧j≤r.body.length∧iv=.int .i64 j∧Hid (Ru.skipTo r.body i=Ru.skipTo r.body j)) (fun iv _=>r.body.length-(intOf iv).toNat);case atStart=>exact⟨rfl,i,aF _,hi,rfl,rfl⟩
   case round=>
    obtain⟨rfl,j,hij,hj,rfl,HSK⟩:=hrel;by_cases hlt:j<r.body.length
    ·obtain⟨b,off,rfl,q0,q1,q2,vtl,q3,hT⟩:=jK HBA.out j hlt;have p0:=aD HW4.out q0;have HSL:Hid _:=Ru.skipTo_lt hlt;have glt:decide ((j:Int)<(r.body.length:Int))=true:=decide_eq_true oM;by_cases hk1:(Sc.litD r.body j).kind=1
     ·(have gk:((Sc.litD r.body j).kind != 1)=false:=by simpa using hk1);(have HSJ:Hid (Ru.skipTo r.body i=j):=by show _=_;rw[HSK.out,HSL.out,if_pos hk1]);have HK1:Hid _:=hk1;(have geq:((j:Int)==(r.body.length:Int))=false:=by simp;omega);have HMEM:Hid (Sc.litD r.body j∈r.body):=dL (mV hlt);have p1:=aD HW4.out q1;have p2:=aD HW4.out q2;have p3:=aD HW4.out q3;have HT:Hid _:=hT;obtain⟨at_,ct,rfl,hct,hTA⟩:=hT;have HTA:Hid _:=hTA;clear q0 q1 q2 q3 hTA hk1 HSL;generalize hlg:Sc.litD r.body j=l at *;have HLG:Hid _:=hlg;clear hlg;go_upto_region 10 with fail;(have HFN:Hid (Ru.fromN facts r.body (kf+1) i y=facts.flatMap (Ru.fromF facts r.body kf j y1)):=by show _=_;rw[Ru.fromN_go HRK.out HWF.out (by rw[HSJ.out];exact hlt),HSJ.out]);have hba:=cJ w4 (.cells #[.int .i64 l.kind, .int .i64 l.op, .int .i64 l.pred, .slice at_ l.terms.length ct] 49);have HLB:Hid _:=heap_alloc_new w4 (.cells #[.int .i64 l.kind, .int .i64 l.op, .int .i64 l.pred, .slice at_ l.terms.length ct] 49);have HBL:Hid (Below w.heap.size w (w4.alloc (.cells #[.int .i64 l.kind, .int .i64 l.op, .int .i64 l.pred, .slice at_ l.terms.length ct] 49))):=HB4.out.trans (hba.mono HB4.out.size);have HFL:Hid (FindI FB vt (.slice (some ⟨b,off,none⟩) r.body.length cb) (.slice af facts.length cf) r (sl,false) q vo (w4.alloc (.cells #[.int .i64 l.kind, .int .i64 l.op, .int .i64 l.pred, .slice at_ l.terms.length ct] 49))):=HFI4.out.below hba;have HRL:Hid (Rows2 w.heap.size (w4.alloc (.cells #[.int .i64 l.kind, .int .i64 l.op, .int .i64 l.pred, .slice at_ l.terms.length ct] 49)) (.slice a1 m c1) (.slice a2 m c2) m y1):=HR4.out.below hba;(have HLN:Hid (¬w4.heap.size=FB):=by have h9:=HFI4.out.lt;show¬_;omega);have HFINE:Hid _:=HF.out.l _ HMEM.out;clear p0 p1 p2 p3 f3 hba HFI4 HR4 HB4 HW4;generalize hLBn:w4.heap.size=LB at *;generalize w4.alloc (.cells #[.int .i64 l.kind, .int .i64 l.op, .int .i64 l.pred, .slice at_ l.terms.length ct] 49)=wl at *;clear hLBn;have HWL:Hid (Below w0.heap.size w0 wl):=HW0.out.trans (HBL.out.mono HW0.out.size);go_wp2_with fail;go_loopw [9] (fun kv wr=>∃(k:Nat)(s':Ru.Out)(q':List (List Int×Value))(vo':Value),k≤facts.length∧kv=.int .i64 k∧Hid (s'=Ru.runO (sl,false) ((facts.take k).flatMap (Ru.fromF facts r.body kf j y1)))∧Hid (FindI FB vt (.slice (some ⟨b,off,none⟩) r.body.length cb) (.slice af facts.length cf) r s' q' vo' wr)∧Hid (Kp w0.heap.size FB wl wr)) (fun kv _=>facts.length-(intOf kv).toNat);case atStart=>exact⟨0,(sl,false),q,vo,aR _,rfl,rfl,HFL.out,Kp.refl _ _ _⟩
      case round=>
       obtain⟨k,s',q',vo',hk,rfl,HSK',HFK,HKK⟩:=hrel;(have f5:wr.cell? ⟨FB,5,none⟩=some (.slice af facts.length cf):=by rw[aC HFK.out.b];rfl);(have f7k:wr.cell? ⟨FB,7,none⟩=some (.bool s'.2):=by rw[aC HFK.out.b];rfl);have HKW:Hid (Kp w0.heap.size FB w wr):=(Kp.of_below HBL.out HW0.out.size).trans HKK.out;by_cases hkl:k<facts.length
       ·(have HSPL:Hid (facts.flatMap (Ru.fromF facts r.body kf j y1)=(facts.take k).flatMap (Ru.fromF facts r.body kf j y1)++(facts.drop k).flatMap (Ru.fromF facts r.body kf j y1)):=by show _=_;rw[←List.flatMap_append,eV]);have gkl:decide ((k:Int)<(facts.length:Int))=true:=decide_eq_true oM;have gkn:decide (k<facts.length)=true:=decide_eq_true hkl;cases hmn:s'.2
        ·rw[hmn]at f7k;have hFV9:=HF.out.f wr (HKF.out.trans HKW.out);obtain⟨af9,cf9,hv9,_,hFA9⟩:=hFV9;injection hv9 with e9 _ _;subst e9;obtain⟨fb,foff,rfl,f0,fv,f1,hIv⟩:=eY hFA9 k hkl;have hmem:=eP facts k hkl;have HWR:Hid (Below w0.heap.size w0 wr):=Kp.below HKK.out HWL.out;have z0:=f0;have z1:=f1;have HTK:Hid ((facts.take (k+1)).flatMap (Ru.fromF facts r.body kf j y1)=(facts.take k).flatMap (Ru.fromF facts r.body kf j y1)++Ru.fromF facts r.body kf j y1 (Rl.factD facts k)):=by
          show _=_;rw[cY,jQ facts k hkl,List.flatMap_append]
          congr 1
          exact List.flatMap_singleton _ _
         have HLEN:Hid ((Rl.factD facts k).pred=l.pred→l.terms.length=(Rl.factD facts k).args.length):=fun h=>HFINE.out.i.a HK1.out _ hmem h;have HANM:Hid (∀n,n∈(Rl.factD facts k).args→Sc.isNum n=true):=HF.out.fn _ hmem;have HAI:Hid _:=hIv;obtain⟨ai,ci,rfl,hIA⟩:=hIv;have HIA:Hid _:=hIA;have HM2:Hid _:=hmn;(have dl2:wr.cell? ⟨LB,2,none⟩=some (.int .i64 l.pred):=by rw[aC (HKK.out.keep _ _ _ HLB.out HLN.out dE)];rfl);clear f0 f1 hIA hmem hmn hFA9;generalize hfk:Rl.factD facts k=ff at *;obtain⟨fp,fa⟩:=ff;dsimp only at *;clear hfk;go_upto_region 14 with fail;have hbx:=cJ wr (.cells #[.int .i64 fp, .slice ai fa.length ci] 55);have HXB:Hid _:=heap_alloc_new wr (.cells #[.int .i64 fp, .slice ai fa.length ci] 55);have HFX:Hid (FindI FB vt (.slice (some ⟨b,off,none⟩) r.body.length cb) (.slice (some ⟨fb,foff,none⟩) facts.length cf) r s' q' vo' (wr.alloc (.cells #[.int .i64 fp, .slice ai fa.length ci] 55))):=HFK.out.below hbx;have HKX:Hid (Kp w0.heap.size FB wl (wr.alloc (.cells #[.int .i64 fp, .slice ai fa.length ci] 55))):=HKK.out.trans (Kp.of_below hbx HWR.out.size);have HRX:Hid (Rows2 w.heap.size (wr.alloc (.cells #[.int .i64 fp, .slice ai fa.length ci] 55)) (.slice a1 m c1) (.slice a2 m c2) m y1):=HRL.out.keep HKX.out hszF;have HWX:Hid (Below w0.heap.size w0 (wr.alloc (.cells #[.int .i64 fp, .slice ai fa.length ci] 55))):=HWR.out.trans (hbx.mono HWR.out.size);have dl2x:=aD hbx dl2;have HLX:Hid _:=HKX.out.keep _ _ _ HLB.out HLN.out dE;have HXF:Hid (FB<wr.heap.size):=HFK.out.lt;have HCX:Hid (∀z,Below (wr.alloc (.cells #[.int .i64 fp, .slice ai fa.length ci] 55)).heap.size (wr.alloc (.cells #[.int .i64 fp, .slice ai fa.length ci] 55)) z→∀(b o:Nat)(u:Value),wr.cell? ⟨b,o,none⟩=some u→z.cell? ⟨b,o,none⟩=some u):=fun z hz b o u hc=>aD (hbx.trans (hz.mono hbx.size)) hc;clear z0 z1 f5 f7k dl2 hbx;generalize hXBn:wr.heap.size=XB at *;generalize wr.alloc (.cells #[.int .i64 fp, .slice ai fa.length ci] 55)=wx at *;have HXBn:Hid _:=hXBn;clear hXBn;(have x0:wx.cell? ⟨XB,0,none⟩=some (.int .i64 fp):=by rw[aC HXB.out];rfl);by_cases hpe:fp=l.pred
         ·(have gp:(fp != l.pred)=false:=by simpa using hpe);have HLE2:Hid (l.terms.length=fa.length):=HLEN.out hpe;have hts:=HFINE.out.s;have HPE:Hid _:=hpe;have hb1:Below wx.heap.size wx (wx.alloc (.cells #[] 3)):=cJ _ _;have hWB:w.heap.size≤wx.heap.size:=aX HBL.out.size HKX.out.size;clear hpe;go_wp2_with(at_builtin;refine nX rfl (.tmp 122) (.tmp 123) 22 3 i3 _ 8 rfl Tryz.underlying22 h30 h31 h32 h33 rfl dE wx.heap.size w.heap.size m _ _ _ rfl rfl (fL wx #[] 0 (aF _) (aR _) sI) (HRX.out.n.alloc _) (fun c hc=>by obtain⟨n,_,rfl⟩:=bO.mp hc;rfl) oM hb1.size ?_);intro v1 w6 hn1 hg1;have hB1:Below wx.heap.size wx w6:=hb1.grown hg1 hb1.size (fun kQ hk=>by have :wx.heap.size=kQ:=(by simpa[Value.ownBlock]using hk);omega);obtain⟨am,cm,rfl⟩:=aZ hn1;have HRX6:Hid (Rows2 w.heap.size w6 (.slice a1 m c1) (.slice a2 m c2) m y1):=HRX.out.below hB1;have hb2:Below w6.heap.size w6 (w6.alloc (.cells #[] 4)):=cJ _ _;have HN6:Hid (w6.ownsRow wx.heap.size 3 1 (.slice am m cm) m (y1.nums.map (Value.int .i64))):=hn1;have HB6:Hid _:=hB1;have hsz6:=hB1.size;clear hn1 hg1 hB1 hb1 x0 dl2x;go_wp2_with(at_builtin;refine nX rfl (.tmp 125) (.tmp 126) 57 4 i4 _ 1 rfl Tryz.underlying57 h40 h41 h42 h43 rfl dE wx.heap.size w.heap.size m _ _ _ rfl rfl (fL w6 #[] 0 hsz6 (aR _) sI) (HRX6.out.s.alloc _) (fun c hc=>by obtain⟨n,_,rfl⟩:=bO.mp hc;rfl) oM (aX hsz6 hb2.size) ?_);intro v2 w7 hs2 hg2;obtain⟨aw,cw,rfl⟩:=aZ hs2;have HB7:Hid (Below wx.heap.size wx w7):=(HB6.out.trans (hb2.mono hsz6)).grown hg2 (aX hsz6 hb2.size) (fun kQ hk=>by have :w6.heap.size=kQ:=(by simpa[Value.ownBlock]using hk);omega);have HR7:Hid (Rows2 wx.heap.size w7 (.slice am m cm) (.slice aw m cw) m y1):=⟨fF HN6.out (fun k c hk=>(hg2.block k (bP (aY hk) hb2.size) (fun e=>by
           have h9:w6.heap.size=k:=(by simpa[Value.ownBlock]using e.symm);have :=aY hk
           omega)).trans ((hb2.block k (aY hk)).trans hk)),hs2,HRX6.out.ok⟩
          clear hs2 hg2 hb2 HN6 HB6 HRX6 hsz6;have HNN:Hid (∀z:World,Below wx.heap.size wx z→z.cell? ⟨LB,3,none⟩=some (.slice at_ l.terms.length ct)∧z.cell? ⟨XB,1,none⟩=some (.slice ai fa.length ci)):=fun z hz=>⟨aD hz (by rw[aC HLX.out];rfl),aD hz (by rw[aC HXB.out];rfl)⟩;go_wp2_with fail;go_loopw [13,14] (fun okv tv wr=>∃(t:Nat)(z:Ru.Way)(ok:Bool),t≤l.terms.length∧tv=.int .i64 t∧okv=.bool ok∧Hid (Ru.withW y1 l.terms fa=if ok=true then Ru.withW z (l.terms.drop t) (fa.drop t)else none)∧Hid (Rows2 wx.heap.size wr (.slice am m cm) (.slice aw m cw) m z)∧Hid (Below wx.heap.size wx wr)) (fun _ tv _=>l.terms.length-(intOf tv).toNat);case atStart=>exact⟨0,y1,true,aR _,rfl,rfl,by show _=_;rw[if_pos rfl,cW,cW],HR7.out,HB7.out⟩
          case round=>
           clear HR7 HB7;obtain⟨t,z,ok,ht,rfl,rfl,HWW,HRZ,HBZ⟩:=hrel;obtain⟨xl3,xx1⟩:=HNN.out wr HBZ.out;by_cases htl:t<l.terms.length
           ·have gtl:decide ((t:Int)<(l.terms.length:Int))=true:=decide_eq_true oM;have gtn:decide (t<l.terms.length)=true:=decide_eq_true htl;cases ok
            ·(have HNONE:Hid (Ru.withW y1 l.terms fa=none):=by show _=_;rw[HWW.out];rfl);(have HTK2:Hid (s'=Ru.runO (sl,false) ((facts.take (k+1)).flatMap (Ru.fromF facts r.body kf j y1))):=by show _=_;rw[HTK.out,Ru.runO_append,←HSK'.out];unfold Ru.fromF;rw[HLG.out,if_pos HPE.out,HNONE.out];rfl);go_wp2_with fail;go_roundw;(case rel=>exact⟨k+1,s',q',vo',hkl,gN,HTK2.out,HFX.out.below HBZ.out,HKX.out.trans (Kp.of_below HBZ.out HWX.out.size)⟩);case measure=>exact mI
            obtain⟨tb,toff,rfl,hc⟩:=fG HTA.out t htl;obtain⟨hc0,hc1⟩:=hc t htl;obtain⟨gb,goff,rfl,hga⟩:=fX HIA.out (show t<fa.length by have :=HLE2.out;omega);(have htf:t<fa.length:=by have :=HLE2.out;omega);have HWZ:Hid (Below w0.heap.size w0 wr):=HWX.out.trans (HBZ.out.mono HWX.out.size);have y0:=aD HWZ.out hc0;have y1c:=aD HWZ.out hc1;have HTIN:Hid (Ru.TermIn m (Sc.termD l.terms t)):=HFINE.out.i.t _ (Ru.termD_mem htl);(have HST:Hid (Ru.withW y1 l.terms fa=match Ru.with1 z (Sc.termD l.terms t) (Sc.intD fa t)with |none=>none|some y'=>Ru.withW y' (l.terms.drop (t+1)) (fa.drop (t+1))):=by show _=_;rw[HWW.out,if_pos rfl];exact Ru.withW_drop z l.terms fa t htl);have HAN:Hid (Sc.isNum (Sc.intD fa t)=true):=HANM.out _ (by unfold Sc.intD;rw[aE,aG (by have :=HLE2.out;omega)];exact cR _);have HGA:Hid _:=hga;clear hc hc0 hc1 hga;generalize Sc.intD fa t=an1 at *;generalize Sc.termD l.terms t=tm at *;obtain⟨tv,tn⟩:=tm;dsimp only at *;go_upto_region 22 with fail;have hbt:=cJ wr (.cells #[.int .i64 tv, .int .i64 tn] 147);have HTB:Hid _:=heap_alloc_new wr (.cells #[.int .i64 tv, .int .i64 tn] 147);have HRT:Hid (Rows2 wx.heap.size (wr.alloc (.cells #[.int .i64 tv, .int .i64 tn] 147)) (.slice am m cm) (.slice aw m cw) m z):=HRZ.out.below hbt;have HBT:Hid (Below wx.heap.size wx (wr.alloc (.cells #[.int .i64 tv, .int .i64 tn] 147))):=HBZ.out.trans (hbt.mono HBZ.out.size);clear xl3 xx1 y0 y1c HRZ HBZ hbt HWZ;generalize hTBn:wr.heap.size=TB at *;generalize wr.alloc (.cells #[.int .i64 tv, .int .i64 tn] 147)=wt at *;clear hTBn;(have b0:wt.cell? ⟨TB,0,none⟩=some (.int .i64 tv):=by rw[aC HTB.out];rfl);(have b1:wt.cell? ⟨TB,1,none⟩=some (.int .i64 tn):=by rw[aC HTB.out];rfl);obtain⟨_,xx1⟩:=HNN.out wt HBT.out;have ga:=HCX.out wt HBT.out _ _ _ HGA.out;by_cases hv0:tv<0
            ·have gv:decide (tv<0)=true:=decide_eq_true hv0;have HW1:Hid (Ru.with1 z ⟨tv,tn⟩ an1=if tn=an1 then some z else none):=Ru.with1_neg hv0;clear hv0;obtain⟨eb,heb⟩:∃eb,(tn==an1)=eb:=⟨_,rfl⟩;have HWN:Hid (Ru.withW y1 l.terms fa=if eb=true then Ru.withW z (l.terms.drop (t+1)) (fa.drop (t+1))else none):=by
              show _=_;rw[HST.out,HW1.out,←heb];by_cases he:tn=an1
              ·rw[if_pos he,if_pos (by simpa using he)]
              rw[if_neg he,if_neg (by simpa using he)]
             go_upto_region 23 with fail;go_quiet(fail);go_wp2_with fail;go_roundw;(case rel=>exact⟨t+1,z,eb,htl,gN,by first|rfl|rw[heb],HWN.out,HRT.out.below (bY _ _),HBT.out.trans ((bY _ _).mono HBT.out.size)⟩);case measure=>exact mI
            have gv:decide (tv<0)=false:=decide_eq_false hv0;obtain⟨v,rfl⟩:∃v:Nat,tv=v:=⟨tv.toNat,oM⟩;(have hvm:v<m:=by rcases HTIN.out with h|h<;>(dsimp only at h;omega));obtain⟨NB,SB,cN,cS,e1,e2,hNB,hSB,hne⟩:=HRT.out.forms oM;injection e1 with e1 _ e3;injection e2 with e2 _ e4;subst e1 e2 e3 e4;have hnl:=HRT.out.ok.wf.n;have hkl2:=HRT.out.ok.wf.k;(have cNv:wt.cell? ⟨NB,v,none⟩=some (.int .i64 (z.nums.getD v 0)):=by rw[World.ownsRow.cellAt HRT.out.n v oM,bK,aG oM,aE,aG oM];rfl);(have cSv:wt.cell? ⟨SB,v,none⟩=some (.bool (z.known.getD v false)):=by rw[World.ownsRow.cellAt HRT.out.s v oM,bK,aG oM,aE,aG oM];rfl);cases hkv:z.known.getD v false
            ·have HW1:Hid (Ru.with1 z ⟨v,tn⟩ an1=some ⟨z.nums.set v an1,z.known.set v true⟩):=Ru.with1_nw hkv;rw[hkv]at cSv;clear hv0;go_upto_region 21 with fail;have HNB0':∃cur,wt.heap[NB]?=some (.cells cur 3):=by
              rcases id HRT.out.n.2 with⟨h0,_⟩|⟨g,cap,cur,hv,_,hg,_⟩
              ·cases h0
              injection hv with e1;injection e1 with e1;injection e1 with e1;subst e1;exact⟨cur,hg⟩
             have HSB0':∃cur,wt.heap[SB]?=some (.cells cur 4):=by
              rcases id HRT.out.s.2 with⟨h0,_⟩|⟨g,cap,cur,hv,_,hg,_⟩
              ·cases h0
              injection hv with e1;injection e1 with e1;injection e1 with e1;subst e1;exact⟨cur,hg⟩
             obtain⟨cur3,hNB0⟩:=HNB0';obtain⟨cur4,hSB0⟩:=HSB0';have HNB0:Hid (wt.heap[NB]?=some (.cells cur3 3)):=hNB0;have HSB0:Hid (wt.heap[SB]?=some (.cells cur4 4)):=hSB0;clear hNB0 hSB0;obtain⟨oN,hoN⟩:∃oN,(wt.setCell ⟨NB,v,none⟩ (.int .i64 an1)).heap[NB]?=some oN:=⟨_,bL HNB0.out _⟩;have HON:Hid ((wt.setCell ⟨NB,v,none⟩ (.int .i64 an1)).heap[NB]?=some oN):=hoN;clear hoN;(have HTN:Hid (¬TB=NB):=fun e=>by have h9:=HTB.out;rw[e,HNB0.out]at h9;injection h9 with h9;injection h9 with _ h9;cases h9);(have HXN:Hid (¬XB=NB):=fun e=>by have h9:=HXB.out;have :=aY h9;omega);(have HGN:Hid (¬gb=NB):=fun e=>by have h7:=dX _ _ HGA.out;have h8:=aY HXB.out;have h9:=HXBn.out;dsimp only at h7;omega);refine mA (NbR NB) (fun _ _ _ h k=>h.trans k) (fun _ _ h=>NbR.of_below h) (fun tQ vQ _=>vQ=from21Tv NB SB TB XB gb goff t v an1 (.slice (some ⟨NB,0,none⟩) m cm) (.slice (some ⟨SB,0,none⟩) m cw) (.slice (some ⟨gb,goff,none⟩) fa.length ci) tQ) (fun _ wQ=>wQ.heap[NB]?=some oN) 14 from21W (fun _ _=>true) dE kR kR kR (fun _ _ _ _ _ h=>h) (fun _ _ _ hb h=>(hb.block _ (aY h)).trans h) (fun _ _ _ _ _ _ _ _ h=>h) ?hopA ?htailA;case hopA=>refine AllOpsI.cons (fun a y_ h hO=>by rw[if_neg dE];have e11:a.eval (.tmp 11)=(.slice (some ⟨NB,0,none⟩) m cm:Value):=h.old 11;exact opX (.slice (some ⟨NB,0,none⟩) m cm)) ?_;refine AllOpsI.cons (fun a y_ h hO=>by rw[if_neg dE];have e15:a.eval (.tmp 15)=(.pointer (some ⟨TB,0,none⟩):Value):=h.old 15;exact opX (.pointer (some ⟨TB,0,none⟩))) ?_;refine AllOpsI.cons (fun a y_ h hO=>by rw[if_neg dE];have e144:a.eval (.tmp 144)=(.pointer (some ⟨TB,0,none⟩):Value):=h.of 144;have c0:=h.below.cell b0 HTN.out;exact opX (.int .i64 (v:Nat))) ?_;refine AllOpsI.cons (fun a y_ h hO=>by rw[if_neg dE];have e12:a.eval (.tmp 12)=(.slice (some ⟨SB,0,none⟩) m cw:Value):=h.old 12;exact opX (.slice (some ⟨SB,0,none⟩) m cw)) ?_;refine AllOpsI.cons (fun a y_ h hO=>by rw[if_neg dE];have e15:a.eval (.tmp 15)=(.pointer (some ⟨TB,0,none⟩):Value):=h.old 15;exact opX (.pointer (some ⟨TB,0,none⟩))) ?_;refine AllOpsI.cons (fun a y_ h hO=>by rw[if_neg dE];have e147:a.eval (.tmp 147)=(.pointer (some ⟨TB,0,none⟩):Value):=h.of 147;have c0:=h.below.cell b0 HTN.out;exact opX (.int .i64 (v:Nat))) ?_;refine AllOpsI.cons (fun a y_ h hO=>by rw[if_neg dE];have e10:a.eval (.tmp 10)=(.pointer (some ⟨XB,0,none⟩):Value):=h.old 10;exact opX (.pointer (some ⟨XB,1,none⟩))) ?_;refine AllOpsI.cons (fun a y_ h hO=>by rw[if_neg dE];have e149:a.eval (.tmp 149)=(.pointer (some ⟨XB,1,none⟩):Value):=h.of 149;have c0:=h.below.cell xx1 HXN.out;exact opX (.slice (some ⟨gb,goff,none⟩) fa.length ci)) ?_;refine AllOpsI.cons (fun a y_ h hO=>by rw[if_neg dE];have e14:a.eval (.tmp 14)=(.int .i64 (t:Nat):Value):=h.old 14;exact opX (.int .i64 (t:Nat))) ?_;refine AllOpsI.cons (fun a y_ h hO=>by rw[if_neg dE];have e150:a.eval (.tmp 150)=(.slice (some ⟨gb,goff,none⟩) fa.length ci:Value):=h.of 150;have e151:a.eval (.tmp 151)=(.int .i64 (t:Nat):Value):=h.of 151;exact opX (.pointer (some ⟨gb,goff+t,none⟩))) ?_;refine AllOpsI.cons (fun a y_ h hO=>by rw[if_neg dE];have e152:a.eval (.tmp 152)=(.pointer (some ⟨gb,goff+t,none⟩):Value):=h.of 152;have c0:=h.below.cell ga HGN.out;exact opX (.int .i64 an1)) ?_;refine AllOpsI.cons (fun a y_ h hO=>by rw[if_neg dE];have e143:a.eval (.tmp 143)=(.slice (some ⟨NB,0,none⟩) m cm:Value):=h.of 143;have e145:a.eval (.tmp 145)=(.int .i64 (v:Nat):Value):=h.of 145;exact opX (.pointer (some ⟨NB,v,none⟩))) ?_;refine AllOpsI.cons (fun a y_ h hO=>by rw[if_pos dE];have e154:a.eval (.tmp 154)=(.pointer (some ⟨NB,v,none⟩):Value):=h.of 154;have e153:a.eval (.tmp 153)=(.int .i64 an1:Value):=h.of 153;have hpre:=h.pre kR;have cc:=aD hpre cNv;have hy:=(hpre.block _ (aY HNB0.out)).trans HNB0.out;have ff:=bQ hy v;(have hnew:(y_.setCell ⟨NB,v,none⟩ (.int .i64 an1)).heap[NB]?=some oN:=by rw[bL hy,←HON.out,bL HNB0.out]);refine⟨aM rfl,yG (w':=y_.setCell ⟨NB,v,none⟩ (.int .i64 an1)) ?_ ⟨undef,rfl,fun t ht=>(by cases ht),NbR.set _ _ _,fun _ _=>hnew,hnew⟩⟩;have ec:=evc a;generalize a.eval=ev at *;clear h hO;go_simp) ?_;refine AllOpsI.cons (fun a y_ h hO=>by rw[if_neg dE];have e146:a.eval (.tmp 146)=(.slice (some ⟨SB,0,none⟩) m cw:Value):=h.of 146;have e148:a.eval (.tmp 148)=(.int .i64 (v:Nat):Value):=h.of 148;exact opX (.pointer (some ⟨SB,v,none⟩))) ?_;exact AllOpsI.nil
             case htailA=>
              rintro⟨tm0,df⟩ w8 hI _;have e155:Act.eval ⟨tm0,df⟩ (.tmp 155)=.pointer (some ⟨SB,v,none⟩):=hI.of 13 _ 155 dE rfl rfl kR;have hN8:w8.heap[NB]?=some oN:=hI.wrote 12 dE rfl;have hsS:SB<wt.heap.size:=aY HSB0.out;have hS8:=(hI.below.block SB hsS hne).trans HSB0.out;have cS8:w8.cell? ⟨SB,v,none⟩=some (.bool false):=hI.below.cell cSv hne;have fS8:w8.frozen? ⟨SB,v,none⟩=false:=bQ hS8 v;have hsN:tm0.size=192:=hI.size;show wpOps Tryz.prog _ _ [14] _ _;rw[wpOps_cons];refine lL rfl (aM rfl) rfl (w':=w8.setCell ⟨SB,v,none⟩ (.bool true)) ?_ ?_
              ·show Sem.run Tryz.prog (execOp (Act.eval ⟨tm0,df⟩) _) w8=_;have ec:=evc ⟨tm0,df⟩;generalize Act.eval ⟨tm0,df⟩=ev at *;clear hI;go_simp
              have HR9:Hid (Rows2 wx.heap.size (w8.setCell ⟨SB,v,none⟩ (.bool true)) (.slice (some ⟨NB,0,none⟩) m cm) (.slice (some ⟨SB,0,none⟩) m cw) m ⟨z.nums.set v an1,z.known.set v true⟩):=by
               have hp:=HRT.out.put hne v an1 HAN.out;refine⟨dY hp.n (fun g hg=>?_),dY hp.s (fun g hg=>?_),hp.ok⟩
               ·have hgN:NB=g:=(by simpa[Value.ownBlock]using hg);subst hgN;rw[bH (fun e=>hne e.symm),bH (fun e=>hne e.symm),hN8,HON.out]
               have hgS:SB=g:=(by simpa[Value.ownBlock]using hg);subst hgS;rw[bL hS8,bL ((bH hne).trans HSB0.out)]
              (have HB9:Hid (Below wx.heap.size wx (w8.setCell ⟨SB,v,none⟩ (.bool true))):=by have h1:Below wx.heap.size wx w8:=⟨hI.below.os.trans HBT.out.os,hI.below.tape.trans HBT.out.tape,hI.below.output.trans HBT.out.output,aX HBT.out.size hI.below.size,fun k hk=>(hI.below.block k (bP hk HBT.out.size) oM).trans (HBT.out.block k hk)⟩;exact h1.setCell (p:=⟨SB,v,none⟩) hSB _);have hst:∀t,t∉[143,144,145,146,147,148,149,150,151,152,153,154,155]→tm0.getD t undef=_:=fun t ht=>hI.still t ht;obtain rfl:df=[]:=hI.defers;clear hI e155 hN8 hS8 cS8 fS8 b0 b1 xx1 ga cNv cSv;show Exit.inBlock _ _ Exit.normal ⟨tm0,[]⟩ (w8.setCell ⟨SB,v,none⟩ (.bool true));generalize w8.setCell ⟨SB,v,none⟩ (.bool true)=w9 at *;obtain⟨fQ,hQ,hF8⟩:=fH [143,144,145,146,147,148,149,150,151,152,153,154,155] tm0 _ (hsN.trans rF) hst;clear hsN hst;simp only[cL,dB]at hF8;clear hQ;simp only[aV,bS,bV]at hF8;subst hF8;go_wp2_with fail;go_roundw;(case rel=>exact⟨t+1,⟨z.nums.set v an1,z.known.set v true⟩,true,htl,gN,rfl,by show _=_;rw[if_pos rfl,HST.out,HW1.out],HR9.out,HB9.out⟩);case measure=>exact mI
            have HW1:Hid (Ru.with1 z ⟨v,tn⟩ an1=if z.nums.getD v 0=an1 then some z else none):=Ru.with1_kn hkv;rw[hkv]at cSv;clear hv0;generalize z.nums.getD v 0=nv at *;obtain⟨eb,heb⟩:∃eb,(nv==an1)=eb:=⟨_,rfl⟩;have HWN:Hid (Ru.withW y1 l.terms fa=if eb=true then Ru.withW z (l.terms.drop (t+1)) (fa.drop (t+1))else none):=by
             show _=_;rw[HST.out,HW1.out,←heb];by_cases he:nv=an1
             ·rw[if_pos he,if_pos (by simpa using he)]
             rw[if_neg he,if_neg (by simpa using he)]
            go_upto_region 25 with fail;go_quiet(fail);go_wp2_with fail;go_roundw;(case rel=>exact⟨t+1,z,eb,htl,gN,by first|rfl|rw[heb],HWN.out,HRT.out.below (bY _ _),HBT.out.trans ((bY _ _).mono HBT.out.size)⟩);case measure=>exact mI
           have gtl:decide ((t:Int)<(l.terms.length:Int))=false:=decide_eq_false oM;have gtn:decide (t<l.terms.length)=false:=decide_eq_false htl;cases ok
           ·(have HNONE:Hid (Ru.withW y1 l.terms fa=none):=by show _=_;rw[HWW.out];rfl);(have HTK2:Hid (s'=Ru.runO (sl,false) ((facts.take (k+1)).flatMap (Ru.fromF facts r.body kf j y1))):=by show _=_;rw[HTK.out,Ru.runO_append,←HSK'.out];unfold Ru.fromF;rw[HLG.out,if_pos HPE.out,HNONE.out];rfl);go_wp2_with fail;go_roundw;(case rel=>exact⟨k+1,s',q',vo',hkl,gN,HTK2.out,HFX.out.below HBZ.out,HKX.out.trans (Kp.of_below HBZ.out HWX.out.size)⟩);case measure=>exact mI
           (have HSOME:Hid (Ru.withW y1 l.terms fa=some z):=by show _=_;rw[HWW.out,if_pos rfl,aL oM];cases fa.drop t<;>rfl);(have HCALL:Hid _:=HIH.out (j+1) z s' q' vo' wx.heap.size (.slice am m cm) (.slice aw m cw) wr (HKF.out.trans (((Kp.of_below HBL.out HW0.out.size).trans HKX.out).trans (Kp.of_below HBZ.out HWX.out.size))) (HFX.out.below HBZ.out) HFX.out.lt HRZ.out oM oM (by rw[HSK'.out];exact Ru.runO_le _ hsl);rw[show((j+1:Nat):Int)=(j:Int)+1 from by omega]at HCALL;have HTK2:Hid (Ru.runO s' (Ru.fromN facts r.body kf (j+1) z)=Ru.runO (sl,false) ((facts.take (k+1)).flatMap (Ru.fromF facts r.body kf j y1))):=by show _=_;rw[HTK.out,Ru.runO_append,←HSK'.out];unfold Ru.fromF;rw[HLG.out,if_pos HPE.out,HSOME.out]);go_wp2_with fail;refine Calls.mono HCALL.out ?_;rintro _ w9 ⟨rfl,⟨q9,vo9,hF9⟩,hK9⟩;have HF9:Hid _:=hF9;have HK9:Hid (Kp w0.heap.size FB wl w9):=(HKX.out.trans (Kp.of_below HBZ.out HWX.out.size)).trans hK9;clear hF9 hK9 HCALL xl3 xx1;go_wp2_with fail;go_roundw;(case rel=>exact⟨k+1,_,q9,vo9,hkl,gN,HTK2.out,HF9.out,HK9.out⟩);case measure=>exact mI
         (have gp:(fp != l.pred)=true:=by simpa using hpe);(have HTK2:Hid (s'=Ru.runO (sl,false) ((facts.take (k+1)).flatMap (Ru.fromF facts r.body kf j y1))):=by show _=_;rw[HTK.out,Ru.runO_append,←HSK'.out];unfold Ru.fromF;rw[HLG.out,if_neg hpe];rfl);clear hpe;go_wp2_with fail;go_roundw;(case rel=>exact⟨k+1,s',q',vo',hkl,gN,HTK2.out,HFX.out,HKX.out⟩);case measure=>exact mI
        rw[hmn]at f7k;(have HE:Hid (Ru.runO (sl,false) (facts.flatMap (Ru.fromF facts r.body kf j y1))=s'):=by show _=_;rw[HSPL.out,Ru.runO_append,←HSK'.out];exact Ru.runO_many hmn _);clear hmn;go_wp2_with fail;refine bodyPost_end (results_none rfl _ _ _) rfl ?_;exact⟨rfl,⟨q',vo',by rw[HFN.out,HE.out];exact HFK.out⟩,HKW.out⟩
       have gkl:decide ((k:Int)<(facts.length:Int))=false:=decide_eq_false oM;have gkn:decide (k<facts.length)=false:=decide_eq_false hkl;(have HE:Hid (Ru.runO (sl,false) (facts.flatMap (Ru.fromF facts r.body kf j y1))=s'):=by show _=_;rw[HSK'.out,cH oM]);go_wp2_with fail;refine bodyPost_end (results_none rfl _ _ _) rfl ?_;exact⟨rfl,⟨q',vo',by rw[HFN.out,HE.out];exact HFK.out⟩,HKW.out⟩
     (have gk:((Sc.litD r.body j).kind != 1)=true:=by simpa using hk1);(have HSK2:Hid (Ru.skipTo r.body i=Ru.skipTo r.body (j+1)):=by show _=_;rw[HSK.out,HSL.out,if_neg hk1]);clear hk1 q0 q1 q2 q3 hT;generalize Sc.litD r.body j=l at *;go_wp2_with fail;go_roundw;(case rel=>exact⟨trivial,j+1,oM,hlt,gN,HSK2.out⟩);case measure=>exact mI
    have hje:j=r.body.length:=oM;have glt:decide ((j:Int)<(r.body.length:Int))=false:=decide_eq_false oM;have HFN:Hid (Ru.fromN facts r.body (kf+1) i y=[y1.nums]):=Ru.fromN_end HRK.out HWF.out (by rw[HSK.out,Ru.skipTo_end oM];omega);(have geq:((j:Int)==(r.body.length:Int))=true:=by simp;omega);(have HQ:Hid (q.length=sl.length):=by show _=_;have h9:q.map (·.1)=sl:=HFI4.out.hq;rw[←h9,aO]);obtain⟨ao,co,hvo⟩:=aZ HFI4.out.o;subst hvo;(have f6:w4.cell? ⟨FB,6,none⟩=some (.slice ao q.length co):=by rw[aC HFI4.out.b];rfl);clear hje;by_cases h2k:q.length=2000
    ·(have g2:((q.length:Int)==2000)=true:=by simp;omega);(have f74:w4.cell? ⟨FB,7,none⟩=some (.bool false):=by rw[aC HFI4.out.b];rfl);have fr7:w4.frozen? ⟨FB,7,none⟩=false:=bQ HFI4.out.b 7;(have HE:Hid (Ru.runO (sl,false) [y1.nums]=(sl,true)):=by show Ru.stepO (sl,false) y1.nums=_;unfold Ru.stepO;rw[if_neg sI,if_pos (by show sl.length=2000;rw[←HQ.out];exact h2k)]);have HQ2:Hid _:=h2k;clear h2k;go_wp2_with fail;refine bodyPost_ret (results_none rfl _ _ _) rfl ?_;exact⟨rfl,⟨q,_,by rw[HFN.out,HE.out];exact HFI4.out.many⟩,(Kp.of_below HB4.out HW0.out.size).trans (Kp.setB HF.out.lo _)⟩
    (have g2:((q.length:Int)==2000)=false:=by simp;omega);(have HE:Hid (Ru.runO (sl,false) [y1.nums]=(sl++[y1.nums],false)):=by show Ru.stepO (sl,false) y1.nums=_;unfold Ru.stepO;rw[if_neg sI,if_neg (by show¬sl.length=2000;rw[←HQ.out];exact h2k)]);obtain⟨i2,h20,h21,h22,h23⟩:=info_parts tY;(have hql:q.length≤2000:=by rw[HQ.out];exact hsl);have hba:=cJ w4 (.cells #[.slice a1 m c1] 22);have HFI5:Hid (FindI FB vt (.slice ab r.body.length cb) (.slice af facts.length cf) r (sl,false) q (.slice ao q.length co) (w4.alloc (.cells #[.slice a1 m c1] 22))):=HFI4.out.below hba;have HN5:Hid (Rows2 w.heap.size (w4.alloc (.cells #[.slice a1 m c1] 22)) (.slice a1 m c1) (.slice a2 m c2) m y1):=HR4.out.below hba;have HK5:Hid (Kp w0.heap.size FB w (w4.alloc (.cells #[.slice a1 m c1] 22))):=(Kp.of_below HB4.out HW0.out.size).trans (Kp.of_below hba (aX HW0.out.size HB4.out.size));have hF5:=HFI5.out.b;have hsF:FB+1≤(w4.alloc (.cells #[.slice a1 m c1] 22)).heap.size:=HFI5.out.lt;clear h2k;go_wp2_with(at_builtin;refine wpList_append_own _ rfl (.tmp 80) (.tmp 82) 28 rfl (FB+1) 22 i2 _ 1 24 Tryz.underlying28 h20 h21 h22 h23 rfl dE _ _ _ rfl HFI5.out.o ⟨w4.heap.size,0,none⟩ 1 1 [.slice a1 m c1] rfl rfl (news1 w4 _ 22) (fun u hu=>by rw[bI.mp hu];rfl) (by unfold maxLen;omega) oM hsF ?_);intro v9 w9 ho9 hg9 _;have hpush:=HFI5.out.push HF.out.lo hszF HN5.out.ok.wf.n HN5.out.n ho9 hg9;have hF9:w9.heap[FB]?=_:=(hg9.block FB hsF (fun e=>by have :=(HFI5.out.o.lt FB e.symm).1;omega)).trans hF5;(have f69:w9.cell? ⟨FB,6,none⟩=some (.slice ao q.length co):=by rw[aC hF9];rfl);have fr69:w9.frozen? ⟨FB,6,none⟩=false:=bQ hF9 6;obtain⟨av,cv,rfl⟩:=aZ ho9;have HPU:Hid _:=hpush;clear hpush hF9 ho9 hg9 hF5 hsF f6 hba;go_wp2_with fail;refine bodyPost_ret (results_none rfl _ _ _) rfl ?_;exact⟨rfl,⟨_,_,by rw[HFN.out,HE.out];exact HPU.out.1⟩,HK5.out.trans HPU.out.2⟩
  have HE:Hid (Ru.fromN facts r.body (kf+1) i y=[]):=Ru.fromN_wrong HRK.out hwr;clear hwr;go_wp2_with fail;refine bodyPost_ret (results_none rfl _ _ _) rfl ?_;exact⟨rfl,⟨q,vo,by rw[HE.out];exact HFI.out.below HB4.out⟩,Kp.of_below HB4.out HW0.out.size⟩
theorem zO(w0 wF:World)(m FB:Nat)(vt vb vf:Value)(r:Sc.Rule)(facts:List Rl.Fc)(hF:FromIn w0 wF m FB vb vf r facts):∀kf,FromOk w0 wF m FB vt vb vf r facts kf
 |0=>fun i _ _ _ _ _ _ _ _ _ _ _ _ hi hik _=>absurd hik oM
 |kf+1=>aB5 w0 wF m FB vt vb vf r facts kf hF (zO w0 wF m FB vt vb vf r facts hF kf)

end Go.Proofs.YthenjegmigeieaaGreat
namespace Go.Proofs.YthenjegmigeieaaGreat
namespace Ru
def gapL(Q:List Nv)(x:Nv)(i k:Nat):List Nv:=Q.take k++x::((Q.take i).drop k++Q.drop (i+1))
def Srtd(l:List Nv):Prop:=l.Pairwise fun a b=>¬Rl.cmpL b.1 a.1<0
section
variable {Q:List Nv} {x:Nv} {i k:Nat}
theorem gap_start(hx:Q[i]?=some x):gapL Q x i i=Q:=by unfold gapL;have hi:i<Q.length:=(dA.mp hx).1;rw[aL (by rw[bC];omega),eW];(have hd:Q.drop i=x::Q.drop (i+1):=by rw[bG hi,(dA.mp hx).2]);rw[←hd,eV]
theorem gap_length(hx:Q[i]?=some x)(hk:k≤i):(gapL Q x i k).length=Q.length:=by have hi:i<Q.length:=(dA.mp hx).1;unfold gapL;simp only[aN,dK,bC,fT];omega
theorem gap_at(hx:Q[i]?=some x)(hk:k≤i):(gapL Q x i k)[k]?=some x:=by have hi:i<Q.length:=(dA.mp hx).1;unfold gapL;rw[eB (by rw[bC];omega),bC,show k-min k Q.length=0 by omega];rfl
theorem gap_pred(hx:Q[i]?=some x)(hk:k+1≤i):(gapL Q x i (k+1))[k]?=Q[k]?:=by have hi:i<Q.length:=(dA.mp hx).1;unfold gapL;rw[eH (by rw[bC];omega),dN,if_pos oM]
theorem gap_swap{y:Nv}(hx:Q[i]?=some x)(hk:k+1≤i)(hy:Q[k]?=some y):((gapL Q x i (k+1)).set (k+1) y).set k x=gapL Q x i k:=by
 have hi:i<Q.length:=(dA.mp hx).1;(have e1:Q.take (k+1)=Q.take k++[y]:=by rw[cY,hy];rfl);have e2:(Q.take i).drop k=y::(Q.take i).drop (k+1):=by
  rw[bG (by rw[bC];omega)]
  congr 1
  rw[List.getElem_take];exact(dA.mp hy).2
 (have hl:(Q.take k).length=k:=by rw[bC];omega);unfold gapL;rw[e1,e2,dT,List.set_append_right _ _ oM,List.set_append_right _ _ oM,hl,show k+1-k=1 by omega,iU];rfl
theorem gap_perm(hx:Q[i]?=some x)(hk:k≤i):(gapL Q x i k).Perm Q:=by
 have hi:i<Q.length:=(dA.mp hx).1;have h1:(gapL Q x i k).Perm (x::(Q.take k++((Q.take i).drop k++Q.drop (i+1)))):=List.perm_middle;have h2:Q.take k++((Q.take i).drop k++Q.drop (i+1))=Q.take i++Q.drop (i+1):=by
  rw[←dT]
  congr 1
  (have :Q.take k=(Q.take i).take k:=by rw[List.take_take,jV hk]);rw[this,eV]
 rw[h2]at h1;refine h1.trans ?_;(have h3:Q=Q.take i++x::Q.drop (i+1):=by(have hd:Q.drop i=x::Q.drop (i+1):=by rw[bG hi,(dA.mp hx).2]);rw[←hd,eV]);exact(List.perm_middle.symm).trans (by rw[←h3])
theorem gap_take(hx:Q[i]?=some x)(hk:k≤i):(gapL Q x i k).take (i+1)=Q.take k++x::(Q.take i).drop k:=by have hi:i<Q.length:=(dA.mp hx).1;(have :gapL Q x i k=(Q.take k++x::(Q.take i).drop k)++Q.drop (i+1):=by unfold gapL;simp);rw[this,List.take_append_of_le_length (by simp only[aN,dK,bC,fT];omega),cH (by simp only[aN,dK,bC,fT];omega)]
theorem gap_sorted(hx:Q[i]?=some x)(hk:k≤i)(hs:Srtd (Q.take i))(hgt:∀y,y∈(Q.take i).drop k→Rl.cmpL x.1 y.1<0)(htop:k=0∨∃y,Q[k-1]?=some y∧¬Rl.cmpL x.1 y.1<0):Srtd ((gapL Q x i k).take (i+1)):=by
 have hi:i<Q.length:=(dA.mp hx).1;rw[gap_take hx hk];have hsp:Q.take i=Q.take k++(Q.take i).drop k:=by
  (have :Q.take k=(Q.take i).take k:=by rw[List.take_take,jV hk]);rw[this,eV]
 unfold Srtd at hs ⊢;rw[hsp,gB]at hs;obtain⟨h1,h2,h3⟩:=hs;rw[gB];refine⟨h1,eD.mpr ⟨fun y hy=>?_,h2⟩,fun a ha b hb=>?_⟩
 ·have :=hgt y hy;have h9:=Rl.cmpL_flip x.1 y.1;omega
 rcases bD.mp hb with rfl|hb
 ·rcases htop with h0|⟨y,hy,hny⟩
  ·rw[h0]at ha;simp at ha
  have hk0:0<k:=by
   rcases Nat.eq_zero_or_pos k with h|h
   ·rw[h]at ha;simp at ha
   exact h
  (have hyt:Q.take k=Q.take (k-1)++[y]:=by(conv=>lhs;rw[show k=(k-1)+1 by omega,cY,hy]);rfl);rw[hyt]at ha h1;rcases bX.mp ha with ha|ha
  ·have hay:¬Rl.cmpL y.1 a.1<0:=(gB.mp h1).2.2 a ha y sI;intro hlt;have h5:=Rl.cmpL_flip y.1 a.1;have h6:=Rl.cmpL_flip b.1 y.1;have h7:Rl.cmpL a.1 y.1≤0:=oM;by_cases h8:Rl.cmpL a.1 y.1=0
   ·rw[Rl.cmpL_zero.mp h8]at hlt;exact hny hlt
   exact hny (Rl.cmpL_trans hlt oM)
  rw[bI.mp ha];exact hny
 exact h3 a ha b hb
end
end Ru
end Go.Proofs.YthenjegmigeieaaGreat
namespace Go.Proofs.YthenjegmigeieaaGreat
open Go.RowKit
def SetRow(w:World)(B:Nat)(facts:List Rl.Fc)(v:Value)(W:World):Prop:=∃q:List Fv,q.map (·.1)=Rl.set facts∧W.ownsRow B 55 2 v q.length (q.map fcCells).flatten∧∀p,p∈q→FvOk w p
theorem SetRow.below{w:World}{B:Nat}{facts:List Rl.Fc}{v:Value}{W W':World}(h:SetRow w B facts v W)(hb:Below W.heap.size W W'):SetRow w B facts v W':=by obtain⟨q,h1,h2,h3⟩:=h;exact⟨q,h1,aU h2 hb,h3⟩
theorem SetRow.keep{w:World}{B n0 FB:Nat}{facts:List Rl.Fc}{v:Value}{W W':World}(h:SetRow w B facts v W)(hne:∀c,¬W.heap[FB]?=some (.cells c 55))(hk:Kp n0 FB W W'):SetRow w B facts v W':=by obtain⟨q,h1,h2,h3⟩:=h;exact⟨q,h1,fF h2 (fun k c hc=>hk.keep k c 55 hc (fun e=>hne c (by rw[←e];exact hc)) dE),h3⟩
theorem SetRow.toV{w:World}{B:Nat}{facts:List Rl.Fc}{v:Value}{W:World}(h:SetRow w B facts v W)(hb:Below w.heap.size w W):FactsV W v (Rl.set facts):=by obtain⟨q,h1,h2,h3⟩:=h;rw[←h1];exact jO h2 h3 hb
theorem vZ{o:Oper}{a:Act}{w:World}{K:Act→World→Prop}{Q:Exit→Act→World→Prop}(x u:Operand)(ho:o.op=.store 100 x u)(b:Nat)(hx:a.eval x=.pointer (some ⟨b,0,none⟩))(old new:Array Value)(hu:a.eval u=.agg new)(hW:w.heap[b]?=some (.cells old 100))(ho8:old.size=8)(hn8:new.size=8)(h1:new.all (·.oneCell')=true)(hk:K (a.put o.dst undef) (w.setRow b new)):o.wp Tryz.prog a w K Q:=by have hinfo:(Tryz.prog.info? 100).map (·.size)=some 8:=kR;have hr:=run_storeVar_row (P:=Tryz.prog) w b 100 100 old new hW (by rw[hn8];exact hinfo) (by rw[ho8,hn8]) h1;unfold Oper.wp execOp;simp only[ho,hx,hu,Instr.storeAt,Instr.sureAddr,Sem.run_bind,Sem.run_pure,Result.andThen_ok,hr];exact hk
theorem qN{o:Oper}{a:Act}{w:World}{f:FuncId}{args:Array Value}{K:Act→World→Prop}{Q:Exit→Act→World→Prop}(hr:(execOp a.eval o).run Tryz.prog w=.ok (.enter f args) w)(hc:Calls Tryz.prog f args w fun e w'=>∃v,e=.returned v∧K (a.put o.dst v) w'):o.wp Tryz.prog a w K Q:=by unfold Oper.wp;rw[hr,Oper.upon_enter];refine Calls.mono hc ?_;rintro e w' ⟨v,rfl,h⟩;exact h
theorem made3:∀{m:Nat},m≤8→(madeCells (Value.int .i64 0).cells (m*1)).toList=(Ru.wayV m).nums.map (Value.int .i64)
 |0,_=>by kernel_rfl|1,_=>by kernel_rfl|2,_=>by kernel_rfl|3,_=>by kernel_rfl|4,_=>by kernel_rfl|5,_=>by kernel_rfl|6,_=>by kernel_rfl|7,_=>by kernel_rfl|8,_=>kR
 |n+9,h=>absurd h oM
theorem made4:∀{m:Nat},m≤8→(madeCells (Value.bool false).cells (m*1)).toList=(Ru.wayV m).known.map Value.bool
 |0,_=>by kernel_rfl|1,_=>by kernel_rfl|2,_=>by kernel_rfl|3,_=>by kernel_rfl|4,_=>by kernel_rfl|5,_=>by kernel_rfl|6,_=>by kernel_rfl|7,_=>by kernel_rfl|8,_=>kR
 |n+9,h=>absurd h oM
namespace Ru
def refOk(facts:List Rl.Fc)(r:Sc.Rule):Bool:=decide ((refWays (Rl.set facts) r).length≤2000)
def refOut(facts:List Rl.Fc)(r:Sc.Rule):List (List Int):=if refOk facts r=true then srt (refWays (Rl.set facts) r)else []
theorem runO_full:∀(L:List (List Int))(sl:List (List Int)),sl.length≤2000→runO (sl,false) L=((sl++L).take 2000,decide (2000<(sl++L).length))
 |[],sl,h=>by show(sl,false)=_;rw[fE,cH h,decide_eq_false oM]
 |x::L,sl,h=>by
  show runO (stepO (sl,false) x) L=_;unfold stepO;rw[if_neg sI];by_cases h2:sl.length=2000
  ·rw[if_pos h2,runO_many rfl,List.take_append_of_le_length oM,cH oM,decide_eq_true (by rw[aN,dK];omega)]
  rw[if_neg h2,runO_full L (sl++[x]) (by rw[aN,jW];omega),dT];rfl
end Ru
def wo1T(w:World)(B:Nat)(r:Sc.Rule)(vt vb VF:Value)(facts:List Rl.Fc)(tQ:Nat)(vQ:Value)(WQ:World):Prop:=
 if tQ=9 then vQ=.agg #[.int .i64 r.pred,vt, .int .i64 r.fold,vb, .int .i64 r.vars]
 else if tQ=10 then vQ=VF
 else if tQ=11 then SetRow w B facts vQ WQ
 else if tQ=12 then∃u,vQ=.agg #[.int .i64 r.pred,vt, .int .i64 r.fold,vb, .int .i64 r.vars,u, .slice none 0 0, .bool false]∧SetRow w B facts u WQ
 else∃FB,vQ=.pointer (some ⟨FB,0,none⟩)∧B≤FB∧WQ.heap[FB]?=some (.cells #[.int .i64 0, .slice none 0 0, .int .i64 0, .slice none 0 0, .int .i64 0, .slice none 0 0, .slice none 0 0, .bool false] 100)
theorem aA3(w:World)(B:Nat)(r:Sc.Rule)(vt vb VF:Value)(facts:List Rl.Fc)(tQ:Nat)(vQ:Value)(W W':World)(hb:Below W.heap.size W W')(h:wo1T w B r vt vb VF facts tQ vQ W):wo1T w B r vt vb VF facts tQ vQ W':=by
 unfold wo1T at h ⊢;by_cases h1:tQ=9
 ·rw[if_pos h1]at h ⊢;exact h
 rw[if_neg h1]at h ⊢;by_cases h2:tQ=10
 ·rw[if_pos h2]at h ⊢;exact h
 rw[if_neg h2]at h ⊢;by_cases h3:tQ=11
 ·rw[if_pos h3]at h ⊢;exact h.below hb
 rw[if_neg h3]at h ⊢;by_cases h4:tQ=12
 ·rw[if_pos h4]at h ⊢;obtain⟨u,g1,g2⟩:=h;exact⟨u,g1,g2.below hb⟩
 rw[if_neg h4]at h ⊢;obtain⟨FB,g1,g2,g3⟩:=h;exact⟨FB,g1,g2,(hb.block _ (aY g3)).trans g3⟩
def wo2T(B m RB:Nat)(tQ:Nat)(vQ:Value)(WQ:World):Prop:=
 if tQ=13 then vQ=.pointer (some ⟨RB,4,none⟩)
 else if tQ=14 then vQ=.int .i64 (m:Nat)
 else if tQ=15 then WQ.ownsRow B 3 1 vQ m ((Ru.wayV m).nums.map (Value.int .i64))
 else if tQ=16 then vQ=.pointer (some ⟨RB,4,none⟩)
 else if tQ=17 then vQ=.int .i64 (m:Nat)
 else WQ.ownsRow B 4 1 vQ m ((Ru.wayV m).known.map Value.bool)
theorem aA2(B m RB:Nat)(tQ:Nat)(vQ:Value)(W W':World)(hb:Below W.heap.size W W')(h:wo2T B m RB tQ vQ W):wo2T B m RB tQ vQ W':=by
 unfold wo2T at h ⊢;by_cases h1:tQ=13
 ·rw[if_pos h1]at h ⊢;exact h
 rw[if_neg h1]at h ⊢;by_cases h2:tQ=14
 ·rw[if_pos h2]at h ⊢;exact h
 rw[if_neg h2]at h ⊢;by_cases h3:tQ=15
 ·rw[if_pos h3]at h ⊢;exact aU h hb
 rw[if_neg h3]at h ⊢;by_cases h4:tQ=16
 ·rw[if_pos h4]at h ⊢;exact h
 rw[if_neg h4]at h ⊢;by_cases h5:tQ=17
 ·rw[if_pos h5]at h ⊢;exact h
 rw[if_neg h5]at h ⊢;exact aU h hb
theorem aAt(x y:List Int)(v u:Value)(w:World)(hV:IntsV w v x)(hU:IntsV w u y)(hlen:x.length=y.length)(hl:x.length≤1000000):Calls Tryz.prog 61 #[v,u] w fun e w'=>e=.returned (.bool (Ru.lessI x y))∧∃n,w'=w.drewN n:=by
 obtain⟨ao,cap,rfl,hA⟩:=hV;obtain⟨bo,cbp,rfl,hB⟩:=hU;have HA:Hid _:=hA;have HB:Hid _:=hB;have HLEN:Hid _:=hlen;clear hA hB hlen
 go_enter Tryz.func61,Tryz.ntmps61
 go_wp2_with fail;go_loopw [5] (fun iv wr=>∃k:Nat,k≤x.length∧iv=.int .i64 k∧Hid (Ru.lessI x y=Ru.lessI (x.drop k) (y.drop k))∧Hid (∃n,wr=w.drewN n)) (fun iv _=>x.length-(intOf iv).toNat);case atStart=>exact⟨0,oM,rfl,rfl,0,rfl⟩
 case round=>
  obtain⟨k,hk,rfl,HR,HD⟩:=hrel;(have HBr:Hid (Below w.heap.size w wr):=by obtain⟨n,rfl⟩:=HD.out;exact bY _ _);by_cases hlt:k<x.length
  ·(have hlt2:k<y.length:=by have :=HLEN.out;omega);obtain⟨b',off',rfl,hck⟩:=fX HA.out hlt;obtain⟨b2,off2,rfl,hck2⟩:=fX HB.out hlt2;have q1:=aD HBr.out hck;have q2:=aD HBr.out hck2;have HS:Hid _:=Ru.lessI_drop HLEN.out hlt;clear hck hck2;generalize Sc.intD x k=a at *;generalize Sc.intD y k=c at *;by_cases hac:a=c
   ·(have gx:(a != c)=false:=by simpa using hac);(have HR2:Hid (Ru.lessI x y=Ru.lessI (x.drop (k+1)) (y.drop (k+1))):=by show _=_;rw[HR.out,HS.out,if_pos hac]);clear hac;go_upto_region 4 with fail;go_quiet(fail);go_wp2_with fail;go_roundw;(case rel=>exact⟨k+1,hlt,gN,HR2.out,by obtain⟨n,rfl⟩:=HD.out;exact⟨_,mG _ _ _⟩⟩);case measure=>exact mI
   (have gx:(a != c)=true:=by simpa using hac);(have HE:Hid (Ru.lessI x y=decide (a<c)):=by show _=_;rw[HR.out,HS.out,if_neg hac]);clear hac;go_upto_region 4 with fail;go_quiet(fail);go_upto_region 5 with fail;go_quiet(fail);go_wp2_with fail;go_ret;exact⟨by rw[HE.out];rfl,by obtain⟨n,rfl⟩:=HD.out;exact⟨_,by rw[mG,mG]⟩⟩
  have hdd:decide (k<x.length)=false:=decide_eq_false hlt;(have HE:Hid (Ru.lessI x y=false):=by show _=_;have :=HLEN.out;rw[HR.out,aL oM];unfold Ru.lessI;rfl);go_wp2_with fail;go_ret;exact⟨by rw[HE.out];rfl,HD.out⟩
def wo11W(i:Nat):Bool:=i==19
def wo11Tv(FB GB k:Nat)(VO XV YV:Value):Nat→Value
 |48=>.pointer (some ⟨FB,6,none⟩)
 |49=>VO
 |50=>.int .i64 ((k:Int)+1)
 |51=>.pointer (some ⟨FB,6,none⟩)
 |52=>VO
 |53=>.int .i64 ((k:Int)+1)
 |54=>.int .i64 (k:Nat)
 |55=>.pointer (some ⟨FB,6,none⟩)
 |56=>VO
 |57=>.int .i64 ((k:Int)+1)
 |58=>.int .i64 (k:Nat)
 |59=>.pointer (some ⟨GB,k,none⟩)
 |60=>YV
 |61=>.pointer (some ⟨FB,6,none⟩)
 |62=>VO
 |63=>.int .i64 ((k:Int)+1)
 |64=>.pointer (some ⟨GB,k+1,none⟩)
 |65=>XV
 |66=>.pointer (some ⟨GB,k+1,none⟩)
 |67=>.pointer (some ⟨GB,k,none⟩)
 |_=>.bool false
theorem aAR(facts:List Rl.Fc)(r:Sc.Rule)(vt vb vf:Value)(w:World)(hT:PTermsV w vt r.terms)(hB:PLitsV w vb r.body)(hF:FactsV w vf facts)(hFl:facts.length≤60)(hFF:∀f,f∈facts→FFit f)(m:Nat)(hm:r.vars=m)(hm8:m≤8)(hb4:r.body.length≤4)(hFN:∀f,f∈Rl.set facts→∀n,n∈f.args→Sc.isNum n=true)(hLF:∀l,l∈r.body→Ru.LitFine (Rl.set facts) m l)(hND:(Ru.refWays (Rl.set facts) r).Nodup)(hLEN:∀x,x∈Ru.refWays (Rl.set facts) r→x.length=m):
 Calls Tryz.prog 17 #[pruleVal r vt vb,vf] w fun e w'=>∃v q,e=.returned (.tuple #[v, .bool (Ru.refOk facts r)])∧NumsP w.heap.size w' v q∧q.map (·.1)=Ru.refOut facts r∧Below w.heap.size w w':=by
 obtain⟨at_,ct,rfl,_⟩:=id hT;obtain⟨ab,cb,rfl,_⟩:=id hB;obtain⟨af,cf,rfl,_⟩:=id hF;have hb1:=cJ w (.cells #[.int .i64 r.pred, .slice at_ r.terms.length ct, .int .i64 r.fold, .slice ab r.body.length cb, .int .i64 r.vars] 40);have HRB:Hid _:=heap_alloc_new w (.cells #[.int .i64 r.pred, .slice at_ r.terms.length ct, .int .i64 r.fold, .slice ab r.body.length cb, .int .i64 r.vars] 40);have HB1:Hid _:=hb1;have HFV:Hid (FactsV w (.slice af facts.length cf) facts):=hF;have HFF:Hid _:=hFF;have HM:Hid _:=hm;have HFN:Hid _:=hFN;have HLF:Hid _:=hLF;have HND:Hid ((Ru.refWays (Rl.set facts) r).Nodup):=hND;have HLEN:Hid _:=hLEN;have HPB:Hid (PLitsV w (.slice ab r.body.length cb) r.body):=hB;obtain⟨p0,p1,p2,p3,p4⟩:=info_parts kS;obtain⟨b0,b1,b2,b3,b4⟩:=info_parts xK;clear hT hB hF hFF hb1 hm hFN hLF hND hLEN
 go_enter Tryz.func17,Tryz.ntmps17
 go_upto_region 1 with fail;generalize w.alloc (.cells #[.int .i64 r.pred, .slice at_ r.terms.length ct, .int .i64 r.fold, .slice ab r.body.length cb, .int .i64 r.vars] 40)=w1 at *;generalize hRBn:w.heap.size=RB at *;(have c0:w1.cell? ⟨RB,0,none⟩=some (.int .i64 r.pred):=by rw[aC HRB.out];rfl);(have c1:w1.cell? ⟨RB,1,none⟩=some (.slice at_ r.terms.length ct):=by rw[aC HRB.out];rfl);(have c2:w1.cell? ⟨RB,2,none⟩=some (.int .i64 r.fold):=by rw[aC HRB.out];rfl);(have c3:w1.cell? ⟨RB,3,none⟩=some (.slice ab r.body.length cb):=by rw[aC HRB.out];rfl);(have c4:w1.cell? ⟨RB,4,none⟩=some (.int .i64 r.vars):=by rw[aC HRB.out];rfl);rw[←hRBn]at HB1;refine eS (wo1T w w1.heap.size r (.slice at_ r.terms.length ct) (.slice ab r.body.length cb) (.slice af facts.length cf) facts) 5 dE kR kR kR (aA3 w w1.heap.size r (.slice at_ r.terms.length ct) (.slice ab r.body.length cb) (.slice af facts.length cf) facts) ?hopA ?htailA
 case hopA=>
  refine oC (fun a y_ h=>by have e2:a.eval (.tmp 2)=(.pointer (some ⟨RB,0,none⟩):Value):=h.old 2;have x0:=aD h.below c0;have x1:=aD h.below c1;have x2:=aD h.below c2;have x3:=aD h.below c3;have x4:=aD h.below c4;exact opX (.agg #[.int .i64 r.pred, .slice at_ r.terms.length ct, .int .i64 r.fold, .slice ab r.body.length cb, .int .i64 r.vars])) ?_;refine oC (fun a y_ h=>by have e1:a.eval (.tmp 1)=(.slice af facts.length cf:Value):=h.old 1;exact opX (.slice af facts.length cf)) ?_;refine oC (fun a y_ h=>?_) ?_
  ·have e10:a.eval (.tmp 10)=(.slice af facts.length cf:Value):=h.of 10;refine dD (f:=35) (args:=#[.slice af facts.length cf]) (aM rfl) ?_ ?_
   ·have ec:=evc a;have ef:=evf a;generalize a.eval=ev at *;clear h;go_simp
   refine Calls.mono (uS facts _ w y_ (HB1.out.trans (h.below.mono HB1.out.size)) HFV.out oM HFF.out) ?_;rintro _ y2 ⟨v',rfl,⟨q,h1,h2,h3⟩,hb2⟩;refine⟨_,rfl,fun t ht=>?_,hb2⟩;cases ht;exact⟨q,h1,dP h2 h.below.size,h3⟩
  refine oC (fun a y_ h=>by have e9:a.eval (.tmp 9)=(.agg #[.int .i64 r.pred, .slice at_ r.terms.length ct, .int .i64 r.fold, .slice ab r.body.length cb, .int .i64 r.vars]:Value):=h.of 9;have h11:SetRow w w1.heap.size facts (a.eval (.tmp 11)) y_:=h.of 11;obtain⟨q,g1,g2,g3⟩:=h11;obtain⟨a9,c9,e11⟩:=aZ g2;rw[e11]at g2;refine cP (v:=.agg #[.int .i64 r.pred, .slice at_ r.terms.length ct, .int .i64 r.fold, .slice ab r.body.length cb, .int .i64 r.vars, .slice a9 q.length c9, .slice none 0 0, .bool false]) (w':=y_) (aM rfl) ?_ (fun t ht=>by cases ht;exact⟨_,rfl,q,g1,g2,g3⟩) (aH _ _);have ec:=evc a;generalize a.eval=ev at *;clear h;go_simp) ?_;refine oC (fun a y_ h=>by refine cP (v:=.pointer (some ⟨y_.heap.size,0,none⟩)) (w':=y_.alloc (.cells #[.int .i64 0, .slice none 0 0, .int .i64 0, .slice none 0 0, .int .i64 0, .slice none 0 0, .slice none 0 0, .bool false] 100)) (aM rfl) ?_ (fun t ht=>by cases ht;exact⟨_,rfl,h.below.size,heap_alloc_new y_ _⟩) ((aH _ _).alloc (aF _) _);have ec:=evc a;generalize a.eval=ev at *;clear h;go_simp) ?_;exact AllOps.nil
 case htailA=>
  rintro⟨tm0,df⟩ y_ hI;obtain⟨u,e12,hsr⟩:∃u,Act.eval ⟨tm0,df⟩ (.tmp 12)=.agg #[.int .i64 r.pred, .slice at_ r.terms.length ct, .int .i64 r.fold, .slice ab r.body.length cb, .int .i64 r.vars,u, .slice none 0 0, .bool false]∧SetRow w w1.heap.size facts u y_:=hI.all 3 _ 12 dE rfl rfl;obtain⟨FB,e6,hFBl,hFBz⟩:∃FB,Act.eval ⟨tm0,df⟩ (.tmp 6)=.pointer (some ⟨FB,0,none⟩)∧w1.heap.size≤FB∧y_.heap[FB]?=some (.cells #[.int .i64 0, .slice none 0 0, .int .i64 0, .slice none 0 0, .int .i64 0, .slice none 0 0, .slice none 0 0, .bool false] 100):=hI.all 4 _ 6 dE rfl rfl;obtain⟨q,g1,g2,g3⟩:=hsr;obtain⟨a9,c9,rfl⟩:=aZ g2;(have z0:∀k:Nat,k<8→∃v,y_.cell? ⟨FB,k,none⟩=some v:=fun k hk=>by rw[aC hFBz];exact⟨_,cD (by simpa using hk)⟩);show wpOps Tryz.prog _ _ [5] _ _;rw[wpOps_cons];refine kK rfl (aM rfl) (vZ (.tmp 6) (.tmp 12) rfl FB e6 _ _ e12 hFBz rfl rfl (by simp[Value.oneCell']) ?_);have HFB:Hid ((y_.setRow FB #[.int .i64 r.pred, .slice at_ r.terms.length ct, .int .i64 r.fold, .slice ab r.body.length cb, .int .i64 r.vars, .slice a9 q.length c9, .slice none 0 0, .bool false]).heap[FB]?=some (.cells #[.int .i64 r.pred, .slice at_ r.terms.length ct, .int .i64 r.fold, .slice ab r.body.length cb, .int .i64 r.vars, .slice a9 q.length c9, .slice none 0 0, .bool false] 100)):=setRow_heap _ _ _ _ _ _ hFBz;have hKS:Kp w.heap.size FB y_ (y_.setRow FB #[.int .i64 r.pred, .slice at_ r.terms.length ct, .int .i64 r.fold, .slice ab r.body.length cb, .int .i64 r.vars, .slice a9 q.length c9, .slice none 0 0, .bool false]):=⟨rfl,rfl,rfl,by simp[World.setRow],fun k hk=>setRow_other _ _ _ _ (by have :=HB1.out.size;omega),fun k c t hk hne _=>(setRow_other _ _ _ _ hne).trans hk⟩;have HBF:Hid (Below w.heap.size w (y_.setRow FB #[.int .i64 r.pred, .slice at_ r.terms.length ct, .int .i64 r.fold, .slice ab r.body.length cb, .int .i64 r.vars, .slice a9 q.length c9, .slice none 0 0, .bool false])):=Kp.below hKS (HB1.out.trans (hI.below.mono HB1.out.size));have HSR:Hid (SetRow w w1.heap.size facts (.slice a9 q.length c9) (y_.setRow FB #[.int .i64 r.pred, .slice at_ r.terms.length ct, .int .i64 r.fold, .slice ab r.body.length cb, .int .i64 r.vars, .slice a9 q.length c9, .slice none 0 0, .bool false])):=SetRow.keep ⟨q,g1,g2,g3⟩ (fun c hc=>by rw[hFBz]at hc;injection hc with hc;injection hc with _ hc;cases hc) hKS;have HRBF:Hid ((y_.setRow FB #[.int .i64 r.pred, .slice at_ r.terms.length ct, .int .i64 r.fold, .slice ab r.body.length cb, .int .i64 r.vars, .slice a9 q.length c9, .slice none 0 0, .bool false]).heap[RB]?=some (.cells #[.int .i64 r.pred, .slice at_ r.terms.length ct, .int .i64 r.fold, .slice ab r.body.length cb, .int .i64 r.vars] 40)):=(setRow_other _ _ _ _ (by have :=aY HRB.out;omega)).trans ((hI.below.block _ (aY HRB.out)).trans HRB.out);have HFBl:Hid (w1.heap.size≤FB):=hFBl;have hsN:tm0.size=70:=hI.size;have hst:∀t,t∉[9,10,11,12,6]→tm0.getD t undef=_:=fun t ht=>hI.still t ht;have h6:tm0.getD 6 undef=.pointer (some ⟨FB,0,none⟩):=e6;have HQL:Hid (q.map (·.1)=Rl.set facts):=g1;obtain rfl:df=[]:=hI.defers;clear hI e12 e6 hFBz z0 g1 g2 g3 hKS hFBl c0 c1 c2 c3 c4;show Exit.then _ _ Exit.normal ⟨tm0,[]⟩ (y_.setRow FB #[.int .i64 r.pred, .slice at_ r.terms.length ct, .int .i64 r.fold, .slice ab r.body.length cb, .int .i64 r.vars, .slice a9 q.length c9, .slice none 0 0, .bool false]);generalize y_.setRow FB #[.int .i64 r.pred, .slice at_ r.terms.length ct, .int .i64 r.fold, .slice ab r.body.length cb, .int .i64 r.vars, .slice a9 q.length c9, .slice none 0 0, .bool false]=wF at *;obtain⟨fQ,hQ,hF8⟩:=fH [9,10,11,12,6] tm0 _ (hsN.trans rF) hst;clear hsN hst;simp only[cL,dB,(hQ 6).trans h6]at hF8;clear h6 hQ;simp only[aV,bS,bV]at hF8;subst hF8;(have r4:wF.cell? ⟨RB,4,none⟩=some (.int .i64 r.vars):=by rw[aC HRBF.out];rfl);go_upto_region 2 with fail;refine eS (wo2T wF.heap.size m RB) 6 dE kR kR kR (aA2 wF.heap.size m RB) ?hopB ?htailB;case hopB=>refine oC (fun a y_ h=>by have e2:a.eval (.tmp 2)=(.pointer (some ⟨RB,0,none⟩):Value):=h.old 2;exact opX (.pointer (some ⟨RB,4,none⟩))) ?_;refine oC (fun a y_ h=>by have e13:a.eval (.tmp 13)=(.pointer (some ⟨RB,4,none⟩):Value):=h.of 13;have x4:=aD h.below r4;rw[HM.out]at x4;exact opX (.int .i64 (m:Nat))) ?_;refine oC (fun a y_ h=>by have e14:a.eval (.tmp 14)=(.int .i64 (m:Nat):Value):=h.of 14;obtain⟨w',hr,ho,hg⟩:=run_makeSlice_full (P:=Tryz.prog) y_ wF.heap.size 22 3 p0 _ 1 Tryz.underlying22 p1 p2 p3 .i64 .i64 m oM (by rw[p4];omega) (by unfold maxLen;omega) h.below.size;rw[made3 hm8]at ho;refine cP (v:=.slice (some ⟨y_.heap.size,0,none⟩) m m) (w':=w') (aM rfl) ?_ (fun t ht=>by cases ht;exact ho) ⟨hg.os,hg.tape,hg.output,hg.size,fun k hk=>hg.block k hk sI⟩;unfold execOp;simp only[e14];rw[Sem.run_bind,hr];rfl) ?_;refine oC (fun a y_ h=>by have e2:a.eval (.tmp 2)=(.pointer (some ⟨RB,0,none⟩):Value):=h.old 2;exact opX (.pointer (some ⟨RB,4,none⟩))) ?_;refine oC (fun a y_ h=>by have e16:a.eval (.tmp 16)=(.pointer (some ⟨RB,4,none⟩):Value):=h.of 16;have x4:=aD h.below r4;rw[HM.out]at x4;exact opX (.int .i64 (m:Nat))) ?_;refine oC (fun a y_ h=>by have e17:a.eval (.tmp 17)=(.int .i64 (m:Nat):Value):=h.of 17;obtain⟨w',hr,ho,hg⟩:=run_makeSlice_full (P:=Tryz.prog) y_ wF.heap.size 57 4 b0 _ 1 Tryz.underlying57 b1 b2 b3 .i64 .i64 m oM (by rw[b4];omega) (by unfold maxLen;omega) h.below.size;rw[made4 hm8]at ho;refine cP (v:=.slice (some ⟨y_.heap.size,0,none⟩) m m) (w':=w') (aM rfl) ?_ (fun t ht=>by cases ht;exact ho) ⟨hg.os,hg.tape,hg.output,hg.size,fun k hk=>hg.block k hk sI⟩;unfold execOp;simp only[e17];rw[Sem.run_bind,hr];rfl) ?_;exact AllOps.nil
  case htailB=>
   rintro⟨tm1,df⟩ y_ hI;have o15:y_.ownsRow wF.heap.size 3 1 (Act.eval ⟨tm1,df⟩ (.tmp 15)) m ((Ru.wayV m).nums.map (Value.int .i64)):=hI.all 2 _ 15 dE rfl rfl;have o18:y_.ownsRow wF.heap.size 4 1 (Act.eval ⟨tm1,df⟩ (.tmp 18)) m ((Ru.wayV m).known.map Value.bool):=hI.all 5 _ 18 dE rfl rfl;obtain⟨an,cn,e15⟩:=aZ o15;obtain⟨as_,cs,e18⟩:=aZ o18;rw[e15]at o15;rw[e18]at o18;have e6:Act.eval ⟨tm1,df⟩ (.tmp 6)=.pointer (some ⟨FB,0,none⟩):=hI.still 6 dE;have hFBF:FB<wF.heap.size:=aY HFB.out;have hIn:FromIn w wF m FB (.slice ab r.body.length cb) (.slice a9 q.length c9) r (Rl.set facts):=⟨aX HB1.out.size HFBl.out,HPB.out,fun z hz=>(HSR.out.keep (fun c hc=>by rw[HFB.out]at hc;injection hc with hc;injection hc with _ hc;cases hc) hz).toV (Kp.below hz HBF.out),HBF.out,aX (set_length facts) oM,fun f hf=>HFF.out f (Rl.mem_set.mp hf),HFN.out,HLF.out,hb4,hm8⟩;have hfr:=zO w wF m FB (.slice at_ r.terms.length ct) (.slice ab r.body.length cb) (.slice a9 q.length c9) r (Rl.set facts) hIn (r.body.length+1) 0 (Ru.wayV m) ([],false) [] (.slice none 0 0) wF.heap.size (.slice an m cn) (.slice as_ m cs) y_ (Kp.of_below hI.below HBF.out.size) (FindI.below ⟨rfl,HFB.out,cM _ _ _ _,fun _ hp=>absurd hp sI⟩ hI.below) hFBF ⟨o15,o18,Ru.wayV_wf m,fun n hn=>by rw[List.eq_of_mem_replicate hn];decide⟩ (aR _) oM sI;(have HRF:Hid (Ru.fromN (Rl.set facts) r.body (r.body.length+1) 0 (Ru.wayV m)=Ru.refWays (Rl.set facts) r):=by show _=Ru.fromN _ _ _ _ (Ru.wayV r.vars.toNat);rw[HM.out,dI]);rw[HRF.out,Ru.runO_full _ _ sI,eW]at hfr;have HFR:Hid _:=hfr;have hsN:tm1.size=70:=hI.size;show wpOps Tryz.prog _ _ [6] _ _;rw[wpOps_cons];refine kK rfl (aM rfl) (qN (f:=60) (args:=#[.pointer (some ⟨FB,0,none⟩), .int .i64 0, .slice an m cn, .slice as_ m cs]) ?_ (Calls.mono HFR.out ?_))
   ·have ec:=evc ⟨tm1,df⟩;have ef:=evf ⟨tm1,df⟩;clear hfr;generalize Act.eval ⟨tm1,df⟩=ev at *;clear hI;go_simp
   rintro _ w5 ⟨rfl,⟨q5,vo5,hFI5⟩,hK5⟩;have HFI5:Hid _:=hFI5;have HB5:Hid (Below w.heap.size w w5):=Kp.below hK5 (HBF.out.trans (hI.below.mono HBF.out.size));(have hst:∀t,t∉[13,14,15,16,17,18,19]→(tm1.setIfInBounds 19 (.tuple #[])).getD t undef=_:=fun t ht=>by have hA:t≠19:=fun e=>ht (by rw[e];decide);exact(cI (a:=⟨tm1,df⟩) hA).trans (hI.still t ht));(have hs3:(tm1.setIfInBounds 19 (.tuple #[])).size=70:=by simp[hsN]);obtain rfl:df=[]:=hI.defers;refine⟨_,rfl,?_⟩;clear hI o15 o18 e15 e18 e6 hIn hfr hFI5 hK5 r4 HFR hsN;show Exit.then _ _ Exit.normal ⟨tm1.setIfInBounds 19 (.tuple #[]),[]⟩ w5;generalize tm1.setIfInBounds 19 (.tuple #[])=tm at *;obtain⟨fQ,hQ,hF8⟩:=fH [13,14,15,16,17,18,19] tm _ (hs3.trans rF) hst;clear hs3 hst;simp only[cL,dB]at hF8;clear hQ;simp only[aV,bS,bV]at hF8;subst hF8;obtain⟨LW,HLW⟩:∃LW,Hid (Ru.refWays (Rl.set facts) r=LW):=⟨_,rfl⟩;rw[HLW.out]at HFI5;(have f7:w5.cell? ⟨FB,7,none⟩=some (.bool (decide (2000<LW.length))):=by rw[aC HFI5.out.b];rfl);by_cases hbig:2000<LW.length
   ·rw[decide_eq_true hbig]at f7;have HBIG:Hid _:=hbig;clear hbig;go_wp2_with fail;refine bodyPost_ret (results_tmp2 rfl _ _ _) rfl ?_;(have HOK:Hid (Ru.refOk facts r=false):=by show _=_;unfold Ru.refOk;rw[HLW.out];exact decide_eq_false (by have :=HBIG.out;omega));(have HOU:Hid (Ru.refOut facts r=[]):=by show _=_;unfold Ru.refOut;rw[HOK.out];rfl);exact⟨_,[],by rw[HOK.out];rfl,⟨cM _ _ _ _,fun p hp=>absurd hp sI⟩,by rw[HOU.out];rfl,HB5.out⟩
   rw[decide_eq_false hbig]at f7;(have HQ5:Hid (q5.map (·.1)=LW):=by show _=_;have h9:q5.map (·.1)=LW.take 2000:=HFI5.out.hq;rw[h9,cH oM]);(have HOK:Hid (Ru.refOk facts r=true):=by show _=_;unfold Ru.refOk;rw[HLW.out];exact decide_eq_true oM);(have HOU:Hid (Ru.refOut facts r=Ru.srt LW):=by show _=_;unfold Ru.refOut;rw[HOK.out,HLW.out];rfl);(have HNL:Hid LW.Nodup:=by show LW.Nodup;rw[←HLW.out];exact HND.out);have HWL:Hid (∀p,p∈q5→p.1.length=m):=fun p hp=>HLEN.out p.1 (by rw[HLW.out,←HQ5.out];exact jE hp);obtain⟨ao,co,hvo⟩:=aZ HFI5.out.o;subst hvo;(have hn2:q5.length≤2000:=by have :q5.length=LW.length:=(by rw[←HQ5.out,aO]);omega);have HFI6:Hid (FindI FB (.slice at_ r.terms.length ct) (.slice ab r.body.length cb) (.slice a9 q.length c9) r (q5.map (·.1),false) q5 (.slice ao q5.length co) w5):=⟨rfl,by have h9:=HFI5.out.b;unfold FindB at h9 ⊢;rw[h9,decide_eq_false hbig],HFI5.out.o,HFI5.out.hr⟩;have HFW:Hid (w.heap.size≤FB):=aX HB1.out.size HFBl.out;clear hbig HFI5;generalize hnn:q5.length=nn at *;have HNN:Hid _:=hnn;clear hnn;go_wp2_with fail;go_loopw [7] (fun iv wr=>∃(i:Nat)(qc:List Nv),1≤i∧i≤nn+1∧iv=.int .i64 i∧Hid (qc.Perm q5)∧Hid (FindI FB (.slice at_ r.terms.length ct) (.slice ab r.body.length cb) (.slice a9 q.length c9) r (qc.map (·.1),false) qc (.slice ao nn co) wr)∧Hid (Ru.Srtd (qc.take i))∧Hid (Below w.heap.size w wr)) (fun iv _=>nn+1-(intOf iv).toNat);case atStart=>exact⟨1,q5,aF _,oM,rfl,List.Perm.refl _,HFI6.out,by
    show Ru.Srtd _;unfold Ru.Srtd
    cases q5 with
    |nil=>exact List.Pairwise.nil
    |cons a l=>exact fM _ _,HB5.out⟩
   case round=>
    obtain⟨i,qc,hi1,hin,rfl,HPE,HFC,HSO,HBC⟩:=hrel;(have HQL2:Hid (qc.length=nn):=by show _=_;rw[HPE.out.length_eq,HNN.out]);(have f6o:wr.cell? ⟨FB,6,none⟩=some (.slice ao nn co):=by rw[aC HFC.out.b];rfl);by_cases hlt:i<nn
    ·have gil:decide (i<nn)=true:=decide_eq_true hlt;obtain⟨x,hx⟩:∃x,qc[i]?=some x:=⟨_,aG (by have :=HQL2.out;omega)⟩;have HX:Hid _:=hx;have hxm:x∈qc:=dL hx;have HXM:Hid _:=hxm;have hrow:=HFC.out.o;obtain⟨GB,co2,hv⟩:∃g c,(Value.slice ao nn co)=.slice (some ⟨g,0,none⟩) nn c:=by
      rcases eU (show wr.ownsRow (FB+1) 22 1 (.slice ao nn co) nn (qc.map (·.2))from by have h9:=hrow;rw[HQL2.out]at h9;exact h9)with⟨_,h0⟩|⟨g,c,h⟩
      ·omega
      exact⟨g,c,h⟩
     injection hv with e1 _ e3;subst e1 e3;(have HGW:Hid (w.heap.size≤GB):=by have :=(hrow.lt GB rfl).1;have :=HFW.out;show _≤_;omega);(have HFG:Hid (¬FB=GB):=by have :=(hrow.lt GB rfl).1;show¬_;omega);clear hx hxm hrow;go_wp2_with fail;go_loopw [8] (fun kv wr=>∃k:Nat,k≤i∧kv=.int .i64 k∧Hid (FindI FB (.slice at_ r.terms.length ct) (.slice ab r.body.length cb) (.slice a9 q.length c9) r ((Ru.gapL qc x i k).map (·.1),false) (Ru.gapL qc x i k) (.slice (some ⟨GB,0,none⟩) nn co) wr)∧Hid (∀y,y∈(qc.take i).drop k→Rl.cmpL x.1 y.1<0)∧Hid (Below w.heap.size w wr)) (fun kv _=>(intOf kv).toNat);case atStart=>exact⟨i,aF _,rfl,by show FindI _ _ _ _ _ _ _ _ _;rw[Ru.gap_start HX.out];exact HFC.out,(fun y hy=>by rw[aL (by rw[bC];omega)]at hy;cases hy),HBC.out⟩
     case round=>
      clear f6o;obtain⟨wk,hwk⟩:∃wk,wk=wr:=⟨_,rfl⟩;subst hwk;obtain⟨k0,hki,rfl,HFK,HGT,HBK⟩:=hrel;have f6:wk.cell? ⟨FB,6,none⟩=some (.slice (some ⟨GB,0,none⟩) nn co):=by rw[aC HFK.out.b];rfl
      cases k0 with
      |zero=>
       have HS2:Hid (Ru.Srtd ((Ru.gapL qc x i 0).take (i+1))):=Ru.gap_sorted HX.out (aR _) HSO.out HGT.out (.inl rfl);have HP2:Hid ((Ru.gapL qc x i 0).Perm q5):=(Ru.gap_perm HX.out (aR _)).trans HPE.out;go_upto_region 9 with fail;go_quiet(fail);go_wp2_with fail;go_roundw;(case rel=>exact⟨i+1,_,oM,oM,gN,HP2.out,HFK.out.below (bY _ _),HS2.out,HBK.out.trans ((bY _ _).mono HBK.out.size)⟩);case measure=>exact mI
      |succ k=>
       obtain⟨yv,hy⟩:∃yv,qc[k]?=some yv:=⟨_,aG (by have :=HQL2.out;omega)⟩;have HY:Hid _:=hy;have hym:yv∈qc:=dL hy;(have HRL:Hid ((Ru.gapL qc x i (k+1)).length=nn):=by show _=_;rw[Ru.gap_length HX.out hki,HQL2.out]);have hro:=HFK.out.o;rw[HRL.out]at hro;(have ck:wk.cell? ⟨GB,k+1,none⟩=some x.2:=by rw[World.ownsRow.cellAt hro (k+1) oM,bK,Ru.gap_at HX.out hki];rfl);(have ck0:wk.cell? ⟨GB,k,none⟩=some yv.2:=by rw[World.ownsRow.cellAt hro k oM,bK,Ru.gap_pred HX.out hki,HY.out];rfl);have HGP0:Hid (∀p,p∈qc→p∈Ru.gapL qc x i (k+1)):=fun p hp=>(Ru.gap_perm HX.out hki).mem_iff.mpr hp;have hox:=HFK.out.hr x (HGP0.out _ HXM.out);have hoy:=HFK.out.hr yv (HGP0.out _ hym);have hlx:x.1.length=m:=HWL.out x (HPE.out.mem_iff.mp HXM.out);have hly:yv.1.length=m:=HWL.out yv (HPE.out.mem_iff.mp hym);have HQ9:Hid (∀j,Calls Tryz.prog 61 #[x.2,yv.2] (wk.drewN j) fun e w'=>e=.returned (.bool (Ru.lessI x.1 yv.1))∧∃n,w'=(wk.drewN j).drewN n):=fun j=>aAt _ _ _ _ _ (aK (gE hox) (bY _ _)) (aK (gE hoy) (bY _ _)) oM oM;have HLC:Hid _:=Ru.lessI_cmp (x:=x.1) (y:=yv.1) oM;(have HXV:Hid (∃a c,x.2=.slice a m c):=by obtain⟨a,c,h⟩:=aZ hox;exact⟨a,c,by rw[h,hlx]⟩);(have HYV:Hid (∃a c,yv.2=.slice a m c):=by obtain⟨a,c,h⟩:=aZ hoy;exact⟨a,c,by rw[h,hly]⟩);clear hy hym hro hox hoy hlx hly;cases hle:Ru.lessI x.1 yv.1
       ·rw[hle]at HQ9 HLC;have HNT:Hid (¬Rl.cmpL x.1 yv.1<0):=of_decide_eq_false HLC.out.symm;have HS2:Hid (Ru.Srtd ((Ru.gapL qc x i (k+1)).take (i+1))):=Ru.gap_sorted HX.out hki HSO.out HGT.out (.inr ⟨yv,by rw[lJ];exact HY.out,HNT.out⟩);have HP2:Hid ((Ru.gapL qc x i (k+1)).Perm q5):=(Ru.gap_perm HX.out hki).trans HPE.out;obtain⟨ax,cx,hxv⟩:=HXV.out;obtain⟨ay,cy,hyv⟩:=HYV.out;rw[hxv]at ck;rw[hyv]at ck0;rw[hxv,hyv]at HQ9;clear hle;go_upto_region 9 with fail;go_quiet(first|(go_at_call 61;exact jM (HQ9.out _)));go_wp2_with fail;go_roundw;(case rel=>exact⟨i+1,_,oM,oM,gN,HP2.out,HFK.out.below (bY _ _),HS2.out,HBK.out.trans ((bY _ _).mono HBK.out.size)⟩);case measure=>exact mI
       rw[hle]at HQ9 HLC;(have HLT:Hid (Rl.cmpL x.1 yv.1<0):=by have h9:=HLC.out;show Rl.cmpL x.1 yv.1<0;exact of_decide_eq_true h9.symm);have HGT2:Hid (∀y,y∈(qc.take i).drop k→Rl.cmpL x.1 y.1<0):=by
        intro y hy;obtain⟨hkq,hyk⟩:=dA.mp HY.out;(have hkl:k<(qc.take i).length:=by rw[bC];omega);rw[bG hkl]at hy;rcases bD.mp hy with h|h
        ·rw[h,List.getElem_take,hyk];exact HLT.out
        exact HGT.out y h
       (have HGL:Hid ((Ru.gapL qc x i k).length=nn):=by show _=_;rw[Ru.gap_length HX.out oM,HQL2.out]);have HGP:Hid ((Ru.gapL qc x i k).Perm (Ru.gapL qc x i (k+1))):=(Ru.gap_perm HX.out oM).trans (Ru.gap_perm HX.out hki).symm;obtain⟨ax,cx,hxv⟩:=HXV.out;obtain⟨ay,cy,hyv⟩:=HYV.out;(have HGS:Hid ((((Ru.gapL qc x i (k+1)).map (·.2)).set (k+1) (Value.slice ay m cy)).set k (Value.slice ax m cx)=(Ru.gapL qc x i k).map (·.2)):=by show _=_;rw[←Ru.gap_swap HX.out hki HY.out,iW,iW];show _=((_:List Value).set (k+1) yv.2).set k x.2;rw[hxv,hyv]);(rw[hxv]at ck;rw[hyv]at ck0;rw[hxv,hyv]at HQ9;clear hle hxv hyv HXV HYV;go_upto_region 9 with fail;go_quiet(first|(go_at_call 61;exact jM (HQ9.out _)));have hdr:=bY wk nq;(replace HFK:=show Hid (FindI FB (.slice at_ r.terms.length ct) (.slice ab r.body.length cb) (.slice a9 q.length c9) r ((Ru.gapL qc x i (k+1)).map (·.1),false) (Ru.gapL qc x i (k+1)) (.slice (some ⟨GB,0,none⟩) nn co) (wk.drewN nq))from HFK.out.below hdr);(replace HBK:=show Hid (Below w.heap.size w (wk.drewN nq))from HBK.out.trans (hdr.mono HBK.out.size));replace f6:=aD hdr f6;replace ck:=aD hdr ck;replace ck0:=aD hdr ck0;clear hdr HQ9;generalize wk.drewN nq=w0k at *;generalize Ru.gapL qc x i (k+1)=R at *;have HRO:Hid (w0k.ownsRow (FB+1) 22 1 (.slice (some ⟨GB,0,none⟩) nn co) nn (R.map (·.2))):=by have h9:=HFK.out.o;rw[HRL.out]at h9;exact h9);generalize hXVe:Value.slice ax m cx=XV at *;generalize hYVe:Value.slice ay m cy=YV at *;have HXV:Hid (∃a c,XV=Value.slice a m c):=⟨ax,cx,hXVe.symm⟩;have HYV:Hid (∃a c,YV=Value.slice a m c):=⟨ay,cy,hYVe.symm⟩;clear hXVe hYVe;obtain⟨cG,hoG⟩:=(aC9 HRO.out).2;have HGB0:Hid (w0k.heap[GB]?=some (.cells cG 22)):=hoG;obtain⟨oN,hoN⟩:∃o,(w0k.setCell ⟨GB,k+1,none⟩ YV).heap[GB]?=some o:=⟨_,bL hoG _⟩;have HON:Hid ((w0k.setCell ⟨GB,k+1,none⟩ YV).heap[GB]?=some oN):=hoN;clear hoG hoN;go_upto_region 11 with fail;refine mA (NbR GB) (fun _ _ _ h k=>h.trans k) (fun _ _ h=>NbR.of_below h) (fun tQ vQ _=>vQ=wo11Tv FB GB k (.slice (some ⟨GB,0,none⟩) nn co) XV YV tQ) (fun _ wQ=>wQ.heap[GB]?=some oN) 21 wo11W (fun _ _=>true) dE kR kR kR (fun _ _ _ _ _ h=>h) (fun _ _ _ hb h=>(hb.block _ (aY h)).trans h) (fun _ _ _ _ _ _ _ _ h=>h) ?hopC ?htailC;case hopC=>refine AllOpsI.cons (fun a y_ h hO=>by rw[if_neg dE];have e6:a.eval (.tmp 6)=(.pointer (some ⟨FB,0,none⟩):Value):=h.old 6;exact opX (.pointer (some ⟨FB,6,none⟩))) ?_;refine AllOpsI.cons (fun a y_ h hO=>by rw[if_neg dE];have e48:a.eval (.tmp 48)=(.pointer (some ⟨FB,6,none⟩):Value):=h.of 48;have c0:=h.below.cell f6 HFG.out;exact opX (.slice (some ⟨GB,0,none⟩) nn co)) ?_;refine AllOpsI.cons (fun a y_ h hO=>by rw[if_neg dE];have e8:a.eval (.tmp 8)=(.int .i64 ((k:Int)+1):Value):=h.old 8;exact opX (.int .i64 ((k:Int)+1))) ?_;refine AllOpsI.cons (fun a y_ h hO=>by rw[if_neg dE];have e6:a.eval (.tmp 6)=(.pointer (some ⟨FB,0,none⟩):Value):=h.old 6;exact opX (.pointer (some ⟨FB,6,none⟩))) ?_;refine AllOpsI.cons (fun a y_ h hO=>by rw[if_neg dE];have e51:a.eval (.tmp 51)=(.pointer (some ⟨FB,6,none⟩):Value):=h.of 51;have c0:=h.below.cell f6 HFG.out;exact opX (.slice (some ⟨GB,0,none⟩) nn co)) ?_;refine AllOpsI.cons (fun a y_ h hO=>by rw[if_neg dE];have e8:a.eval (.tmp 8)=(.int .i64 ((k:Int)+1):Value):=h.old 8;exact opX (.int .i64 ((k:Int)+1))) ?_;refine AllOpsI.cons (fun a y_ h hO=>by rw[if_neg dE];have e53:a.eval (.tmp 53)=(.int .i64 ((k:Int)+1):Value):=h.of 53;refine opV (v:=.int .i64 (k:Nat)) ?_;have ec:=evc a;generalize a.eval=ev at *;clear h hO;go_simp;simp[IntKind.wrap,IntKind.bits,IntKind.signed];omega) ?_;refine AllOpsI.cons (fun a y_ h hO=>by rw[if_neg dE];have e6:a.eval (.tmp 6)=(.pointer (some ⟨FB,0,none⟩):Value):=h.old 6;exact opX (.pointer (some ⟨FB,6,none⟩))) ?_;refine AllOpsI.cons (fun a y_ h hO=>by rw[if_neg dE];have e55:a.eval (.tmp 55)=(.pointer (some ⟨FB,6,none⟩):Value):=h.of 55;have c0:=h.below.cell f6 HFG.out;exact opX (.slice (some ⟨GB,0,none⟩) nn co)) ?_;refine AllOpsI.cons (fun a y_ h hO=>by rw[if_neg dE];have e8:a.eval (.tmp 8)=(.int .i64 ((k:Int)+1):Value):=h.old 8;exact opX (.int .i64 ((k:Int)+1))) ?_;refine AllOpsI.cons (fun a y_ h hO=>by rw[if_neg dE];have e57:a.eval (.tmp 57)=(.int .i64 ((k:Int)+1):Value):=h.of 57;refine opV (v:=.int .i64 (k:Nat)) ?_;have ec:=evc a;generalize a.eval=ev at *;clear h hO;go_simp;simp[IntKind.wrap,IntKind.bits,IntKind.signed];omega) ?_;refine AllOpsI.cons (fun a y_ h hO=>by rw[if_neg dE];have e56:a.eval (.tmp 56)=(.slice (some ⟨GB,0,none⟩) nn co:Value):=h.of 56;have e58:a.eval (.tmp 58)=(.int .i64 (k:Nat):Value):=h.of 58;refine opV (v:=.pointer (some ⟨GB,k,none⟩)) ?_;have ec:=evc a;generalize a.eval=ev at *;clear h hO;go_simp;intro h9;exfalso;omega) ?_;refine AllOpsI.cons (fun a y_ h hO=>by rw[if_neg dE];have e59:a.eval (.tmp 59)=(.pointer (some ⟨GB,k,none⟩):Value):=h.of 59;have c0:=aD (h.pre kR) ck0;refine opV (v:=YV) ?_;obtain⟨ay,cy,hYV⟩:=HYV.out;subst hYV;have ec:=evc a;generalize a.eval=ev at *;clear h hO;go_simp) ?_;refine AllOpsI.cons (fun a y_ h hO=>by rw[if_neg dE];have e6:a.eval (.tmp 6)=(.pointer (some ⟨FB,0,none⟩):Value):=h.old 6;exact opX (.pointer (some ⟨FB,6,none⟩))) ?_;refine AllOpsI.cons (fun a y_ h hO=>by rw[if_neg dE];have e61:a.eval (.tmp 61)=(.pointer (some ⟨FB,6,none⟩):Value):=h.of 61;have c0:=h.below.cell f6 HFG.out;exact opX (.slice (some ⟨GB,0,none⟩) nn co)) ?_;refine AllOpsI.cons (fun a y_ h hO=>by rw[if_neg dE];have e8:a.eval (.tmp 8)=(.int .i64 ((k:Int)+1):Value):=h.old 8;exact opX (.int .i64 ((k:Int)+1))) ?_;refine AllOpsI.cons (fun a y_ h hO=>by rw[if_neg dE];have e62:a.eval (.tmp 62)=(.slice (some ⟨GB,0,none⟩) nn co:Value):=h.of 62;have e63:a.eval (.tmp 63)=(.int .i64 ((k:Int)+1):Value):=h.of 63;refine opV (v:=.pointer (some ⟨GB,k+1,none⟩)) ?_;have ec:=evc a;generalize a.eval=ev at *;clear h hO;go_simp;intro h9;have :=h9 oM;exfalso;omega) ?_;refine AllOpsI.cons (fun a y_ h hO=>by rw[if_neg dE];have e64:a.eval (.tmp 64)=(.pointer (some ⟨GB,k+1,none⟩):Value):=h.of 64;have c0:=aD (h.pre kR) ck;refine opV (v:=XV) ?_;obtain⟨ay,cy,hYV⟩:=HXV.out;subst hYV;have ec:=evc a;generalize a.eval=ev at *;clear h hO;go_simp) ?_;refine AllOpsI.cons (fun a y_ h hO=>by rw[if_neg dE];have e49:a.eval (.tmp 49)=(.slice (some ⟨GB,0,none⟩) nn co:Value):=h.of 49;have e50:a.eval (.tmp 50)=(.int .i64 ((k:Int)+1):Value):=h.of 50;refine opV (v:=.pointer (some ⟨GB,k+1,none⟩)) ?_;have ec:=evc a;generalize a.eval=ev at *;clear h hO;go_simp;intro h9;have :=h9 oM;exfalso;omega) ?_;refine AllOpsI.cons (fun a y_ h hO=>by rw[if_pos dE];have e66:a.eval (.tmp 66)=(.pointer (some ⟨GB,k+1,none⟩):Value):=h.of 66;have e60:a.eval (.tmp 60)=(YV:Value):=h.of 60;have hpre:=h.pre kR;have cc:=aD hpre ck;have hy:=(hpre.block _ (aY HGB0.out)).trans HGB0.out;have ff:=bQ hy (k+1);(have hnew:(y_.setCell ⟨GB,k+1,none⟩ YV).heap[GB]?=some oN:=by rw[bL hy,←HON.out,bL HGB0.out]);refine⟨aM rfl,yG (w':=y_.setCell ⟨GB,k+1,none⟩ YV) ?_ ⟨undef,rfl,fun t ht=>(by cases ht),NbR.set _ _ _,fun _ _=>hnew,hnew⟩⟩;obtain⟨ay,cy,hYV⟩:=HYV.out;subst hYV;have ec:=evc a;generalize a.eval=ev at *;clear h hO;go_simp) ?_;refine AllOpsI.cons (fun a y_ h hO=>by rw[if_neg dE];have e52:a.eval (.tmp 52)=(.slice (some ⟨GB,0,none⟩) nn co:Value):=h.of 52;have e54:a.eval (.tmp 54)=(.int .i64 (k:Nat):Value):=h.of 54;refine opV (v:=.pointer (some ⟨GB,k,none⟩)) ?_;have ec:=evc a;generalize a.eval=ev at *;clear h hO;go_simp;intro h9;exfalso;omega) ?_;exact AllOpsI.nil
       case htailC=>
        rintro⟨tm2,df⟩ w8 hI _;have e67:Act.eval ⟨tm2,df⟩ (.tmp 67)=.pointer (some ⟨GB,k,none⟩):=hI.of 20 _ 67 dE rfl rfl kR;have e65:Act.eval ⟨tm2,df⟩ (.tmp 65)=XV:=hI.of 17 _ 65 dE rfl rfl kR;have hG8:w8.heap[GB]?=some oN:=hI.wrote 19 dE rfl;have hR1:=(World.ownsRow.stored HRO.out (k+1) YV).1;(have hG8':w8.heap[GB]?=(w0k.setCell ⟨GB,k+1,none⟩ YV).heap[GB]?:=by rw[hG8,HON.out]);have hR8:w8.ownsRow (FB+1) 22 1 (.slice (some ⟨GB,0,none⟩) nn co) nn ((R.map (·.2)).set (k+1) YV):=dY hR1 (fun g hg=>by
         have hgN:GB=g:=(by simpa[Value.ownBlock]using hg);subst hgN
         exact hG8')
        have hR9:=(World.ownsRow.stored hR8 k XV).1;(have hlen8:((R.map (·.2)).set (k+1) YV).length=nn:=by rw[eE,aO];exact HRL.out);obtain⟨u8,c8⟩:∃u8,w8.cell? ⟨GB,k,none⟩=some u8:=⟨_,(World.ownsRow.cellAt hR8 k oM).trans (aG oM)⟩;have f8:w8.frozen? ⟨GB,k,none⟩=false:=World.ownsRow.frozenAt hR8 k;have hsN:tm2.size=70:=hI.size;show wpOps Tryz.prog _ _ [21] _ _;rw[wpOps_cons];refine lL rfl (aM rfl) rfl (w':=w8.setCell ⟨GB,k,none⟩ XV) ?_ ?_
        ·obtain⟨ay,cy,hXV⟩:=HXV.out;subst hXV;show Sem.run Tryz.prog (execOp (Act.eval ⟨tm2,df⟩) _) w8=_;have ec:=evc ⟨tm2,df⟩;generalize Act.eval ⟨tm2,df⟩=ev at *;clear hI;go_simp
        have hKN:∀(kQ:Nat)(c:Array Value)(t:TypeId),w0k.heap[kQ]?=some (.cells c t)→¬kQ=GB→(w8.setCell ⟨GB,k,none⟩ XV).heap[kQ]?=some (.cells c t):=fun kQ c t hk hne=>(bH hne).trans ((hI.below.block kQ (aY hk) hne).trans hk);have HF9:Hid (FindI FB (.slice at_ r.terms.length ct) (.slice ab r.body.length cb) (.slice a9 q.length c9) r ((Ru.gapL qc x i k).map (·.1),false) (Ru.gapL qc x i k) (.slice (some ⟨GB,0,none⟩) nn co) (w8.setCell ⟨GB,k,none⟩ XV)):=by
         refine⟨rfl,hKN _ _ _ HFK.out.b HFG.out,?_,fun p hp=>?_⟩
         ·rw[HGL.out,←HGS.out];exact hR9
         have hp':p∈R:=(HGP.out.mem_iff).mp hp;exact fF (HFK.out.hr p hp') (fun kQ c hk=>hKN kQ c 3 hk (fun e=>by
          have :=jL HFK.out.o (k:=GB) rfl (by rw[←e];exact hk)
          cases this))
        (have HB9:Hid (Below w.heap.size w (w8.setCell ⟨GB,k,none⟩ XV)):=by have h1:Below w.heap.size w w8:=⟨hI.below.os.trans HBK.out.os,hI.below.tape.trans HBK.out.tape,hI.below.output.trans HBK.out.output,aX HBK.out.size hI.below.size,fun j hj=>(hI.below.block j (bP hj HBK.out.size) (by have :=HGW.out;omega)).trans (HBK.out.block j hj)⟩;exact h1.setCell (p:=⟨GB,k,none⟩) HGW.out _);have hst:∀t,t∉[48,49,50,51,52,53,54,55,56,57,58,59,60,61,62,63,64,65,66,67]→tm2.getD t undef=_:=fun t ht=>hI.still t ht;obtain rfl:df=[]:=hI.defers;clear hI e67 e65 hG8 hR1 hG8' hR8 hR9 hlen8 c8 f8 hKN f6 ck ck0;show Exit.inBlock _ _ Exit.normal ⟨tm2,[]⟩ (w8.setCell ⟨GB,k,none⟩ XV);generalize w8.setCell ⟨GB,k,none⟩ XV=w9 at *;obtain⟨fQ,hQ,hF8⟩:=fH [48,49,50,51,52,53,54,55,56,57,58,59,60,61,62,63,64,65,66,67] tm2 _ (hsN.trans rF) hst;clear hsN hst;simp only[cL,dB]at hF8;clear hQ;simp only[aV,bS,bV]at hF8;subst hF8;go_wp2_with fail;go_roundw;(case rel=>exact⟨k,oM,gN,HF9.out,HGT2.out,HB9.out⟩);case measure=>simp[intOf]
    have gil:decide (i<nn)=false:=decide_eq_false hlt;(have HFIN:Hid (qc.map (·.1)=Ru.srt LW):=by show _=_;refine Ru.sorted_srt (by rw[←HQ5.out];exact HPE.out.map _) HNL.out ?_;have h9:=HSO.out;rw[cH (by have :=HQL2.out;omega)]at h9;exact kE.mpr h9);have HNP:Hid (NumsP w.heap.size wr (.slice ao nn co) qc):=⟨dP HFC.out.o (by have :=HFW.out;omega),fun p hp=>dP (HFC.out.hr p hp) (by have :=HFW.out;omega)⟩;go_wp2_with fail;refine bodyPost_ret (results_tmp2 rfl _ _ _) rfl ?_;exact⟨_,qc,by rw[HOK.out];rfl,HNP.out,by rw[HOU.out];exact HFIN.out,HBC.out⟩
end Go.Proofs.YthenjegmigeieaaGreat
namespace Go.Proofs.YthenjegmigeieaaGreat
namespace Ru
theorem minL_snoc(ns:List Int)(x:Int):minL (ns++[x])=if ns.length=0∨x<minL ns then x else minL ns:=by
 cases ns with
 |nil=>rfl
 |cons a l=>
  (have h1:minL ((a::l)++[x])=if x<minL (a::l)then x else minL (a::l):=by show(l++[x]).foldl _ a=_;rw[kF];rfl);rw[h1];by_cases h:x<minL (a::l)
  ·rw[if_pos h,if_pos (Or.inr h)]
  have h2:¬((a::l).length=0∨x<minL (a::l)):=by
   rintro(e|e)
   ·simp at e
   exact h e
  rw[if_neg h,if_neg h2]
theorem maxL_snoc(ns:List Int)(x:Int):maxL (ns++[x])=if ns.length=0∨maxL ns<x then x else maxL ns:=by
 cases ns with
 |nil=>rfl
 |cons a l=>
  (have h1:maxL ((a::l)++[x])=if maxL (a::l)<x then x else maxL (a::l):=by show(l++[x]).foldl _ a=_;rw[kF];rfl);rw[h1];by_cases h:maxL (a::l)<x
  ·rw[if_pos h,if_pos (Or.inr h)]
  have h2:¬((a::l).length=0∨maxL (a::l)<x):=by
   rintro(e|e)
   ·simp at e
   exact h e
  rw[if_neg h,if_neg h2]
theorem foldN_nil(f:Int):foldN f []=0:=by
 unfold foldN;split
 ·rfl
 split
 ·rfl
 split<;>rfl
theorem foldN_one(ns:List Int):foldN 1 ns=ns.length:=rfl
theorem foldN_two(ns:List Int)(x:Int):foldN 2 (ns++[x])=foldN 2 ns+x:=by show(ns++[x]).sum=ns.sum+x;simp
theorem foldN_three(ns:List Int)(x:Int):foldN 3 (ns++[x])=if ns.length=0∨x<foldN 3 ns then x else foldN 3 ns:=minL_snoc ns x
theorem foldN_four(ns:List Int)(x:Int):foldN 4 (ns++[x])=if ns.length=0∨foldN 4 ns<x then x else foldN 4 ns:=maxL_snoc ns x
theorem group_nil(p:List Int):group [] p=[]:=rfl
theorem group_yes{H:List Rl.Fc}{g:Rl.Fc}{p:List Int}(h:pre g.args=p):group (H++[g]) p=group H p++[lst g.args]:=by unfold group;rw[fZ,bJ,List.filter_cons_of_pos (by simpa using h)];rfl
theorem group_no{H:List Rl.Fc}{g:Rl.Fc}{p:List Int}(h:¬pre g.args=p):group (H++[g]) p=group H p:=by unfold group;rw[fZ,bJ,List.filter_cons_of_neg (by simpa using h)];simp
theorem group_le(H:List Rl.Fc)(p:List Int):(group H p).length≤H.length:=by unfold group;rw[aO];exact gU _ _
theorem group_num{H:List Rl.Fc}{p:List Int}(hH:∀g,g∈H→0<g.args.length∧∀n,n∈g.args→Sc.isNum n=true):∀n,n∈group H p→Sc.isNum n=true:=by intro n hn;unfold group at hn;obtain⟨g,hg,rfl⟩:=bO.mp hn;have h:=hH g (eX.mp hg).1;exact lst_num h.1 h.2
def gave(r:Sc.Rule)(H:List Rl.Fc)(h:Rl.Fc):List Rl.Fc:=if r.fold=0 then [h] else emit r.fold r.pred (pre h.args) (group H (pre h.args))
theorem gave_flat(r:Sc.Rule)(W:List (List Int)):((W.map (head r)).map (gave r (W.map (head r)))).flatten=headsL r W:=by
 unfold headsL;by_cases hf:r.fold=0
 ·rw[if_pos hf];(have :gave r (W.map (head r))=fun h=>[h]:=by funext h;unfold gave;rw[if_pos hf]);rw[this];generalize W.map (head r)=L
  induction L with
  |nil=>rfl
  |cons a l ih=>rw[eT,iM,ih];rfl
 rw[if_neg hf];generalize hH:W.map (head r)=H;have hp:∀h,h∈H→h.pred=r.pred:=fun h hh=>by rw[←hH]at hh;obtain⟨y,_,rfl⟩:=bO.mp hh;rfl
 suffices ∀L:List Rl.Fc,(∀h,h∈L→h.pred=r.pred)→(L.map (gave r H)).flatten=L.filterMap (foldH r.fold H)from this H hp
 intro L
 induction L with
 |nil=>intro _;rfl
 |cons a l ih=>
  intro hL;rw[eT,iM,ih (fun h hh=>hL h (aP _ hh)),fW];unfold gave foldH emit;rw[if_neg hf,hL a bA];by_cases hn:Sc.isNum (foldN r.fold (group H (pre a.args)))=true
  ·rw[if_pos hn];simp only[hn,if_true];rfl
  rw[if_neg hn];simp only[hn];rfl
end Ru
end Go.Proofs.YthenjegmigeieaaGreat
namespace Go.Proofs.YthenjegmigeieaaGreat
open Go.RowKit
theorem pR{P:Program}{w:World}(base:Nat)(t ty e:TypeId)(i:TypeInfo)(z:Value)(size bytes:Nat)(ht:P.underlying t=some (.slice e))(hi:P.info? e=some i)(hz:i.zero=some z)
 (hsize:i.size=size) (hby:i.bytes=bytes) (hzs:z.cells.size=size) (hsz:0<size) (g:Nat) (hown:w.ownsRow base e size (.slice (some ⟨g,0,none⟩) 0 0) 0 [])
 (a:Addr) (m c:Nat) (news:List Value) (hl:news.length=m*size) (hnews:∀j u,news[j]?=some u→w.cell? (a.add j)=some u) (h63:m≤maxLen) (hbytes:m*bytes≤140737488355328) (hbase:base≤w.heap.size):
 ∃v' w',(Builtin.append_ #[t,t] ty #[.slice (some ⟨g,0,none⟩) 0 0, .slice (some a) m c]).run P w=.ok v' w'∧w'.ownsRow base e size v' m news∧Below w.heap.size w w':=by
 by_cases hm:m=0
 ·subst hm;have hn:news=[]:=cQ (by simpa using hl);subst hn;refine⟨_,w,?_,hown,aH _ _⟩;simp[Builtin.append_,run_underlying ht,sizeOf,typeInfo,hi,Builtin.lenOf,Builtin.firstCells,loadCells,loadCellsFrom,storeCells]
 obtain⟨v',w',h1,h2,h3⟩:=run_append_arg_grows (P:=P) w t ty e i z size bytes ht hi hz hsize hby hzs hsz ⟨g,0,none⟩ 0 0 [] sI (fun j u h=>by simp at h) a m c news hl hnews oM (by rw[cV];exact h63) (by rw[cV];exact hbytes);rw[cV,eW]at h2;exact⟨v',w',h1,dP h2 hbase,h3.os,h3.tape,h3.output,h3.size,fun k hk=>h3.block k hk (fun e=>by cases e)⟩
section
variable {P:Program} {ops:Array Oper} {Q:Exit→Act→World→Prop} {T:Nat→Value→World→Prop} {a:Act} {w:World} {o:Oper}
theorem aBs(hw:Region.wanted o (yielded ops a.tmps)=true)(s x:Operand)(t:TypeId)(ho:o.op=.call {callee:=.builtin .append,args:=#[s,x],argTypes:=#[t,t]})
 (base:Nat) (e:TypeId) (i:TypeInfo) (z:Value) (size bytes:Nat) (ht:P.underlying t=some (.slice e)) (hi:P.info? e=some i) (hz:i.zero=some z)
 (hsize:i.size=size) (hby:i.bytes=bytes) (hzs:z.cells.size=size) (hsz:0<size) (g:Nat) (hs:a.eval s=.slice (some ⟨g,0,none⟩) 0 0) (hown:w.ownsRow base e size (.slice (some ⟨g,0,none⟩) 0 0) 0 [])
 (ad:Addr) (m c:Nat) (news:List Value) (hx:a.eval x=.slice (some ad) m c) (hl:news.length=m*size) (hnews:∀j u,news[j]?=some u→w.cell? (ad.add j)=some u) (h63:m≤1000) (hb8:bytes≤64) (hbase:base≤w.heap.size)
 (hT:∀v' w',w'.ownsRow base e size v' m news→Below w.heap.size w w'→∀t,o.dst=some t→T t v' w'):OpOk P ops Q T o a w:=by
 obtain⟨v',w',hr,h1,h2⟩:=pR (P:=P) base t o.type e i z size bytes ht hi hz hsize hby hzs hsz g hown ad m c news hl hnews (by unfold maxLen;omega) (aX (Nat.mul_le_mul h63 hb8) dE) hbase;refine cP (v:=v') (w':=w') hw ?_ (hT v' w' h1 h2) h2;unfold execOp;simp only[ho,resolve,invoke,builtin,Sem.run_bind,Sem.run_pure,Result.andThen_ok,List.map_toArray,eT,List.map_nil,hs,hx,hr]
end
theorem aBu{w:World}{g:Nat}{m c:Nat}{l:List Int}(h:IntsV w (.slice (some ⟨g,0,none⟩) m c) l):∀j u,(l.map (Value.int .i64))[j]?=some u→w.cell? ((⟨g,0,none⟩:Addr).add j)=some u:=by
 intro j u hj;obtain⟨ao,cap,hv,hA⟩:=h;injection hv with e1 e2 e3;subst e1;have hlt:j<l.length:=by
  rcases dF j l.length with h|h
  ·exact h
  rw[bR (by rw[aO];exact h)]at hj;cases hj
 obtain⟨b,off,hb,hc⟩:=fS hA j hlt;injection hb with hb;injection hb with e1 e2;subst e1 e2;rw[Addr.add_lit,hc,←hj,bK,aG hlt];unfold Sc.intD;rw[aE,aG hlt];rfl
theorem aCT{wr:World}{B A:Nat}{v:Value}{qo:List Fv}{b off n cap k:Nat}{u:Value}(ho:wr.ownsRow B 55 2 v qo.length (qo.map fcCells).flatten)(hr:∀p,p∈qo→wr.ownsRow A 3 1 p.2 p.1.args.length (p.1.args.map (Value.int .i64)))(hv:v=.slice (some ⟨b,off,none⟩) n cap)(hk:k<qo.length)(hc:wr.cell? ⟨b,off+k*2+1,none⟩=some u):
 wr.ownsRow A 3 1 (Rl.factD (qo.map (·.1)) k,u).2 (Rl.factD (qo.map (·.1)) k,u).1.args.length ((Rl.factD (qo.map (·.1)) k,u).1.args.map (Value.int .i64)):=by
 rcases eU ho with⟨_,h0⟩|⟨g,cap2,hv2⟩
 ·omega
 rw[hv2]at ho;rw[hv]at hv2;injection hv2 with e1 _ _;injection e1 with e1;injection e1 with e1 e4 _;subst e1 e4;rw[cV]at hc;obtain⟨x,hx,hx2⟩:=mF qo (k*2+1) oM;rw[World.ownsRow.cellAt ho (k*2+1) oM,hx2,show(k*2+1)% 2=1 by omega]at hc;rw[show(k*2+1)/2=k by omega]at hx;(have hu:x.2=u:=by have :(fcCells x)[1]?=some x.2:=rfl;rw[this]at hc;injection hc);(have hf:Rl.factD (qo.map (·.1)) k=x.1:=by unfold Rl.factD;rw[aE,bK,hx];rfl);rw[hf,←hu];exact hr x (dL hx)
section
variable {P:Program} {ops:Array Oper} {Q:Exit→Act→World→Prop}
theorem oK(T T1:Nat→Value→World→Prop)(L S:Nat)(early:Nat→Bool){id:Nat}{a0:Act}{w0:World}(hL:L<ops.size)(hSz:S<ops.size)(htf:tailFine ops L=true)(hm:P.follows .mixedOrders=true)
 (hf:tabFine ops a0.tmps.size=true) (hear:earlyFine ops S early=true)
 (hmono:∀t v w w',Below w.heap.size w w'→T t v w→T t v w') (hmono1:∀t v w w',Below w.heap.size w w'→T1 t v w→T1 t v w')
 (hmonoE:∀t v w w',early t=true→Below w0.heap.size w w'→T t v w→T t v w')
 (hop:AllOpsI (fun i o=>∀a w,OpIn ops T a0 w0 o a w→(∀t,t∉(ops.toList.take L).filterMap (·.dst)→a.tmps.getD t undef=a0.tmps.getD t undef)→if i=S then(OpIn ops T1 a0 w0 o a w→Region.wanted o (yielded ops a.tmps)=true∧o.wp P a w (fun a' w'=>∃v,a'=a.put o.dst v∧(∀t,o.dst=some t→T t v w')∧w.heap.size≤w'.heap.size∧Below w0.heap.size w w') Q)else((reach ops 12 S i=true→OpIn ops T1 a0 w0 o a w)→OpOk P ops Q (fun t v w=>T t v w∧T1 t v w) o a w)) 0 (ops.toList.take L))
 (htail:∀a w,OpInT ops T a0 w0 L a w→(∀t,t∉(ops.toList.take L).filterMap (·.dst)→a.tmps.getD t undef=a0.tmps.getD t undef)→wpOps P ops Q (List.range' L (ops.size-L)) a w):
 (Code.region id ops true).wp P Q a0 w0:=by
 have hear':∀(i:Nat)(o:Oper)(t:Nat),ops[i]?=some o→o.dst=some t→¬i=S→reach ops 12 i S=false→early t=true:=fun i o t ho hd hne hr=>by
  unfold earlyFine at hear;have h:=bE.mp hear i (cZ.mpr (aJ.mp ho).1);rw[ho,hr]at h;simp only[dG,dH,hd,Bool.or_false,eA,beq_iff_eq]at h;rcases h with h|h
  ·exact absurd h hne
  exact h
 unfold tailFine at htf;rw[aW]at htf;have ht1:∀j,j<L→reach ops 12 L j=true:=fun j hj=>bE.mp htf.1 j (cZ.mpr hj);(have ht2:∀i,i<ops.size→L<i→reach ops 12 i (i-1)=true:=fun i hi hLi=>by have h:=bE.mp htf.2 i (cZ.mpr hi);rw[decide_eq_true hLi]at h;simpa using h);unfold tabFine at hf;rw[aW,aW]at hf;obtain⟨⟨hnd,hlt⟩,hah⟩:=hf;have hnd:=of_decide_eq_true hnd;have hlt':∀t,t∈ops.toList.filterMap (·.dst)→t<a0.tmps.size:=fun t ht=>of_decide_eq_true (bE.mp hlt t ht);have hah':∀(i:Nat)(o:Oper),ops[i]?=some o→∀e,e∈o.after→e.on<i:=fun i o ho e he=>by have hi:i<ops.size:=(aJ.mp ho).1;have h:=bE.mp hah i (cZ.mpr hi);rw[ho,dG,dH]at h;exact of_decide_eq_true (bE.mp h e (by simpa using he))
 refine gO (fun s a w=>(s.size=ops.size∧Closed ops s)∧(((∀i,L≤i→i<ops.size→s[i]?=some false)∧(∀t,t∉(ops.toList.take L).filterMap (·.dst)→a.tmps.getD t undef=a0.tmps.getD t undef)∧(s[S]?=some false→Tabbed ops T1 a0 w0 s a w)∧Tabbed ops T a0 w0 s a w)∨
  (∃m,L≤m∧m≤ops.size∧(∀i,i<m→s[i]?=some true)∧(∀i,m≤i→i<ops.size→s[i]?=some false)∧wpOps P ops Q (List.range' m (ops.size-m)) a w))) hm ?_ ?_ ?_
 ·rintro s a w hr ⟨⟨hs,hC⟩,hI⟩;have hall:∀n:Nat,n≤ops.size→∀i:Nat,i<n→s[i]?=some true:=by
   intro n
   induction n with
   |zero=>intro _ i hi;exact absurd hi (fD _)
   |succ n ih=>
    intro hn i hi;have ih:=ih oM;by_cases hin:i<n
    ·exact ih i hin
    have hin:i=n:=oM;subst hin
    cases hsi:s[i]? with
    |none=>rw[dV]at hsi;omega
    |some b=>
     cases b with
     |true=>rfl
     |false=>
      exfalso;have hio:i<ops.size:=oM;(have :i∈Region.ready .any ops s:=by unfold Region.ready;refine eX.mpr ⟨cZ.mpr hio,?_⟩;rw[aW];refine⟨by simp[Array.getD_eq_getD_getElem?,hsi],?_⟩;have ho:ops[i]?=some ops[i]:=cD hio;rw[ho,dG,dH,eI];intro e he;have h1:=ih e.on (hah' i _ ho e he);simp[Array.getD_eq_getD_getElem?,h1]);rw[hr]at this;exact absurd this sI
  have hd:=hall ops.size (aF _);rcases hI with⟨hF,_,_,_⟩|⟨m,_,hm1,_,hF,hW⟩
  ·have h1:=hF L (aF _) hL;rw[hd L hL]at h1;cases h1
  by_cases hme:m=ops.size
  ·subst hme;rw[iU]at hW;exact hW
  have h1:=hF m (aF _) oM;rw[hd m oM]at h1;cases h1
 ·rintro s a w i hi ⟨⟨hs,hC⟩,hI⟩;obtain⟨hsi,o,ho,haf⟩:=iZ hi;have his:i<ops.size:=(aJ.mp ho).1;have hup:∀j,s[j]?=some true→(s.setIfInBounds i true)[j]?=some true:=fun j hj=>by
   rw[aQ];by_cases hij:i=j
   ·rw[if_pos hij,if_pos oM]
   rw[if_neg hij];exact hj
  have hss:(s.setIfInBounds i true).size=ops.size∧Closed ops (s.setIfInBounds i true):=by
   refine⟨by simp[hs],fun i' o' hi' ho' e he hb=>?_⟩;by_cases hii:i=i'
   ·subst hii;rw[ho]at ho';cases ho';exact hup _ (haf e he hb)
   rw[aQ,if_neg hii]at hi';exact hup _ (hC i' o' hi' ho' e he hb)
  have go:∀m,L≤m→m<ops.size→i=m→(∀j,j<m→s[j]?=some true)→(∀j,m≤j→j<ops.size→s[j]?=some false)→wpOps P ops Q (List.range' m (ops.size-m)) a w→
   wpOp P ops Q i (fun a' w'=>((s.setIfInBounds i true).size=ops.size∧Closed ops (s.setIfInBounds i true))∧(((∀j,L≤j→j<ops.size→(s.setIfInBounds i true)[j]?=some false)∧(∀t,t∉(ops.toList.take L).filterMap (·.dst)→a'.tmps.getD t undef=a0.tmps.getD t undef)∧((s.setIfInBounds i true)[S]?=some false→Tabbed ops T1 a0 w0 (s.setIfInBounds i true) a' w')∧Tabbed ops T a0 w0 (s.setIfInBounds i true) a' w')∨
    (∃m,L≤m∧m≤ops.size∧(∀j,j<m→(s.setIfInBounds i true)[j]?=some true)∧(∀j,m≤j→j<ops.size→(s.setIfInBounds i true)[j]?=some false)∧wpOps P ops Q (List.range' m (ops.size-m)) a' w'))) a w:=by
   intro m hLm hms him hT hF hW;subst him;obtain⟨d,hd⟩:∃d,ops.size-i=d+1:=⟨ops.size-i-1,oM⟩;rw[hd,List.range'_succ,wpOps_cons]at hW;refine wpOp_mono (fun a' w' h'=>⟨hss, .inr ⟨i+1,oM,oM,fun j hj=>?_,fun j hj hjs=>?_,?_⟩⟩) hW
   ·by_cases hji:j=i
    ·subst hji;rw[aQ,if_pos rfl,if_pos oM]
    exact hup j (hT j oM)
   ·rw[aQ,if_neg oM];exact hF j oM hjs
   rw[show ops.size-(i+1)=d by omega];exact h'
  rcases hI with⟨hF,hO,hI1,hI⟩|⟨m,hLm,hm1,hT,hF,hW⟩
  ·by_cases hiL:L≤i
   ·have hiL2:i=L:=by
     rcases dF L i with h|h
     ·have h1:=eG hC 12 i (i-1) o ho haf (ht2 i his h);rw[hF (i-1) oM oM]at h1;cases h1
     omega
    subst hiL2;have hdn:∀j,j<i→s[j]?=some true:=fun j hj=>eG hC 12 i j o ho haf (ht1 j hj);exact go i (aF _) his rfl hdn (fun j hj hjs=>hF j hj hjs) (htail a w ⟨hI.below,hI.defers,hI.size,hI.still,fun j oj t hj hoj hd=>hI.done j oj t (hdn j hj) hoj hd⟩ hO)
   (have hmo:o∈ops.toList.take L:=by rw[←bF]at ho;refine dL (i:=i) ?_;rw[dN,if_pos oM];exact ho);have hopI:=AllOpsI.get _ 0 hop i o (by
    rw[dN,if_pos oM,bF]
    exact ho) a w ⟨hI.below,hI.still,fun e he hb o' t ho' hd=>hI.done e.on o' t (haf e he hb) ho' hd⟩ hO
   rw[cV]at hopI;have hOset:∀(v:Value) t,t∉(ops.toList.take L).filterMap (·.dst)→(a.put o.dst v).tmps.getD t undef=a0.tmps.getD t undef:=fun v t ht=>by
    cases hd:o.dst with
    |none=>exact hO t ht
    |some u=>
     have hne:t≠u:=fun h=>ht (h▸dM.mpr ⟨o,hmo,hd⟩);rw[cI hne];exact hO t ht
   have hset:∀{T:Nat→Value→World→Prop}{v:Value}{w':World},Tabbed ops T a0 w0 s a w→(∀t,o.dst=some t→T t v w')→w.heap.size≤w'.heap.size→Below w0.heap.size w w'→(∀(j:Nat)(oj:Oper)(t:Nat),s[j]?=some true→ops[j]?=some oj→oj.dst=some t→∀u,T t u w→T t u w')→Tabbed ops T a0 w0 (s.setIfInBounds i true) (a.put o.dst v) w':=by
    intro T v w' hI hv hsz hb hmono;refine⟨hI.below.trans hb,by rw[jN];exact hI.defers,by rw[fI];exact hI.size,fun t ht=>?_,fun j oj t hj hoj hd=>?_⟩
    ·cases hd:o.dst with
     |none=>exact hI.still t ht
     |some u=>
      have hne:t≠u:=fun h=>ht (h▸iR ho hd);rw[cI hne];exact hI.still t ht
    by_cases hij:j=i
    ·subst hij;rw[ho]at hoj;cases hoj;rw[hd,dC (by rw[hI.size];exact hlt' t (iR ho hd))];exact hv t hd
    (have hj':s[j]?=some true:=by rw[aQ,if_neg (fun h=>hij h.symm)]at hj;exact hj);have h1:=hmono j oj t hj' hoj hd _ (hI.done j oj t hj' hoj hd)
    cases hd2:o.dst with
    |none=>exact h1
    |some u=>
     have hne:t≠u:=fun h=>hij (lW ops.toList hnd j i oj o t (by rw[bF];exact hoj) (by rw[bF];exact ho) hd (h▸hd2));rw[cI hne];exact h1
   (have hF':∀j,L≤j→j<ops.size→(s.setIfInBounds i true)[j]?=some false:=fun j hj hjs=>by rw[aQ,if_neg oM];exact hF j hj hjs);by_cases hiS:i=S
   ·rw[if_pos hiS]at hopI;have hT1:=hI1 (by rw[←hiS];exact hsi);obtain⟨hw,hwp⟩:=hopI ⟨hT1.below,hT1.still,fun e he hb o' t ho' hd=>hT1.done e.on o' t (haf e he hb) ho' hd⟩;unfold wpOp;rw[ho];dsimp only;rw[if_pos hw];refine .inl (Oper.wp_mono ?_ hwp);rintro a' w' ⟨v,rfl,hv,hsz,hb⟩;refine⟨hss, .inl ⟨hF',hOset v,fun h=>?_,hset hI hv hsz hb (fun j oj t hj hoj hd u hu=>?_)⟩⟩
    ·rw[hiS,aQ,if_pos rfl,if_pos oM]at h;cases h
    (have hjS:¬j=S:=fun e=>by rw[e,←hiS,hsi]at hj;cases hj);have hr:reach ops 12 j S=false:=by
     cases hr:reach ops 12 j S with
     |false=>rfl
     |true=>
      have h1:=eG hC 12 j S oj hoj (fun e he hb=>hC j oj hj hoj e he hb) hr;rw[←hiS,hsi]at h1;cases h1
    exact hmonoE t u w w' (hear' j oj t hoj hd hjS hr) hb hu
   rw[if_neg hiS]at hopI;replace hopI:=hopI (fun hrS=>by
    have hsS:s[S]?=some false:=by
     cases hsS:s[S]? with
     |none=>rw[dV]at hsS;omega
     |some b=>
      cases b with
      |false=>rfl
      |true=>
       have hoS:ops[S]?=some ops[S]:=cD hSz;have h1:=eG hC 12 S i _ hoS (fun e he hb=>hC S _ hsS hoS e he hb) hrS;rw[hsi]at h1;cases h1
    have hT1:=hI1 hsS
    exact⟨hT1.below,hT1.still,fun e he hb o' t ho' hd=>hT1.done e.on o' t (haf e he hb) ho' hd⟩)
   (have hSs:(s.setIfInBounds i true)[S]?=some false→s[S]?=some false:=fun h=>by rw[aQ,if_neg hiS]at h;exact h);have hlow:∀{w':World},Below w.heap.size w w'→Below w0.heap.size w w':=fun hb=>hb.mono hI.below.size;unfold OpOk at hopI;unfold wpOp;rw[ho];dsimp only;by_cases hw:Region.wanted o (yielded ops a.tmps)=true
   ·rw[if_pos hw]at hopI ⊢;refine hopI.imp (Oper.wp_mono ?_) (fun h=>h);rintro a' w' ⟨v,rfl,hv,hb⟩;exact⟨hss, .inl ⟨hF',hOset v,fun h=>hset (hI1 (hSs h)) (fun t ht=>(hv t ht).2) hb.size (hlow hb) (fun _ _ t _ _ _ u hu=>hmono1 t u w w' hb hu),hset hI (fun t ht=>(hv t ht).1) hb.size (hlow hb) (fun _ _ t _ _ _ u hu=>hmono t u w w' hb hu)⟩⟩
   rw[if_neg hw]at hopI ⊢;exact⟨hss, .inl ⟨hF',hOset _,fun h=>hset (hI1 (hSs h)) (fun t ht=>(hopI t ht).2) (aF _) (hlow (aH _ _)) (fun _ _ t _ _ _ u hu=>hu),hset hI (fun t ht=>(hopI t ht).1) (aF _) (hlow (aH _ _)) (fun _ _ t _ _ _ u hu=>hu)⟩⟩
  have him:m≤i:=by
   rcases dF i m with h|h
   ·have h1:=hT i h;rw[hsi]at h1;cases h1
   exact h
  have him2:i=m:=by
   rcases dF m i with h|h
   ·have h1:=eG hC 12 i (i-1) o ho haf (ht2 i his oM);rw[hF (i-1) oM oM]at h1;cases h1
   omega
  exact go m hLm oM him2 hT hF hW
 refine⟨⟨by simp,fun i o h=>?_⟩, .inl ⟨fun i _ hi=>?_,fun _ _=>rfl,fun _=>⟨⟨rfl,rfl,rfl,aF _,fun _ _=>rfl⟩,rfl,rfl,fun _ _=>rfl,fun i o t h _ _=>?_⟩,⟨⟨rfl,rfl,rfl,aF _,fun _ _=>rfl⟩,rfl,rfl,fun _ _=>rfl,fun i o t h _ _=>?_⟩⟩⟩
 ·rw[cO]at h;split at h<;>simp at h
 ·rw[cO,if_pos hi]
 ·rw[cO]at h;split at h<;>simp at h
 rw[cO]at h;split at h<;>simp at h
end
end Go.Proofs.YthenjegmigeieaaGreat
