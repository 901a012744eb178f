import Derived.Test.YthmeoilbmfdhfaaGreatMSDec
import Derived.Test.YthmeoilbmfdhfaaGreatMDkJ
open Go.Value renaming slice->UD,int->UE,pointer->UM
open Go.IntKind renaming i64->UO,u32->UG
open Go.Obj renaming cells->UP
open Go.Ground renaming data->UR
open Option renaming some->UI,none->UJ
namespace Go.Proofs.YthmeoilbmfdhfaaGreat
set_option maxHeartbeats 4000000
set_option maxRecDepth 100000
open Go.ChangeShapes Go.WideShapes Go.ChangeAt Go.RowKit
set_option linter.unusedVariables false
structure T5 (w wb:World) (sc:Array Value):Prop where
 p1:w.heap.size<wb.heap.size
 p2:wb.heap[w.heap.size]?=UI (UP sc 30 (0,0))
 p3:w.heap.size<=wb.heap.size
 p4:wb.heap.size<=w.heap.size+1
theorem Mg (gn tl:Int) (aD aU:Option Addr) (nD cD nU cU:Nat) (D U:List Int) (w:World) (hD:D.length=nD) (hU:U.length=nU) (mD:nD<=1048576) (mU:nU<=1048576)
  (haD:At UO w aD D) (haU:At UO w aU U) :
  Calls Tryz.prog 32 #[.agg #[UE UG gn,UE UG tl,UD aD nD cD,UD aU nU cU]] w λe w'=>∃ cs,e=.returned (.agg cs)/\FB w.heap.size (nU:Int) D U [] 0 w' cs/\Below w.heap.size w w':=by
 obtain⟨wb,hwb⟩:∃ wb,wb=w.alloc (UP #[UE UG gn,UE UG tl,UD aD nD cD,UD aU nU cU] 30):=⟨_,rfl⟩
 have HWB:AP (T5 w wb #[UE UG gn,UE UG tl,UD aD nD cD,UD aU nU cU]):=⟨by rw[hwb];simp,by rw[hwb];exact AV w _,by rw[hwb];simp,by rw[hwb];simp⟩
 have HBW:AP (Below w.heap.size w wb):=by show Below _ _ _;rw[hwb];exact Cs.alloc Cw _
 have HAD:AP (At UO w aD D):=haD;have HAU:AP (At UO w aU U):=haU;have HLN:AP (D.length=nD/\U.length=nU):=⟨hD,hU⟩
 have HSZ:AP ((Tryz.prog.info? 34).map (·.size)=UI 4):=by show _=_;kernel_rfl
 have HW0:AP (Below wb.heap.size wb ((w.alloc (UP #[UE UG gn,UE UG tl,UD aD nD cD,UD aU nU cU] 30)).alloc (UP Cf 34)).drew):=by
  have h1:Below wb.heap.size wb (wb.alloc (UP Cf 34)):=Cs.alloc Cw _;rw[hwb] at h1 |-;exact⟨h1.os,h1.tape,h1.output,h1.size,h1.block⟩
 have HR0:AP (((w.alloc (UP #[UE UG gn,UE UG tl,UD aD nD cD,UD aU nU cU] 30)).alloc (UP Cf 34)).drew.heap[w.heap.size+1]?=UI (UP Cf 34 (0,0))):=by
  have:=AV (w.alloc (UP #[UE UG gn,UE UG tl,UD aD nD cD,UD aU nU cU] 30)) (UP Cf 34)
  rwa [show(w.alloc (UP #[UE UG gn,UE UG tl,UD aD nD cD,UD aU nU cU] 30)).heap.size=w.heap.size+1 by simp] at this
 clear haD haU hD hU hwb;go_enter Tryz.func32,Tryz.ntmps32;go_wp2_with fail;refine Ae AN ?_;refine C3 (λi a b=>if i=13 then Wr (w.heap.size+1) a b else Below a.heap.size a b) (frame:=(λ(a b c:Value)=>λ(t:Nat->Value)=>({ tmps:=List.toArray [a,b,c,t 0,t 1,t 2,t 3,t 4,t 5,t 6,t 7,t 8,t 9,t 10,t 11,t 12],defers:=[] }:Act)) _ _ _)
  (Ext:=λL u w'=>LZ wb (w.heap.size+1) 13 34 Cf (FB (w.heap.size+2) nU D U [] 0) [] L u w') (Good:=λi L w' v=>if i=0 then E3 (w.heap.size+2) 2 w' v else if i=1 then v=UM (UI ⟨w.heap.size,2,UJ⟩) else if i=2 then v=UD aD nD cD else if i=3 then Iow (w.heap.size+2) w' v D else if i=4 then E3 (w.heap.size+2) 2 w' v else if i=5 then v=UM (UI ⟨w.heap.size,3,UJ⟩) else if i=6 then v=UD aU nU cU else if i=7 then Iow (w.heap.size+2) w' v U else if i=8 then v=UM (UI ⟨w.heap.size,3,UJ⟩) else if i=9 then v=UD aU nU cU else if i=10 then v=UE UO (nU:Int) else if i=11 then E3 (w.heap.size+2) 133 w' v else if i=12 then IT (w.heap.size+2) nU D U [] 0 w' v else if i=13 then L 13=true else True) ?hstab AN ?hop ?hdone _ _ ((λ(x0 x1 x2 x3 x4 x5 x6 x7 x8 x9 x10 x11 x12:Value)=>λ(i:Nat)=>if i=0 then x0 else if i=1 then x1 else if i=2 then x2 else if i=3 then x3 else if i=4 then x4 else if i=5 then x5 else if i=6 then x6 else if i=7 then x7 else if i=8 then x8 else if i=9 then x9 else if i=10 then x10 else if i=11 then x11 else if i=12 then x12 else undef) _ _ _ _ _ _ _ _ _ _ _ _ _) _ AM ?ext ?start AM
 case start=>intro i hi h;exact absurd h E0
 case ext=>exact LZ.start ⟨HW0.o,λp _ hp=>absurd hp E0,λp _ q _ _ hp=>absurd hp E0⟩ (λ_=>FJ) HR0.o
 case hstab=>
  intro j L w9 w' i v hM hij hLi h;by_cases h0:j=0
  ·subst h0;by_cases hl:i=13
   ·subst hl;simp at h hM |-;exact h.wr hM AK
   ·rw[AS hl] at hM;simp at h |-;exact h.below hM
  by_cases h3:j=3
  ·subst h3;by_cases hl:i=13
   ·subst hl;simp at h hM |-;exact h.wr hM AK
   ·rw[AS hl] at hM;simp at h |-;exact h.below hM
  by_cases h4:j=4
  ·subst h4;by_cases hl:i=13
   ·subst hl;simp at h hM |-;exact h.wr hM AK
   ·rw[AS hl] at hM;simp at h |-;exact h.below hM
  by_cases h7:j=7
  ·subst h7;by_cases hl:i=13
   ·subst hl;simp at h hM |-;exact h.wr hM AK
   ·rw[AS hl] at hM;simp at h |-;exact h.below hM
  by_cases h11:j=11
  ·subst h11;by_cases hl:i=13
   ·subst hl;simp at h hM |-;exact h.wr hM AK
   ·rw[AS hl] at hM;simp at h |-;exact h.below hM
  by_cases h12:j=12
  ·subst h12;by_cases hl:i=13
   ·subst hl;simp at h hM |-;exact h.wr hM AK
   ·rw[AS hl] at hM;simp at h |-;exact h.below hM
  by_cases hl:j=13
  ·subst hl;simp at h |-;unfold Ct;simp[h]
  simp only[if_neg h0,if_neg h3,if_neg h4,if_neg h7,if_neg h11,if_neg h12,if_neg hl] at h |-;exact h
 case hop=>
  intro i o L t w' ho hLi hx hdep K hK;have hi:i<14:=(AQ.1 ho).1;obtain rfl|rfl|rfl|rfl|rfl|rfl|rfl|rfl|rfl|rfl|rfl|rfl|rfl|rfl:i=0\/i=1\/i=2\/i=3\/i=4\/i=5\/i=6\/i=7\/i=8\/i=9\/i=10\/i=11\/i=12\/i=13:=AK
  all_goals(simp at ho;subst ho)
  ·clear hdep;have hsz:w.heap.size+2<=w'.heap.size:=AG hx.lt
   have bb:Below w'.heap.size w' (w'.alloc (UP #[] 2)):=Cs.alloc Cw _;have hK':=hK (w'.alloc (UP #[] 2)) (UD (UI ⟨w'.heap.size,0,UJ⟩) 0 0) (by simpa using E3.new 2 w' hsz) (hx.step (λ_ _ _ b h=>h.below b) 0 AL _ bb C7) (by rw[AS AL];exact bb);clear hK bb;rw[AR AO];go_simp;simpa[Cr] using hK'
  ·clear hdep;have hK':=hK w' (UM (UI ⟨w.heap.size,2,UJ⟩)) AM (hx.step (λ_ _ _ b h=>h.below b) 1 AL _ Cs C7) (by rw[AS AL];exact Cs);clear hK;rw[AR AO];go_simp;simpa[Cr] using hK'
  ·have d1:t 1=UM (UI ⟨w.heap.size,2,UJ⟩):=by simpa using(hdep ⟨1,UR⟩ AM rfl).2
   clear hdep;have cc:w'.cell? ⟨w.heap.size,2,UJ⟩=UI (UD aD nD cD):=by rw[Aa (a:=⟨w.heap.size,2,UJ⟩) (w:=wb) (hx.ax.below.block _ HWB.o.p1),AA HWB.o.p2 2];rfl
   have hK':=hK w' (UD aD nD cD) AM (hx.step (λ_ _ _ b h=>h.below b) 2 AL _ Cs C7) (by rw[AS AL];exact Cs);clear hK;rw[AR AO];go_simp;simpa[Cr,d1] using hK'
  ·have f0:E3 (w.heap.size+2) 2 w' (t 0):=by simpa using(hdep ⟨0,UR⟩ AM rfl).2
   have d2:t 2=UD aD nD cD:=by simpa using(hdep ⟨2,UR⟩ AM rfl).2
   clear hdep;have hsz:w.heap.size+2<=w'.heap.size:=AG hx.lt
   have bw:Below w.heap.size w w':=HBW.o.trans (hx.ax.below.mono HWB.o.p3);have hK':∀ ww v,Iow (w.heap.size+2) ww v D->Below w'.heap.size w' ww->K _ ww:=λww v hv hb=>hK ww v (by simpa using hv) (hx.step (λ_ _ _ b h=>h.below b) 3 AL _ hb C7) (by rw[AS AL];exact hb)
   clear hK;rw[AR AO];refine E4 28 2 (UE UO 0) 1 8 Tryz.infoI64 Tryz.underlying28 rfl AL AL w' (.tmp 3) (.tmp 5) rfl (w.heap.size+2) (t 0) rfl f0 aD nD cD D d2 (by rw[HLN.o.1,B8]) (HAD.o.below bw) mD hsz ?_;intro v' ww h1 h2;have hK2:=hK' ww v' (by unfold Iow;rw[HLN.o.1];exact h1) h2;clear hK' h1 h2;simpa[Cr,Act.put] using hK2
  ·clear hdep;have hsz:w.heap.size+2<=w'.heap.size:=AG hx.lt
   have bb:Below w'.heap.size w' (w'.alloc (UP #[] 2)):=Cs.alloc Cw _;have hK':=hK (w'.alloc (UP #[] 2)) (UD (UI ⟨w'.heap.size,0,UJ⟩) 0 0) (by simpa using E3.new 2 w' hsz) (hx.step (λ_ _ _ b h=>h.below b) 4 AL _ bb C7) (by rw[AS AL];exact bb);clear hK bb;rw[AR AO];go_simp;simpa[Cr] using hK'
  ·clear hdep;have hK':=hK w' (UM (UI ⟨w.heap.size,3,UJ⟩)) AM (hx.step (λ_ _ _ b h=>h.below b) 5 AL _ Cs C7) (by rw[AS AL];exact Cs);clear hK;rw[AR AO];go_simp;simpa[Cr] using hK'
  ·have d5:t 5=UM (UI ⟨w.heap.size,3,UJ⟩):=by simpa using(hdep ⟨5,UR⟩ AM rfl).2
   clear hdep;have cc:w'.cell? ⟨w.heap.size,3,UJ⟩=UI (UD aU nU cU):=by rw[Aa (a:=⟨w.heap.size,3,UJ⟩) (w:=wb) (hx.ax.below.block _ HWB.o.p1),AA HWB.o.p2 3];rfl
   have hK':=hK w' (UD aU nU cU) AM (hx.step (λ_ _ _ b h=>h.below b) 6 AL _ Cs C7) (by rw[AS AL];exact Cs);clear hK;rw[AR AO];go_simp;simpa[Cr,d5] using hK'
  ·have f4:E3 (w.heap.size+2) 2 w' (t 4):=by simpa using(hdep ⟨4,UR⟩ AM rfl).2
   have d6:t 6=UD aU nU cU:=by simpa using(hdep ⟨6,UR⟩ AM rfl).2
   clear hdep;have hsz:w.heap.size+2<=w'.heap.size:=AG hx.lt
   have bw:Below w.heap.size w w':=HBW.o.trans (hx.ax.below.mono HWB.o.p3);have hK':∀ ww v,Iow (w.heap.size+2) ww v U->Below w'.heap.size w' ww->K _ ww:=λww v hv hb=>hK ww v (by simpa using hv) (hx.step (λ_ _ _ b h=>h.below b) 7 AL _ hb C7) (by rw[AS AL];exact hb)
   clear hK;rw[AR AO];refine E4 28 2 (UE UO 0) 1 8 Tryz.infoI64 Tryz.underlying28 rfl AL AL w' (.tmp 7) (.tmp 9) rfl (w.heap.size+2) (t 4) rfl f4 aU nU cU U d6 (by rw[HLN.o.2,B8]) (HAU.o.below bw) mU hsz ?_;intro v' ww h1 h2;have hK2:=hK' ww v' (by unfold Iow;rw[HLN.o.2];exact h1) h2;clear hK' h1 h2;simpa[Cr,Act.put] using hK2
  ·clear hdep;have hK':=hK w' (UM (UI ⟨w.heap.size,3,UJ⟩)) AM (hx.step (λ_ _ _ b h=>h.below b) 8 AL _ Cs C7) (by rw[AS AL];exact Cs);clear hK;rw[AR AO];go_simp;simpa[Cr] using hK'
  ·have d8:t 8=UM (UI ⟨w.heap.size,3,UJ⟩):=by simpa using(hdep ⟨8,UR⟩ AM rfl).2
   clear hdep;have cc:w'.cell? ⟨w.heap.size,3,UJ⟩=UI (UD aU nU cU):=by rw[Aa (a:=⟨w.heap.size,3,UJ⟩) (w:=wb) (hx.ax.below.block _ HWB.o.p1),AA HWB.o.p2 3];rfl
   have hK':=hK w' (UD aU nU cU) AM (hx.step (λ_ _ _ b h=>h.below b) 9 AL _ Cs C7) (by rw[AS AL];exact Cs);clear hK;rw[AR AO];go_simp;simpa[Cr,d8] using hK'
  ·have d9:t 9=UD aU nU cU:=by simpa using(hdep ⟨9,UR⟩ AM rfl).2
   clear hdep;have hK':=hK w' (UE UO (nU:Int)) AM (hx.step (λ_ _ _ b h=>h.below b) 10 AL _ Cs C7) (by rw[AS AL];exact Cs);clear hK;rw[AR AO];go_simp;simpa[Cr,d9] using hK'
  ·clear hdep;have hsz:w.heap.size+2<=w'.heap.size:=AG hx.lt
   have bb:Below w'.heap.size w' (w'.alloc (UP #[] 133)):=Cs.alloc Cw _;have hK':=hK (w'.alloc (UP #[] 133)) (UD (UI ⟨w'.heap.size,0,UJ⟩) 0 0) (by simpa using E3.new 133 w' hsz) (hx.step (λ_ _ _ b h=>h.below b) 11 AL _ bb C7) (by rw[AS AL];exact bb);clear hK bb;rw[AR AO];go_simp;simpa[Cr] using hK'
  ·have f3:Iow (w.heap.size+2) w' (t 3) D:=by simpa using(hdep ⟨3,UR⟩ AM rfl).2
   have f7:Iow (w.heap.size+2) w' (t 7) U:=by simpa using(hdep ⟨7,UR⟩ AM rfl).2
   have d10:t 10=UE UO (nU:Int):=by simpa using(hdep ⟨10,UR⟩ AM rfl).2
   have f11:E3 (w.heap.size+2) 133 w' (t 11):=by simpa using(hdep ⟨11,UR⟩ AM rfl).2
   clear hdep;obtain⟨aD',nD',cD',d3⟩:=f3.form;obtain⟨aU',nU',cU',d7⟩:=f7.form;obtain⟨gT,d11,hT1,hT2⟩:=f11;have f13:DN _ w' (UD (UI ⟨gT,0,UJ⟩) 0 0) [] 0:=E3.owns 2 hT1 hT2;rw[d3] at f3;rw[d7] at f7;have hK':=hK w' (.agg #[UD aD' nD' cD',UD aU' nU' cU',UE UO (nU:Int),UD (UI ⟨gT,0,UJ⟩) 0 0]) (by simpa using⟨_,rfl,aD',nD',cD',aU',nU',cU',_,_,rfl,f3,f7,f13⟩) (hx.step (λ_ _ _ b h=>h.below b) 12 AL _ Cs C7) (by rw[AS AL];exact Cs);clear hK f3 f7 f13 hT1 hT2;rw[AR AO];go_simp;simpa[Cr,d3,d7,d10,d11] using hK'
  ·have f12:IT (w.heap.size+2) nU D U [] 0 w' (t 12):=by simpa using(hdep ⟨12,UR⟩ AM rfl).2
   clear hdep;obtain⟨cs,e9,aD',nD',cD',aU',nU',cU',aT',cT',rfl,f3,f7,f13⟩:=f12;have hrs:=hx.pre hLi;have hK':∀ ww,Wr (w.heap.size+1) w' ww->ww.heap[w.heap.size+1]?=UI (UP #[UD aD' nD' cD',UD aU' nU' cU',UE UO (nU:Int),UD aT' 0 cT'] 34 (0,0))->K _ ww:=λww hw hr=>hK ww undef (by simp[Ct]) (hx.put HWB.o.p4 AL _ hw hr ⟨aD',nD',cD',aU',nU',cU',aT',cT',rfl,f3.wr hw AK,f7.wr hw AK,f13.wrk hw AK⟩) (by rw[AR rfl];exact hw)
   clear hK f3 f7 f13;rw[AR AO];refine A8 34 (.tmp 2) (.tmp 15) rfl (w.heap.size+1) _ rfl e9 34 _ hrs HSZ.o rfl (by simp[Value.oneCell']) ?_;have hK2:=hK' _ (Wr.setRow _ _ _) (AB hrs);clear hK';simpa[Cr,Act.put] using hK2
 case hdone=>
  intro L t w' hx hg;have l13:L 13=true:=by simpa using hg 13 AL
  clear hg;obtain⟨cs,hr,hfin⟩:=hx.fin l13;have HR9:AP (w'.heap[w.heap.size+1]?=UI (UP cs 34 (0,0))):=hr;have HF:AP (FB w.heap.size nU D U [] 0 w' cs/\Below w.heap.size w w'):=⟨hfin.mono AK,HBW.o.trans (hx.ax.below.mono HWB.o.p3)⟩
  have HS4:AP ((Tryz.prog.info? 34).map (·.size)=UI cs.size):=by
   obtain⟨aD',nD',cD',aU',nU',cU',aT',cT',e,_⟩:=hfin;rw[e];exact HSZ.o
  clear hx hr hfin;go_wp2_with fail;exact AZ (v:=.agg cs) (AW rfl _ _ (w.heap.size+1) 34 _ (0,0) _ rfl HR9.o Tryz.underlying34 rfl HS4.o) rfl ⟨cs,rfl,HF.o.1,HF.o.2⟩
theorem Nl (a:Option Addr) (n cap:Nat) (k:Int) (w:World) (ho:Df w a (n*4)) (hk:0<=k) (hk':k+n*4<=1000000) :
  Calls Tryz.prog 47 #[UD a n cap,UE UO k] w λe w'=>e=.returned (UE UO (k+n*4))/\FC w' a (Fd k (n*4))/\Hb a w w':=by
 go_enter Tryz.func47,Tryz.ntmps47;go_wp2
 go_loopw [1,5] (λq i wr=>∃ j:Nat,j<=n/\i=UE UO j/\q=UE UO (k+j*4)/\Hb a w wr/\
   (n=0\/∃ g o,a=UI ⟨g,o,UJ⟩/\g<w.heap.size/\(∀ t,t<n*4->(wr.cell? ⟨g,o+t,UJ⟩).isSome=true/\wr.frozen? ⟨g,o+t,UJ⟩=false)/\∀ t,t<j*4->wr.cell? ⟨g,o+t,UJ⟩=UI (UE (kF t) (k+(t:Int))))) (λ_ i _=>n-(intOf i).toNat)
 case atStart=>
  refine⟨0,Aj _,rfl,AM,Hb.refl _ _,?_⟩;rcases ho with h|⟨g,o,h1,h2,h3⟩
  ·exact .inl AK
  ·exact .inr ⟨g,o,h1,h2,h3,λt ht=>AK⟩
 case round=>
  obtain⟨j,hj,rfl,rfl,hwr,hs⟩:=hrel;by_cases hlt:j<n
  ·rcases hs with h|⟨g,o,rfl,hg,hc,hd⟩
   ·omega
   ·have hlt':(j:Int)<n:=AK
    have hst:∀(W:World) (p:Nat) (x:Value),(∀ t,t<n*4->(W.cell? ⟨g,o+t,UJ⟩).isSome=true/\W.frozen? ⟨g,o+t,UJ⟩=false)->∀ t,t<n*4->((W.setCell ⟨g,p,UJ⟩ x).cell? ⟨g,o+t,UJ⟩).isSome=true/\(W.setCell ⟨g,p,UJ⟩ x).frozen? ⟨g,o+t,UJ⟩=false:=by
     intro W p x hW t ht;obtain⟨u,hu⟩:=Av.1 (hW t ht).1;obtain⟨u',hu'⟩:=cell?_setCell_some (w:=W) (p:=⟨g,p,UJ⟩) (x:=x) (q:=⟨g,o+t,UJ⟩) (v:=u) hu;refine⟨by rw[hu'];rfl,?_⟩;rw[CH];exact(hW t ht).2
    obtain⟨K,hKe⟩:∃ K:Int,k+(j:Int)*4=K:=⟨_,rfl⟩
    have hK0:0<=K:=AK
    have hK1:K+4<=1000000:=AK
    have q0:=hc (j*4) AK;obtain⟨p0,f0⟩:=q0;obtain⟨v0,c0⟩:=Av.1 p0;have h0:=hst _ (o+j*4) (UE UG K) hc;have q1:=h0 (j*4+1) AK;rw[<-Ap] at q1;obtain⟨p1,f1⟩:=q1;obtain⟨v1,c1⟩:=Av.1 p1;have h1:=hst _ (o+j*4+1) (UE UO (K+1)) h0;have q2:=h1 (j*4+2) AK;rw[<-Ap] at q2;obtain⟨p2,f2⟩:=q2;obtain⟨v2,c2⟩:=Av.1 p2;have h2:=hst _ (o+j*4+2) (UE UG (K+1+1)) h1;have q3:=h2 (j*4+3) AK;rw[<-Ap] at q3;obtain⟨p3,f3⟩:=q3;obtain⟨v3,c3⟩:=Av.1 p3;have h3:=hst _ (o+j*4+3) (UE UG (K+1+1+1)) h2;have HC:=Cp h3;have HW:AP (Hb (UI ⟨g,o,UJ⟩) w ((((wr.setCell ⟨g,o+j*4,UJ⟩ (UE UG K)).setCell ⟨g,o+j*4+1,UJ⟩ (UE UO (K+1))).setCell ⟨g,o+j*4+2,UJ⟩ (UE UG (K+1+1))).setCell ⟨g,o+j*4+3,UJ⟩ (UE UG (K+1+1+1)))):=(((hwr.setCell _ rfl _ _).setCell _ rfl _ _).setCell _ rfl _ _).setCell _ rfl _ _;have HD:AP (∀ t,t<(j+1)*4->((((wr.setCell ⟨g,o+j*4,UJ⟩ (UE UG K)).setCell ⟨g,o+j*4+1,UJ⟩ (UE UO (K+1))).setCell ⟨g,o+j*4+2,UJ⟩ (UE UG (K+1+1))).setCell ⟨g,o+j*4+3,UJ⟩ (UE UG (K+1+1+1))).cell? ⟨g,o+t,UJ⟩=UI (UE (kF t) (k+(t:Int)))):=by
     intro t ht;by_cases e3:t=j*4+3
     ·subst e3;rw[<-Ap,BQ _ _ _ c3,Th,show K+1+1+1=k+(((j*4+3:Nat)):Int) by omega]
     rw[BG _ _ _ _ (by simp;try omega)];by_cases e2:t=j*4+2
     ·subst e2;rw[<-Ap,BQ _ _ _ c2,Tg,show K+1+1=k+(((j*4+2:Nat)):Int) by omega]
     rw[BG _ _ _ _ (by simp;try omega)];by_cases e1:t=j*4+1
     ·subst e1;rw[<-Ap,BQ _ _ _ c1,Tf,show K+1=k+(((j*4+1:Nat)):Int) by omega]
     rw[BG _ _ _ _ (by simp;try omega)];by_cases e0:t=j*4
     ·subst e0;rw[BQ _ _ _ c0,Te,show K=k+(((j*4:Nat)):Int) by omega]
     rw[BG _ _ _ _ (by simp;try omega)];exact hd t AK
    have m0:K%4294967296=K:=AK
    have m2:(K+1+1)%4294967296=K+1+1:=AK
    have m3:(K+1+1+1)%4294967296=K+1+1+1:=AK
    have HKE:=Cp hKe;rw[hKe];clear hc hd hwr ho p0 p1 p2 p3 h0 h1 h2 h3 hst hKe;go_wp2;go_roundw
    case rel=>exact⟨j+1,AK,by go_num,by rw[show k+((j+1:Nat):Int)*4=K+1+1+1+1 by have:=HKE.o;omega],HW.o,.inr ⟨g,o,rfl,hg,HC.o,HD.o⟩⟩
    case measure=>simp[intOf];omega
  ·have hjn:j=n:=AK
   subst hjn;have HA:AP (FC wr a (Fd k (j*4))):=by
    rcases hs with h|⟨g,o,rfl,hg,hc,hd⟩
    ·subst h;exact .inl rfl
    ·exact .inr ⟨g,o,rfl,by rw[hwr.size];exact hg,λi hi=>by rw[E2] at hi;rw[hd i hi,FN k _ i hi]⟩
   clear hs ho;go_wp2
   go_ret
   exact⟨rfl,HA.o,hwr⟩
theorem Nm (a:Option Addr) (n cap:Nat) (k:Int) (w:World) (ha:FC w a (Fd k (n*4))) (hk:0<=k) (hk':k+n*4<=1000000) :
  Calls Tryz.prog 50 #[UD a n cap,UE UO k] w λe w'=>e=.returned (UE UO (k+n*4))/\w'=w:=by
 go_enter Tryz.func50,Tryz.ntmps50;go_wp2
 go_loop [1,5] (λq i=>∃ j:Nat,j<=n/\i=UE UO j/\q=UE UO (k+j*4)) (λ_ i=>n-(intOf i).toNat)
 case atStart=>exact⟨0,Aj _,rfl,AM⟩
 case round=>
  obtain⟨j,hj,rfl,rfl⟩:=hrel;by_cases hlt:j<n
  ·obtain⟨b,off,rfl,hb,hc⟩:=ha.get (by rw[E2];omega);obtain⟨c0,c1,c2,c3⟩:=FC.four hc j (by rw[E2];omega);obtain⟨K,hKe⟩:∃ K:Int,k+(j:Int)*4=K:=⟨_,rfl⟩
   rw[FN k _ _ AK,show k+((j*4:Nat):Int)=K by omega] at c0;rw[FN k _ _ AK,show k+((j*4+1:Nat):Int)=K+1 by omega] at c1;rw[FN k _ _ AK,show k+((j*4+2:Nat):Int)=K+1+1 by omega] at c2;rw[FN k _ _ AK,show k+((j*4+3:Nat):Int)=K+1+1+1 by omega] at c3;have hK0:0<=K:=AK
   have hK1:K+4<=1000000:=AK
   have hlt':(j:Int)<n:=AK
   have m0:K%4294967296=K:=AK
   have m2:(K+1+1)%4294967296=K+1+1:=AK
   have m3:(K+1+1+1)%4294967296=K+1+1+1:=AK
   have HKE:=Cp hKe;rw[hKe];clear hc ha hKe;go_wp2
   go_round
   case rel=>exact⟨j+1,AK,by go_num,by rw[show k+((j+1:Nat):Int)*4=K+1+1+1+1 by have:=HKE.o;omega]⟩
   case measure=>simp[intOf];omega
  ·have hjn:j=n:=AK
   subst hjn;go_wp2
   go_ret
   exact⟨rfl,rfl⟩
end Go.Proofs.YthmeoilbmfdhfaaGreat
