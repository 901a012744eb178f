import Derived.Test.YthmeoilbmfdhfaaGreatMSwE
import Derived.Test.YthmeoilbmfdhfaaGreatMFrE
import Derived.Test.YthmeoilbmfdhfaaGreatMDkB
import Derived.Test.YthmeoilbmfdhfaaGreatMCatF
import Derived.Test.YthmeoilbmfdhfaaGreatMRowB
namespace Go.Proofs.YthmeoilbmfdhfaaGreat
open Go.ChangeShapes Go.WideShapes Go.ChangeAt Go.RowKit
set_option linter.unusedVariables false
set_option maxRecDepth 10000 in
set_option maxHeartbeats 2000000 in
theorem markF_any (a:Option Addr) (n cap:Nat) (k:Int) (w:World) (ho:Open w a (n*4)) (hk:0≤k) (hk':k+n*4≤1000000) :
  Calls Tryz.prog 47 #[.slice a n cap,.int .i64 k] w fun e w'=>e=.returned (.int .i64 (k+n*4))∧FAt w' a (mks k (n*4))∧WrO a w w':=by
 go_enter Tryz.func47,Tryz.ntmps47;go_wp2
 go_loopw [1,5] (fun q i wr=>∃ j:Nat,j≤n∧i=.int .i64 j∧q=.int .i64 (k+j*4)∧WrO a w wr∧
   (n=0∨∃ g o,a=some ⟨g,o,none⟩∧g<w.heap.size∧(∀ t,t<n*4→(wr.cell? ⟨g,o+t,none⟩).isSome=true∧wr.frozen? ⟨g,o+t,none⟩=false)∧∀ t,t<j*4→wr.cell? ⟨g,o+t,none⟩=some (.int (kF t) (k+(t:Int))))) (fun _ i _=>n-(intOf i).toNat)
 case atStart=>
  refine⟨0,Nat.zero_le _,rfl,by simp,WrO.refl _ _,?_⟩;rcases ho with h|⟨g,o,h1,h2,h3⟩
  ·exact .inl (by omega)
  ·exact .inr ⟨g,o,h1,h2,h3,fun t ht=>by omega⟩
 case round=>
  obtain⟨j,hj,rfl,rfl,hwr,hs⟩:=hrel;by_cases hlt:j<n
  ·rcases hs with h|⟨g,o,rfl,hg,hc,hd⟩
   ·omega
   ·have hlt':(j:Int)<n:=by omega
    have hst:∀(W:World) (p:Nat) (x:Value),(∀ t,t<n*4→(W.cell? ⟨g,o+t,none⟩).isSome=true∧W.frozen? ⟨g,o+t,none⟩=false)→∀ t,t<n*4→((W.setCell ⟨g,p,none⟩ x).cell? ⟨g,o+t,none⟩).isSome=true∧(W.setCell ⟨g,p,none⟩ x).frozen? ⟨g,o+t,none⟩=false:=by
     intro W p x hW t ht;obtain⟨u,hu⟩:=Option.isSome_iff_exists.1 (hW t ht).1;obtain⟨u',hu'⟩:=cell?_setCell_some (w:=W) (p:=⟨g,p,none⟩) (x:=x) (q:=⟨g,o+t,none⟩) (v:=u) hu;refine⟨by rw[hu'];rfl,?_⟩;rw[World.frozen?_setCell];exact(hW t ht).2
    obtain⟨K,hKe⟩:∃ K:Int,k+(j:Int)*4=K:=⟨_,rfl⟩
    have hK0:0≤K:=by omega
    have hK1:K+4≤1000000:=by omega
    have q0:=hc (j*4) (by omega);obtain⟨p0,f0⟩:=q0;obtain⟨v0,c0⟩:=Option.isSome_iff_exists.1 p0;have h0:=hst _ (o+j*4) (.int .u32 K) hc;have q1:=h0 (j*4+1) (by omega);rw[←Nat.add_assoc] at q1;obtain⟨p1,f1⟩:=q1;obtain⟨v1,c1⟩:=Option.isSome_iff_exists.1 p1;have h1:=hst _ (o+j*4+1) (.int .i64 (K+1)) h0;have q2:=h1 (j*4+2) (by omega);rw[←Nat.add_assoc] at q2;obtain⟨p2,f2⟩:=q2;obtain⟨v2,c2⟩:=Option.isSome_iff_exists.1 p2;have h2:=hst _ (o+j*4+2) (.int .u32 (K+1+1)) h1;have q3:=h2 (j*4+3) (by omega);rw[←Nat.add_assoc] at q3;obtain⟨p3,f3⟩:=q3;obtain⟨v3,c3⟩:=Option.isSome_iff_exists.1 p3;have h3:=hst _ (o+j*4+3) (.int .u32 (K+1+1+1)) h2;have HC:=hid_ofL h3;have HW:Hid (WrO (some ⟨g,o,none⟩) w ((((wr.setCell ⟨g,o+j*4,none⟩ (.int .u32 K)).setCell ⟨g,o+j*4+1,none⟩ (.int .i64 (K+1))).setCell ⟨g,o+j*4+2,none⟩ (.int .u32 (K+1+1))).setCell ⟨g,o+j*4+3,none⟩ (.int .u32 (K+1+1+1)))):=(((hwr.setCell _ rfl _ _).setCell _ rfl _ _).setCell _ rfl _ _).setCell _ rfl _ _;have HD:Hid (∀ t,t<(j+1)*4→((((wr.setCell ⟨g,o+j*4,none⟩ (.int .u32 K)).setCell ⟨g,o+j*4+1,none⟩ (.int .i64 (K+1))).setCell ⟨g,o+j*4+2,none⟩ (.int .u32 (K+1+1))).setCell ⟨g,o+j*4+3,none⟩ (.int .u32 (K+1+1+1))).cell? ⟨g,o+t,none⟩=some (.int (kF t) (k+(t:Int)))):=by
     intro t ht;by_cases e3:t=j*4+3
     ·subst e3;rw[←Nat.add_assoc,World.cell?_setCell_same _ _ _ c3,kF3,show K+1+1+1=k+(((j*4+3:Nat)):Int) by omega]
     rw[World.cell?_setCell_other _ _ _ _ (by simp;try omega)];by_cases e2:t=j*4+2
     ·subst e2;rw[←Nat.add_assoc,World.cell?_setCell_same _ _ _ c2,kF2,show K+1+1=k+(((j*4+2:Nat)):Int) by omega]
     rw[World.cell?_setCell_other _ _ _ _ (by simp;try omega)];by_cases e1:t=j*4+1
     ·subst e1;rw[←Nat.add_assoc,World.cell?_setCell_same _ _ _ c1,kF1,show K+1=k+(((j*4+1:Nat)):Int) by omega]
     rw[World.cell?_setCell_other _ _ _ _ (by simp;try omega)];by_cases e0:t=j*4
     ·subst e0;rw[World.cell?_setCell_same _ _ _ c0,kF0,show K=k+(((j*4:Nat)):Int) by omega]
     rw[World.cell?_setCell_other _ _ _ _ (by simp;try omega)];exact hd t (by omega)
    have m0:K%4294967296=K:=by omega
    have m2:(K+1+1)%4294967296=K+1+1:=by omega
    have m3:(K+1+1+1)%4294967296=K+1+1+1:=by omega
    have HKE:=hid_ofL hKe;rw[hKe];clear hc hd hwr ho p0 p1 p2 p3 h0 h1 h2 h3 hst hKe;go_wp2;go_roundw
    case rel=>exact⟨j+1,by omega,by go_num,by rw[show k+((j+1:Nat):Int)*4=K+1+1+1+1 by have:=HKE.out;omega],HW.out,.inr ⟨g,o,rfl,hg,HC.out,HD.out⟩⟩
    case measure=>simp[intOf];omega
  ·have hjn:j=n:=by omega
   subst hjn;have HA:Hid (FAt wr a (mks k (j*4))):=by
    rcases hs with h|⟨g,o,rfl,hg,hc,hd⟩
    ·subst h;exact .inl rfl
    ·exact .inr ⟨g,o,rfl,by rw[hwr.size];exact hg,fun i hi=>by rw[mks_len] at hi;rw[hd i hi,mks_get k _ i hi]⟩
   clear hs ho;go_wp2
   go_ret
   exact⟨rfl,HA.out,hwr⟩
set_option maxRecDepth 10000 in
set_option maxHeartbeats 2000000 in
theorem heldF_any (a:Option Addr) (n cap:Nat) (k:Int) (w:World) (ha:FAt w a (mks k (n*4))) (hk:0≤k) (hk':k+n*4≤1000000) :
  Calls Tryz.prog 50 #[.slice a n cap,.int .i64 k] w fun e w'=>e=.returned (.int .i64 (k+n*4))∧w'=w:=by
 go_enter Tryz.func50,Tryz.ntmps50;go_wp2
 go_loop [1,5] (fun q i=>∃ j:Nat,j≤n∧i=.int .i64 j∧q=.int .i64 (k+j*4)) (fun _ i=>n-(intOf i).toNat)
 case atStart=>exact⟨0,Nat.zero_le _,rfl,by simp⟩
 case round=>
  obtain⟨j,hj,rfl,rfl⟩:=hrel;by_cases hlt:j<n
  ·obtain⟨b,off,rfl,hb,hc⟩:=ha.get (by rw[mks_len];omega);obtain⟨c0,c1,c2,c3⟩:=FAt.four hc j (by rw[mks_len];omega);obtain⟨K,hKe⟩:∃ K:Int,k+(j:Int)*4=K:=⟨_,rfl⟩
   rw[mks_get k _ _ (by omega),show k+((j*4:Nat):Int)=K by omega] at c0;rw[mks_get k _ _ (by omega),show k+((j*4+1:Nat):Int)=K+1 by omega] at c1;rw[mks_get k _ _ (by omega),show k+((j*4+2:Nat):Int)=K+1+1 by omega] at c2;rw[mks_get k _ _ (by omega),show k+((j*4+3:Nat):Int)=K+1+1+1 by omega] at c3;have hK0:0≤K:=by omega
   have hK1:K+4≤1000000:=by omega
   have hlt':(j:Int)<n:=by omega
   have m0:K%4294967296=K:=by omega
   have m2:(K+1+1)%4294967296=K+1+1:=by omega
   have m3:(K+1+1+1)%4294967296=K+1+1+1:=by omega
   have HKE:=hid_ofL hKe;rw[hKe];clear hc ha hKe;go_wp2
   go_round
   case rel=>exact⟨j+1,by omega,by go_num,by rw[show k+((j+1:Nat):Int)*4=K+1+1+1+1 by have:=HKE.out;omega]⟩
   case measure=>simp[intOf];omega
  ·have hjn:j=n:=by omega
   subst hjn;go_wp2
   go_ret
   exact⟨rfl,rfl⟩
structure MB2 (lo:Nat) (w:World) (sc:Array Value) (wr:World):Prop where
 below:Below lo w wr
 box:wr.heap[w.heap.size]?=some (.cells sc 30 (0,0))
theorem MB2.wro {lo:Nat} {w wr w':World} {sc:Array Value} (h:MB2 lo w sc wr) {a:Option Addr} (hl:Lies lo w a) (hw:WrO a wr w'):MB2 lo w sc w':=
 ⟨h.below.trans (hw.below lo (fun ad e=>(hl ad e).1)),by rw[hw.block _ (fun ad e=>by have:=hl ad e;omega)];exact h.box⟩
section
variable (ok:Bool) (gn tl:Int) (aD aU:Option Addr) (nD cD nU cU:Nat) (k:Int) (w:World)
set_option maxRecDepth 100000 in
set_option maxHeartbeats 1000000 in
theorem markN_any (lo:Nat) (hlo:lo≤w.heap.size) (oD:Open w aD nD) (oU:Open w aU nU) (lD:Lies lo w aD) (lU:Lies lo w aU) (dU:Aprt aD aU) (hk:0≤k) (hk':k+nD+nU≤1099511627776) :
  Calls Tryz.prog 46 #[.agg #[.int .u32 gn,.int .u32 tl,.slice aD nD cD,.slice aU nU cU],.int .i64 k] w fun e w'=>e=.returned (.int .i64 (k+nD+nU))∧At .i64 w' aD (mks k nD)∧At .i64 w' aU (mks (k+nD) nU)∧Below lo w w'∧∀ j,j<w.heap.size→NotIn j aD→NotIn j aU→w'.heap[j]?=w.heap[j]?:=by
 have b1:=below_new w (.cells #[.int .u32 gn,.int .u32 tl,.slice aD nD cD,.slice aU nU cU] 30);have HM1:Hid (MB2 lo w #[.int .u32 gn,.int .u32 tl,.slice aD nD cD,.slice aU nU cU] (w.alloc (.cells #[.int .u32 gn,.int .u32 tl,.slice aD nD cD,.slice aU nU cU] 30))):=⟨b1.mono hlo,heap_alloc_new w _⟩
 have HO:Hid (Open (w.alloc (.cells #[.int .u32 gn,.int .u32 tl,.slice aD nD cD,.slice aU nU cU] 30)) aD nD∧Open (w.alloc (.cells #[.int .u32 gn,.int .u32 tl,.slice aD nD cD,.slice aU nU cU] 30)) aU nU):=⟨oD.below b1,oU.below b1⟩
 have HL:Hid (Lies lo w aD∧Lies lo w aU):=⟨lD,lU⟩
 have HP:Hid (Aprt aD aU):=dU;have HN1:Hid (∀ j,j<w.heap.size→(w.alloc (.cells #[.int .u32 gn,.int .u32 tl,.slice aD nD cD,.slice aU nU cU] 30)).heap[j]?=w.heap[j]?):=fun j hj=>b1.block j hj
 clear oD oU lD lU dU b1;go_enter Tryz.func46,Tryz.ntmps46;go_wp2_with fail;refine(markI_any aD nD cD k _ HO.out.1 hk (by omega)).mono ?_;rintro e w2 ⟨rfl,hA,hw⟩;generalize w.alloc (.cells #[.int .u32 gn,.int .u32 tl,.slice aD nD cD,.slice aU nU cU] 30)=w1 at *;have HM2:Hid (MB2 lo w #[.int .u32 gn,.int .u32 tl,.slice aD nD cD,.slice aU nU cU] w2):=HM1.out.wro HL.out.1 hw;have HO2:Hid (Open w2 aU nU):=HO.out.2.keepT (by rw[hw.size];exact Nat.le_refl _) (hw.kept HP.out);have HA2:Hid (At .i64 w2 aD (mks k nD)):=hA;have HN2:Hid (∀ j,j<w.heap.size→NotIn j aD→w2.heap[j]?=w.heap[j]?):=fun j hj h1=>(hw.block j (fun ad e=>h1 ad e)).trans (HN1.out j hj)
 have x3:w2.cell? ⟨w.heap.size,3,none⟩=some (.slice aU nU cU):=by rw[cell_of_row w2 w.heap.size 3 _ _ _ HM2.out.box];rfl
 clear hA hw HM1 HO;go_wp2_with fail;refine(markI_any aU nU cU (k+nD) _ HO2.out (by omega) (by omega)).mono ?_;rintro e w3 ⟨rfl,hA,hw⟩;have HM3:Hid (Below lo w w3):=(HM2.out.wro HL.out.2 hw).below;have HA3:Hid (At .i64 w3 aD (mks k nD)∧At .i64 w3 aU (mks (k+nD) nU)):=⟨HA2.out.keepT (by rw[hw.size];exact Nat.le_refl _) (hw.kept (fun x y hx hy=>(HP.out y x hy hx).symm)),hA⟩
 have HN3:Hid (∀ j,j<w.heap.size→NotIn j aD→NotIn j aU→w3.heap[j]?=w.heap[j]?):=fun j hj h1 h2=>(hw.block j (fun ad e=>h2 ad e)).trans (HN2.out j hj h1)
 clear hA hw HM2 HO2 HA2 x3;go_wp2
 go_ret
 exact⟨rfl,HA3.out.1,HA3.out.2,HM3.out,HN3.out⟩
set_option maxRecDepth 100000 in
set_option maxHeartbeats 1000000 in
theorem heldN_any (hD:At .i64 w aD (mks k nD)) (hU:At .i64 w aU (mks (k+nD) nU)) (hk:0≤k) (hk':k+nD+nU≤1099511627776) :
  Calls Tryz.prog 49 #[.agg #[.int .u32 gn,.int .u32 tl,.slice aD nD cD,.slice aU nU cU],.int .i64 k] w fun e w'=>e=.returned (.int .i64 (k+nD+nU))∧Below w.heap.size w w':=by
 have b1:=below_new w (.cells #[.int .u32 gn,.int .u32 tl,.slice aD nD cD,.slice aU nU cU] 30);have HB:Hid (Below w.heap.size w (w.alloc (.cells #[.int .u32 gn,.int .u32 tl,.slice aD nD cD,.slice aU nU cU] 30))):=b1;have HA:Hid (At .i64 (w.alloc (.cells #[.int .u32 gn,.int .u32 tl,.slice aD nD cD,.slice aU nU cU] 30)) aD (mks k nD)∧At .i64 (w.alloc (.cells #[.int .u32 gn,.int .u32 tl,.slice aD nD cD,.slice aU nU cU] 30)) aU (mks (k+nD) nU)):=⟨hD.below b1,hU.below b1⟩
 have g1:¬ (k+(nD:Int)<0):=by omega
 have g2:¬ (k+(nD:Int)+nU<0):=by omega
 clear hD hU b1;go_enter Tryz.func49,Tryz.ntmps49;go_wp2_with fail;refine(heldI_any aD nD cD k _ HA.out.1 hk (by omega)).mono ?_;rintro e w2 ⟨rfl,rfl⟩;go_wp2_with fail;refine(heldI_any aU nU cU (k+nD) _ HA.out.2 (by omega) (by omega)).mono ?_;rintro e w3 ⟨rfl,rfl⟩;go_wp2
 go_ret
 exact⟨rfl,HB.out⟩
end
structure I6 (lo b1 b2:Nat) (w:World) (aSD aSU aF aD aU aT:Option Addr) (nSD nSU mF nD nU nT:Nat):Prop where
 oSD:Open w aSD nSD
 oSU:Open w aSU nSU
 oF:Open w aF (mF*4)
 oD:Open w aD nD
 oU:Open w aU nU
 oT:Open w aT (nT*2)
 lSD:∀ ad,aSD=some ad→lo≤ad.block∧ad.block<w.heap.size
 lSU:∀ ad,aSU=some ad→lo≤ad.block∧ad.block<w.heap.size
 lF:∀ ad,aF=some ad→lo≤ad.block∧ad.block<w.heap.size
 lD:∀ ad,aD=some ad→lo≤ad.block∧ad.block<w.heap.size
 lU:∀ ad,aU=some ad→lo≤ad.block∧ad.block<w.heap.size
 lT:∀ ad,aT=some ad→lo≤ad.block∧ad.block<w.heap.size
 sDU:Aprt aSD aSU
 dU:Aprt aD aU
 dT:Aprt aD aT
 uT:Aprt aU aT
 xS:∀ ad,aSD=some ad∨aSU=some ad→NotIn ad.block aF∧NotIn ad.block aD∧NotIn ad.block aU∧NotIn ad.block aT
 xF:∀ ad,aF=some ad→NotIn ad.block aD∧NotIn ad.block aU∧NotIn ad.block aT
section
variable (ok:Bool) (gn tl:Int) (aSD aSU aF aD aU aT:Option Addr) (nSD cSD nSU cSU mF cF nD cD nU cU nT cT:Nat) (k0 nx k:Int) (w:World)
theorem I6.below {lo b1 b2:Nat} {w w':World} {aSD aSU aF aD aU aT:Option Addr} {nSD nSU mF nD nU nT:Nat} (h:I6 lo b1 b2 w aSD aSU aF aD aU aT nSD nSU mF nD nU nT) (b:Below w.heap.size w w'):I6 lo b1 b2 w' aSD aSU aF aD aU aT nSD nSU mF nD nU nT:=
 ⟨h.oSD.below b,h.oSU.below b,h.oF.below b,h.oD.below b,h.oU.below b,h.oT.below b,fun ad e=>by have:=h.lSD ad e;have:=b.size;omega,fun ad e=>by have:=h.lSU ad e;have:=b.size;omega,fun ad e=>by have:=h.lF ad e;have:=b.size;omega,fun ad e=>by have:=h.lD ad e;have:=b.size;omega,fun ad e=>by have:=h.lU ad e;have:=b.size;omega,fun ad e=>by have:=h.lT ad e;have:=b.size;omega,h.sDU,h.dU,h.dT,h.uT,h.xS,h.xF⟩
theorem FAt.keepT {w w':World} {a:Option Addr} {F:List Int} (h:FAt w a F) (hs:w.heap.size≤w'.heap.size) (hb:∀ ad,a=some ad→ad.block<w.heap.size→w'.heap[ad.block]?=w.heap[ad.block]?):FAt w' a F:=by
 rcases h with h|⟨b,off,e,hl,hc⟩
 ·exact .inl h
 ·have hk:=hb _ e hl;exact .inr ⟨b,off,e,by omega,fun i hi=>by rw[World.cell?_of_block (a:=⟨b,off+i,none⟩) (w:=w) hk];exact hc i hi⟩
def I6M (w:World) (aSD aSU aF aD aU aT:Option Addr) (nSD nSU mF nD nU nT:Nat) (k:Int):Prop:=
 At .i64 w aSD (mks k nSD)∧At .i64 w aSU (mks (k+nSD) nSU)∧FAt w aF (mks (k+nSD+nSU) (mF*4))∧At .i64 w aD (mks (k+nSD+nSU+mF*4) nD)∧At .i64 w aU (mks (k+nSD+nSU+mF*4+nD) nU)∧At .i64 w aT (mks (k+nSD+nSU+mF*4+nD+nU) (nT*2))
set_option maxRecDepth 100000 in
set_option maxHeartbeats 2000000 in
theorem markM_any {lo b1 b2:Nat} (h:I6 lo b1 b2 w aSD aSU aF aD aU aT nSD nSU mF nD nU nT) (hlo:lo≤w.heap.size) (hk:0≤k) (hk':k+nSD+nSU+mF*4+nD+nU+nT*2≤1000000) :
  Calls Tryz.prog 13 #[.agg #[.bool ok,.int .u32 gn,.int .u32 tl,.slice aSD nSD cSD,.slice aSU nSU cSU,.slice aF mF cF,.slice aD nD cD,.slice aU nU cU,.int .i64 k0,.slice aT nT cT,.int .u32 nx],.int .i64 k] w fun e w'=>e=.returned (.int .i64 (k+nSD+nSU+mF*4+nD+nU+nT*2))∧I6M w' aSD aSU aF aD aU aT nSD nSU mF nD nU nT k∧Below lo w w'∧∀ j,j<w.heap.size→NotIn j aSD→NotIn j aSU→NotIn j aF→NotIn j aD→NotIn j aU→NotIn j aT→w'.heap[j]?=w.heap[j]?:=by
 have bb:Below w.heap.size w (w.alloc (.cells #[.bool ok,.int .u32 gn,.int .u32 tl,.slice aSD nSD cSD,.slice aSU nSU cSU,.slice aF mF cF,.slice aD nD cD,.slice aU nU cU,.int .i64 k0,.slice aT nT cT,.int .u32 nx] 36)):=(Below.refl _ _).alloc (Nat.le_refl _) _;have hbx:(w.alloc (.cells #[.bool ok,.int .u32 gn,.int .u32 tl,.slice aSD nSD cSD,.slice aSU nSU cSU,.slice aF mF cF,.slice aD nD cD,.slice aU nU cU,.int .i64 k0,.slice aT nT cT,.int .u32 nx] 36)).heap[w.heap.size]?=some (.cells #[.bool ok,.int .u32 gn,.int .u32 tl,.slice aSD nSD cSD,.slice aSU nSU cSU,.slice aF mF cF,.slice aD nD cD,.slice aU nU cU,.int .i64 k0,.slice aT nT cT,.int .u32 nx] 36 (0,0)):=heap_alloc_new w _;have HI:=hid_ofL (h.below bb);have HB1:=hid_ofL (bb.mono hlo);have HX1:=hid_ofL hbx;have HL:=hid_ofL h;have HSN:Hid ((Tryz.prog.info? 30).map (·.size)=some 4):=by show _=_;kernel_rfl
 have HSS:Hid ((Tryz.prog.info? 34).map (·.size)=some 4):=by show _=_;kernel_rfl
 have hs1:(w.alloc (.cells #[.bool ok,.int .u32 gn,.int .u32 tl,.slice aSD nSD cSD,.slice aSU nSU cSU,.slice aF mF cF,.slice aD nD cD,.slice aU nU cU,.int .i64 k0,.slice aT nT cT,.int .u32 nx] 36)).heap.size=w.heap.size+1:=by simp
 have HM1:Hid ((w.alloc (.cells #[.bool ok,.int .u32 gn,.int .u32 tl,.slice aSD nSD cSD,.slice aSU nSU cSU,.slice aF mF cF,.slice aD nD cD,.slice aU nU cU,.int .i64 k0,.slice aT nT cT,.int .u32 nx] 36)).rangeAt w.heap.size 1 [.int .u32 gn,.int .u32 tl,.slice aSD nSD cSD,.slice aSU nSU cSU]):=fun j v hj=>by
  have hj4:j<4:=by have:=(List.getElem?_eq_some_iff.1 hj).1;simpa using this
  rw[cell_of_row _ w.heap.size (1+j) _ _ _ hbx];obtain rfl|rfl|rfl|rfl:j=0∨j=1∨j=2∨j=3:=by omega
  all_goals(simp at hj;subst hj;rfl)
 have HN1:=hid_ofL (fun j (hj:j<w.heap.size)=>bb.block j hj);clear h bb hbx;go_enter Tryz.func13,Tryz.ntmps13
 go_upto_region 1 with fail
 generalize w.alloc (.cells #[.bool ok,.int .u32 gn,.int .u32 tl,.slice aSD nSD cSD,.slice aSU nSU cSU,.slice aF mF cF,.slice aD nD cD,.slice aU nU cU,.int .i64 k0,.slice aT nT cT,.int .u32 nx] 36)=w1 at *;go_wp2_with (first
  |(refine wpList_load_mid rfl 30 (.tmp 5) rfl w.heap.size 1 rfl [.int .u32 gn,.int .u32 tl,.slice aSD nSD cSD,.slice aSU nSU cSU] _ HM1.out Tryz.underlying30 rfl HSN.out ?_)
  |fail)
 refine(markN_any gn tl aSD aSU nSD cSD nSU cSU k w1 lo (by omega) HI.out.oSD HI.out.oSU HI.out.lSD HI.out.lSU HI.out.sDU hk (by omega)).mono ?_;rintro e w2 ⟨rfl,p1,p2,bl,un⟩;have s12:=bl.size;have HX2:Hid (w2.heap[w.heap.size]?=some (.cells #[.bool ok,.int .u32 gn,.int .u32 tl,.slice aSD nSD cSD,.slice aSU nSU cSU,.slice aF mF cF,.slice aD nD cD,.slice aU nU cU,.int .i64 k0,.slice aT nT cT,.int .u32 nx] 36 (0,0))):=by
  show _=_
  rw[un _ (by omega) (fun ad e=>by have:=HL.out.lSD ad e;omega) (fun ad e=>by have:=HL.out.lSU ad e;omega)];exact HX1.out
 have kp:∀ c:Option Addr,(∀ ad,c=some ad→NotIn ad.block aSD∧NotIn ad.block aSU)→∀ ad,c=some ad→ad.block<w1.heap.size→w2.heap[ad.block]?=w1.heap[ad.block]?:=fun c hc ad e hl=>un _ hl (hc ad e).1 (hc ad e).2
 have HO2:Hid (Open w2 aF (mF*4)∧Open w2 aD nD∧Open w2 aU nU∧Open w2 aT (nT*2)):=⟨HI.out.oF.keepT s12 (kp _ (fun ad e=>⟨fun x hx h=>(HI.out.xS x (.inl hx)).1 ad e h.symm,fun x hx h=>(HI.out.xS x (.inr hx)).1 ad e h.symm⟩)),HI.out.oD.keepT s12 (kp _ (fun ad e=>⟨fun x hx h=>(HI.out.xS x (.inl hx)).2.1 ad e h.symm,fun x hx h=>(HI.out.xS x (.inr hx)).2.1 ad e h.symm⟩)),HI.out.oU.keepT s12 (kp _ (fun ad e=>⟨fun x hx h=>(HI.out.xS x (.inl hx)).2.2.1 ad e h.symm,fun x hx h=>(HI.out.xS x (.inr hx)).2.2.1 ad e h.symm⟩)),HI.out.oT.keepT s12 (kp _ (fun ad e=>⟨fun x hx h=>(HI.out.xS x (.inl hx)).2.2.2 ad e h.symm,fun x hx h=>(HI.out.xS x (.inr hx)).2.2.2 ad e h.symm⟩))⟩
 have HP2:=hid_ofL (And.intro p1 p2);have HB2:=hid_ofL (HB1.out.trans bl);have x5:w2.cell? ⟨w.heap.size,5,none⟩=some (.slice aF mF cF):=by rw[cell_of_row w2 w.heap.size 5 _ _ _ HX2.out];rfl
 have HN2:Hid (∀ j,j<w.heap.size→NotIn j aSD→NotIn j aSU→w2.heap[j]?=w.heap[j]?):=fun j hj a b=>(un j (by omega) a b).trans (HN1.out j hj)
 clear p1 p2 bl un kp HX1 HM1 HB1 HN1;go_wp2_with fail;refine(markF_any aF mF cF (k+nSD+nSU) w2 HO2.out.1 (by omega) (by omega)).mono ?_;rintro e w3 ⟨rfl,p3,hw⟩;have s23:=hw.size;have kq:∀ c:Option Addr,(∀ ad,c=some ad→NotIn ad.block aF)→∀ ad,c=some ad→ad.block<w2.heap.size→w3.heap[ad.block]?=w2.heap[ad.block]?:=fun c hc ad e hl=>hw.block _ (hc ad e)
 have HX3:Hid (w3.heap[w.heap.size]?=some (.cells #[.bool ok,.int .u32 gn,.int .u32 tl,.slice aSD nSD cSD,.slice aSU nSU cSU,.slice aF mF cF,.slice aD nD cD,.slice aU nU cU,.int .i64 k0,.slice aT nT cT,.int .u32 nx] 36 (0,0))):=by
  show _=_
  rw[hw.block _ (fun ad e=>by have:=HL.out.lF ad e;omega)];exact HX2.out
 have HO3:Hid (Open w3 aD nD∧Open w3 aU nU∧Open w3 aT (nT*2)):=⟨HO2.out.2.1.keepT (by omega) (kq _ (fun ad e x hx h=>(HI.out.xF x hx).1 ad e h.symm)),HO2.out.2.2.1.keepT (by omega) (kq _ (fun ad e x hx h=>(HI.out.xF x hx).2.1 ad e h.symm)),HO2.out.2.2.2.keepT (by omega) (kq _ (fun ad e x hx h=>(HI.out.xF x hx).2.2 ad e h.symm))⟩
 have HP3:Hid (At .i64 w3 aSD (mks k nSD)∧At .i64 w3 aSU (mks (k+nSD) nSU)∧FAt w3 aF (mks (k+nSD+nSU) (mF*4))):=⟨HP2.out.1.keepT (by omega) (kq _ (fun ad e=>(HI.out.xS ad (.inl e)).1)),HP2.out.2.keepT (by omega) (kq _ (fun ad e=>(HI.out.xS ad (.inr e)).1)),p3⟩
 have HB3:=hid_ofL (HB2.out.trans (hw.below lo (fun ad e=>by have:=HI.out.lF ad e;omega)));have HM3:Hid (w3.rangeAt w.heap.size 6 [.slice aD nD cD,.slice aU nU cU,.int .i64 k0,.slice aT nT cT]):=fun j v hj=>by
  have hj4:j<4:=by have:=(List.getElem?_eq_some_iff.1 hj).1;simpa using this
  rw[cell_of_row w3 w.heap.size (6+j) _ _ _ HX3.out];obtain rfl|rfl|rfl|rfl:j=0∨j=1∨j=2∨j=3:=by omega
  all_goals(simp at hj;subst hj;rfl)
 have HN3:Hid (∀ j,j<w.heap.size→NotIn j aSD→NotIn j aSU→NotIn j aF→w3.heap[j]?=w.heap[j]?):=fun j hj a b c=>(hw.block j (fun ad e=>c ad e)).trans (HN2.out j hj a b)
 clear p3 hw kq HX2 HO2 HP2 HB2 HN2 x5;go_wp2_with (first
  |(refine wpList_load_mid rfl 34 (.tmp 13) rfl w.heap.size 6 rfl [.slice aD nD cD,.slice aU nU cU,.int .i64 k0,.slice aT nT cT] _ HM3.out Tryz.underlying34 rfl HSS.out ?_)
  |fail)
 refine(markS_any aD aU aT nD cD nU cU nT cT k0 (k+nSD+nSU+mF*4) w3 lo (by omega) HO3.out.1 HO3.out.2.1 HO3.out.2.2 (fun ad e=>by have:=HI.out.lD ad e;omega) (fun ad e=>by have:=HI.out.lU ad e;omega) (fun ad e=>by have:=HI.out.lT ad e;omega) HI.out.dU HI.out.dT HI.out.uT (by omega) (by omega)).mono ?_;rintro e w4 ⟨rfl,p4,p5,p6,bl,un⟩;have s34:=bl.size;have kp:∀ c:Option Addr,(∀ ad,c=some ad→NotIn ad.block aD∧NotIn ad.block aU∧NotIn ad.block aT)→∀ ad,c=some ad→ad.block<w3.heap.size→w4.heap[ad.block]?=w3.heap[ad.block]?:=fun c hc ad e hl=>un _ hl (hc ad e).1 (hc ad e).2.1 (hc ad e).2.2
 have HF:Hid (I6M w4 aSD aSU aF aD aU aT nSD nSU mF nD nU nT k∧Below lo w w4∧∀ j,j<w.heap.size→NotIn j aSD→NotIn j aSU→NotIn j aF→NotIn j aD→NotIn j aU→NotIn j aT→w4.heap[j]?=w.heap[j]?):=⟨⟨HP3.out.1.keepT s34 (kp _ (fun ad e=>(HI.out.xS ad (.inl e)).2)),HP3.out.2.1.keepT s34 (kp _ (fun ad e=>(HI.out.xS ad (.inr e)).2)),HP3.out.2.2.keepT s34 (kp _ HI.out.xF),p4,p5,p6⟩,HB3.out.trans bl,fun j hj a b c d e g=>(un j (by omega) d e g).trans (HN3.out j hj a b c)⟩
 clear p4 p5 p6 bl un kp HP3 HB3 HM3 HX3 HO3 HN3;go_wp2
 go_ret
 exact⟨rfl,HF.out⟩
set_option maxRecDepth 100000 in
set_option maxHeartbeats 2000000 in
theorem heldM_any (h:I6M w aSD aSU aF aD aU aT nSD nSU mF nD nU nT k) (hk:0≤k) (hk':k+nSD+nSU+mF*4+nD+nU+nT*2≤1000000) :
  Calls Tryz.prog 14 #[.agg #[.bool ok,.int .u32 gn,.int .u32 tl,.slice aSD nSD cSD,.slice aSU nSU cSU,.slice aF mF cF,.slice aD nD cD,.slice aU nU cU,.int .i64 k0,.slice aT nT cT,.int .u32 nx],.int .i64 k] w fun e w'=>e=.returned (.int .i64 (k+nSD+nSU+mF*4+nD+nU+nT*2))∧Below w.heap.size w w':=by
 obtain⟨h1,h2,h3,h4,h5,h6⟩:=h;have bb:Below w.heap.size w (w.alloc (.cells #[.bool ok,.int .u32 gn,.int .u32 tl,.slice aSD nSD cSD,.slice aSU nSU cSU,.slice aF mF cF,.slice aD nD cD,.slice aU nU cU,.int .i64 k0,.slice aT nT cT,.int .u32 nx] 36)):=(Below.refl _ _).alloc (Nat.le_refl _) _;have hbx:(w.alloc (.cells #[.bool ok,.int .u32 gn,.int .u32 tl,.slice aSD nSD cSD,.slice aSU nSU cSU,.slice aF mF cF,.slice aD nD cD,.slice aU nU cU,.int .i64 k0,.slice aT nT cT,.int .u32 nx] 36)).heap[w.heap.size]?=some (.cells #[.bool ok,.int .u32 gn,.int .u32 tl,.slice aSD nSD cSD,.slice aSU nSU cSU,.slice aF mF cF,.slice aD nD cD,.slice aU nU cU,.int .i64 k0,.slice aT nT cT,.int .u32 nx] 36 (0,0)):=heap_alloc_new w _;have HH:=hid_ofL (And.intro (h1.below bb) (And.intro (h2.below bb) (And.intro (h3.below bb) (And.intro (h4.below bb) (And.intro (h5.below bb) (h6.below bb))))));have HB1:=hid_ofL bb;have HX1:=hid_ofL hbx;have HSN:Hid ((Tryz.prog.info? 30).map (·.size)=some 4):=by show _=_;kernel_rfl
 have HSS:Hid ((Tryz.prog.info? 34).map (·.size)=some 4):=by show _=_;kernel_rfl
 have hs1:w.heap.size<(w.alloc (.cells #[.bool ok,.int .u32 gn,.int .u32 tl,.slice aSD nSD cSD,.slice aSU nSU cSU,.slice aF mF cF,.slice aD nD cD,.slice aU nU cU,.int .i64 k0,.slice aT nT cT,.int .u32 nx] 36)).heap.size:=by simp
 have HM1:Hid ((w.alloc (.cells #[.bool ok,.int .u32 gn,.int .u32 tl,.slice aSD nSD cSD,.slice aSU nSU cSU,.slice aF mF cF,.slice aD nD cD,.slice aU nU cU,.int .i64 k0,.slice aT nT cT,.int .u32 nx] 36)).rangeAt w.heap.size 1 [.int .u32 gn,.int .u32 tl,.slice aSD nSD cSD,.slice aSU nSU cSU]):=fun j v hj=>by
  have hj4:j<4:=by have:=(List.getElem?_eq_some_iff.1 hj).1;simpa using this
  rw[cell_of_row _ w.heap.size (1+j) _ _ _ hbx];obtain rfl|rfl|rfl|rfl:j=0∨j=1∨j=2∨j=3:=by omega
  all_goals(simp at hj;subst hj;rfl)
 have g1:¬ (k+(nSD:Int)+nSU<0):=by omega
 have g2:¬ (k+(nSD:Int)+nSU+mF*4<0):=by omega
 have g3:¬ (k+(nSD:Int)+nSU+mF*4+nD+nU+nT*2<0):=by omega
 clear h1 h2 h3 h4 h5 h6 bb hbx;go_enter Tryz.func14,Tryz.ntmps14
 go_upto_region 1 with fail
 generalize w.alloc (.cells #[.bool ok,.int .u32 gn,.int .u32 tl,.slice aSD nSD cSD,.slice aSU nSU cSU,.slice aF mF cF,.slice aD nD cD,.slice aU nU cU,.int .i64 k0,.slice aT nT cT,.int .u32 nx] 36)=w1 at *;go_wp2_with (first
  |(refine wpList_load_mid rfl 30 (.tmp 5) rfl w.heap.size 1 rfl [.int .u32 gn,.int .u32 tl,.slice aSD nSD cSD,.slice aSU nSU cSU] _ HM1.out Tryz.underlying30 rfl HSN.out ?_)
  |fail)
 refine(heldN_any gn tl aSD aSU nSD cSD nSU cSU k w1 HH.out.1 HH.out.2.1 hk (by omega)).mono ?_;rintro e w2 ⟨rfl,b2⟩;have HX2:Hid (w2.heap[w.heap.size]?=some (.cells #[.bool ok,.int .u32 gn,.int .u32 tl,.slice aSD nSD cSD,.slice aSU nSU cSU,.slice aF mF cF,.slice aD nD cD,.slice aU nU cU,.int .i64 k0,.slice aT nT cT,.int .u32 nx] 36 (0,0))):=by show _=_;rw[b2.block _ hs1];exact HX1.out
 have HH2:=hid_ofL (And.intro (HH.out.2.2.1.below b2) (And.intro (HH.out.2.2.2.1.below b2) (And.intro (HH.out.2.2.2.2.1.below b2) (HH.out.2.2.2.2.2.below b2))));have HB2:=hid_ofL (HB1.out.trans (b2.mono HB1.out.size));have x5:w2.cell? ⟨w.heap.size,5,none⟩=some (.slice aF mF cF):=by rw[cell_of_row w2 w.heap.size 5 _ _ _ HX2.out];rfl
 have HM3:Hid (w2.rangeAt w.heap.size 6 [.slice aD nD cD,.slice aU nU cU,.int .i64 k0,.slice aT nT cT]):=fun j v hj=>by
  have hj4:j<4:=by have:=(List.getElem?_eq_some_iff.1 hj).1;simpa using this
  rw[cell_of_row w2 w.heap.size (6+j) _ _ _ HX2.out];obtain rfl|rfl|rfl|rfl:j=0∨j=1∨j=2∨j=3:=by omega
  all_goals(simp at hj;subst hj;rfl)
 clear b2 HH HB1 HX1 HM1;go_wp2_with fail;refine(heldF_any aF mF cF (k+nSD+nSU) w2 HH2.out.1 (by omega) (by omega)).mono ?_;rintro e w9 ⟨rfl,h9⟩;obtain rfl:w2=w9:=h9.symm;go_wp2_with (first
  |(refine wpList_load_mid rfl 34 (.tmp 17) rfl w.heap.size 6 rfl [.slice aD nD cD,.slice aU nU cU,.int .i64 k0,.slice aT nT cT] _ HM3.out Tryz.underlying34 rfl HSS.out ?_)
  |fail)
 refine(heldS_any aD aU aT nD cD nU cU nT cT k0 (k+nSD+nSU+mF*4) w2 HH2.out.2.1 HH2.out.2.2.1 HH2.out.2.2.2 (by omega) (by omega)).mono ?_;rintro e w4 ⟨rfl,b4⟩;have HB4:=hid_ofL (HB2.out.trans (b4.mono HB2.out.size));clear b4 HB2 HM3 HH2 x5 HX2;go_wp2
 go_ret
 exact⟨rfl,HB4.out⟩
end
structure Ch (B U:Nat) (w w':World):Prop where
 os:w'.os=w.os
 tape:w'.tape=w.tape
 output:w'.output=w.output
 size:w.heap.size≤w'.heap.size
 block:∀ k,k<w.heap.size→(k<B∨U≤k)→w'.heap[k]?=w.heap[k]?
theorem Ch.refl (B U:Nat) (w:World):Ch B U w w:=⟨rfl,rfl,rfl,Nat.le_refl _,fun _ _ _=>rfl⟩
theorem Ch.trans {B U:Nat} {a b c:World} (h:Ch B U a b) (k:Ch B U b c):Ch B U a c:=
 ⟨k.os.trans h.os,k.tape.trans h.tape,k.output.trans h.output,Nat.le_trans h.size k.size,fun i hi hb=>(k.block i (by have:=h.size;omega) hb).trans (h.block i hi hb)⟩
theorem Ch.of_below {B U:Nat} {w w':World} (h:Below w.heap.size w w'):Ch B U w w':=⟨h.os,h.tape,h.output,h.size,fun k hk _=>h.block k hk⟩
theorem Ch.setCell {B U:Nat} {w w':World} (h:Ch B U w w') (g o:Nat) (v:Value) (hB:B≤g) (hU:g<U):Ch B U w (w'.setCell ⟨g,o,none⟩ v):=
 ⟨h.os,h.tape,h.output,by simp only[World.setCell,Array.size_modify];exact h.size,fun k hk hb=>(heap_setCell_other w' ⟨g,o,none⟩ k v (by show k≠g;omega)).trans (h.block k hk hb)⟩
theorem Ch.wrO {B U:Nat} {w w' w'':World} {a:Option Addr} (h:Ch B U w w') (hw:WrO a w' w'') (hB:∀ ad,a=some ad→B≤ad.block∧ad.block<U):Ch B U w w'':=
 ⟨hw.os.trans h.os,hw.tape.trans h.tape,hw.output.trans h.output,by rw[hw.size];exact h.size,fun k hk hb=>(hw.block k (fun ad e=>by have:=hB ad e;omega)).trans (h.block k hk hb)⟩
def kAt (k:Int) (ps:List PD) (i:Nat):Int:=k+i+pSum (ps.take i)
def pmarks (k:Int) (ps:List PD):List PD:=(List.range ps.length).map fun i=>(kAt k ps i,marks (kAt k ps i+1) (ps.getD i (0,[])).2.length)
theorem pmarks_len (k:Int) (ps:List PD):(pmarks k ps).length=ps.length:=by simp[pmarks]
theorem pmarks_get (k:Int) (ps:List PD) (i:Nat) (h:i<ps.length):(pmarks k ps).getD i (0,[])=(kAt k ps i,marks (kAt k ps i+1) (ps.getD i (0,[])).2.length):=by simp[pmarks,h]
theorem kAt_zero (k:Int) (ps:List PD):kAt k ps 0=k:=by simp[kAt,pSum]
theorem kAt_succ (k:Int) (ps:List PD) (i:Nat) (h:i<ps.length):kAt k ps (i+1)=kAt k ps i+1+(ps.getD i (0,[])).2.length:=by
 unfold kAt;rw[pSum_snoc ps i h];omega
theorem kAt_all (k:Int) (ps:List PD):kAt k ps ps.length=k+ps.length+pSum ps:=by unfold kAt;rw[List.take_length]
theorem kAt_le (k:Int) (ps:List PD) (i:Nat) (h:i≤ps.length):k≤kAt k ps i∧kAt k ps i≤k+ps.length+pSum ps:=by
 unfold kAt;have:=pSum_take ps i;omega
structure MP (w wr:World) (g o:Nat) (X:Nat→Option Addr) (C:Nat→Nat) (ps:List PD) (B U:Nat) (k:Int) (j:Nat):Prop where
 ch:Ch B U w wr
 size:wr.heap.size=w.heap.size
 all:∀ t,t<ps.length→(wr.cell? ⟨g,o+t*2,none⟩).isSome=true∧wr.frozen? ⟨g,o+t*2,none⟩=false∧wr.cell? ⟨g,o+t*2+1,none⟩=some (.slice (X t) (ps.getD t (0,[])).2.length (C t))
 rest:∀ t,t<ps.length→j≤t→Open wr (X t) (ps.getD t (0,[])).2.length
 done:∀ t,t<ps.length→t<j→wr.cell? ⟨g,o+t*2,none⟩=some (.int .i64 (kAt k ps t))∧At .u8 wr (X t) (marks (kAt k ps t+1) (ps.getD t (0,[])).2.length)
theorem MP.cell1 {w wr:World} {g o:Nat} {X:Nat→Option Addr} {C:Nat→Nat} {ps:List PD} {B U:Nat} {k:Int} {j:Nat} (h:MP w wr g o X C ps B U k j) (hj:j<ps.length) (v:Value) :
  (wr.setCell ⟨g,o+j*2,none⟩ v).cell? ⟨g,o+j*2+1,none⟩=some (.slice (X j) (ps.getD j (0,[])).2.length (C j)):=by
 rw[World.cell?_setCell_other _ _ _ _ (by simp)];exact(h.all j hj).2.2
theorem Open.setCell {w:World} {a:Option Addr} {n g o:Nat} {v:Value} (h:Open w a n) (hne:∀ ad,a=some ad→ad.block≠g):Open (w.setCell ⟨g,o,none⟩ v) a n:=
 h.keep (fun ad e=>heap_setCell_other w ⟨g,o,none⟩ ad.block v (hne ad e)) (by simp[World.setCell])
theorem MP.step {w wr w2:World} {g o:Nat} {X:Nat→Option Addr} {C:Nat→Nat} {ps:List PD} {B U:Nat} {k:Int} {j:Nat} (h:MP w wr g o X C ps B U k j) (hj:j<ps.length) (hB:B≤g) (hU:g<U)
  (hX:∀ i,i<ps.length→∀ ad,X i=some ad→B≤ad.block∧ad.block<U∧ad.block≠g) (hd:∀ i j ad ad',i<ps.length→j<ps.length→i≠j→X i=some ad→X j=some ad'→ad.block≠ad'.block)
  (hw:WrO (X j) (wr.setCell ⟨g,o+j*2,none⟩ (.int .i64 (kAt k ps j))) w2) (hA:At .u8 w2 (X j) (marks (kAt k ps j+1) (ps.getD j (0,[])).2.length)):MP w w2 g o X C ps B U k (j+1):=by
 have hg2:w2.heap[g]?=(wr.setCell ⟨g,o+j*2,none⟩ (.int .i64 (kAt k ps j))).heap[g]?:=hw.block g (fun ad e=>Ne.symm (hX j hj ad e).2.2);have hs1:(wr.setCell ⟨g,o+j*2,none⟩ (.int .i64 (kAt k ps j))).heap.size=wr.heap.size:=by simp[World.setCell]
 have hsz:w2.heap.size=wr.heap.size:=by rw[hw.size,hs1]
 have cg:∀ q,w2.cell? ⟨g,q,none⟩=(wr.setCell ⟨g,o+j*2,none⟩ (.int .i64 (kAt k ps j))).cell? ⟨g,q,none⟩:=fun q=>World.cell?_of_block (a:=⟨g,q,none⟩) hg2
 have fg:∀ q,w2.frozen? ⟨g,q,none⟩=wr.frozen? ⟨g,q,none⟩:=fun q=>by rw[frozen_of_block (a:=⟨g,q,none⟩) hg2,World.frozen?_setCell]
 have hoth:∀ t,t<ps.length→t≠j→∀ ad,X t=some ad→w2.heap[ad.block]?=wr.heap[ad.block]?:=fun t ht htj ad e=>by
  rw[hw.block ad.block (fun ad' e'=>hd t j ad ad' ht hj htj e e'),heap_setCell_other wr ⟨g,o+j*2,none⟩ ad.block _ (hX t ht ad e).2.2]
 refine⟨(h.ch.setCell g _ _ hB hU).wrO hw (fun ad e=>⟨(hX j hj ad e).1,(hX j hj ad e).2.1⟩),by rw[hsz];exact h.size,fun t ht=>?_,fun t ht hjt=>?_,fun t ht hjt=>?_⟩
 ·obtain⟨p1,p2,p3⟩:=h.all t ht;refine⟨?_,by rw[fg];exact p2,?_⟩
  ·obtain⟨u,hu⟩:=Option.isSome_iff_exists.1 p1;obtain⟨u',hu'⟩:=cell?_setCell_some (w:=wr) (p:=⟨g,o+j*2,none⟩) (x:=.int .i64 (kAt k ps j)) (q:=⟨g,o+t*2,none⟩) (v:=u) hu;rw[cg,hu'];rfl
  ·rw[cg,World.cell?_setCell_other _ _ _ _ (by simp;try omega)];exact p3
 ·exact(h.rest t ht (by omega)).keep (hoth t ht (by omega)) (by omega)
 ·by_cases e:t=j
  ·subst e;obtain⟨u,hu⟩:=Option.isSome_iff_exists.1 (h.all t ht).1;exact⟨by rw[cg];exact World.cell?_setCell_same _ _ _ hu,hA⟩
  ·obtain⟨q1,q2⟩:=h.done t ht (by omega);refine⟨by rw[cg,World.cell?_setCell_other _ _ _ _ (by simp;try omega)];exact q1,q2.keep (hoth t ht e) (by omega)⟩
structure Kp (P:Nat→Prop) (w w':World):Prop where
 os:w'.os=w.os
 tape:w'.tape=w.tape
 output:w'.output=w.output
 size:w.heap.size≤w'.heap.size
 block:∀ j,j<w.heap.size→P j→w'.heap[j]?=w.heap[j]?
theorem Kp.below {P:Nat→Prop} {a b:World} {lo:Nat} (h:Kp P a b) (hlo:lo≤a.heap.size) (hp:∀ j,j<lo→P j):Below lo a b:=⟨h.os,h.tape,h.output,h.size,fun j hj=>h.block j (by omega) (hp j hj)⟩
theorem MP.end_ {w wr w2:World} {g o:Nat} {X:Nat→Option Addr} {C:Nat→Nat} {ps:List PD} {B U:Nat} {k:Int} (h:MP w wr g o X C ps B U k ps.length) (hg:g<wr.heap.size) (hB:B≤g) (hU:g<U) (hX:∀ i,i<ps.length→∀ ad,X i=some ad→B≤ad.block∧ad.block<U∧ad.block≠g) (hs:wr.heap.size≤w2.heap.size) (hk:∀ j,B≤j→j<U→w2.heap[j]?=wr.heap[j]?):PAt w2 (some ⟨g,o,none⟩) (pmarks k ps):=
 .inr ⟨g,o,rfl,by omega,fun i hi=>by
  rw[pmarks_len] at hi;obtain⟨q1,q2⟩:=h.done i hi hi;rw[pmarks_get k ps i hi];exact⟨X i,C i,by rw[World.cell?_of_block (a:=⟨g,o+i*2,none⟩) (w:=wr) (hk _ hB hU)];exact q1,by rw[marks_len,World.cell?_of_block (a:=⟨g,o+i*2+1,none⟩) (w:=wr) (hk _ hB hU)];exact(h.all i hi).2.2,q2.keep (fun ad e=>hk _ (hX i hi ad e).1 (hX i hi ad e).2.1) hs⟩⟩
set_option maxHeartbeats 400000 in
theorem markPS_any (a:Option Addr) (n cap:Nat) (ps:List PD) (k:Int) (B U:Nat) (w:World) (h:PMine B U w a ps) (hl:ps.length=n) (hk:0≤k) (hk':k+n+pSum ps≤1099511627776) :
  Calls Tryz.prog 45 #[.slice a n cap,.int .i64 k] w fun e w'=>e=.returned (.int .i64 (k+n+pSum ps))∧(∀ w2,w'.heap.size≤w2.heap.size→(∀ j,B≤j→j<U→w2.heap[j]?=w'.heap[j]?)→PAt w2 a (pmarks k ps))∧Ch B U w w'∧w'.heap.size=w.heap.size:=by
 rcases h with rfl|⟨g,o,X,C,rfl,hB,hg,hU,h1,h2⟩
 ·simp at hl;subst hl;go_enter Tryz.func45,Tryz.ntmps45;go_wp2;refine wp_loop_rounds 1 ?_;rw[rounds_succ];go_wp2
  go_ret
  exact⟨ret_int (by simp[pSum]),fun _ _ _=>.inl rfl,Ch.refl _ _ _,rfl⟩
 have hX:∀ i,i<ps.length→∀ ad,X i=some ad→B≤ad.block∧ad.block<U∧ad.block≠g:=fun i hi=>(h1 i hi).2.2.2.2.2.1
 have hst:MP w w g o X C ps B U k 0:=⟨Ch.refl _ _ _,rfl,fun t ht=>⟨by rw[(h1 t ht).1];rfl,(h1 t ht).2.1,(h1 t ht).2.2.1⟩,fun t ht _=>(h1 t ht).2.2.2.2.1,fun t _ ht=>by omega⟩
 have HX:Hid _:=hX;have HD:Hid _:=h2;have HST:Hid _:=hst;clear h1 h2 hX hst;go_enter Tryz.func45,Tryz.ntmps45;go_wp2
 go_loopw [1,5] (fun q i wr=>∃ j:Nat,j≤n∧i=.int .i64 j∧q=.int .i64 (kAt k ps j)∧MP w wr g o X C ps B U k j) (fun _ i _=>n-(intOf i).toNat)
 case atStart=>exact⟨0,Nat.zero_le _,rfl,by rw[kAt_zero],HST.out⟩
 case round=>
  obtain⟨j,hj,rfl,rfl,st⟩:=hrel;have hkb:=kAt_le k ps j (by omega);by_cases hlt:j<n
  ·have hsucc:=kAt_succ k ps j (by omega);have hkb2:=kAt_le k ps (j+1) (by omega);obtain⟨p1,p2,p3⟩:=st.all j (by omega);obtain⟨v0,hv0⟩:=Option.isSome_iff_exists.1 p1;have c1:=st.cell1 (by omega) (.int .i64 (kAt k ps j));have ho:=(st.rest j (by omega) (Nat.le_refl _)).setCell (g:=g) (o:=o+j*2) (v:=.int .i64 (kAt k ps j)) (fun ad e=>(HX.out j (by omega) ad e).2.2);have hstep:=fun w2=>st.step (w2:=w2) (by omega) hB hg HX.out HD.out
   have HS:Hid _:=hstep;have HO:Hid _:=ho;have HSUC:Hid _:=hsucc;clear p1 hstep st ho hsucc;generalize kAt k ps j=q at *;generalize (ps.getD j (0,[])).2.length=m at *;have hr:q+1+(m:Int)=kAt k ps (j+1):=HSUC.out.symm;go_wp2_with fail;refine(markB_any (X j) m (C j) (q+1) _ HO.out (by omega) (by omega)).mono ?_;rintro e w2 ⟨rfl,hA,hwr⟩;have st2:=HS.out w2 hwr hA;rw[hr];have HST2:Hid _:=st2;clear st2 hA hwr hr;go_wp2;go_roundw
   case rel=>exact⟨j+1,by omega,by go_num,rfl,HST2.out⟩
   case measure=>simp[intOf];omega
  ·have hjn:j=ps.length:=by omega
   subst hjn;have hall:=kAt_all k ps;have HE:Hid (∀ w2:World,wr.heap.size≤w2.heap.size→(∀ j,B≤j→j<U→w2.heap[j]?=wr.heap[j]?)→PAt w2 (some ⟨g,o,none⟩) (pmarks k ps)):=fun w2 h1 h2=>st.end_ (by have:=st.size;omega) hB hg HX.out h1 h2
   have HC:Hid _:=And.intro st.ch st.size;rw[hall];clear st;go_wp2
   go_ret
   exact⟨ret_int (by omega),HE.out,HC.out⟩
set_option maxHeartbeats 400000 in
theorem markDq (a x:Option Addr) (c cx:Nat) (zs:List Int) (ps:List PD) (f:Int) (d:Bool) (k:Int) (B U:Nat) (w:World) (hO:Open w a zs.length) (hal:∀ ad,a=some ad→ad.block<w.heap.size∧(ad.block<B∨U≤ad.block)) (hU:U≤w.heap.size) (hP:PMine B U w x ps) (hk:0≤k) (hk':k+zs.length+ps.length+pSum ps≤1099511627776) :
  Calls Tryz.prog 12 #[.agg #[.slice a zs.length c,.slice x ps.length cx,.int .i64 f,.bool d],.int .i64 k] w fun e w'=>e=.returned (.int .i64 (k+zs.length+ps.length+pSum ps))∧At .u8 w' a (marks k zs.length)∧(∀ w2,w'.heap.size≤w2.heap.size→(∀ j,B≤j→j<U→w2.heap[j]?=w'.heap[j]?)→PAt w2 x (pmarks (k+zs.length) ps))∧Kp (fun j=>(∀ ad,a=some ad→j≠ad.block)∧(j<B∨U≤j)) w w':=by
 generalize hL:zs.length=L at *;generalize hm:ps.length=m at *;have hb:=(Below.refl w.heap.size w).alloc (Nat.le_refl _) (.cells #[.slice a L c,.slice x m cx,.int .i64 f,.bool d] 40);have n0:(w.alloc (.cells #[.slice a L c,.slice x m cx,.int .i64 f,.bool d] 40)).heap[w.heap.size]?=some (.cells #[.slice a L c,.slice x m cx,.int .i64 f,.bool d] 40 (0,0)):=heap_alloc_new w _;have HO1:Hid _:=hO.below hb;have HP1:Hid (PMine B U (w.alloc (.cells #[.slice a L c,.slice x m cx,.int .i64 f,.bool d] 40)) x ps):=hP.below hb;have HN0:Hid _:=n0;have HB0:Hid (Below w.heap.size w (w.alloc (.cells #[.slice a L c,.slice x m cx,.int .i64 f,.bool d] 40))):=hb;have hz1:w.heap.size<(w.alloc (.cells #[.slice a L c,.slice x m cx,.int .i64 f,.bool d] 40)).heap.size:=(Array.getElem?_eq_some_iff.1 n0).1;clear hb hO hP n0;go_enter Tryz.func12,Tryz.ntmps12;go_wp2_with fail;generalize w.alloc (.cells #[.slice a L c,.slice x m cx,.int .i64 f,.bool d] 40)=w1 at *;refine(markB_any a L c k w1 HO1.out hk (by omega)).mono ?_;rintro e w2 ⟨rfl,hA2,hwr⟩;have n2:w2.heap[w.heap.size]?=some (.cells #[.slice a L c,.slice x m cx,.int .i64 f,.bool d] 40 (0,0)):=by
  rw[hwr.block _ (fun ad e=>by have:=hal ad e;omega)];exact HN0.out
 have k1:=cell_of_row w2 w.heap.size 1 _ _ _ n2;simp at k1;have HP2:Hid (PMine B U w2 x ps):=PMine.keep HP1.out (fun j hj hj'=>hwr.block j (fun ad e=>by have:=hal ad e;omega)) (by rw[hwr.size];exact Nat.le_refl _);have HZ2:Hid (w2.heap.size=w1.heap.size):=hwr.size;have HA2:Hid _:=hA2;have HW2:Hid (WrO a w1 w2):=hwr;clear n2 hA2 hwr HP1 HN0 HO1;go_wp2_with fail;refine(markPS_any x m cx ps (k+L) B U w2 HP2.out hm (by omega) (by omega)).mono ?_;rintro e w3 ⟨rfl,hP3,hc3,hs3⟩;have HE:Hid (At .u8 w3 a (marks k L)):=by
  refine At.keep (show At .u8 w2 a (marks k L) from HA2.out) (fun ad e=>?_) (by omega);have:=hal ad e;have:=HZ2.out;exact hc3.block _ (by omega) (by omega)
 have HC3:Hid (Kp (fun j=>(∀ ad,a=some ad→j≠ad.block)∧(j<B∨U≤j)) w w3):=⟨hc3.os.trans (HW2.out.os.trans HB0.out.os),hc3.tape.trans (HW2.out.tape.trans HB0.out.tape),hc3.output.trans (HW2.out.output.trans HB0.out.output),by have:=HZ2.out;omega,fun j hj hn=>by rw[hc3.block j (by have:=HZ2.out;omega) hn.2,HW2.out.block j hn.1,HB0.out.block j hj]⟩
 have HP3:Hid _:=hP3;clear hP3 hc3 HP2 HA2 HW2 HB0;go_wp2
 go_ret
 exact⟨rfl,HE.out,HP3.out,HC3.out⟩
theorem markD_any (v:Value) (zs:List Int) (ps:List PD) (f:Int) (d:Bool) (k:Int) (B U:Nat) (w:World) (h:DMine B U w v zs ps f d) (hk:0≤k) (hk':k+zs.length+ps.length+pSum ps≤1099511627776) :
  Calls Tryz.prog 12 #[v,.int .i64 k] w fun e w'=>e=.returned (.int .i64 (k+zs.length+ps.length+pSum ps))∧DAt w' v (marks k zs.length) (pmarks (k+zs.length) ps) f d∧Ch B U w w':=by
 obtain⟨a,c,x,cx,B1,rfl,hA,hO,hab,hB1,hU1,hU,hP,hcap⟩:=h;refine(markDq a x c cx zs ps f d k B1 U w hO (fun ad e=>by have:=hab ad e;omega) hU hP hk hk').mono ?_;rintro e w' ⟨rfl,h1,h2,h3⟩;exact⟨rfl,⟨a,c,x,cx,by rw[marks_len,pmarks_len],h1,h2 w' (Nat.le_refl _) (fun _ _ _=>rfl),by rw[marks_len];exact hcap⟩,h3.os,h3.tape,h3.output,h3.size,fun j hj hn=>h3.block j hj ⟨fun ad e h=>by have:=hab ad e;omega,by omega⟩⟩
end Go.Proofs.YthmeoilbmfdhfaaGreat
