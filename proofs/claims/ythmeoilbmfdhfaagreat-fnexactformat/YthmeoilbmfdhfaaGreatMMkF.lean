import Derived.Test.YthmeoilbmfdhfaaGreatMSvEa
import Derived.Test.YthmeoilbmfdhfaaGreatMFrE
import Derived.Test.YthmeoilbmfdhfaaGreatMDkB
import Derived.Test.YthmeoilbmfdhfaaGreatMSnT
import Derived.Test.YthmeoilbmfdhfaaGreatMSwH
namespace Go.Proofs.YthmeoilbmfdhfaaGreat
open Go.ChangeShapes Go.WideShapes Go.ChangeAt Go.RowKit
set_option linter.unusedVariables false
set_option maxRecDepth 10000 in
set_option maxHeartbeats 2000000 in
theorem markF_any (a:Option Addr) (n cap:Nat) (k:Int) (w:World) (ho:Open w a (n*4)) (hk:0≤k) (hk':k+n*4≤1000000) :
  Calls Tryz.prog 47 #[.slice a n cap,.int .i64 k] w fun e w'=>e=.returned (.int .i64 (k+n*4))∧FAt w' a (mks k (n*4))∧WrO a w w':=by
 go_enter Tryz.func47,Tryz.ntmps47
 go_wp2
 go_loopw [1,5] (fun q i wr=>∃ j:Nat,j≤n∧i=.int .i64 j∧q=.int .i64 (k+j*4)∧WrO a w wr∧
   (n=0∨∃ g o,a=some ⟨g,o,none⟩∧g<w.heap.size∧(∀ t,t<n*4→(wr.cell? ⟨g,o+t,none⟩).isSome=true∧wr.frozen? ⟨g,o+t,none⟩=false)∧∀ t,t<j*4→wr.cell? ⟨g,o+t,none⟩=some (.int (kF t) (k+(t:Int))))) (fun _ i _=>n-(intOf i).toNat)
 case atStart=>
  refine⟨0,Nat.zero_le _,rfl,by simp,WrO.refl _ _,?_⟩;rcases ho with h|⟨g,o,h1,h2,h3⟩
  ·exact .inl (by omega)
  ·exact .inr ⟨g,o,h1,h2,h3,fun t ht=>by omega⟩
 case round=>
  obtain⟨j,hj,rfl,rfl,hwr,hs⟩:=hrel;by_cases hlt:j<n
  ·rcases hs with h|⟨g,o,rfl,hg,hc,hd⟩
   ·omega
   ·have hlt':(j:Int)<n:=by omega
    have hst:∀(W:World) (p:Nat) (x:Value),(∀ t,t<n*4→(W.cell? ⟨g,o+t,none⟩).isSome=true∧W.frozen? ⟨g,o+t,none⟩=false)→∀ t,t<n*4→((W.setCell ⟨g,p,none⟩ x).cell? ⟨g,o+t,none⟩).isSome=true∧(W.setCell ⟨g,p,none⟩ x).frozen? ⟨g,o+t,none⟩=false:=by
     intro W p x hW t ht;obtain⟨u,hu⟩:=Option.isSome_iff_exists.1 (hW t ht).1;obtain⟨u',hu'⟩:=cell?_setCell_some (w:=W) (p:=⟨g,p,none⟩) (x:=x) (q:=⟨g,o+t,none⟩) (v:=u) hu;refine⟨by rw[hu'];rfl,?_⟩;rw[World.frozen?_setCell];exact(hW t ht).2
    obtain⟨K,hKe⟩:∃ K:Int,k+(j:Int)*4=K:=⟨_,rfl⟩
    have hK0:0≤K:=by omega
    have hK1:K+4≤1000000:=by omega
    have q0:=hc (j*4) (by omega);obtain⟨p0,f0⟩:=q0;obtain⟨v0,c0⟩:=Option.isSome_iff_exists.1 p0;have h0:=hst _ (o+j*4) (.int .u32 K) hc;have q1:=h0 (j*4+1) (by omega);rw[←Nat.add_assoc] at q1;obtain⟨p1,f1⟩:=q1;obtain⟨v1,c1⟩:=Option.isSome_iff_exists.1 p1;have h1:=hst _ (o+j*4+1) (.int .i64 (K+1)) h0;have q2:=h1 (j*4+2) (by omega);rw[←Nat.add_assoc] at q2;obtain⟨p2,f2⟩:=q2;obtain⟨v2,c2⟩:=Option.isSome_iff_exists.1 p2;have h2:=hst _ (o+j*4+2) (.int .u32 (K+1+1)) h1;have q3:=h2 (j*4+3) (by omega);rw[←Nat.add_assoc] at q3;obtain⟨p3,f3⟩:=q3;obtain⟨v3,c3⟩:=Option.isSome_iff_exists.1 p3;have h3:=hst _ (o+j*4+3) (.int .u32 (K+1+1+1)) h2;have HC:=hid_ofL h3;have HW:Hid (WrO (some ⟨g,o,none⟩) w ((((wr.setCell ⟨g,o+j*4,none⟩ (.int .u32 K)).setCell ⟨g,o+j*4+1,none⟩ (.int .i64 (K+1))).setCell ⟨g,o+j*4+2,none⟩ (.int .u32 (K+1+1))).setCell ⟨g,o+j*4+3,none⟩ (.int .u32 (K+1+1+1)))):=(((hwr.setCell _ rfl _ _).setCell _ rfl _ _).setCell _ rfl _ _).setCell _ rfl _ _;have HD:Hid (∀ t,t<(j+1)*4→((((wr.setCell ⟨g,o+j*4,none⟩ (.int .u32 K)).setCell ⟨g,o+j*4+1,none⟩ (.int .i64 (K+1))).setCell ⟨g,o+j*4+2,none⟩ (.int .u32 (K+1+1))).setCell ⟨g,o+j*4+3,none⟩ (.int .u32 (K+1+1+1))).cell? ⟨g,o+t,none⟩=some (.int (kF t) (k+(t:Int)))):=by
     intro t ht;by_cases e3:t=j*4+3
     ·subst e3;rw[←Nat.add_assoc,World.cell?_setCell_same _ _ _ c3,kF3,show K+1+1+1=k+(((j*4+3:Nat)):Int) by omega]
     rw[World.cell?_setCell_other _ _ _ _ (by simp;try omega)];by_cases e2:t=j*4+2
     ·subst e2;rw[←Nat.add_assoc,World.cell?_setCell_same _ _ _ c2,kF2,show K+1+1=k+(((j*4+2:Nat)):Int) by omega]
     rw[World.cell?_setCell_other _ _ _ _ (by simp;try omega)];by_cases e1:t=j*4+1
     ·subst e1;rw[←Nat.add_assoc,World.cell?_setCell_same _ _ _ c1,kF1,show K+1=k+(((j*4+1:Nat)):Int) by omega]
     rw[World.cell?_setCell_other _ _ _ _ (by simp;try omega)];by_cases e0:t=j*4
     ·subst e0;rw[World.cell?_setCell_same _ _ _ c0,kF0,show K=k+(((j*4:Nat)):Int) by omega]
     rw[World.cell?_setCell_other _ _ _ _ (by simp;try omega)];exact hd t (by omega)
    have m0:K%4294967296=K:=by omega
    have m2:(K+1+1)%4294967296=K+1+1:=by omega
    have m3:(K+1+1+1)%4294967296=K+1+1+1:=by omega
    have HKE:=hid_ofL hKe;rw[hKe];clear hc hd hwr ho p0 p1 p2 p3 h0 h1 h2 h3 hst hKe;go_wp2;go_roundw
    case rel=>exact⟨j+1,by omega,by go_num,by rw[show k+((j+1:Nat):Int)*4=K+1+1+1+1 by have:=HKE.out;omega],HW.out,.inr ⟨g,o,rfl,hg,HC.out,HD.out⟩⟩
    case measure=>simp[intOf];omega
  ·have hjn:j=n:=by omega
   subst hjn;have HA:Hid (FAt wr a (mks k (j*4))):=by
    rcases hs with h|⟨g,o,rfl,hg,hc,hd⟩
    ·subst h;exact .inl rfl
    ·exact .inr ⟨g,o,rfl,by rw[hwr.size];exact hg,fun i hi=>by rw[mks_len] at hi;rw[hd i hi,mks_get k _ i hi]⟩
   clear hs ho;go_wp2
   go_ret
   exact⟨rfl,HA.out,hwr⟩
set_option maxRecDepth 10000 in
set_option maxHeartbeats 2000000 in
theorem heldF_any (a:Option Addr) (n cap:Nat) (k:Int) (w:World) (ha:FAt w a (mks k (n*4))) (hk:0≤k) (hk':k+n*4≤1000000) :
  Calls Tryz.prog 50 #[.slice a n cap,.int .i64 k] w fun e w'=>e=.returned (.int .i64 (k+n*4))∧w'=w:=by
 go_enter Tryz.func50,Tryz.ntmps50
 go_wp2
 go_loop [1,5] (fun q i=>∃ j:Nat,j≤n∧i=.int .i64 j∧q=.int .i64 (k+j*4)) (fun _ i=>n-(intOf i).toNat)
 case atStart=>exact⟨0,Nat.zero_le _,rfl,by simp⟩
 case round=>
  obtain⟨j,hj,rfl,rfl⟩:=hrel;by_cases hlt:j<n
  ·obtain⟨b,off,rfl,hb,hc⟩:=ha.get (by rw[mks_len];omega);obtain⟨c0,c1,c2,c3⟩:=FAt.four hc j (by rw[mks_len];omega);obtain⟨K,hKe⟩:∃ K:Int,k+(j:Int)*4=K:=⟨_,rfl⟩
   rw[mks_get k _ _ (by omega),show k+((j*4:Nat):Int)=K by omega] at c0;rw[mks_get k _ _ (by omega),show k+((j*4+1:Nat):Int)=K+1 by omega] at c1;rw[mks_get k _ _ (by omega),show k+((j*4+2:Nat):Int)=K+1+1 by omega] at c2;rw[mks_get k _ _ (by omega),show k+((j*4+3:Nat):Int)=K+1+1+1 by omega] at c3;have hK0:0≤K:=by omega
   have hK1:K+4≤1000000:=by omega
   have hlt':(j:Int)<n:=by omega
   have m0:K%4294967296=K:=by omega
   have m2:(K+1+1)%4294967296=K+1+1:=by omega
   have m3:(K+1+1+1)%4294967296=K+1+1+1:=by omega
   have HKE:=hid_ofL hKe;rw[hKe];clear hc ha hKe;go_wp2
   go_round
   case rel=>exact⟨j+1,by omega,by go_num,by rw[show k+((j+1:Nat):Int)*4=K+1+1+1+1 by have:=HKE.out;omega]⟩
   case measure=>simp[intOf];omega
  ·have hjn:j=n:=by omega
   subst hjn;go_wp2
   go_ret
   exact⟨rfl,rfl⟩
structure MB2 (lo:Nat) (w:World) (sc:Array Value) (wr:World):Prop where
 below:Below lo w wr
 box:wr.heap[w.heap.size]?=some (.cells sc 30 (0,0))
theorem MB2.wro {lo:Nat} {w wr w':World} {sc:Array Value} (h:MB2 lo w sc wr) {a:Option Addr} (hl:Lies lo w a) (hw:WrO a wr w'):MB2 lo w sc w':=
 ⟨h.below.trans (hw.below lo (fun ad e=>(hl ad e).1)),by rw[hw.block _ (fun ad e=>by have:=hl ad e;omega)];exact h.box⟩
section
variable (ok:Bool) (gn tl:Int) (aD aU:Option Addr) (nD cD nU cU:Nat) (k:Int) (w:World)
set_option maxRecDepth 100000 in
set_option maxHeartbeats 1000000 in
theorem markN_any (lo:Nat) (hlo:lo≤w.heap.size) (oD:Open w aD nD) (oU:Open w aU nU) (lD:Lies lo w aD) (lU:Lies lo w aU) (dU:Aprt aD aU) (hk:0≤k) (hk':k+nD+nU≤1099511627776) :
  Calls Tryz.prog 46 #[.agg #[.int .u32 gn,.int .u32 tl,.slice aD nD cD,.slice aU nU cU],.int .i64 k] w fun e w'=>e=.returned (.int .i64 (k+nD+nU))∧At .i64 w' aD (mks k nD)∧At .i64 w' aU (mks (k+nD) nU)∧Below lo w w'∧∀ j,j<w.heap.size→NotIn j aD→NotIn j aU→w'.heap[j]?=w.heap[j]?:=by
 have b1:=below_new w (.cells #[.int .u32 gn,.int .u32 tl,.slice aD nD cD,.slice aU nU cU] 30)
 have HM1:Hid (MB2 lo w #[.int .u32 gn,.int .u32 tl,.slice aD nD cD,.slice aU nU cU] (w.alloc (.cells #[.int .u32 gn,.int .u32 tl,.slice aD nD cD,.slice aU nU cU] 30))):=⟨b1.mono hlo,heap_alloc_new w _⟩
 have HO:Hid (Open (w.alloc (.cells #[.int .u32 gn,.int .u32 tl,.slice aD nD cD,.slice aU nU cU] 30)) aD nD∧Open (w.alloc (.cells #[.int .u32 gn,.int .u32 tl,.slice aD nD cD,.slice aU nU cU] 30)) aU nU):=⟨oD.below b1,oU.below b1⟩
 have HL:Hid (Lies lo w aD∧Lies lo w aU):=⟨lD,lU⟩
 have HP:Hid (Aprt aD aU):=dU
 have HN1:Hid (∀ j,j<w.heap.size→(w.alloc (.cells #[.int .u32 gn,.int .u32 tl,.slice aD nD cD,.slice aU nU cU] 30)).heap[j]?=w.heap[j]?):=fun j hj=>b1.block j hj
 clear oD oU lD lU dU b1
 go_enter Tryz.func46,Tryz.ntmps46
 go_wp2_with fail
 refine(markI_any aD nD cD k _ HO.out.1 hk (by omega)).mono ?_
 rintro e w2 ⟨rfl,hA,hw⟩
 generalize w.alloc (.cells #[.int .u32 gn,.int .u32 tl,.slice aD nD cD,.slice aU nU cU] 30)=w1 at *
 have HM2:Hid (MB2 lo w #[.int .u32 gn,.int .u32 tl,.slice aD nD cD,.slice aU nU cU] w2):=HM1.out.wro HL.out.1 hw
 have HO2:Hid (Open w2 aU nU):=HO.out.2.keepT (by rw[hw.size];exact Nat.le_refl _) (hw.kept HP.out)
 have HA2:Hid (At .i64 w2 aD (mks k nD)):=hA
 have HN2:Hid (∀ j,j<w.heap.size→NotIn j aD→w2.heap[j]?=w.heap[j]?):=fun j hj h1=>(hw.block j (fun ad e=>h1 ad e)).trans (HN1.out j hj)
 have x3:w2.cell? ⟨w.heap.size,3,none⟩=some (.slice aU nU cU):=by rw[cell_of_row w2 w.heap.size 3 _ _ _ HM2.out.box];rfl
 clear hA hw HM1 HO
 go_wp2_with fail
 refine(markI_any aU nU cU (k+nD) _ HO2.out (by omega) (by omega)).mono ?_
 rintro e w3 ⟨rfl,hA,hw⟩
 have HM3:Hid (Below lo w w3):=(HM2.out.wro HL.out.2 hw).below
 have HA3:Hid (At .i64 w3 aD (mks k nD)∧At .i64 w3 aU (mks (k+nD) nU)):=⟨HA2.out.keepT (by rw[hw.size];exact Nat.le_refl _) (hw.kept (fun x y hx hy=>(HP.out y x hy hx).symm)),hA⟩
 have HN3:Hid (∀ j,j<w.heap.size→NotIn j aD→NotIn j aU→w3.heap[j]?=w.heap[j]?):=fun j hj h1 h2=>(hw.block j (fun ad e=>h2 ad e)).trans (HN2.out j hj h1)
 clear hA hw HM2 HO2 HA2 x3
 go_wp2
 go_ret
 exact⟨rfl,HA3.out.1,HA3.out.2,HM3.out,HN3.out⟩
set_option maxRecDepth 100000 in
set_option maxHeartbeats 1000000 in
theorem heldN_any (hD:At .i64 w aD (mks k nD)) (hU:At .i64 w aU (mks (k+nD) nU)) (hk:0≤k) (hk':k+nD+nU≤1099511627776) :
  Calls Tryz.prog 49 #[.agg #[.int .u32 gn,.int .u32 tl,.slice aD nD cD,.slice aU nU cU],.int .i64 k] w fun e w'=>e=.returned (.int .i64 (k+nD+nU))∧Below w.heap.size w w':=by
 have b1:=below_new w (.cells #[.int .u32 gn,.int .u32 tl,.slice aD nD cD,.slice aU nU cU] 30)
 have HB:Hid (Below w.heap.size w (w.alloc (.cells #[.int .u32 gn,.int .u32 tl,.slice aD nD cD,.slice aU nU cU] 30))):=b1
 have HA:Hid (At .i64 (w.alloc (.cells #[.int .u32 gn,.int .u32 tl,.slice aD nD cD,.slice aU nU cU] 30)) aD (mks k nD)∧At .i64 (w.alloc (.cells #[.int .u32 gn,.int .u32 tl,.slice aD nD cD,.slice aU nU cU] 30)) aU (mks (k+nD) nU)):=⟨hD.below b1,hU.below b1⟩
 have g1:¬ (k+(nD:Int)<0):=by omega
 have g2:¬ (k+(nD:Int)+nU<0):=by omega
 clear hD hU b1
 go_enter Tryz.func49,Tryz.ntmps49
 go_wp2_with fail
 refine(heldI_any aD nD cD k _ HA.out.1 hk (by omega)).mono ?_
 rintro e w2 ⟨rfl,rfl⟩
 go_wp2_with fail
 refine(heldI_any aU nU cU (k+nD) _ HA.out.2 (by omega) (by omega)).mono ?_
 rintro e w3 ⟨rfl,rfl⟩
 go_wp2
 go_ret
 exact⟨rfl,HB.out⟩
end
structure I6 (lo b1 b2:Nat) (w:World) (aSD aSU aF aD aU aT:Option Addr) (nSD nSU mF nD nU nT:Nat):Prop where
 oSD:Open w aSD nSD
 oSU:Open w aSU nSU
 oF:Open w aF (mF*4)
 oD:Open w aD nD
 oU:Open w aU nU
 oT:Open w aT (nT*2)
 lSD:∀ ad,aSD=some ad→lo≤ad.block∧ad.block<w.heap.size∧ad.block<b1
 lSU:∀ ad,aSU=some ad→lo≤ad.block∧ad.block<w.heap.size∧ad.block<b1
 lF:∀ ad,aF=some ad→b1≤ad.block∧ad.block<w.heap.size∧ad.block<b2
 lD:∀ ad,aD=some ad→b2≤ad.block∧ad.block<w.heap.size
 lU:∀ ad,aU=some ad→b2≤ad.block∧ad.block<w.heap.size
 lT:∀ ad,aT=some ad→b2≤ad.block∧ad.block<w.heap.size
 sDU:Aprt aSD aSU
 dU:Aprt aD aU
 dT:Aprt aD aT
 uT:Aprt aU aT
 lo1:lo≤b1
 b12:b1≤b2
section
variable (ok:Bool) (gn tl:Int) (aSD aSU aF aD aU aT:Option Addr) (nSD cSD nSU cSU mF cF nD cD nU cU nT cT:Nat) (k0 nx k:Int) (w:World)
theorem I6.below {lo b1 b2:Nat} {w w':World} {aSD aSU aF aD aU aT:Option Addr} {nSD nSU mF nD nU nT:Nat} (h:I6 lo b1 b2 w aSD aSU aF aD aU aT nSD nSU mF nD nU nT) (b:Below w.heap.size w w'):I6 lo b1 b2 w' aSD aSU aF aD aU aT nSD nSU mF nD nU nT:=
 ⟨h.oSD.below b,h.oSU.below b,h.oF.below b,h.oD.below b,h.oU.below b,h.oT.below b,fun ad e=>by have:=h.lSD ad e;have:=b.size;omega,fun ad e=>by have:=h.lSU ad e;have:=b.size;omega,fun ad e=>by have:=h.lF ad e;have:=b.size;omega,fun ad e=>by have:=h.lD ad e;have:=b.size;omega,fun ad e=>by have:=h.lU ad e;have:=b.size;omega,fun ad e=>by have:=h.lT ad e;have:=b.size;omega,h.sDU,h.dU,h.dT,h.uT,h.lo1,h.b12⟩
theorem FAt.keepT {w w':World} {a:Option Addr} {F:List Int} (h:FAt w a F) (hs:w.heap.size≤w'.heap.size) (hb:∀ ad,a=some ad→ad.block<w.heap.size→w'.heap[ad.block]?=w.heap[ad.block]?):FAt w' a F:=by
 rcases h with h|⟨b,off,e,hl,hc⟩
 ·exact .inl h
 ·have hk:=hb _ e hl;exact .inr ⟨b,off,e,by omega,fun i hi=>by rw[World.cell?_of_block (a:=⟨b,off+i,none⟩) (w:=w) hk];exact hc i hi⟩
def I6M (w:World) (aSD aSU aF aD aU aT:Option Addr) (nSD nSU mF nD nU nT:Nat) (k:Int):Prop:=
 At .i64 w aSD (mks k nSD)∧At .i64 w aSU (mks (k+nSD) nSU)∧FAt w aF (mks (k+nSD+nSU) (mF*4))∧At .i64 w aD (mks (k+nSD+nSU+mF*4) nD)∧At .i64 w aU (mks (k+nSD+nSU+mF*4+nD) nU)∧At .i64 w aT (mks (k+nSD+nSU+mF*4+nD+nU) (nT*2))
set_option maxRecDepth 100000 in
set_option maxHeartbeats 2000000 in
theorem markM_any {lo b1 b2:Nat} (h:I6 lo b1 b2 w aSD aSU aF aD aU aT nSD nSU mF nD nU nT) (hlo:lo≤w.heap.size) (hk:0≤k) (hk':k+nSD+nSU+mF*4+nD+nU+nT*2≤1000000) :
  Calls Tryz.prog 13 #[.agg #[.bool ok,.int .u32 gn,.int .u32 tl,.slice aSD nSD cSD,.slice aSU nSU cSU,.slice aF mF cF,.slice aD nD cD,.slice aU nU cU,.int .i64 k0,.slice aT nT cT,.int .u32 nx],.int .i64 k] w fun e w'=>e=.returned (.int .i64 (k+nSD+nSU+mF*4+nD+nU+nT*2))∧I6M w' aSD aSU aF aD aU aT nSD nSU mF nD nU nT k∧Below lo w w'∧∀ j,j<w.heap.size→NotIn j aSD→NotIn j aSU→NotIn j aF→NotIn j aD→NotIn j aU→NotIn j aT→w'.heap[j]?=w.heap[j]?:=by
 have bb:Below w.heap.size w (w.alloc (.cells #[.bool ok,.int .u32 gn,.int .u32 tl,.slice aSD nSD cSD,.slice aSU nSU cSU,.slice aF mF cF,.slice aD nD cD,.slice aU nU cU,.int .i64 k0,.slice aT nT cT,.int .u32 nx] 36)):=(Below.refl _ _).alloc (Nat.le_refl _) _
 have hbx:(w.alloc (.cells #[.bool ok,.int .u32 gn,.int .u32 tl,.slice aSD nSD cSD,.slice aSU nSU cSU,.slice aF mF cF,.slice aD nD cD,.slice aU nU cU,.int .i64 k0,.slice aT nT cT,.int .u32 nx] 36)).heap[w.heap.size]?=some (.cells #[.bool ok,.int .u32 gn,.int .u32 tl,.slice aSD nSD cSD,.slice aSU nSU cSU,.slice aF mF cF,.slice aD nD cD,.slice aU nU cU,.int .i64 k0,.slice aT nT cT,.int .u32 nx] 36 (0,0)):=heap_alloc_new w _
 have HI:=hid_ofL (h.below bb)
 have HB1:=hid_ofL (bb.mono hlo)
 have HX1:=hid_ofL hbx
 have HL:=hid_ofL h
 have HSN:Hid ((Tryz.prog.info? 30).map (·.size)=some 4):=by show _=_;kernel_rfl
 have HSS:Hid ((Tryz.prog.info? 34).map (·.size)=some 4):=by show _=_;kernel_rfl
 have hs1:(w.alloc (.cells #[.bool ok,.int .u32 gn,.int .u32 tl,.slice aSD nSD cSD,.slice aSU nSU cSU,.slice aF mF cF,.slice aD nD cD,.slice aU nU cU,.int .i64 k0,.slice aT nT cT,.int .u32 nx] 36)).heap.size=w.heap.size+1:=by simp
 have HM1:Hid ((w.alloc (.cells #[.bool ok,.int .u32 gn,.int .u32 tl,.slice aSD nSD cSD,.slice aSU nSU cSU,.slice aF mF cF,.slice aD nD cD,.slice aU nU cU,.int .i64 k0,.slice aT nT cT,.int .u32 nx] 36)).rangeAt w.heap.size 1 [.int .u32 gn,.int .u32 tl,.slice aSD nSD cSD,.slice aSU nSU cSU]):=fun j v hj=>by
  have hj4:j<4:=by have:=(List.getElem?_eq_some_iff.1 hj).1;simpa using this
  rw[cell_of_row _ w.heap.size (1+j) _ _ _ hbx];obtain rfl|rfl|rfl|rfl:j=0∨j=1∨j=2∨j=3:=by omega
  all_goals(simp at hj;subst hj;rfl)
 have HN1:=hid_ofL (fun j (hj:j<w.heap.size)=>bb.block j hj)
 clear h bb hbx
 go_enter Tryz.func13,Tryz.ntmps13
 go_upto_region 1 with fail
 generalize w.alloc (.cells #[.bool ok,.int .u32 gn,.int .u32 tl,.slice aSD nSD cSD,.slice aSU nSU cSU,.slice aF mF cF,.slice aD nD cD,.slice aU nU cU,.int .i64 k0,.slice aT nT cT,.int .u32 nx] 36)=w1 at *
 go_wp2_with (first
  |(refine wpList_load_mid rfl 30 (.tmp 5) rfl w.heap.size 1 rfl [.int .u32 gn,.int .u32 tl,.slice aSD nSD cSD,.slice aSU nSU cSU] _ HM1.out Tryz.underlying30 rfl HSN.out ?_)
  |fail)
 refine(markN_any gn tl aSD aSU nSD cSD nSU cSU k w1 lo (by omega) HI.out.oSD HI.out.oSU (fun ad e=>⟨(HI.out.lSD ad e).1,(HI.out.lSD ad e).2.1⟩) (fun ad e=>⟨(HI.out.lSU ad e).1,(HI.out.lSU ad e).2.1⟩) HI.out.sDU hk (by omega)).mono ?_
 rintro e w2 ⟨rfl,p1,p2,bl,un⟩
 have s12:=bl.size
 have HX2:Hid (w2.heap[w.heap.size]?=some (.cells #[.bool ok,.int .u32 gn,.int .u32 tl,.slice aSD nSD cSD,.slice aSU nSU cSU,.slice aF mF cF,.slice aD nD cD,.slice aU nU cU,.int .i64 k0,.slice aT nT cT,.int .u32 nx] 36 (0,0))):=by
  show _=_
  rw[un _ (by omega) (fun ad e=>by have:=HL.out.lSD ad e;omega) (fun ad e=>by have:=HL.out.lSU ad e;omega)];exact HX1.out
 have kp:∀ c:Option Addr,(∀ ad,c=some ad→b1≤ad.block)→∀ ad,c=some ad→ad.block<w1.heap.size→w2.heap[ad.block]?=w1.heap[ad.block]?:=fun c hc ad e hl=>un _ hl (fun x hx=>by have:=HI.out.lSD x hx;have:=hc ad e;omega) (fun x hx=>by have:=HI.out.lSU x hx;have:=hc ad e;omega)
 have HO2:Hid (Open w2 aF (mF*4)∧Open w2 aD nD∧Open w2 aU nU∧Open w2 aT (nT*2)):=⟨HI.out.oF.keepT s12 (kp _ (fun ad e=>(HI.out.lF ad e).1)),HI.out.oD.keepT s12 (kp _ (fun ad e=>by have:=HI.out.lD ad e;have:=HI.out.b12;omega)),HI.out.oU.keepT s12 (kp _ (fun ad e=>by have:=HI.out.lU ad e;have:=HI.out.b12;omega)),HI.out.oT.keepT s12 (kp _ (fun ad e=>by have:=HI.out.lT ad e;have:=HI.out.b12;omega))⟩
 have HP2:=hid_ofL (And.intro p1 p2)
 have HB2:=hid_ofL (HB1.out.trans bl)
 have x5:w2.cell? ⟨w.heap.size,5,none⟩=some (.slice aF mF cF):=by rw[cell_of_row w2 w.heap.size 5 _ _ _ HX2.out];rfl
 have HN2:Hid (∀ j,j<w.heap.size→NotIn j aSD→NotIn j aSU→w2.heap[j]?=w.heap[j]?):=fun j hj a b=>(un j (by omega) a b).trans (HN1.out j hj)
 clear p1 p2 bl un kp HX1 HM1 HB1 HN1
 go_wp2_with fail
 refine(markF_any aF mF cF (k+nSD+nSU) w2 HO2.out.1 (by omega) (by omega)).mono ?_
 rintro e w3 ⟨rfl,p3,hw⟩
 have s23:=hw.size
 have kq:∀ c:Option Addr,(∀ ad,c=some ad→ad.block<b1∨b2≤ad.block)→∀ ad,c=some ad→ad.block<w2.heap.size→w3.heap[ad.block]?=w2.heap[ad.block]?:=fun c hc ad e hl=>hw.block _ (fun x hx=>by have:=HI.out.lF x hx;have:=hc ad e;omega)
 have HX3:Hid (w3.heap[w.heap.size]?=some (.cells #[.bool ok,.int .u32 gn,.int .u32 tl,.slice aSD nSD cSD,.slice aSU nSU cSU,.slice aF mF cF,.slice aD nD cD,.slice aU nU cU,.int .i64 k0,.slice aT nT cT,.int .u32 nx] 36 (0,0))):=by
  show _=_
  rw[hw.block _ (fun ad e=>by have:=HL.out.lF ad e;omega)];exact HX2.out
 have HO3:Hid (Open w3 aD nD∧Open w3 aU nU∧Open w3 aT (nT*2)):=⟨HO2.out.2.1.keepT (by omega) (kq _ (fun ad e=>.inr (HI.out.lD ad e).1)),HO2.out.2.2.1.keepT (by omega) (kq _ (fun ad e=>.inr (HI.out.lU ad e).1)),HO2.out.2.2.2.keepT (by omega) (kq _ (fun ad e=>.inr (HI.out.lT ad e).1))⟩
 have HP3:Hid (At .i64 w3 aSD (mks k nSD)∧At .i64 w3 aSU (mks (k+nSD) nSU)∧FAt w3 aF (mks (k+nSD+nSU) (mF*4))):=⟨HP2.out.1.keepT (by omega) (kq _ (fun ad e=>.inl (HI.out.lSD ad e).2.2)),HP2.out.2.keepT (by omega) (kq _ (fun ad e=>.inl (HI.out.lSU ad e).2.2)),p3⟩
 have HB3:=hid_ofL (HB2.out.trans (hw.below lo (fun ad e=>by have:=HI.out.lF ad e;have:=HI.out.lo1;omega)))
 have HM3:Hid (w3.rangeAt w.heap.size 6 [.slice aD nD cD,.slice aU nU cU,.int .i64 k0,.slice aT nT cT]):=fun j v hj=>by
  have hj4:j<4:=by have:=(List.getElem?_eq_some_iff.1 hj).1;simpa using this
  rw[cell_of_row w3 w.heap.size (6+j) _ _ _ HX3.out];obtain rfl|rfl|rfl|rfl:j=0∨j=1∨j=2∨j=3:=by omega
  all_goals(simp at hj;subst hj;rfl)
 have HN3:Hid (∀ j,j<w.heap.size→NotIn j aSD→NotIn j aSU→NotIn j aF→w3.heap[j]?=w.heap[j]?):=fun j hj a b c=>(hw.block j (fun ad e=>c ad e)).trans (HN2.out j hj a b)
 clear p3 hw kq HX2 HO2 HP2 HB2 HN2 x5
 go_wp2_with (first
  |(refine wpList_load_mid rfl 34 (.tmp 13) rfl w.heap.size 6 rfl [.slice aD nD cD,.slice aU nU cU,.int .i64 k0,.slice aT nT cT] _ HM3.out Tryz.underlying34 rfl HSS.out ?_)
  |fail)
 refine(markS_any aD aU aT nD cD nU cU nT cT k0 (k+nSD+nSU+mF*4) w3 lo (by omega) HO3.out.1 HO3.out.2.1 HO3.out.2.2 (fun ad e=>by have:=HI.out.lD ad e;have:=HI.out.lo1;have:=HI.out.b12;omega) (fun ad e=>by have:=HI.out.lU ad e;have:=HI.out.lo1;have:=HI.out.b12;omega) (fun ad e=>by have:=HI.out.lT ad e;have:=HI.out.lo1;have:=HI.out.b12;omega) HI.out.dU HI.out.dT HI.out.uT (by omega) (by omega)).mono ?_
 rintro e w4 ⟨rfl,p4,p5,p6,bl,un⟩
 have s34:=bl.size
 have kp:∀ c:Option Addr,(∀ ad,c=some ad→ad.block<b2)→∀ ad,c=some ad→ad.block<w3.heap.size→w4.heap[ad.block]?=w3.heap[ad.block]?:=fun c hc ad e hl=>un _ hl (fun x hx=>by have:=HI.out.lD x hx;have:=hc ad e;omega) (fun x hx=>by have:=HI.out.lU x hx;have:=hc ad e;omega) (fun x hx=>by have:=HI.out.lT x hx;have:=hc ad e;omega)
 have HF:Hid (I6M w4 aSD aSU aF aD aU aT nSD nSU mF nD nU nT k∧Below lo w w4∧∀ j,j<w.heap.size→NotIn j aSD→NotIn j aSU→NotIn j aF→NotIn j aD→NotIn j aU→NotIn j aT→w4.heap[j]?=w.heap[j]?):=⟨⟨HP3.out.1.keepT s34 (kp _ (fun ad e=>by have:=HI.out.lSD ad e;have:=HI.out.b12;omega)),HP3.out.2.1.keepT s34 (kp _ (fun ad e=>by have:=HI.out.lSU ad e;have:=HI.out.b12;omega)),HP3.out.2.2.keepT s34 (kp _ (fun ad e=>(HI.out.lF ad e).2.2)),p4,p5,p6⟩,HB3.out.trans bl,fun j hj a b c d e g=>(un j (by omega) d e g).trans (HN3.out j hj a b c)⟩
 clear p4 p5 p6 bl un kp HP3 HB3 HM3 HX3 HO3 HN3
 go_wp2
 go_ret
 exact⟨rfl,HF.out⟩
set_option maxRecDepth 100000 in
set_option maxHeartbeats 2000000 in
theorem heldM_any (h:I6M w aSD aSU aF aD aU aT nSD nSU mF nD nU nT k) (hk:0≤k) (hk':k+nSD+nSU+mF*4+nD+nU+nT*2≤1000000) :
  Calls Tryz.prog 14 #[.agg #[.bool ok,.int .u32 gn,.int .u32 tl,.slice aSD nSD cSD,.slice aSU nSU cSU,.slice aF mF cF,.slice aD nD cD,.slice aU nU cU,.int .i64 k0,.slice aT nT cT,.int .u32 nx],.int .i64 k] w fun e w'=>e=.returned (.int .i64 (k+nSD+nSU+mF*4+nD+nU+nT*2))∧Below w.heap.size w w':=by
 obtain⟨h1,h2,h3,h4,h5,h6⟩:=h
 have bb:Below w.heap.size w (w.alloc (.cells #[.bool ok,.int .u32 gn,.int .u32 tl,.slice aSD nSD cSD,.slice aSU nSU cSU,.slice aF mF cF,.slice aD nD cD,.slice aU nU cU,.int .i64 k0,.slice aT nT cT,.int .u32 nx] 36)):=(Below.refl _ _).alloc (Nat.le_refl _) _
 have hbx:(w.alloc (.cells #[.bool ok,.int .u32 gn,.int .u32 tl,.slice aSD nSD cSD,.slice aSU nSU cSU,.slice aF mF cF,.slice aD nD cD,.slice aU nU cU,.int .i64 k0,.slice aT nT cT,.int .u32 nx] 36)).heap[w.heap.size]?=some (.cells #[.bool ok,.int .u32 gn,.int .u32 tl,.slice aSD nSD cSD,.slice aSU nSU cSU,.slice aF mF cF,.slice aD nD cD,.slice aU nU cU,.int .i64 k0,.slice aT nT cT,.int .u32 nx] 36 (0,0)):=heap_alloc_new w _
 have HH:=hid_ofL (And.intro (h1.below bb) (And.intro (h2.below bb) (And.intro (h3.below bb) (And.intro (h4.below bb) (And.intro (h5.below bb) (h6.below bb))))))
 have HB1:=hid_ofL bb
 have HX1:=hid_ofL hbx
 have HSN:Hid ((Tryz.prog.info? 30).map (·.size)=some 4):=by show _=_;kernel_rfl
 have HSS:Hid ((Tryz.prog.info? 34).map (·.size)=some 4):=by show _=_;kernel_rfl
 have hs1:w.heap.size<(w.alloc (.cells #[.bool ok,.int .u32 gn,.int .u32 tl,.slice aSD nSD cSD,.slice aSU nSU cSU,.slice aF mF cF,.slice aD nD cD,.slice aU nU cU,.int .i64 k0,.slice aT nT cT,.int .u32 nx] 36)).heap.size:=by simp
 have HM1:Hid ((w.alloc (.cells #[.bool ok,.int .u32 gn,.int .u32 tl,.slice aSD nSD cSD,.slice aSU nSU cSU,.slice aF mF cF,.slice aD nD cD,.slice aU nU cU,.int .i64 k0,.slice aT nT cT,.int .u32 nx] 36)).rangeAt w.heap.size 1 [.int .u32 gn,.int .u32 tl,.slice aSD nSD cSD,.slice aSU nSU cSU]):=fun j v hj=>by
  have hj4:j<4:=by have:=(List.getElem?_eq_some_iff.1 hj).1;simpa using this
  rw[cell_of_row _ w.heap.size (1+j) _ _ _ hbx];obtain rfl|rfl|rfl|rfl:j=0∨j=1∨j=2∨j=3:=by omega
  all_goals(simp at hj;subst hj;rfl)
 have g1:¬ (k+(nSD:Int)+nSU<0):=by omega
 have g2:¬ (k+(nSD:Int)+nSU+mF*4<0):=by omega
 have g3:¬ (k+(nSD:Int)+nSU+mF*4+nD+nU+nT*2<0):=by omega
 clear h1 h2 h3 h4 h5 h6 bb hbx
 go_enter Tryz.func14,Tryz.ntmps14
 go_upto_region 1 with fail
 generalize w.alloc (.cells #[.bool ok,.int .u32 gn,.int .u32 tl,.slice aSD nSD cSD,.slice aSU nSU cSU,.slice aF mF cF,.slice aD nD cD,.slice aU nU cU,.int .i64 k0,.slice aT nT cT,.int .u32 nx] 36)=w1 at *
 go_wp2_with (first
  |(refine wpList_load_mid rfl 30 (.tmp 5) rfl w.heap.size 1 rfl [.int .u32 gn,.int .u32 tl,.slice aSD nSD cSD,.slice aSU nSU cSU] _ HM1.out Tryz.underlying30 rfl HSN.out ?_)
  |fail)
 refine(heldN_any gn tl aSD aSU nSD cSD nSU cSU k w1 HH.out.1 HH.out.2.1 hk (by omega)).mono ?_
 rintro e w2 ⟨rfl,b2⟩
 have HX2:Hid (w2.heap[w.heap.size]?=some (.cells #[.bool ok,.int .u32 gn,.int .u32 tl,.slice aSD nSD cSD,.slice aSU nSU cSU,.slice aF mF cF,.slice aD nD cD,.slice aU nU cU,.int .i64 k0,.slice aT nT cT,.int .u32 nx] 36 (0,0))):=by show _=_;rw[b2.block _ hs1];exact HX1.out
 have HH2:=hid_ofL (And.intro (HH.out.2.2.1.below b2) (And.intro (HH.out.2.2.2.1.below b2) (And.intro (HH.out.2.2.2.2.1.below b2) (HH.out.2.2.2.2.2.below b2))))
 have HB2:=hid_ofL (HB1.out.trans (b2.mono HB1.out.size))
 have x5:w2.cell? ⟨w.heap.size,5,none⟩=some (.slice aF mF cF):=by rw[cell_of_row w2 w.heap.size 5 _ _ _ HX2.out];rfl
 have HM3:Hid (w2.rangeAt w.heap.size 6 [.slice aD nD cD,.slice aU nU cU,.int .i64 k0,.slice aT nT cT]):=fun j v hj=>by
  have hj4:j<4:=by have:=(List.getElem?_eq_some_iff.1 hj).1;simpa using this
  rw[cell_of_row w2 w.heap.size (6+j) _ _ _ HX2.out];obtain rfl|rfl|rfl|rfl:j=0∨j=1∨j=2∨j=3:=by omega
  all_goals(simp at hj;subst hj;rfl)
 clear b2 HH HB1 HX1 HM1
 go_wp2_with fail
 refine(heldF_any aF mF cF (k+nSD+nSU) w2 HH2.out.1 (by omega) (by omega)).mono ?_
 rintro e w9 ⟨rfl,h9⟩
 obtain rfl:w2=w9:=h9.symm
 go_wp2_with (first
  |(refine wpList_load_mid rfl 34 (.tmp 17) rfl w.heap.size 6 rfl [.slice aD nD cD,.slice aU nU cU,.int .i64 k0,.slice aT nT cT] _ HM3.out Tryz.underlying34 rfl HSS.out ?_)
  |fail)
 refine(heldS_any aD aU aT nD cD nU cU nT cT k0 (k+nSD+nSU+mF*4) w2 HH2.out.2.1 HH2.out.2.2.1 HH2.out.2.2.2 (by omega) (by omega)).mono ?_
 rintro e w4 ⟨rfl,b4⟩
 have HB4:=hid_ofL (HB2.out.trans (b4.mono HB2.out.size))
 clear b4 HB2 HM3 HH2 x5 HX2
 go_wp2
 go_ret
 exact⟨rfl,HB4.out⟩
end
end Go.Proofs.YthmeoilbmfdhfaaGreat
