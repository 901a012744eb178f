import Derived.Test.YtfkmfmnfnenbjaaGreatMSvEa
import Derived.Test.YtfkmfmnfnenbjaaGreatFrE
import Derived.Test.YtfkmfmnfnenbjaaGreatMDkB
import Derived.Test.YtfkmfmnfnenbjaaGreatMSnB
import Derived.Test.YtfkmfmnfnenbjaaGreatMSwH
namespace Go.Proofs.YtfkmfmnfnenbjaaGreat
open Go.ChangeShapes Go.WideShapes Go.ChangeAt Go.RowKit
set_option linter.unusedVariables false
set_option maxRecDepth 10000 in
set_option maxHeartbeats 2000000 in
theorem markF_any (a:Option Addr) (n cap:Nat) (k:Int) (w:World) (ho:Open w a (n*4)) (hk:0≤k) (hk':k+n*4≤1000000) :
  Calls Tryz.prog 38 #[.slice a n cap,.int .i64 k] w fun e w'=>e=.returned (.int .i64 (k+n*4))∧FAt w' a (mks k (n*4))∧WrO a w w':=by
 go_enter Tryz.func38,Tryz.ntmps38
 go_wp2
 go_loopw [1,5] (fun q i wr=>∃ j:Nat,j≤n∧i=.int .i64 j∧q=.int .i64 (k+j*4)∧WrO a w wr∧
   (n=0∨∃ g o,a=some ⟨g,o,none⟩∧g<w.heap.size∧(∀ t,t<n*4→(wr.cell? ⟨g,o+t,none⟩).isSome=true∧wr.frozen? ⟨g,o+t,none⟩=false)∧∀ t,t<j*4→wr.cell? ⟨g,o+t,none⟩=some (.int (kF t) (k+(t:Int))))) (fun _ i _=>n-(intOf i).toNat)
 case atStart=>
  refine⟨0,Nat.zero_le _,rfl,by simp,WrO.refl _ _,?_⟩;rcases ho with h|⟨g,o,h1,h2,h3⟩
  ·exact .inl (by omega)
  ·exact .inr ⟨g,o,h1,h2,h3,fun t ht=>by omega⟩
 case round=>
  obtain⟨j,hj,rfl,rfl,hwr,hs⟩:=hrel;by_cases hlt:j<n
  ·rcases hs with h|⟨g,o,rfl,hg,hc,hd⟩
   ·omega
   ·have hlt':(j:Int)<n:=by omega
    have hst:∀(W:World) (p:Nat) (x:Value),(∀ t,t<n*4→(W.cell? ⟨g,o+t,none⟩).isSome=true∧W.frozen? ⟨g,o+t,none⟩=false)→∀ t,t<n*4→((W.setCell ⟨g,p,none⟩ x).cell? ⟨g,o+t,none⟩).isSome=true∧(W.setCell ⟨g,p,none⟩ x).frozen? ⟨g,o+t,none⟩=false:=by
     intro W p x hW t ht;obtain⟨u,hu⟩:=Option.isSome_iff_exists.1 (hW t ht).1;obtain⟨u',hu'⟩:=cell?_setCell_some (w:=W) (p:=⟨g,p,none⟩) (x:=x) (q:=⟨g,o+t,none⟩) (v:=u) hu;refine⟨by rw[hu'];rfl,?_⟩;rw[World.frozen?_setCell];exact(hW t ht).2
    obtain⟨K,hKe⟩:∃ K:Int,k+(j:Int)*4=K:=⟨_,rfl⟩
    have hK0:0≤K:=by omega
    have hK1:K+4≤1000000:=by omega
    have q0:=hc (j*4) (by omega);obtain⟨p0,f0⟩:=q0;obtain⟨v0,c0⟩:=Option.isSome_iff_exists.1 p0;have h0:=hst _ (o+j*4) (.int .u32 K) hc;have q1:=h0 (j*4+1) (by omega);rw[←Nat.add_assoc] at q1;obtain⟨p1,f1⟩:=q1;obtain⟨v1,c1⟩:=Option.isSome_iff_exists.1 p1;have h1:=hst _ (o+j*4+1) (.int .i64 (K+1)) h0;have q2:=h1 (j*4+2) (by omega);rw[←Nat.add_assoc] at q2;obtain⟨p2,f2⟩:=q2;obtain⟨v2,c2⟩:=Option.isSome_iff_exists.1 p2;have h2:=hst _ (o+j*4+2) (.int .u32 (K+1+1)) h1;have q3:=h2 (j*4+3) (by omega);rw[←Nat.add_assoc] at q3;obtain⟨p3,f3⟩:=q3;obtain⟨v3,c3⟩:=Option.isSome_iff_exists.1 p3;have h3:=hst _ (o+j*4+3) (.int .u32 (K+1+1+1)) h2;have HC:=hid_ofL h3;have HW:Hid (WrO (some ⟨g,o,none⟩) w ((((wr.setCell ⟨g,o+j*4,none⟩ (.int .u32 K)).setCell ⟨g,o+j*4+1,none⟩ (.int .i64 (K+1))).setCell ⟨g,o+j*4+2,none⟩ (.int .u32 (K+1+1))).setCell ⟨g,o+j*4+3,none⟩ (.int .u32 (K+1+1+1)))):=(((hwr.setCell _ rfl _ _).setCell _ rfl _ _).setCell _ rfl _ _).setCell _ rfl _ _;have HD:Hid (∀ t,t<(j+1)*4→((((wr.setCell ⟨g,o+j*4,none⟩ (.int .u32 K)).setCell ⟨g,o+j*4+1,none⟩ (.int .i64 (K+1))).setCell ⟨g,o+j*4+2,none⟩ (.int .u32 (K+1+1))).setCell ⟨g,o+j*4+3,none⟩ (.int .u32 (K+1+1+1))).cell? ⟨g,o+t,none⟩=some (.int (kF t) (k+(t:Int)))):=by
     intro t ht;by_cases e3:t=j*4+3
     ·subst e3;rw[←Nat.add_assoc,World.cell?_setCell_same _ _ _ c3,kF3,show K+1+1+1=k+(((j*4+3:Nat)):Int) by omega]
     rw[World.cell?_setCell_other _ _ _ _ (by simp;try omega)];by_cases e2:t=j*4+2
     ·subst e2;rw[←Nat.add_assoc,World.cell?_setCell_same _ _ _ c2,kF2,show K+1+1=k+(((j*4+2:Nat)):Int) by omega]
     rw[World.cell?_setCell_other _ _ _ _ (by simp;try omega)];by_cases e1:t=j*4+1
     ·subst e1;rw[←Nat.add_assoc,World.cell?_setCell_same _ _ _ c1,kF1,show K+1=k+(((j*4+1:Nat)):Int) by omega]
     rw[World.cell?_setCell_other _ _ _ _ (by simp;try omega)];by_cases e0:t=j*4
     ·subst e0;rw[World.cell?_setCell_same _ _ _ c0,kF0,show K=k+(((j*4:Nat)):Int) by omega]
     rw[World.cell?_setCell_other _ _ _ _ (by simp;try omega)];exact hd t (by omega)
    have m0:K%4294967296=K:=by omega
    have m2:(K+1+1)%4294967296=K+1+1:=by omega
    have m3:(K+1+1+1)%4294967296=K+1+1+1:=by omega
    have HKE:=hid_ofL hKe;rw[hKe];clear hc hd hwr ho p0 p1 p2 p3 h0 h1 h2 h3 hst hKe;go_wp2;go_roundw
    case rel=>exact⟨j+1,by omega,by go_num,by rw[show k+((j+1:Nat):Int)*4=K+1+1+1+1 by have:=HKE.out;omega],HW.out,.inr ⟨g,o,rfl,hg,HC.out,HD.out⟩⟩
    case measure=>simp[intOf];omega
  ·have hjn:j=n:=by omega
   subst hjn;have HA:Hid (FAt wr a (mks k (j*4))):=by
    rcases hs with h|⟨g,o,rfl,hg,hc,hd⟩
    ·subst h;exact .inl rfl
    ·exact .inr ⟨g,o,rfl,by rw[hwr.size];exact hg,fun i hi=>by rw[mks_len] at hi;rw[hd i hi,mks_get k _ i hi]⟩
   clear hs ho;go_wp2
   go_ret
   exact⟨rfl,HA.out,hwr⟩
set_option maxRecDepth 10000 in
set_option maxHeartbeats 2000000 in
theorem heldF_any (a:Option Addr) (n cap:Nat) (k:Int) (w:World) (ha:FAt w a (mks k (n*4))) (hk:0≤k) (hk':k+n*4≤1000000) :
  Calls Tryz.prog 41 #[.slice a n cap,.int .i64 k] w fun e w'=>e=.returned (.int .i64 (k+n*4))∧w'=w:=by
 go_enter Tryz.func41,Tryz.ntmps41
 go_wp2
 go_loop [1,5] (fun q i=>∃ j:Nat,j≤n∧i=.int .i64 j∧q=.int .i64 (k+j*4)) (fun _ i=>n-(intOf i).toNat)
 case atStart=>exact⟨0,Nat.zero_le _,rfl,by simp⟩
 case round=>
  obtain⟨j,hj,rfl,rfl⟩:=hrel;by_cases hlt:j<n
  ·obtain⟨b,off,rfl,hb,hc⟩:=ha.get (by rw[mks_len];omega);obtain⟨c0,c1,c2,c3⟩:=FAt.four hc j (by rw[mks_len];omega);obtain⟨K,hKe⟩:∃ K:Int,k+(j:Int)*4=K:=⟨_,rfl⟩
   rw[mks_get k _ _ (by omega),show k+((j*4:Nat):Int)=K by omega] at c0;rw[mks_get k _ _ (by omega),show k+((j*4+1:Nat):Int)=K+1 by omega] at c1;rw[mks_get k _ _ (by omega),show k+((j*4+2:Nat):Int)=K+1+1 by omega] at c2;rw[mks_get k _ _ (by omega),show k+((j*4+3:Nat):Int)=K+1+1+1 by omega] at c3;have hK0:0≤K:=by omega
   have hK1:K+4≤1000000:=by omega
   have hlt':(j:Int)<n:=by omega
   have m0:K%4294967296=K:=by omega
   have m2:(K+1+1)%4294967296=K+1+1:=by omega
   have m3:(K+1+1+1)%4294967296=K+1+1+1:=by omega
   have HKE:=hid_ofL hKe;rw[hKe];clear hc ha hKe;go_wp2
   go_round
   case rel=>exact⟨j+1,by omega,by go_num,by rw[show k+((j+1:Nat):Int)*4=K+1+1+1+1 by have:=HKE.out;omega]⟩
   case measure=>simp[intOf];omega
  ·have hjn:j=n:=by omega
   subst hjn;go_wp2
   go_ret
   exact⟨rfl,rfl⟩
end Go.Proofs.YtfkmfmnfnenbjaaGreat
namespace Go.Proofs.YtfkmfmnfnenbjaaGreat
open Go.ChangeShapes Go.WideShapes Go.ChangeAt Go.RowKit
set_option linter.unusedVariables false
structure MB2 (lo:Nat) (w:World) (sc:Array Value) (wr:World):Prop where
 below:Below lo w wr
 box:wr.heap[w.heap.size]?=some (.cells sc 30 (0,0))
theorem MB2.wro {lo:Nat} {w wr w':World} {sc:Array Value} (h:MB2 lo w sc wr) {a:Option Addr} (hl:Lies lo w a) (hw:WrO a wr w'):MB2 lo w sc w':=
 ⟨h.below.trans (hw.below lo (fun ad e=>(hl ad e).1)),by rw[hw.block _ (fun ad e=>by have:=hl ad e;omega)];exact h.box⟩
section
variable (ok:Bool) (gn tl:Int) (aD aU:Option Addr) (nD cD nU cU:Nat) (k:Int) (w:World)
set_option maxRecDepth 100000 in
set_option maxHeartbeats 1000000 in
theorem markN_any (lo:Nat) (hlo:lo≤w.heap.size) (oD:Open w aD nD) (oU:Open w aU nU) (lD:Lies lo w aD) (lU:Lies lo w aU) (dU:Aprt aD aU) (hk:0≤k) (hk':k+nD+nU≤1099511627776) :
  Calls Tryz.prog 37 #[.agg #[.int .u32 gn,.int .u32 tl,.slice aD nD cD,.slice aU nU cU],.int .i64 k] w fun e w'=>e=.returned (.int .i64 (k+nD+nU))∧At .i64 w' aD (mks k nD)∧At .i64 w' aU (mks (k+nD) nU)∧Below lo w w'∧∀ j,j<w.heap.size→NotIn j aD→NotIn j aU→w'.heap[j]?=w.heap[j]?:=by
 have b1:=below_new w (.cells #[.int .u32 gn,.int .u32 tl,.slice aD nD cD,.slice aU nU cU] 30)
 have HM1:Hid (MB2 lo w #[.int .u32 gn,.int .u32 tl,.slice aD nD cD,.slice aU nU cU] (w.alloc (.cells #[.int .u32 gn,.int .u32 tl,.slice aD nD cD,.slice aU nU cU] 30))):=⟨b1.mono hlo,heap_alloc_new w _⟩
 have HO:Hid (Open (w.alloc (.cells #[.int .u32 gn,.int .u32 tl,.slice aD nD cD,.slice aU nU cU] 30)) aD nD∧Open (w.alloc (.cells #[.int .u32 gn,.int .u32 tl,.slice aD nD cD,.slice aU nU cU] 30)) aU nU):=⟨oD.below b1,oU.below b1⟩
 have HL:Hid (Lies lo w aD∧Lies lo w aU):=⟨lD,lU⟩
 have HP:Hid (Aprt aD aU):=dU
 have HN1:Hid (∀ j,j<w.heap.size→(w.alloc (.cells #[.int .u32 gn,.int .u32 tl,.slice aD nD cD,.slice aU nU cU] 30)).heap[j]?=w.heap[j]?):=fun j hj=>b1.block j hj
 clear oD oU lD lU dU b1
 go_enter Tryz.func37,Tryz.ntmps37
 go_wp2_with fail
 refine(markI_any aD nD cD k _ HO.out.1 hk (by omega)).mono ?_
 rintro e w2 ⟨rfl,hA,hw⟩
 generalize w.alloc (.cells #[.int .u32 gn,.int .u32 tl,.slice aD nD cD,.slice aU nU cU] 30)=w1 at *
 have HM2:Hid (MB2 lo w #[.int .u32 gn,.int .u32 tl,.slice aD nD cD,.slice aU nU cU] w2):=HM1.out.wro HL.out.1 hw
 have HO2:Hid (Open w2 aU nU):=HO.out.2.keepT (by rw[hw.size];exact Nat.le_refl _) (hw.kept HP.out)
 have HA2:Hid (At .i64 w2 aD (mks k nD)):=hA
 have HN2:Hid (∀ j,j<w.heap.size→NotIn j aD→w2.heap[j]?=w.heap[j]?):=fun j hj h1=>(hw.block j (fun ad e=>h1 ad e)).trans (HN1.out j hj)
 have x3:w2.cell? ⟨w.heap.size,3,none⟩=some (.slice aU nU cU):=by rw[cell_of_row w2 w.heap.size 3 _ _ _ HM2.out.box];rfl
 clear hA hw HM1 HO
 go_wp2_with fail
 refine(markI_any aU nU cU (k+nD) _ HO2.out (by omega) (by omega)).mono ?_
 rintro e w3 ⟨rfl,hA,hw⟩
 have HM3:Hid (Below lo w w3):=(HM2.out.wro HL.out.2 hw).below
 have HA3:Hid (At .i64 w3 aD (mks k nD)∧At .i64 w3 aU (mks (k+nD) nU)):=⟨HA2.out.keepT (by rw[hw.size];exact Nat.le_refl _) (hw.kept (fun x y hx hy=>(HP.out y x hy hx).symm)),hA⟩
 have HN3:Hid (∀ j,j<w.heap.size→NotIn j aD→NotIn j aU→w3.heap[j]?=w.heap[j]?):=fun j hj h1 h2=>(hw.block j (fun ad e=>h2 ad e)).trans (HN2.out j hj h1)
 clear hA hw HM2 HO2 HA2 x3
 go_wp2
 go_ret
 exact⟨rfl,HA3.out.1,HA3.out.2,HM3.out,HN3.out⟩
set_option maxRecDepth 100000 in
set_option maxHeartbeats 1000000 in
theorem heldN_any (hD:At .i64 w aD (mks k nD)) (hU:At .i64 w aU (mks (k+nD) nU)) (hk:0≤k) (hk':k+nD+nU≤1099511627776) :
  Calls Tryz.prog 40 #[.agg #[.int .u32 gn,.int .u32 tl,.slice aD nD cD,.slice aU nU cU],.int .i64 k] w fun e w'=>e=.returned (.int .i64 (k+nD+nU))∧Below w.heap.size w w':=by
 have b1:=below_new w (.cells #[.int .u32 gn,.int .u32 tl,.slice aD nD cD,.slice aU nU cU] 30)
 have HB:Hid (Below w.heap.size w (w.alloc (.cells #[.int .u32 gn,.int .u32 tl,.slice aD nD cD,.slice aU nU cU] 30))):=b1
 have HA:Hid (At .i64 (w.alloc (.cells #[.int .u32 gn,.int .u32 tl,.slice aD nD cD,.slice aU nU cU] 30)) aD (mks k nD)∧At .i64 (w.alloc (.cells #[.int .u32 gn,.int .u32 tl,.slice aD nD cD,.slice aU nU cU] 30)) aU (mks (k+nD) nU)):=⟨hD.below b1,hU.below b1⟩
 have g1:¬ (k+(nD:Int)<0):=by omega
 have g2:¬ (k+(nD:Int)+nU<0):=by omega
 clear hD hU b1
 go_enter Tryz.func40,Tryz.ntmps40
 go_wp2_with fail
 refine(heldI_any aD nD cD k _ HA.out.1 hk (by omega)).mono ?_
 rintro e w2 ⟨rfl,rfl⟩
 go_wp2_with fail
 refine(heldI_any aU nU cU (k+nD) _ HA.out.2 (by omega) (by omega)).mono ?_
 rintro e w3 ⟨rfl,rfl⟩
 go_wp2
 go_ret
 exact⟨rfl,HB.out⟩
end
end Go.Proofs.YtfkmfmnfnenbjaaGreat
