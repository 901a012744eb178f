import Derived.Test.YthmeoilbmfdhfaaGreatRcJ
import Derived.Test.YthmeoilbmfdhfaaGreatRcI
open Go.Value renaming slice->UD,int->UE,pointer->UM,bool->UF,agg->UN
open Go.IntKind renaming i64->UO,u32->UG
open Go.Obj renaming cells->UP
open Go.Operand renaming tmp->UT
open Option renaming some->UI
namespace Go.Proofs.YthmeoilbmfdhfaaGreat
set_option maxHeartbeats 8000000
set_option maxRecDepth 100000
open Go.ChangeShapes Go.WideShapes Go.ChangeAt Go.RowKit
set_option linter.unusedVariables false
theorem Rq (a x:Option Addr) (c cx:Nat) (zs:List Int) (f:Int) (ka:Option Addr) (kc:Nat) (ks:List Int) (r:Dt) (w:World) (h:Ei w (UN #[UD a zs.length c,UD x 0 cx,UE UO f,UF false]) zs [] f false) (hka:At .u8 w ka ks) (hv:C5 zs.length [] f=true) (hk:ks.length=32) (hr:Ez zs [] f=r) (bz:Cu zs) (R9:RO) (hR:(if r.ok=true then QE zs ks f r else IC 12)=R9) :
  Calls Tryz.prog 23 #[UN #[UD a zs.length c,UD x 0 cx,UE UO f,UF false],UD ka ks.length kc] w λe w'=>∃ X,e=.returned (UN X)/\RM w.heap.size w' X R9.c R9.z R9.p R9.k R9.f R9.d R9.r/\Below w.heap.size w w':=by
 have hvb:=(FS hv).1;have hz:zs.length<=1048576:=AI hvb.2.2.1 hvb.1
 have HX0:AP (RX w #[UD a zs.length c,UD x 0 cx,UE UO f,UF false] ((w.alloc (UP #[UD a zs.length c,UD x 0 cx,UE UO f,UF false] 40)).alloc (UP ER 50))):=RX.start _ _;have HVD:AP (∀ ww,Below w.heap.size w ww->Calls Tryz.prog 27 #[UN #[UD a zs.length c,UD x 0 cx,UE UO f,UF false]] ww λe w'=>e=.returned (UF true)/\Below ww.heap.size ww w'):=λww b=>by rw[<-hv];exact Fv _ zs [] f false ww (h.below b) hz AM AM
 have HLE:AP (Eu r):=by rw[<-hr];exact I7 bz (by simp[Cu])
 have HLD:AP (∀ ww,Below w.heap.size w ww->Calls Tryz.prog 7 #[UN #[UD a zs.length c,UD x 0 cx,UE UO f,UF false]] ww λe w'=>∃ v,e=.returned v/\N5 w' v r/\Below ww.heap.size ww w'):=λww b=>by
  rw[<-hr];obtain⟨xa,xc,ya,yc,e,x1,x2,x3⟩:=h.below b;rw[e];exact Mn xa ya _ xc _ yc f false zs [] ww rfl rfl x1 x2 x3 hz AM AM bz (by simp[Cu])
 have HGT:AP (∀ ww,Below w.heap.size w ww->∀ vi,N5 ww vi r->Calls Tryz.prog 56 #[UN #[UD a zs.length c,UD x 0 cx,UE UO f,UF false],UD ka ks.length kc,vi] ww λe w'=>∃ C,e=.returned (UN C)/\GM ww.heap.size w' C zs [] ks f false r/\Below ww.heap.size ww w'):=λww b vi hvi=>In _ vi zs [] ks f false r ka kc ww (h.below b) (hka.below b) hvi HLE.o hz AM AM AK
 have HJR:AP (∀ ww,Calls Tryz.prog 30 #[UN #[UD a zs.length c,UD x 0 cx,UE UO f,UF false]] ww λe w'=>e=.returned (UE UO ((zs.length/64-4:Nat):Int))/\Below ww.heap.size ww w'):=λww=>I5 a x zs.length c 0 cx f false ww hz hvb.2.1 hvb.2.2.1
 have HIM:=Cq (λho=>MG hr ho bz);have HBZ:AP (Cu zs/\ks.length<=1048576):=⟨bz,AK⟩
 have HVB:=Cq hvb;have HRR:=Cq hR;have hk':(ks.length:Int)=32:=AK
 have HSI:AP ((Tryz.prog.info? 36).map (·.size)=UI 11):=by show _=_;kernel_rfl
 clear h hka hz hv hr bz hvb hR hk;go_enter Tryz.func23,Tryz.ntmps23
 go_upto_region 1 with fail
 change Code.wp _ _ _ _ ((w.alloc (UP #[UD a zs.length c,UD x 0 cx,UE UO f,UF false] 40)).alloc (UP ER 50));generalize ((w.alloc (UP #[UD a zs.length c,UD x 0 cx,UE UO f,UF false] 40)).alloc (UP ER 50))=w1 at *;go_wp2_with (first
  |(refine Ab rfl 40 (UT 2) rfl w.heap.size rfl 40 _ (0,0) _ HX0.o.b0 Tryz.underlying40 rfl Tryz.sizeDv ?_)
  |fail)
 refine(HVD.o w1 HX0.o.below).mono ?_;rintro e w2 ⟨rfl,b2⟩;have HX2:=Cq (HX0.o.call b2);clear b2 HX0 HVD;have k3:w2.cell? ⟨w.heap.size,3,none⟩=UI (UF false):=by rw[AA HX2.o.b0 _];rfl
 have k1:w2.cell? ⟨w.heap.size,1,none⟩=UI (UD x 0 cx):=by rw[AA HX2.o.b0 _];rfl
 go_upto_region 3 with fail
 clear k1 k3;go_wp2_with (first
  |(refine Ab rfl 40 (UT 2) rfl w.heap.size rfl 40 _ (0,0) _ HX2.o.b0 Tryz.underlying40 rfl Tryz.sizeDv ?_)
  |fail)
 refine(HLD.o w2 HX2.o.below).mono ?_;rintro e w3 ⟨v3,rfl,hi3,b3⟩;have hX3:=HX2.o.call b3;clear b3 HX2 HLD;have hi3':=hi3;obtain⟨aSD,nSD,cSD,aSU,nSU,cSU,aF,mF,cF,aD,nD,cD,aU,nU,cU,aT,cT,rfl,g5⟩:=hi3';have b4:Below w3.heap.size w3 (w3.alloc (UP #[UF r.ok,UE UG r.g,UE UG r.t,UD aSD nSD cSD,UD aSU nSU cSU,UD aF mF cF,UD aD nD cD,UD aU nU cU,UE UO r.k,UD aT r.n cT,UE UG r.nx] 36)):=Cs.alloc Cw _;have HX4:=Cq (hX3.call b4);have HI4:=Cq (hi3.below b4);have HM4:AP ((w3.alloc (UP #[UF r.ok,UE UG r.g,UE UG r.t,UD aSD nSD cSD,UD aSU nSU cSU,UD aF mF cF,UD aD nD cD,UD aU nU cU,UE UO r.k,UD aT r.n cT,UE UG r.nx] 36)).heap[w3.heap.size]?=UI (UP #[UF r.ok,UE UG r.g,UE UG r.t,UD aSD nSD cSD,UD aSU nSU cSU,UD aF mF cF,UD aD nD cD,UD aU nU cU,UE UO r.k,UD aT r.n cT,UE UG r.nx] 36 (0,0))/\w.heap.size+1<w3.heap.size):=⟨AV w3 _,hX3.lt⟩
 have HZ4:AP ((w3.alloc (UP Cg 36)).heap[w3.heap.size]?=UI (UP Cg 36 (0,0))):=AV w3 _;have HFL:=Cq g5.2.2.2.2.2.2.2.2.1;clear hX3 hi3 g5 b4
 go_upto_region 4 with (first
  |(refine AC 36 (UT 5) (UT 28) w3.heap.size #[UF r.ok,UE UG r.g,UE UG r.t,UD aSD nSD cSD,UD aSU nSU cSU,UD aF mF cF,UD aD nD cD,UD aU nU cU,UE UO r.k,UD aT r.n cT,UE UG r.nx] 36 HZ4.o HSI.o rfl (by simp[Value.oneCell']) ?_)
  |fail)
 rw[World.setRow_alloc_new];clear HZ4;generalize w3.alloc (UP #[UF r.ok,UE UG r.g,UE UG r.t,UD aSD nSD cSD,UD aSU nSU cSU,UD aF mF cF,UD aD nD cD,UD aU nU cU,UE UO r.k,UD aT r.n cT,UE UG r.nx] 36)=w4 at *;generalize w3.heap.size=M at *;have k0:w4.cell? ⟨M,0,none⟩=UI (UF r.ok):=by rw[AA HM4.o.1 0];rfl
 cases hok:r.ok with
 |false=>
  rw[hok] at k0;have HO:AP (R9=IC 12):=by show _=_;rw[<-HRR.o,hok];rfl
  go_wp2_with (first
   |(refine AC 50 (UT 4) (UT 32) (w.heap.size+1) Cn 50 HX4.o.b1 Tryz.sizeR rfl (by simp[Value.oneCell']) ?_)
   |fail)
  (try simp only[Exit.inBlock,Exit.then])
  have hw9:=Wr.setRow (w.heap.size+1) w4 Cn;have hbel:Below w.heap.size w (w4.setRow (w.heap.size+1) Cn):=HX4.o.below.trans (hw9.below AK);have hfin:RM w.heap.size (w4.setRow (w.heap.size+1) Cn) Cn R9.c R9.z R9.p R9.k R9.f R9.d R9.r:=by
   rw[HO.o];exact⟨Ci,rfl,GM.no _ _ hbel.size⟩
  have hres:=CY w4 (w.heap.size+1) _ Cn _ _ HX4.o.b1;clear hw9;exact AZ (v:=UN Cn) (AW rfl _ _ (w.heap.size+1) 50 _ (0,0) _ rfl hres Tryz.underlying50 rfl Tryz.sizeR) rfl ⟨_,rfl,hfin,hbel⟩
 |true=>
  rw[hok] at k0 HM4 HI4;have HRO:AP (R9=QE zs ks f r):=by show _=_;rw[<-HRR.o,hok];rfl
  obtain⟨n,hn⟩:=HIM.o hok;have HIF:=Cq hn;have HMF:AP (mF=n/\n<=252/\r.F.length/4=n/\zs.length/64-4<=252):=by
   have h1:=hn.len;have h2:=HFL.o;have h3:=hn.nJ;have h4:=HVB.o.2.2.1;exact⟨AK,AK,AK,AK⟩
  clear hn hok HIM HRR
  go_upto_region 6 with fail
  clear k0;go_wp2_with (first
   |(refine Ab rfl 40 (UT 2) rfl w.heap.size rfl 40 _ (0,0) _ HX4.o.b0 Tryz.underlying40 rfl Tryz.sizeDv ?_)
   |(refine Ab rfl 36 (UT 5) rfl M rfl 36 _ (0,0) _ HM4.o.1 Tryz.underlying36 rfl HSI.o ?_)
   |fail)
  refine(HGT.o w4 HX4.o.below _ HI4.o).mono ?_;rintro e w5 ⟨C4,rfl,g5,b5⟩;have b6:Below w5.heap.size w5 (w5.alloc (UP C4 48)):=Cs.alloc Cw _;have HX6:=Cq ((HX4.o.call b5).call b6);have hl4:=(AQ.1 HM4.o.1).1;have hs5:=b5.size;have HM6:AP ((w5.alloc (UP C4 48)).heap[M]?=UI (UP #[UF true,UE UG r.g,UE UG r.t,UD aSD nSD cSD,UD aSU nSU cSU,UD aF mF cF,UD aD nD cD,UD aU nU cU,UE UO r.k,UD aT r.n cT,UE UG r.nx] 36 (0,0))):=by show _=_;rw[b6.block _ AK,b5.block _ hl4];exact HM4.o.1
  have HG6:AP ((w5.alloc (UP C4 48)).heap[w5.heap.size]?=UI (UP C4 48 (0,0))/\GM w4.heap.size (w5.alloc (UP C4 48)) C4 zs [] ks f false r/\M<w5.heap.size/\w4.heap.size<=w5.heap.size):=⟨AV w5 _,g5.below b6,AK,hs5⟩
  have HZ6:AP ((w5.alloc (UP Ci 48)).heap[w5.heap.size]?=UI (UP Ci 48 (0,0))/\(Tryz.prog.info? 48).map (·.size)=UI C4.size/\(Ci:Array Value).size=C4.size/\C4.all (·.oneCell')=true):=⟨AV w5 _,by rw[g5.row.1];exact Tryz.sizeG,by rw[g5.row.1];rfl,g5.row.2⟩
  have HC4:AP ((Tryz.prog.info? 48).map (·.size)=UI C4.size/\C4.size=16):=⟨HZ6.o.2.1,g5.row.1⟩
  have HL6:AP (w.heap.size+1<w4.heap.size):=HX4.o.lt;clear b5 b6 g5 hl4 hs5 HX4 HM4 HGT HI4
  go_upto_region 7 with (first
   |(refine AC 48 (UT 6) (UT 36) w5.heap.size C4 48 HZ6.o.1 HZ6.o.2.1 HZ6.o.2.2.1 HZ6.o.2.2.2 ?_)
   |fail)
  rw[World.setRow_alloc_new];clear HZ6;generalize w5.alloc (UP C4 48)=w6 at *;generalize w5.heap.size=A at *;obtain⟨J,hJ⟩:∃ J:Int,((zs.length/64-4:Nat):Int)=J:=⟨_,rfl⟩
  rw[hJ] at HJR;have HJ:AP (((zs.length/64-4:Nat):Int)=J/\0<=J/\J<=252):=⟨hJ,AK,AG HMF.o⟩
  clear hJ;refine Ae AN ?_;refine C3 (λ_ a b=>Below a.heap.size a b) (frame:=(λ(a b c d e f g h i j k l m n o p q r s u v w x y z A B C D E F G H I J K L M N O P Q R S T U V:Value)=>λ(t:Nat->Value)=>({ tmps:=List.toArray [a,b,c,d,e,f,g,h,i,j,k,l,m,n,o,p,q,r,s,u,v,w,x,y,z,A,B,C,D,E,F,G,H,I,J,K,L,t 0,t 1,t 2,t 3,t 4,t 5,t 6,M,N,O,P,Q,R,S,T,U,V],defers:=[] }:Act)) _ _ _ _ _ _ _ _ _ _ _ _ _ _ _ _ _ _ _ _ _ _ _ _ _ _ _ _ _ _ _ _ _ _ _ _ _ _ _ _ _ _ _ _ _ _ _)
   (Ext:=λL u w'=>IV w6 [] L u w') (Good:=λi L w' v=>if i=0 then v=UM (UI ⟨M,5,none⟩) else if i=1 then v=UD aF mF cF else if i=2 then v=UE UO mF else if i=3 then v=UE UO (2*(mF:Int)) else if i=4 then v=UN #[UD a zs.length c,UD x 0 cx,UE UO f,UF false] else if i=5 then v=UE UO J else if i=6 then v=UF (decide (J<2*(mF:Int))) else True) ?hstab AN ?hop ?hdone _ _ ((λ(x0 x1 x2 x3 x4 x5 x6:Value)=>λ(i:Nat)=>if i=0 then x0 else if i=1 then x1 else if i=2 then x2 else if i=3 then x3 else if i=4 then x4 else if i=5 then x5 else if i=6 then x6 else undef) _ _ _ _ _ _ _) _ AM ?ext ?start AM
  case start=>intro i hi h;exact absurd h E0
  case ext=>exact(IV.start w6 [] _ _ (λ_=>FJ)).drew
  case hstab=>
   intro j L w9 w' i v hM _ _ h;exact h
  case hop=>
   intro i o L t w' ho hLi hx hdep K hK;have hi:i<7:=(AQ.1 ho).1;obtain rfl|rfl|rfl|rfl|rfl|rfl|rfl:i=0\/i=1\/i=2\/i=3\/i=4\/i=5\/i=6:=AK
   all_goals(simp at ho;subst ho)
   ·clear hdep;have hK':=hK w' (UM (UI ⟨M,5,none⟩)) AM (hx.step 0 _ Cs C7) Cs;clear hK;rw[AR AO];go_simp;simpa[Cr] using hK'
   ·have d0:t 0=UM (UI ⟨M,5,none⟩):=by simpa using(hdep ⟨0,.data⟩ AM rfl).2
    clear hdep;have cX:w'.cell? ⟨M,5,none⟩=UI (UD aF mF cF):=by rw[Bg w' M 5 _ _ _ ((hx.below.block _ (AQ.1 HM6.o).1).trans HM6.o)];rfl
    have hK':=hK w' (UD aF mF cF) AM (hx.step 1 _ Cs C7) Cs;clear hK;rw[AR AO];go_simp;simpa[Cr,d0] using hK'
   ·have d1:t 1=UD aF mF cF:=by simpa using(hdep ⟨1,.data⟩ AM rfl).2
    clear hdep;have hK':=hK w' (UE UO mF) AM (hx.step 2 _ Cs C7) Cs;clear hK;rw[AR AO];go_simp;simpa[Cr,d1] using hK'
   ·have d2:t 2=UE UO mF:=by simpa using(hdep ⟨2,.data⟩ AM rfl).2
    clear hdep;have hw9:IntKind.i64.wrap (2*(mF:Int))=2*(mF:Int):=by rw[As];have:=HMF.o;omega
    have hK':=hK w' (UE UO (2*(mF:Int))) AM (hx.step 3 _ Cs C7) Cs;clear hK;rw[AR AO];go_simp;simpa[Cr,d2] using hK'
   ·clear hdep;have hK':=hK w' (UN #[UD a zs.length c,UD x 0 cx,UE UO f,UF false]) AM (hx.step 4 _ Cs C7) Cs;clear hK;rw[AR AO];refine BL 40 (UT 2) rfl w.heap.size rfl 40 _ (0,0) _ ((hx.below.block _ (AQ.1 HX6.o.b0).1).trans HX6.o.b0) Tryz.underlying40 rfl Tryz.sizeDv ?_;simpa[Cr,Act.put] using hK'
   ·have d4:t 4=UN #[UD a zs.length c,UD x 0 cx,UE UO f,UF false]:=by simpa using(hdep ⟨4,.data⟩ AM rfl).2
    clear hdep;have A:=HJR.o w';have hK':∀ ww,Below w'.heap.size w' ww->K _ ww:=λww hb=>hK ww (UE UO J) AM (hx.step 5 _ hb C7) hb
    clear hK;rw[AR AO];go_simp;try simp only[d4]
    refine A.mono ?_;rintro e w9 ⟨rfl,hb9⟩;have hK2:=hK' w9 hb9;clear hK' A hb9;go_simp;simpa[Cr,d4] using hK2
   ·have d3:t 3=UE UO (2*(mF:Int)):=by simpa using(hdep ⟨3,.data⟩ AM rfl).2
    have d5:t 5=UE UO J:=by simpa using(hdep ⟨5,.data⟩ AM rfl).2
    clear hdep;have hK':=hK w' (UF (decide (J<2*(mF:Int)))) AM (hx.step 6 _ Cs C7) Cs;clear hK;rw[AR AO];go_simp;simpa[Cr,d3,d5] using hK'
  case hdone=>
   intro L t w7 hx hg;have d6:t 6=UF (decide (J<2*(mF:Int))):=by simpa using hg 6 AL
   have HX7:=Cq (HX6.o.call hx.below);have hlA:=(AQ.1 HG6.o.1).1;have HG7:AP (w7.heap[A]?=UI (UP C4 48 (0,0))/\GM w4.heap.size w7 C4 zs [] ks f false r/\A<w7.heap.size/\w.heap.size+1<A):=⟨(hx.below.block _ hlA).trans HG6.o.1,HG6.o.2.1.below hx.below,AG hx.below.size,AI HG6.o.2.2.2 HL6.o⟩
   dsimp only;rw[d6];clear hg hx hlA d6 HX6 HG6 HM6;by_cases hJ9:J<2*(mF:Int)
   ·have hq:decide (J<2*(mF:Int))=true:=by simpa using hJ9
    rw[hq];clear hq;have HO:AP (R9=⟨if JH zs f r=11 then 11 else 9,(FI zs f r).1,(FI zs f r).2.1,ks,(FI zs f r).2.2.1,(FI zs f r).2.2.2,JG zs f r⟩):=by show _=_;rw[HRO.o];unfold QE;rw[AR (AI HMF.o HJ.o)]
    have HCM:=Cq (Ro C4 zs ks f r n w7 HG7.o.2.1 HIF.o HLE.o HBZ.o.1 HBZ.o.2);clear hJ9 HJR;go_wp2_with (first
     |(refine Ab rfl 48 (UT 6) rfl A rfl 48 C4 (0,0) _ HG7.o.1 Tryz.underlying48 rfl HC4.o.1 ?_)
     |fail)
    refine HCM.o.mono ?_;rintro e w8 ⟨X,rfl,hR,b8⟩;have b9:Below w8.heap.size w8 (w8.alloc (UP X 50)):=Cs.alloc Cw _;have HX9:=Cq ((HX7.o.call b8).call b9);have HR9:=Cq (hR.below b9);have hs8:=b8.size;have HA9:AP ((w8.alloc (UP X 50)).heap[A]?=UI (UP C4 48 (0,0))/\(w8.alloc (UP X 50)).heap[w8.heap.size]?=UI (UP X 50 (0,0))):=⟨by rw[b9.block _ (AG HG7.o.2.2.1),b8.block _ HG7.o.2.2.1];exact HG7.o.1,AV w8 _⟩
    have HXX:AP ((Tryz.prog.info? 50).map (·.size)=UI X.size/\ER.size=X.size/\X.all (·.oneCell')=true):=⟨by rw[hR.row.1];exact Tryz.sizeR,by rw[hR.row.1];rfl,hR.row.2⟩
    have HZ8:AP ((w8.alloc (UP ER 50)).heap[w8.heap.size]?=UI (UP ER 50 (0,0))):=AV w8 _;clear hR b8 b9 hs8 HCM
    go_upto_region 9 with (first
     |(refine AC 50 (UT 7) (UT 45) w8.heap.size X 50 HZ8.o HXX.o.1 HXX.o.2.1 HXX.o.2.2 ?_)
     |fail)
    rw[World.setRow_alloc_new];clear HZ8;generalize w8.alloc (UP X 50)=w9 at *;generalize w8.heap.size=T6 at *;obtain⟨cp,hcp⟩:∃ cp,JH zs f r=cp:=⟨_,rfl⟩
    obtain⟨o,ho⟩:∃ o,FI zs f r=o:=⟨_,rfl⟩
    obtain⟨q,hq9⟩:∃ q,JG zs f r=q:=⟨_,rfl⟩
    rw[hcp,ho,hq9] at HO HR9;clear hcp ho hq9;obtain⟨C6,hX6,g6⟩:=HR9.o;have k0:w9.cell? ⟨T6,0,none⟩=UI (UE UO cp):=by rw[AA HA9.o.2 0,hX6,Array.getElem?_append_left (show 0<(#[UE UO cp]:Array Value).size from Nat.one_pos)];rfl
    have HG6:=Cq (Ac hX6 g6);clear hX6 g6;by_cases hc:cp=11
    ·subst hc;rw[AR rfl] at HO;go_wp2_with (first
      |(refine Ab rfl 50 (UT 7) rfl T6 rfl 50 X (0,0) _ HA9.o.2 Tryz.underlying50 rfl HXX.o.1 ?_)
      |(refine AC 50 (UT 4) (UT 49) (w.heap.size+1) X 50 HX9.o.b1 HXX.o.1 HXX.o.2.1 HXX.o.2.2 ?_)
      |fail)
     (try simp only[Exit.inBlock,Exit.then])
     have hw9:=Wr.setRow (w.heap.size+1) w9 X;have hl7:=HG7.o.2.2;have hfin:RM w.heap.size (w9.setRow (w.heap.size+1) X) X R9.c R9.z R9.p R9.k R9.f R9.d R9.r:=by
      rw[HO.o];exact(HR9.o.keep (Aw hw9.size.symm) (λk hk _=>hw9.block k AK)).mono AK
     have hbel:Below w.heap.size w (w9.setRow (w.heap.size+1) X):=HX9.o.below.trans (hw9.below AK);have hres:=CY w9 (w.heap.size+1) _ X _ _ HX9.o.b1;clear hw9 hl7;exact AZ (v:=UN X) (AW rfl _ _ (w.heap.size+1) 50 _ (0,0) _ rfl hres Tryz.underlying50 rfl HXX.o.1) rfl ⟨X,rfl,hfin,hbel⟩
    ·have hc':(cp == 11)=false:=by simp[hc]
     rw[AS hc] at HO;clear hc;have HRG:AP (w9.rangeAt T6 1 C6.toList):=by
      have h7:=HA9.o.2;rw[HG6.o.1] at h7;exact FP h7 1 _ (by rw[Array.toList_append];exact List.take_length)
     have HSC:AP ((Tryz.prog.info? 48).map (·.size)=UI C6.toList.length/\(Tryz.prog.info? 48).map (·.size)=UI C6.size/\C4.size=C6.size/\C6.all (·.oneCell')=true):=⟨by rw[Array.length_toList,HG6.o.2.row.1];exact Tryz.sizeG,by rw[HG6.o.2.row.1];exact Tryz.sizeG,by rw[HG6.o.2.row.1];exact HC4.o.2,HG6.o.2.row.2⟩
     have hw8:=Wr.setRow A w9 C6;have hl7:=HG7.o.2.2;have g8:GM w7.heap.size (w9.setRow A C6) C6 o.1 o.2.1 ks o.2.2.1 o.2.2.2 q:=HG6.o.2.keep (Aw hw8.size.symm) (λk hk _=>hw8.block k AK);obtain⟨X9,hX9⟩:∃ X9:Array Value,#[UE UO 9]++C6=X9:=⟨_,rfl⟩
     have hQ9:RM w7.heap.size (w9.setRow A C6) X9 9 o.1 o.2.1 ks o.2.2.1 o.2.2.2 q:=⟨C6,hX9.symm,g8⟩
     have HQ9:=Cq hQ9;have HXN:AP (#[UE UO 9]++C6=X9/\(Tryz.prog.info? 50).map (·.size)=UI X9.size/\ER.size=X9.size/\X9.all (·.oneCell')=true/\C6.size=16):=⟨hX9,by rw[hQ9.row.1];exact Tryz.sizeR,by rw[hQ9.row.1];rfl,hQ9.row.2,g8.row.1⟩
     have HRN:AP ((w9.setRow A C6).heap[w.heap.size+1]?=UI (UP ER 50 (0,0))):=by show _=_;rw[hw8.block _ AK];exact HX9.o.b1
     have HBN:AP (Below w.heap.size w (w9.setRow A C6)):=HX9.o.below.trans (hw8.below AK);have HA8:AP ((w9.setRow A C6).heap[A]?=UI (UP C6 48 (0,0))):=AB HA9.o.1;clear hw8 hl7 g8 hX9 hQ9 HX9 HR9 HXX HG6
     go_upto_region 12 with (first
      |(refine wpList_load_mid rfl 48 (UT 50) rfl T6 1 rfl C6.toList _ HRG.o Tryz.underlying48 rfl HSC.o.1 ?_)
      |(refine AC 48 (UT 6) (UT 51) A C6 48 HA9.o.1 HSC.o.2.1 HSC.o.2.2.1 HSC.o.2.2.2 ?_)
      |fail)
     generalize w9.setRow A C6=w10 at *;go_wp2_with (first
      |(refine Ab rfl 48 (UT 6) rfl A rfl 48 C6 (0,0) _ HA8.o Tryz.underlying48 rfl HSC.o.2.1 ?_)
      |(refine EK rfl _ (UT 52) rfl 9 C6 rfl rfl HXN.o.2.2.2.2 ?_;rw[HXN.o.1])
      |(refine AC 50 (UT 4) (UT 53) (w.heap.size+1) X9 50 HRN.o HXN.o.2.1 HXN.o.2.2.1 HXN.o.2.2.2.1 ?_)
      |fail)
     (try simp only[Exit.inBlock,Exit.then])
     have hw9:=Wr.setRow (w.heap.size+1) w10 X9;have hl6:=HL6.o;have hl7:=HG7.o.2.2;have hfin:RM w.heap.size (w10.setRow (w.heap.size+1) X9) X9 R9.c R9.z R9.p R9.k R9.f R9.d R9.r:=by
      rw[HO.o];exact(HQ9.o.keep (Aw hw9.size.symm) (λk hk _=>hw9.block k AK)).mono AK
     have hbel:Below w.heap.size w (w10.setRow (w.heap.size+1) X9):=HBN.o.trans (hw9.below AK);have hres:=CY w10 (w.heap.size+1) _ X9 _ _ HRN.o;clear hw9 hl6 hl7;exact AZ (v:=UN X9) (AW rfl _ _ (w.heap.size+1) 50 _ (0,0) _ rfl hres Tryz.underlying50 rfl HXN.o.2.1) rfl ⟨X9,rfl,hfin,hbel⟩
   ·have hq:decide (J<2*(mF:Int))=false:=by simpa using hJ9
    rw[hq];clear hq;have HO:AP (R9=⟨9,zs,[],ks,f,false,r⟩):=by show _=_;rw[HRO.o];unfold QE;rw[AS (AI HMF.o HJ.o)]
    obtain⟨X9,hX9⟩:∃ X9:Array Value,#[UE UO 9]++C4=X9:=⟨_,rfl⟩
    have hQ9:RM w4.heap.size w7 X9 9 zs [] ks f false r:=⟨C4,hX9.symm,HG7.o.2.1⟩
    have HQ9:=Cq hQ9;have HXN:AP (#[UE UO 9]++C4=X9/\(Tryz.prog.info? 50).map (·.size)=UI X9.size/\ER.size=X9.size/\X9.all (·.oneCell')=true/\C4.size=16):=⟨hX9,by rw[hQ9.row.1];exact Tryz.sizeR,by rw[hQ9.row.1];rfl,hQ9.row.2,HC4.o.2⟩
    have HRN:=Cq HX7.o.b1;have HBN:=Cq HX7.o.below;clear hJ9 hX9 hQ9 HJR;go_wp2_with (first
     |(refine Ab rfl 48 (UT 6) rfl A rfl 48 C4 (0,0) _ HG7.o.1 Tryz.underlying48 rfl HC4.o.1 ?_)
     |(refine EK rfl _ (UT 52) rfl 9 C4 rfl rfl HXN.o.2.2.2.2 ?_;rw[HXN.o.1])
     |(refine AC 50 (UT 4) (UT 53) (w.heap.size+1) X9 50 HRN.o HXN.o.2.1 HXN.o.2.2.1 HXN.o.2.2.2.1 ?_)
     |fail)
    (try simp only[Exit.inBlock,Exit.then])
    have hw9:=Wr.setRow (w.heap.size+1) w7 X9;have hl6:=HL6.o;have hl7:=HG7.o.2.2;have hfin:RM w.heap.size (w7.setRow (w.heap.size+1) X9) X9 R9.c R9.z R9.p R9.k R9.f R9.d R9.r:=by
     rw[HO.o];exact(HQ9.o.keep (Aw hw9.size.symm) (λk hk _=>hw9.block k AK)).mono AK
    have hbel:Below w.heap.size w (w7.setRow (w.heap.size+1) X9):=HBN.o.trans (hw9.below AK);have hres:=CY w7 (w.heap.size+1) _ X9 _ _ HRN.o;clear hw9 hl6 hl7;exact AZ (v:=UN X9) (AW rfl _ _ (w.heap.size+1) 50 _ (0,0) _ rfl hres Tryz.underlying50 rfl HXN.o.2.1) rfl ⟨X9,rfl,hfin,hbel⟩
end Go.Proofs.YthmeoilbmfdhfaaGreat
