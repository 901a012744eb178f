import Derived.Test.YthmeoilbmfdhfaaGreatMCmP
open Go.Value renaming slice->UD,int->UE,pointer->UM,bool->UF,agg->UN
open Go.IntKind renaming i64->UO
open Go.Obj renaming cells->UP
open Go.Operand renaming tmp->UT
open Option renaming some->UI,none->UJ
open Go renaming Value->UL
namespace Go.Proofs.YthmeoilbmfdhfaaGreat
set_option maxHeartbeats 8000000
set_option maxRecDepth 100000
open Go.ChangeShapes Go.WideShapes Go.ChangeAt Go.RowKit
set_option linter.unusedVariables false
structure RO where
 c:Int
 z:List Int
 p:List PD
 k:List Int
 f:Int
 d:Bool
 r:Dt
def IC (c:Int):RO:=⟨c,[],[],[],0,false,Et⟩
open Classical in
noncomputable def QE (zs ks:List Int) (f:Int) (r:Dt):RO:=if zs.length/64-4<2*(r.F.length/4) then ⟨if JH zs f r=11 then 11 else 9,(FI zs f r).1,(FI zs f r).2.1,ks,(FI zs f r).2.2.1,(FI zs f r).2.2.2,JG zs f r⟩ else ⟨9,zs,[],ks,f,false,r⟩
open Classical in
noncomputable def JD (zs:List Int) (ps:List PD) (f:Int) (d:Bool) (ks:List Int):RO:=if(C5 zs.length ps f=true/\d=false/\ps=[])/\ks.length=32 then(if(Ez zs [] f).ok=true then QE zs ks f (Ez zs [] f) else IC 12) else IC 10
structure RX (w:World) (D:Array UL) (wr:World):Prop where
 below:Below w.heap.size w wr
 b0:wr.heap[w.heap.size]?=UI (UP D 40 (0,0))
 b1:wr.heap[w.heap.size+1]?=UI (UP ER 50 (0,0))
theorem RX.start (w:World) (D:Array UL):RX w D ((w.alloc (UP D 40)).alloc (UP ER 50)):=by
 have h:=SM.start w 40 50 D ER;exact⟨h.below,h.b0,h.b1⟩
theorem RX.lt {w wr:World} {D:Array UL} (h:RX w D wr):w.heap.size+1<wr.heap.size:=(AQ.1 h.b1).1
theorem RX.drew {w wr:World} {D:Array UL} (h:RX w D wr):RX w D wr.drew:=⟨⟨h.below.os,h.below.tape,h.below.output,h.below.size,h.below.block⟩,h.b0,h.b1⟩
theorem RX.call {w wr w':World} {D:Array UL} (h:RX w D wr) (b:Below wr.heap.size wr w'):RX w D w':=by
 have:=h.lt;exact⟨h.below.trans (b.mono h.below.size),by rw[b.block _ AK];exact h.b0,by rw[b.block _ AK];exact h.b1⟩
theorem Rf (a x:Option Addr) (c cx:Nat) (zs:List Int) (f:Int) (ka:Option Addr) (kc:Nat) (ks:List Int) (r:Dt) (w:World) (h:Ei w (UN #[UD a zs.length c,UD x 0 cx,UE UO f,UF false]) zs [] f false) (hka:At .u8 w ka ks) (hv:C5 zs.length [] f=true) (hk:ks.length=32) (hr:Ez zs [] f=r) (bz:Cu zs) (R:RO) (hR:(if r.ok=true then QE zs ks f r else IC 12)=R) :
  Calls Tryz.prog 24 #[UN #[UD a zs.length c,UD x 0 cx,UE UO f,UF false],UD ka ks.length kc] w λe w'=>∃ X,e=.returned (UN X)/\IW w.heap.size w' X R.c R.z R.p R.k R.f R.d R.r/\Below w.heap.size w w':=by
 have hvb:=(FS hv).1;have hz:zs.length<=1048576:=AI hvb.2.2.1 hvb.1
 have HX0:AP (RX w #[UD a zs.length c,UD x 0 cx,UE UO f,UF false] ((w.alloc (UP #[UD a zs.length c,UD x 0 cx,UE UO f,UF false] 40)).alloc (UP ER 50))):=RX.start _ _;have HAR:=Cq (λww (b:Below w.heap.size w ww) hg x0 x1 x2 x3=>LU w.heap.size 0 a x zs.length c 0 cx f false zs [] ww hg x0 x1 x2 x3 (h.below b) rfl rfl hz AK AM);rw[hv] at HAR;have HGT:=Cq (λww (b:Below w.heap.size w ww)=>RP (UN #[UD a zs.length c,UD x 0 cx,UE UO f,UF false]) zs ks f false r ka kc ww (h.below b) (hka.below b) hr bz hz AK);have HH:AP (zs.length<=1048576/\ks.length<=1048576/\Cu zs):=⟨hz,AK,bz⟩
 have HLE:AP (Eu r):=by rw[<-hr];exact I7 bz (by simp[Cu])
 have HIM:=Cq (λho=>MG hr ho bz);have HVB:=Cq hvb;have HDV:AP (Ei w (UN #[UD a zs.length c,UD x 0 cx,UE UO f,UF false]) zs [] f false/\C5 zs.length [] f=true):=⟨h,hv⟩
 have HRR:=Cq hR;have hk':(ks.length:Int)=32:=AK
 have HSD:AP ((Tryz.prog.info? 40).map (·.size)=UI 4):=by show _=_;kernel_rfl
 clear h hka hz hv hr bz hvb hR hk;go_enter Tryz.func24,Tryz.ntmps24
 go_upto_region 1 with fail
 change Code.wp _ _ _ _ ((w.alloc (UP #[UD a zs.length c,UD x 0 cx,UE UO f,UF false] 40)).alloc (UP ER 50));generalize ((w.alloc (UP #[UD a zs.length c,UD x 0 cx,UE UO f,UF false] 40)).alloc (UP ER 50))=w1 at *;have HA:=Cq (HAR.o w1 HX0.o.below (AG HX0.o.lt) (by rw[AA HX0.o.b0 _];rfl) (by rw[AA HX0.o.b0 _];rfl) (by rw[AA HX0.o.b0 _];rfl) (by rw[AA HX0.o.b0 _];rfl));clear HAR;go_wp2_with fail;refine HA.o.mono ?_;rintro e w2 ⟨rfl,b2⟩;have HX2:=Cq (HX0.o.call b2);clear b2 HX0 HA;go_wp2_with (first
  |(refine Ab rfl 40 (UT 2) rfl w.heap.size rfl 40 #[UD a zs.length c,UD x 0 cx,UE UO f,UF false] (0,0) _ HX2.o.b0 Tryz.underlying40 rfl HSD.o ?_)
  |fail)
 refine(HGT.o w2 HX2.o.below).mono ?_;rintro e w3 ⟨C4,rfl,g3,b3⟩;have b4:Below w3.heap.size w3 (w3.alloc (UP C4 48)):=Cs.alloc Cw _;have HX4:=Cq ((HX2.o.call b3).call b4);have hl2:=HX2.o.lt;have hs3:=b3.size;obtain⟨lo,hlo⟩:∃ lo,w2.heap.size=lo:=⟨_,rfl⟩
 rw[hlo] at g3 hl2 hs3;have HW4:AP ((w3.alloc (UP C4 48)).heap[w3.heap.size]?=UI (UP C4 48 (0,0))/\GP lo (w3.alloc (UP C4 48)) C4 zs ks f false r):=⟨AV w3 _,g3.below b4⟩
 have HLT:AP (w.heap.size+1<lo/\lo<=w3.heap.size/\w3.heap.size<(w3.alloc (UP C4 48)).heap.size):=⟨hl2,hs3,AM⟩
 have HZ4:AP ((w3.alloc (UP Ci 48)).heap[w3.heap.size]?=UI (UP Ci 48 (0,0))/\(Tryz.prog.info? 48).map (·.size)=UI C4.size/\(Ci:Array UL).size=C4.size/\C4.all (·.oneCell')=true):=⟨AV w3 _,by rw[g3.gl.row.1];exact Tryz.sizeG,by rw[g3.gl.row.1];rfl,g3.gl.row.2⟩
 obtain⟨da,dc,ca,cc,kb,kd,aSD,nSD,cSD,aSU,nSU,cSU,aF,mF,cF,aD,nD,cD,aU,nU,cU,aT,cT,hC,_,_,_,⟨_,_,_,_,_,_,_,_,e3,_⟩,_⟩:=g3;have HCL:=Cq hC;have HMl:=Cq e3;clear hlo hl2 hs3 b3 b4 hC e3 HX2 HGT
 go_upto_region 4 with (first
  |(refine AC 48 (UT 5) (UT 17) w3.heap.size C4 48 HZ4.o.1 HZ4.o.2.1 HZ4.o.2.2.1 HZ4.o.2.2.2 ?_)
  |fail)
 rw[World.setRow_alloc_new];clear HZ4;generalize w3.alloc (UP C4 48)=w4 at *;generalize w3.heap.size=A at *;have k5:w4.cell? ⟨A,5,UJ⟩=UI (UF r.ok):=by rw[AA HW4.o.1 5,HCL.o];rfl
 cases hok:r.ok with
 |false=>
  rw[hok] at k5;have HO:AP (R=IC 12):=by show _=_;rw[<-HRR.o,hok];rfl
  clear HIM;go_wp2_with (first
   |(refine AC 50 (UT 4) (UT 22) (w.heap.size+1) Cn 50 HX4.o.b1 Tryz.sizeR rfl (by simp[Value.oneCell']) ?_)
   |fail)
  (try simp only[Exit.inBlock,Exit.then])
  exact AZ (v:=UN Cn) (AW rfl _ _ (w.heap.size+1) 50 _ (0,0) _ rfl (AB HX4.o.b1) Tryz.underlying50 rfl Tryz.sizeR) rfl ⟨_,rfl,by rw[HO.o];exact⟨Ci,rfl,(GP.no _ _).gq (by rw[BP];exact HX4.o.below.size)⟩,HX4.o.below.trans ((Wr.setRow _ _ _).below AK)⟩
 |true=>
  rw[hok] at k5;obtain⟨n,hn⟩:=HIM.o hok;have HIF:=Cq hn;have HRO:AP (R=QE zs ks f r):=by show _=_;rw[<-HRR.o,hok];rfl
  obtain⟨J,hJ⟩:∃ J:Int,((zs.length/64-4:Nat):Int)=J:=⟨_,rfl⟩
  have HMF:AP (mF=n/\n<=252/\0<=J/\J<=252/\r.F.length/4=n/\((zs.length/64-4:Nat):Int)=J):=by
   have h1:=hn.len;have h2:=HMl.o;have h3:=hn.nJ;have h4:=HVB.o.2.2.1;refine⟨AK,AK,AK,AK,AK,hJ⟩
  have HC4:AP (w4.cell? ⟨A,10,UJ⟩=UI (UD aF mF cF)):=by show _=_;rw[AA HW4.o.1 10,HCL.o];rfl
  have HJS:AP (∀ ww,ww=w4.drew->Calls Tryz.prog 65 #[UM (UI ⟨w.heap.size,0,UJ⟩)] ww λe w'=>e=.returned (UE .u32 J)/\w'=ww):=λww e=>by
   obtain⟨da',dc',ca',cc',ed,q1,q2,q3⟩:=HDV.o.1;simp only[Value.agg.injEq,Array.mk.injEq,List.cons.injEq,Value.slice.injEq] at ed;rw[<-hJ];subst e;have b5:Below w.heap.size w w4.drew:=⟨HX4.o.below.os,HX4.o.below.tape,HX4.o.below.output,HX4.o.below.size,HX4.o.below.block⟩
   exact I1 (a:=a) (x:=x) (c:=c) (m:=0) (cx:=cx) (f:=f) (d:=false) (zs:=zs) (ps:=[]) ⟨HX4.o.b0,by rw[ed.1.1];exact q1.below b5,.inl rfl⟩ ⟨rfl,rfl,HDV.o.2,by rw[ed.1.2.2];exact q3,HH.o.2.2,by simp[Cu]⟩
  clear hJ hn hok HIM HCL HMl;clear HRR;go_wp2_with fail;refine Ae AN ?_;refine C3 (λ_ _ _=>True) (frame:=(λ(a b c d e f g h i j k l m n o p q r s u v w x y z A B C D E F G:UL)=>λ(t:Nat->UL)=>({ tmps:=List.toArray [a,b,c,d,e,f,g,h,i,j,k,l,m,n,o,p,q,r,s,u,v,w,x,t 0,t 1,t 2,t 3,t 4,t 5,t 6,t 7,y,z,A,B,C,D,E,F,G],defers:=[] }:Act)) _ _ _ _ _ _ _ _ _ _ _ _ _ _ _ _ _ _ _ _ _ _ _ _ _ _ _ _ _ _ _ _)
   (Ext:=λL u w'=>w'=w4.drew) (Good:=λi L w' v=>if i=0 then v=UM (UI ⟨A,5,UJ⟩) else if i=1 then v=UM (UI ⟨A,10,UJ⟩) else if i=2 then v=UD aF mF cF else if i=3 then v=UE UO mF else if i=4 then v=UE UO (2*(mF:Int)) else if i=5 then v=UE .u32 J else if i=6 then v=UE UO J else if i=7 then v=UF (decide (J<2*(mF:Int))) else True) ?hstab AN ?hop ?hdone _ _ ((λ(x0 x1 x2 x3 x4 x5 x6 x7:UL)=>λ(i:Nat)=>if i=0 then x0 else if i=1 then x1 else if i=2 then x2 else if i=3 then x3 else if i=4 then x4 else if i=5 then x5 else if i=6 then x6 else if i=7 then x7 else undef) _ _ _ _ _ _ _ _) _ AM rfl ?start AM
  case start=>intro i hi h;exact absurd h E0
  case hstab=>intro j L w9 w' i v hM hij hLi h;exact h
  case hop=>
   intro i o L t w' ho hLi hx hdep K hK;have hi:i<8:=(AQ.1 ho).1;obtain rfl|rfl|rfl|rfl|rfl|rfl|rfl|rfl:i=0\/i=1\/i=2\/i=3\/i=4\/i=5\/i=6\/i=7:=AK
   all_goals(simp at ho;subst ho)
   ·clear hdep;have hK':=hK w' (UM (UI ⟨A,5,UJ⟩)) AM hx trivial;clear hK hx;rw[AR AO];go_simp;simpa[Cr] using hK'
   ·have d0:t 0=UM (UI ⟨A,5,UJ⟩):=by simpa using(hdep ⟨0,.data⟩ AM rfl).2
    clear hdep;have hK':=hK w' (UM (UI ⟨A,10,UJ⟩)) AM hx trivial;clear hK hx;rw[AR AO];go_simp;simpa[Cr,d0] using hK'
   ·have d1:t 1=UM (UI ⟨A,10,UJ⟩):=by simpa using(hdep ⟨1,.data⟩ AM rfl).2
    clear hdep;have k10:w'.cell? ⟨A,10,UJ⟩=UI (UD aF mF cF):=by rw[hx];exact HC4.o
    have hK':=hK w' (UD aF mF cF) AM hx trivial;clear hK hx;rw[AR AO];go_simp;simpa[Cr,d1] using hK'
   ·have d2:t 2=UD aF mF cF:=by simpa using(hdep ⟨2,.data⟩ AM rfl).2
    clear hdep;have hK':=hK w' (UE UO mF) AM hx trivial;clear hK hx;rw[AR AO];go_simp;simpa[Cr,d2] using hK'
   ·have d3:t 3=UE UO mF:=by simpa using(hdep ⟨3,.data⟩ AM rfl).2
    clear hdep;have hw9:IntKind.i64.wrap (2*(mF:Int))=2*(mF:Int):=by rw[As];have:=HMF.o;omega
    have hK':=hK w' (UE UO (2*(mF:Int))) AM hx trivial;clear hK hx;rw[AR AO];go_simp;simpa[Cr,d3] using hK'
   ·clear hdep;have A:=HJS.o w' hx;have hK':=hK w' (UE .u32 J) AM hx trivial;clear hK hx;rw[AR AO];go_simp;try simp only[]
    refine A.mono ?_;rintro e w9 ⟨rfl,h9⟩;subst h9;clear A;go_simp;simpa[Cr] using hK'
   ·have d5:t 5=UE .u32 J:=by simpa using(hdep ⟨5,.data⟩ AM rfl).2
    clear hdep;have hw9:IntKind.i64.wrap J=J:=by rw[As];have:=HMF.o;omega
    have hK':=hK w' (UE UO J) AM hx trivial;clear hK hx;rw[AR AO];go_simp;simpa[Cr,d5] using hK'
   ·have d4:t 4=UE UO (2*(mF:Int)):=by simpa using(hdep ⟨4,.data⟩ AM rfl).2
    have d6:t 6=UE UO J:=by simpa using(hdep ⟨6,.data⟩ AM rfl).2
    clear hdep;have hK':=hK w' (UF (decide (J<2*(mF:Int)))) AM hx trivial;clear hK hx;rw[AR AO];go_simp;simpa[Cr,d4,d6] using hK'
  case hdone=>
   intro L t w5 hx hg;have d7:t 7=UF (decide (J<2*(mF:Int))):=by simpa using hg 7 AL
   clear hg;subst hx;have HW5:AP (w4.drew.heap[A]?=UI (UP C4 48 (0,0))/\GP lo w4.drew C4 zs ks f false r/\RX w #[UD a zs.length c,UD x 0 cx,UE UO f,UF false] w4.drew):=⟨HW4.o.1,HW4.o.2.below ⟨rfl,rfl,rfl,AY _,λ_ _=>rfl⟩,HX4.o.drew⟩
   dsimp only;rw[d7];clear d7;by_cases hJ:J<2*(mF:Int)
   ·have hq:decide (J<2*(mF:Int))=true:=by simpa using hJ
    rw[hq];clear hq;have HO:AP (R=⟨if JH zs f r=11 then 11 else 9,(FI zs f r).1,(FI zs f r).2.1,ks,(FI zs f r).2.2.1,(FI zs f r).2.2.2,JG zs f r⟩):=by show _=_;rw[HRO.o];unfold QE;rw[AR (AG HMF.o)]
    have HCM:=Cq (Re A C4 zs ks f r n w4.drew HW5.o.1 HW5.o.2.1.gl HIF.o (AI HIF.o.len HMF.o) HLE.o HH.o.2.2 HH.o.2.1);clear hJ HC4 HJS;go_wp2_with fail;refine HCM.o.mono ?_;rintro e w6 ⟨X,rfl,hR,b6⟩;have HX6:=Cq (HW5.o.2.2.call b6);have b7:Below w6.heap.size w6 (w6.alloc (UP X 50)):=Cs.alloc Cw _;have HX7:=Cq (HX6.o.call b7);have HR7:=Cq (hR.below b7);have HA7:AP ((w6.alloc (UP X 50)).heap[A]?=UI (UP C4 48 (0,0))/\(w6.alloc (UP X 50)).heap[w6.heap.size]?=UI (UP X 50 (0,0))):=⟨by rw[b7.block _ (by have:=HLT.o;have:=b6.size;exact Ax HLT.o.2.2 (by exact this)),b6.block _ HLT.o.2.2];exact HW5.o.1,AV w6 _⟩
    have HXX:AP ((Tryz.prog.info? 50).map (·.size)=UI X.size/\ER.size=X.size/\X.all (·.oneCell')=true):=⟨by rw[hR.row.1];exact Tryz.sizeR,by rw[hR.row.1];rfl,hR.row.2⟩
    have HZ6:AP ((w6.alloc (UP ER 50)).heap[w6.heap.size]?=UI (UP ER 50 (0,0))):=AV w6 _;have HS6:AP (w4.heap.size<=w6.heap.size):=b6.size;clear hR b6 b7 HCM HX6
    go_upto_region 8 with (first
     |(refine AC 50 (UT 6) (UT 31) w6.heap.size X 50 HZ6.o HXX.o.1 HXX.o.2.1 HXX.o.2.2 ?_)
     |fail)
    rw[World.setRow_alloc_new];clear HZ6;generalize w6.alloc (UP X 50)=w7 at *;generalize w6.heap.size=T6 at *;obtain⟨cp,hcp⟩:∃ cp,JH zs f r=cp:=⟨_,rfl⟩
    obtain⟨o,ho⟩:∃ o,FI zs f r=o:=⟨_,rfl⟩
    obtain⟨q,hq9⟩:∃ q,JG zs f r=q:=⟨_,rfl⟩
    rw[hcp,ho,hq9] at HO HR7;clear hcp ho hq9;obtain⟨C6,hX6,g6⟩:=HR7.o;have k0:w7.cell? ⟨T6,0,UJ⟩=UI (UE UO cp):=by rw[AA HA7.o.2 0,hX6,Array.getElem?_append_left (show 0<(#[UE UO cp]:Array UL).size from Nat.one_pos)];rfl
    have HG6:=Cq (Ac hX6 g6);clear hX6 g6;by_cases hc:cp=11
    ·subst hc;rw[AR rfl] at HO;go_wp2_with (first
      |(refine Ab rfl 50 (UT 6) rfl T6 rfl 50 X (0,0) _ HA7.o.2 Tryz.underlying50 rfl HXX.o.1 ?_)
      |(refine AC 50 (UT 4) (UT 35) (w.heap.size+1) X 50 HX7.o.b1 HXX.o.1 HXX.o.2.1 HXX.o.2.2 ?_)
      |fail)
     (try simp only[Exit.inBlock,Exit.then])
     exact AZ (v:=UN X) (AW rfl _ _ (w.heap.size+1) 50 _ (0,0) _ rfl (AB HX7.o.b1) Tryz.underlying50 rfl HXX.o.1) rfl ⟨_,rfl,by rw[HO.o];exact(HR7.o.put (show w.heap.size+1<w4.heap.size by have:=HLT.o;omega)).mono AK,HX7.o.below.trans ((Wr.setRow _ _ _).below AK)⟩
    ·have hc':(cp == 11)=false:=by simp[hc]
     rw[AS hc] at HO;clear hc;have HRG:AP (w7.rangeAt T6 1 C6.toList):=by
      have h7:=HA7.o.2;rw[HG6.o.1] at h7;exact FP h7 1 _ (by rw[Array.toList_append];exact List.take_length)
     have HSC:AP ((Tryz.prog.info? 48).map (·.size)=UI C6.toList.length/\(Tryz.prog.info? 48).map (·.size)=UI C6.size/\C4.size=C6.size/\C6.all (·.oneCell')=true):=⟨by rw[Array.length_toList,HG6.o.2.row.1];exact Tryz.sizeG,by rw[HG6.o.2.row.1];exact Tryz.sizeG,by rw[HG6.o.2.row.1];exact HW5.o.2.1.gl.row.1,HG6.o.2.row.2⟩
     have hw8:=Wr.setRow A w7 C6;have hlt:=HLT.o;have g8:JM lo (w7.setRow A C6) C6 o.1 o.2.1 ks o.2.2.1 o.2.2.2 q:=(HG6.o.2.keep (Aw hw8.size.symm) (λk hk _=>hw8.block k (by have:w4.heap.size<=k:=hk;omega))).mono (show lo<=w4.heap.size by omega);obtain⟨X9,hX9,hQ9⟩:=I9 (c:=9) g8;have HQ9:=Cq hQ9;have HX9:AP (#[UE UO 9]++C6=X9/\(Tryz.prog.info? 50).map (·.size)=UI X9.size/\ER.size=X9.size/\X9.all (·.oneCell')=true/\C6.size=16):=⟨hX9,by rw[hQ9.row.1];exact Tryz.sizeR,by rw[hQ9.row.1];rfl,hQ9.row.2,g8.row.1⟩
     have HR9:AP ((w7.setRow A C6).heap[w.heap.size+1]?=UI (UP ER 50 (0,0))):=by show _=_;rw[hw8.block _ AK];exact HX7.o.b1
     have HB9:AP (Below w.heap.size w (w7.setRow A C6)):=HX7.o.below.trans (hw8.below AK);have HA8:AP ((w7.setRow A C6).heap[A]?=UI (UP C6 48 (0,0))):=AB HA7.o.1;clear hw8 hlt g8 hX9 hQ9 HX7 HR7 HXX HG6
     go_upto_region 11 with (first
      |(refine wpList_load_mid rfl 48 (UT 36) rfl T6 1 rfl C6.toList _ HRG.o Tryz.underlying48 rfl HSC.o.1 ?_)
      |(refine AC 48 (UT 5) (UT 37) A C6 48 HA7.o.1 HSC.o.2.1 HSC.o.2.2.1 HSC.o.2.2.2 ?_)
      |fail)
     generalize w7.setRow A C6=w8 at *;go_wp2_with (first
      |(refine Ab rfl 48 (UT 5) rfl A rfl 48 C6 (0,0) _ HA8.o Tryz.underlying48 rfl HSC.o.2.1 ?_)
      |(refine EK rfl _ (UT 38) rfl 9 C6 rfl rfl HX9.o.2.2.2.2 ?_;rw[HX9.o.1])
      |(refine AC 50 (UT 4) (UT 39) (w.heap.size+1) X9 50 HR9.o HX9.o.2.1 HX9.o.2.2.1 HX9.o.2.2.2.1 ?_)
      |fail)
     (try simp only[Exit.inBlock,Exit.then])
     exact AZ (v:=UN X9) (AW rfl _ _ (w.heap.size+1) 50 _ (0,0) _ rfl (AB HR9.o) Tryz.underlying50 rfl HX9.o.2.1) rfl ⟨_,rfl,by rw[HO.o];exact(HQ9.o.put HLT.o.1).mono AK,HB9.o.trans ((Wr.setRow _ _ _).below AK)⟩
   ·have hq:decide (J<2*(mF:Int))=false:=by simpa using hJ
    rw[hq];clear hq;have HO:AP (R=⟨9,zs,[],ks,f,false,r⟩):=by show _=_;rw[HRO.o];unfold QE;rw[AS (AG HMF.o)]
    obtain⟨X9,hX9,hQ9⟩:=I9 (c:=9) (HW5.o.2.1.gq (by show lo<=w4.heap.size;have:=HLT.o;omega));have HQ9:=Cq hQ9;have HX9:AP (#[UE UO 9]++C4=X9/\(Tryz.prog.info? 50).map (·.size)=UI X9.size/\ER.size=X9.size/\X9.all (·.oneCell')=true/\C4.size=16):=⟨hX9,by rw[hQ9.row.1];exact Tryz.sizeR,by rw[hQ9.row.1];rfl,hQ9.row.2,HW5.o.2.1.gl.row.1⟩
    have HR9:=Cq HW5.o.2.2.b1;have HB9:=Cq HW5.o.2.2.below;have HSC:AP ((Tryz.prog.info? 48).map (·.size)=UI C4.size):=by show _=_;rw[HW5.o.2.1.gl.row.1];exact Tryz.sizeG
    clear hJ hX9 hQ9 HC4 HJS;go_wp2_with (first
     |(refine Ab rfl 48 (UT 5) rfl A rfl 48 C4 (0,0) _ HW5.o.1 Tryz.underlying48 rfl HSC.o ?_)
     |(refine EK rfl _ (UT 38) rfl 9 C4 rfl rfl HX9.o.2.2.2.2 ?_;rw[HX9.o.1])
     |(refine AC 50 (UT 4) (UT 39) (w.heap.size+1) X9 50 HR9.o HX9.o.2.1 HX9.o.2.2.1 HX9.o.2.2.2.1 ?_)
     |fail)
    (try simp only[Exit.inBlock,Exit.then])
    exact AZ (v:=UN X9) (AW rfl _ _ (w.heap.size+1) 50 _ (0,0) _ rfl (AB HR9.o) Tryz.underlying50 rfl HX9.o.2.1) rfl ⟨_,rfl,by rw[HO.o];exact(HQ9.o.put HLT.o.1).mono AK,HB9.o.trans ((Wr.setRow _ _ _).below AK)⟩
theorem Rg (a x:Option Addr) (c cx:Nat) (zs:List Int) (ps:List PD) (f:Int) (d:Bool) (ka:Option Addr) (kc:Nat) (ks:List Int) (w:World) (h:Ei w (UN #[UD a zs.length c,UD x ps.length cx,UE UO f,UF d]) zs ps f d) (hka:At .u8 w ka ks) (hz:zs.length<=1048576) (hm:ps.length<=1048576) (hps:∀ i,(ps.getD i (0,[])).2.length<=1048576) (bz:Cu zs) (hk:ks.length<=1048576) :
  Calls Tryz.prog 24 #[UN #[UD a zs.length c,UD x ps.length cx,UE UO f,UF d],UD ka ks.length kc] w λe w'=>∃ X,e=.returned (UN X)/\IW w.heap.size w' X (JD zs ps f d ks).c (JD zs ps f d ks).z (JD zs ps f d ks).p (JD zs ps f d ks).k (JD zs ps f d ks).f (JD zs ps f d ks).d (JD zs ps f d ks).r/\Below w.heap.size w w':=by
 by_cases hc:(C5 zs.length ps f=true/\d=false/\ps=[])/\ks.length=32
 ·obtain⟨⟨h1,rfl,rfl⟩,h4⟩:=hc;exact Rf a x c cx zs f ka kc ks _ w h hka h1 h4 rfl bz _ (by unfold JD;exact(AR ⟨⟨h1,rfl,rfl⟩,h4⟩).symm)
 have HO:AP (JD zs ps f d ks=IC 10):=by show _=_;unfold JD;rw[AS hc]
 have HNC:=Cq hc;clear hc;have HX0:AP (RX w #[UD a zs.length c,UD x ps.length cx,UE UO f,UF d] ((w.alloc (UP #[UD a zs.length c,UD x ps.length cx,UE UO f,UF d] 40)).alloc (UP ER 50))):=RX.start _ _;have HAR:=Cq (λww (b:Below w.heap.size w ww) hg x0 x1 x2 x3=>LU w.heap.size 0 a x zs.length c ps.length cx f d zs ps ww hg x0 x1 x2 x3 (h.below b) rfl rfl hz hm hps);have HD:=Cq (Ac h hka);have HH:AP (zs.length<=1048576/\ks.length<=1048576/\Cu zs):=⟨hz,hk,bz⟩
 clear h hka hz hm hps bz hk;go_enter Tryz.func24,Tryz.ntmps24
 go_upto_region 1 with fail
 change Code.wp _ _ _ _ ((w.alloc (UP #[UD a zs.length c,UD x ps.length cx,UE UO f,UF d] 40)).alloc (UP ER 50));generalize ((w.alloc (UP #[UD a zs.length c,UD x ps.length cx,UE UO f,UF d] 40)).alloc (UP ER 50))=w1 at *;have A:=HAR.o w1 HX0.o.below (AG HX0.o.lt) (by rw[AA HX0.o.b0 _];rfl) (by rw[AA HX0.o.b0 _];rfl) (by rw[AA HX0.o.b0 _];rfl) (by rw[AA HX0.o.b0 _];rfl);obtain⟨V,hV⟩:∃ V,(C5 zs.length ps f && !d && decide (ps.length=0))=V:=⟨_,rfl⟩
 rw[hV] at A;have HA:=Cq A;have HV:=Cq hV;clear A hV HAR;go_wp2_with fail;refine HA.o.mono ?_;rintro e w2 ⟨rfl,b2⟩;have HX2:=Cq (HX0.o.call b2);have hl2:=HX2.o.lt;clear b2 HX0 HA;cases V with
 |false=>
  go_wp2_with (first
   |(refine AC 50 (UT 4) (UT 14) (w.heap.size+1) Cm 50 HX2.o.b1 Tryz.sizeR rfl (by simp[Value.oneCell']) ?_)
   |fail)
  (try simp only[Exit.inBlock,Exit.then])
  exact AZ (v:=UN Cm) (AW rfl _ _ (w.heap.size+1) 50 _ (0,0) _ rfl (AB HX2.o.b1) Tryz.underlying50 rfl Tryz.sizeR) rfl ⟨_,rfl,by rw[HO.o];exact⟨Ci,rfl,(GP.no _ _).gq (by rw[BP];exact HX2.o.below.size)⟩,HX2.o.below.trans ((Wr.setRow _ _ _).below AK)⟩
 |true=>
  have hk':¬ ((ks.length:Int)=32):=λh=>HNC.o ⟨by
   have:=HV.o;simp at this;exact⟨this.1.1,this.1.2,this.2⟩,AK⟩
  go_wp2_with (first
   |(refine AC 50 (UT 4) (UT 14) (w.heap.size+1) Cm 50 HX2.o.b1 Tryz.sizeR rfl (by simp[Value.oneCell']) ?_)
   |fail)
  (try simp only[Exit.inBlock,Exit.then])
  exact AZ (v:=UN Cm) (AW rfl _ _ (w.heap.size+1) 50 _ (0,0) _ rfl (AB HX2.o.b1) Tryz.underlying50 rfl Tryz.sizeR) rfl ⟨_,rfl,by rw[HO.o];exact⟨Ci,rfl,(GP.no _ _).gq (by rw[BP];exact HX2.o.below.size)⟩,HX2.o.below.trans ((Wr.setRow _ _ _).below AK)⟩
end Go.Proofs.YthmeoilbmfdhfaaGreat
