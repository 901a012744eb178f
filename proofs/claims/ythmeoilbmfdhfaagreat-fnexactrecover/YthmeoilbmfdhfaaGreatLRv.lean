import Derived.Test.YthmeoilbmfdhfaaGreatMRcK
open Go.Value renaming slice->UD,int->UE,bool->UF,agg->UN
open Go.IntKind renaming i64->UO
open Go.Obj renaming cells->UP
open Go.Ending renaming returned->UQ
open Option renaming some->UI
namespace Go.Proofs.YthmeoilbmfdhfaaGreat.lrv
set_option maxHeartbeats 8000000
set_option maxRecDepth 100000
open Go.ChangeShapes Go.WideShapes Go.ChangeAt Go.RowKit
set_option linter.unusedVariables false
theorem own:ownKnob Tryz.prog.godebug=none:=AN
theorem M1:laidOutB Tryz.prog=true:=AN
structure QT (v:World) (P lo hi:Nat) (X:Array Value) (R:RO) (w':World):Prop where
 bel:Below v.heap.size v w'
 g:w'.heap[P]?=UI (UP X 50 (0,0))
 im:N8 lo hi w' X R.c R.z R.p R.k R.f R.d R.r
theorem QT.keep {v w' w'':World} {P lo hi:Nat} {X:Array Value} {R:RO} (h:QT v P lo hi X R w') (ho:w''.os=w'.os) (ht:w''.tape=w'.tape) (hu:w''.output=w'.output) (hs:w'.heap.size<=w''.heap.size) (hb:∀ k,k<w'.heap.size->(k<v.heap.size\/lo<=k)->w''.heap[k]?=w'.heap[k]?) (hP:lo<=P/\hi<=w'.heap.size):QT v P lo hi X R w'':=
 ⟨h.bel.trans ⟨ho,ht,hu,hs,λk hk=>hb k (AG h.bel.size) (.inl hk)⟩,by rw[hb P (AQ.1 h.g).1 (.inr hP.1)];exact h.g,h.im.keep hs λk hk hk'=>hb k AK (.inr hk)⟩
theorem QT.grow {v w' w'':World} {P lo hi:Nat} {X:Array Value} {R:RO} (h:QT v P lo hi X R w') (b:Below w'.heap.size w' w''):QT v P lo hi X R w'':=⟨h.bel.trans (b.mono h.bel.size),by rw[b.block P (Array.getElem?_eq_some_iff.1 h.g).1];exact h.g,h.im.below b⟩
theorem TO {w:World} {B g n c:Nat} {zs:List Int} (h:DT w B (UD (UI ⟨g,0,none⟩) n c) zs):Df w (UI ⟨g,0,none⟩) n:=by
 obtain⟨g',c',e,q1,q2,q3,q4,q5⟩:=h.at_;simp only[Value.slice.injEq,Option.some.injEq,Addr.mk.injEq] at e;obtain⟨⟨rfl,_⟩,e2,rfl⟩:=e;rw[e2];exact q5
theorem Ts (a:Option Addr) (n cap:Nat) (a':Option Addr) (n' cap':Nat) (zs:List Int) (ps:List PD) (f:Int) (d:Bool) (w:World) (hn:zs.length=n) (hn':ps.length=n') (hm:n<=9223372036854775807) (hm':n'<=9223372036854775807) (ha:At .u8 w a zs) (ha':FY w a' ps) (hps:∀ i,(ps.getD i (0,[])).2.length<=9223372036854775807) (bz:Cu zs) (ka:Option Addr) (kn kc:Nat) (ks:List Int) (hl:ks.length=kn) (hkm:kn<=9223372036854775807) (hka:At .u8 w ka ks) :
  Calls Tryz.prog 5 #[UN #[UD a n cap,UD a' n' cap',UE UO f,UF d],UD ka kn kc] w λe w'=>e=UQ (UF true)/\Below w.heap.size w w':=by
 subst hn hn' hl;have st0:LV w (w.alloc (UP #[UD a zs.length cap,UD a' ps.length cap',UE UO f,UF d] 25)) #[UD a zs.length cap,UD a' ps.length cap',UE UO f,UF d]:=⟨Cs.alloc Cw _,AV w _⟩
 have HS0:AP (LV w (w.alloc (UP #[UD a zs.length cap,UD a' ps.length cap',UE UO f,UF d] 25)) #[UD a zs.length cap,UD a' ps.length cap',UE UO f,UF d]):=st0;clear st0;by_cases hbig:1048576<ks.length
 ·have hb':(1048576:Int)<(ks.length:Int):=AK
  have HB:=Cq HS0.o.below;clear hm hm' ha ha' hps bz hka hkm hbig HS0;go_enter Tryz.func5,Tryz.ntmps5;go_wp2
  go_ret
  exact⟨rfl,HB.o⟩
 have hsm:¬ (1048576:Int)<(ks.length:Int):=AK
 have HKN:AP (ks.length<=1048576):=by show _<=_;omega
 have HZ:AP (∀ left n,JI left n=if left<n then -1 else left-n):=λ_ _=>rfl
 clear hbig hkm;go_enter Tryz.func5,Tryz.ntmps5;go_wp2_with fail;refine(QM a zs.length cap a' ps.length cap' ps f d 1048576 _ rfl AL AL hm hm' (ha'.below HS0.o.below) hps).mono ?_;rintro e w1 ⟨rfl,hb1⟩;have st1:=LV.grow HS0.o hb1;clear HS0 hb1 hsm;by_cases hbig:(1048576:Int)<((zs.length+(ps.length+Db ps):Nat):Int)
 ·have hr:JI 1048576 (zs.length+(ps.length+Db ps))=-1:=by rw[HZ.o,AR hbig]
  rw[hr];have HB1:AP _:=st1.below;clear st1;go_wp2
  go_ret
  exact⟨rfl,HB1.o⟩
 have hr:JI 1048576 (zs.length+(ps.length+Db ps))=1048576-((zs.length+(ps.length+Db ps):Nat):Int):=by rw[HZ.o,AS hbig]
 have hsum:zs.length+ps.length+Db ps<=1048576:=AK
 have hpb:∀ i,(ps.getD i (0,[])).2.length<=1048576:=λi=>by
  by_cases hi:i<ps.length
  ·have h1:=IJ ps i hi;have h2:=IK ps (i+1);omega
  ·rw[Ao,B5 AK];simp
 have hneg:¬ (JI 1048576 (zs.length+(ps.length+Db ps))<0):=by rw[hr];omega
 generalize JI 1048576 (zs.length+(ps.length+Db ps))=left at *;clear hr hbig hm hm' hps HZ;have HSUM:=Cq hsum;have HPB:=Cq hpb;have HTO:AP (∀ ww,Below w.heap.size w ww->Calls Tryz.prog 8 #[UN #[UD a zs.length cap,UD a' ps.length cap',UE UO f,UF d]] ww λe w'=>∃ v,e=UQ v/\FH ww.heap.size w'.heap.size w' v zs ps f d/\Below ww.heap.size ww w'):=λww b=>QO a zs.length cap a' ps.length cap' zs ps f d _ rfl rfl AK AK (ha.below b) (ha'.below b) hpb
 have HTB:AP (∀ ww,Below w.heap.size w ww->Calls Tryz.prog 16 #[UD ka ks.length kc] ww λe w'=>e=UQ (UD (UI ⟨ww.heap.size,0,none⟩) ks.length ks.length)/\DT w' ww.heap.size (UD (UI ⟨ww.heap.size,0,none⟩) ks.length ks.length) ks/\Below ww.heap.size ww w'):=λww b=>by
  refine(Jl ka ks.length kc ks ww rfl HKN.o (hka.below b)).mono ?_;rintro e w' ⟨rfl,h1,h2⟩;exact⟨rfl,⟨h1,_,_,rfl⟩,h2⟩
 obtain⟨R,hR⟩:∃ R,JD zs ps f d ks=R:=⟨_,rfl⟩
 have HRO:AP (QF R):=by rw[<-hR];exact SW bz
 have HSR:AP (∀(ww:World) (vd:Value) (b:Option Addr) (c:Nat),Ei ww vd zs ps f d->At .u8 ww b ks->Calls Tryz.prog 23 #[vd,UD b ks.length c] ww λe w'=>∃ X,e=UQ (UN X)/\RM ww.heap.size w' X R.c R.z R.p R.k R.f R.d R.r/\Below ww.heap.size ww w'):=λww vd b c h hb=>by
  have h':=h;obtain⟨da,dc,ca,cc,rfl,_⟩:=h';rw[<-hR];exact Rr da ca dc cc zs ps f d b c ks ww h hb AK AK hpb bz
 have HIR:AP (∀(ww:World) (vd:Value) (b:Option Addr) (c:Nat),Ei ww vd zs ps f d->At .u8 ww b ks->Calls Tryz.prog 24 #[vd,UD b ks.length c] ww λe w'=>∃ X,e=UQ (UN X)/\IW ww.heap.size w' X R.c R.z R.p R.k R.f R.d R.r/\Below ww.heap.size ww w'):=λww vd b c h hb=>by
  have h':=h;obtain⟨da,dc,ca,cc,rfl,_⟩:=h';rw[<-hR];exact Rg da ca dc cc zs ps f d b c ks ww h hb AK AK hpb bz HKN.o
 have HS17:AP (∀ X:Array Value,X.size=17->(Tryz.prog.info? 50).map (·.size)=UI X.size):=λX h=>by rw[h];kernel_rfl
 clear ha ha' hka bz hpb hsum hR;obtain⟨c0,c1,c2,c3⟩:=st1.cells;have HS1:AP (LV w w1 #[UD a zs.length cap,UD a' ps.length cap',UE UO f,UF d]):=st1;clear st1;go_wp2_with fail;refine(HTO.o _ HS1.o.below).mono ?_;rintro e w2 ⟨v2,rfl,D2,hb2⟩;have HD2:=Cq D2.at_;have HS2:AP (LV w w2 #[UD a zs.length cap,UD a' ps.length cap',UE UO f,UF d]):=LV.grow HS1.o hb2;clear D2 hb2 HS1 c0 c1 c2 c3;go_wp2_with fail;refine(HTB.o _ HS2.o.below).mono ?_;rintro e w3 ⟨rfl,o3,hb3⟩;have HD3:=Cq (HD2.o.below hb3);have HA3:AP (At .u8 w3 (UI ⟨w2.heap.size,0,none⟩) ks):=(Fc o3).2.2.2.1;have HS3:AP (LV w w3 #[UD a zs.length cap,UD a' ps.length cap',UE UO f,UF d]):=LV.grow HS2.o hb3;clear o3 hb3 HD2 HS2;generalize w2.heap.size=g2 at *;go_wp2_with fail;refine(HSR.o w3 v2 _ _ HD3.o HA3.o).mono ?_;rintro e w4 ⟨X1,rfl,R4,hb4⟩;have HZ1:=Cq R4.row;have HI1:=Cq (HS17.o X1 HZ1.o.1);have b5:=(Ad w4.heap.size w4).alloc Cw (UP X1 50);have HS5:AP (LV w (w4.alloc (UP X1 50)) #[UD a zs.length cap,UD a' ps.length cap',UE UO f,UF d]):=LV.grow (LV.grow HS3.o hb4) b5;have HM5:AP (RM w3.heap.size (w4.alloc (UP X1 50)) X1 R.c R.z R.p R.k R.f R.d R.r):=R4.below b5;have HR5:AP ((w4.alloc (UP X1 50)).heap[w4.heap.size]?=UI (UP X1 50 (0,0))):=AV w4 _;clear R4 hb4 b5 HS3 HA3 HD3 HSR
 go_upto_region 8 with (first
  |(refine AC 50 (.tmp 6) (.tmp 26) w4.heap.size X1 50 (AV w4 _) HI1.o (by rw[HZ1.o.1];rfl) HZ1.o.2 ?_)
  |fail)
 try rw[World.setRow_alloc_new]
 generalize w4.alloc (UP X1 50)=w5 at *;generalize w4.heap.size=N0 at *;generalize w3.heap.size=lo1 at *;have HR:AP (∀ ww,Below w5.heap.size w5 ww->ww.heap[N0]?=UI (UP X1 50 (0,0))/\RM lo1 ww X1 R.c R.z R.p R.k R.f R.d R.r/\LV w ww #[UD a zs.length cap,UD a' ps.length cap',UE UO f,UF d]):=λww b=>⟨(b.block _ (AQ.1 HR5.o).1).trans HR5.o,HM5.o.below b,LV.grow HS5.o b⟩
 clear HR5 HM5;obtain⟨c0,c1,c2,c3⟩:=LV.cells HS5.o;go_wp2_with fail;refine(HTO.o _ (LV.below HS5.o)).mono ?_;rintro e w6 ⟨v6,rfl,D6,hb6⟩;have D6':=D6;obtain⟨da,dc,ca,cc,B1,rfl,_⟩:=D6';have hb7:=(Ad w6.heap.size w6).alloc Cw (UP #[UD da zs.length dc,UD ca ps.length cc,UE UO f,UF d] 40);have HD7:AP (FH w5.heap.size w6.heap.size (w6.alloc (UP #[UD da zs.length dc,UD ca ps.length cc,UE UO f,UF d] 40)) (UN #[UD da zs.length dc,UD ca ps.length cc,UE UO f,UF d]) zs ps f d):=D6.below hb7;have HY7:AP ((w6.alloc (UP #[UD da zs.length dc,UD ca ps.length cc,UE UO f,UF d] 40)).heap[w6.heap.size]?=UI (UP #[UD da zs.length dc,UD ca ps.length cc,UE UO f,UF d] 40 (0,0))):=AV w6 _;have HB7:AP (Below w5.heap.size w5 (w6.alloc (UP #[UD da zs.length dc,UD ca ps.length cc,UE UO f,UF d] 40))/\w5.heap.size<=w6.heap.size):=⟨hb6.trans (hb7.mono hb6.size),hb6.size⟩
 clear D6 hb6 hb7 c0 c1 c2 c3;go_wp2_with fail;generalize w6.alloc (UP #[UD da zs.length dc,UD ca ps.length cc,UE UO f,UF d] 40)=w7 at *;generalize w6.heap.size=Q at *;refine(HTB.o _ (HR.o _ HB7.o.1).2.2.below).mono ?_;rintro e w8 ⟨rfl,o8,hb8⟩;have hQ7:Q<w7.heap.size:=(AQ.1 HY7.o).1;have HD8:=Cq (HD7.o.below hb8);have HY8:AP (w8.heap[Q]?=UI (UP #[UD da zs.length dc,UD ca ps.length cc,UE UO f,UF d] 40 (0,0))):=by show _=_;rw[hb8.block _ hQ7];exact HY7.o
 have HB8:=Cq (HB7.o.1.trans (hb8.mono HB7.o.1.size));have HO8:=Cq o8;have HL8:AP (w5.heap.size<=Q/\Q<w7.heap.size/\w7.heap.size<w8.heap.size):=⟨HB7.o.2,hQ7,(Fc o8).2.1⟩
 clear HD7 HY7 HB7 o8 hb8 hQ7;generalize w7.heap.size=g at *;obtain⟨c0,c1,c2,c3⟩:=Ek HY8.o;go_wp2_with fail;refine(HIR.o w8 _ _ _ HD8.o.at_ (Fc HO8.o).2.2.2.1).mono ?_;rintro e w9 ⟨X2,rfl,R9,hb9⟩;have HZ2:=Cq R9.row;have HI2:=Cq (HS17.o X2 HZ2.o.1);have b10:=(Ad w9.heap.size w9).alloc Cw (UP X2 50);have hb10:Below w8.heap.size w8 (w9.alloc (UP X2 50)):=hb9.trans (b10.mono hb9.size);have HQ10:AP (QT w5 w9.heap.size w8.heap.size w9.heap.size X2 R (w9.alloc (UP X2 50))):=⟨HB8.o.trans (hb10.mono HB8.o.size),AV w9 _,(N8.start R9 hb9.size).below b10⟩
 have HD10:=Cq (HD8.o.below hb10);have HY10:AP ((w9.alloc (UP X2 50)).heap[Q]?=UI (UP #[UD da zs.length dc,UD ca ps.length cc,UE UO f,UF d] 40 (0,0))):=by show _=_;rw[hb10.block _ (AG HL8.o)];exact HY8.o
 have HO10:=Cq (HO8.o.grow hb10);have HL:AP (w5.heap.size<=Q/\Q<g/\g<w8.heap.size/\w8.heap.size<=w9.heap.size):=⟨HL8.o.1,HL8.o.2.1,HL8.o.2.2,hb9.size⟩
 clear R9 hb9 b10 hb10 HB8 HD8 HY8 HO8 HL8 c0 c1 c2 c3
 go_upto_region 11 with (first
  |(refine AC 50 (.tmp 9) (.tmp 33) w9.heap.size X2 50 (AV w9 _) HI2.o (by rw[HZ2.o.1];rfl) HZ2.o.2 ?_)
  |fail)
 try rw[World.setRow_alloc_new]
 generalize w9.alloc (UP X2 50)=w10 at *;generalize w9.heap.size=P at *;generalize w8.heap.size=lo at *;go_wp2_with (first
  |(refine Ab rfl 50 (.tmp 9) rfl P rfl 50 X2 (0,0) _ HQ10.o.g Tryz.underlying50 rfl HI2.o ?_)
  |(refine Ab rfl 50 (.tmp 6) rfl N0 rfl 50 X1 (0,0) _ (HR.o _ HQ10.o.bel).1 Tryz.underlying50 rfl HI1.o ?_)
  |fail)
 refine(KK HQ10.o.im.rtq (HR.o _ HQ10.o.bel).2.1 HRO.o.gle).mono ?_;rintro e w11 ⟨rfl,hb11⟩;have HQ11:=Cq (HQ10.o.grow hb11);have HD11:=Cq (HD10.o.below hb11);have HY11:AP (w11.heap[Q]?=UI (UP #[UD da zs.length dc,UD ca ps.length cc,UE UO f,UF d] 40 (0,0))):=by show _=_;rw[hb11.block _ (AQ.1 HY10.o).1];exact HY10.o
 have HO11:=Cq (HO10.o.grow hb11);clear HQ10 HD10 HY10 HO10 hb11;go_wp2;refine Ae AN ?_;refine GU (frame:=(λ(a b c d e f g h i j k l m n o p q r s u v w x y z A B C D E F G H I J K L M N O P Q R S T U V W X Y Z a0 a1 a2 a3 a4 a5 a6 a7 a8 a9 b0 b1 b2 b3 b4 b5 b6 b7 b8 b9 c0 c1 c2 c3 c4 c5:Value)=>λ(t:Nat->Value)=>({ tmps:=List.toArray [a,b,c,d,e,f,g,h,i,j,k,l,m,n,o,p,q,r,s,u,v,w,x,y,z,A,B,C,D,E,F,G,H,I,J,K,L,M,t 0,t 1,t 2,t 3,t 4,N,O,P,Q,R,S,T,U,V,W,X,Y,Z,a0,a1,a2,a3,a4,a5,a6,a7,a8,a9,b0,b1,b2,b3,b4,b5,b6,b7,b8,b9,c0,c1,c2,c3,c4,c5],defers:=[] }:Act)) _ _ _ _ _ _ _ _ _ _ _ _ _ _ _ _ _ _ _ _ _ _ _ _ _ _ _ _ _ _ _ _ _ _ _ _ _ _ _ _ _ _ _ _ _ _ _ _ _ _ _ _ _ _ _ _ _ _ _ _ _ _ _ _ _ _ _ _ _ _ _ _ _ _ _ _ _)
  (Ext:=λw'=>(QT w5 P lo P X2 R w'/\FH w5.heap.size Q w' (UN #[UD da zs.length dc,UD ca ps.length cc,UE UO f,UF d]) zs ps f d/\w'.heap[Q]?=UI (UP #[UD da zs.length dc,UD ca ps.length cc,UE UO f,UF d] 40 (0,0))/\DT w' g (UD (UI ⟨g,0,none⟩) ks.length ks.length) ks)/\LV w w' #[UD a zs.length cap,UD a' ps.length cap',UE UO f,UF d]) (Good:=TU zs ps f d (UN #[UD da zs.length dc,UD ca ps.length cc,UE UO f,UF d]) (UN #[UD a zs.length cap,UD a' ps.length cap',UE UO f,UF d])) (PI _ _ _ _ _ _) AN AN ?hop ?hdone _ _ (λ_=>undef) _ AM ?ext ?start AM
 case start=>intro i hi h;exact absurd h E0
 case ext=>
  have b:=(Ad w11.heap.size w11).drew;exact⟨⟨HQ11.o.grow b,HD11.o.below b,HY11.o,HO11.o.grow b⟩,(HR.o _ (HQ11.o.grow b).bel).2.2⟩
 case hop=>
  intro i o t w' ho hx hdep K hK;obtain⟨⟨hq,hd,hy,hk⟩,hv⟩:=hx;have hgr:∀ w'',Below w'.heap.size w' w''->(QT w5 P lo P X2 R w''/\FH w5.heap.size Q w'' (UN #[UD da zs.length dc,UD ca ps.length cc,UE UO f,UF d]) zs ps f d/\w''.heap[Q]?=UI (UP #[UD da zs.length dc,UD ca ps.length cc,UE UO f,UF d] 40 (0,0))/\DT w'' g (UD (UI ⟨g,0,none⟩) ks.length ks.length) ks)/\LV w w'' #[UD a zs.length cap,UD a' ps.length cap',UE UO f,UF d]:=λw'' b=>⟨⟨hq.grow b,hd.below b,by rw[b.block _ (AQ.1 hy).1];exact hy,hk.grow b⟩,hv.grow b⟩
  have hi:i<5:=(AQ.1 ho).1;obtain rfl|rfl|rfl|rfl|rfl:i=0\/i=1\/i=2\/i=3\/i=4:=AK
  all_goals(simp at ho;subst ho)
  ·clear hdep;obtain⟨q0,q1,q2,q3⟩:=Ek hy;go_simp;exact hK w' _ rfl ⟨⟨hq,hd,hy,hk⟩,hv⟩ (DJ.refl _)
  ·clear hdep;obtain⟨q0,q1,q2,q3⟩:=hv.cells;go_simp;exact hK w' _ rfl ⟨⟨hq,hd,hy,hk⟩,hv⟩ (DJ.refl _)
  ·have d1:t 1=_:=hdep ⟨1,.data⟩ AM rfl;clear hdep;go_simp;refine(HTO.o _ hv.below).mono ?_;rintro e w9 ⟨v9,rfl,D9,hb9⟩;have D9':=D9.at_;go_simp;simpa[Cr,d1] using hK w9 v9 D9' (hgr _ hb9) (DJ.of_below hb9)
  ·have d0:t 0=_:=hdep ⟨0,.data⟩ AM rfl;have d2:Ei w' (t 2) zs ps f d:=hdep ⟨2,.data⟩ AM rfl;clear hdep;have e:=MQ (UN #[UD da zs.length dc,UD ca ps.length cc,UE UO f,UF d]) (t 2) zs ps f d w' hd.at_ d2 (AG HSUM.o) (AG HSUM.o) HPB.o;clear d2;go_simp;refine e.mono ?_;rintro e w9 ⟨rfl,hb9⟩;go_simp;simpa[Cr,d0] using hK w9 (UF true) rfl (hgr _ hb9) (DJ.of_below hb9)
  ·have d3:t 3=_:=hdep ⟨3,.data⟩ AM rfl;clear hdep;go_simp;simpa[Cr,d3] using hK w' (UF false) rfl ⟨⟨hq,hd,hy,hk⟩,hv⟩ (DJ.refl _)
 case hdone=>
  intro t w12 hx hg;have h4:t 4=_:=hg 4 AL;clear hg;dsimp only;rw[h4];generalize t 0=t0;generalize t 1=t1;generalize t 2=t2;generalize t 3=t3;clear h4 HQ11 HD11 HY11 HO11;obtain⟨⟨hq,hd,hy,hk⟩,hv⟩:=hx;have HQ12:=Cq hq;have HD12:=Cq hd;have HY12:=Cq hy;have HO12:=Cq hk;clear hq hd hy hk hv;go_wp2_with fail;refine(HTB.o _ (HR.o _ HQ12.o.bel).2.2.below).mono ?_;rintro e w13 ⟨rfl,o13,hb13⟩;have HQ13:=Cq (HQ12.o.grow hb13);have HD13:=Cq (HD12.o.below hb13);have HY13:AP (w13.heap[Q]?=UI (UP #[UD da zs.length dc,UD ca ps.length cc,UE UO f,UF d] 40 (0,0))):=by show _=_;rw[hb13.block _ (AQ.1 HY12.o).1];exact HY12.o
  have HO13:=Cq (HO12.o.grow hb13);have HN13:=Cq (Fc o13).2.2.2.1;clear HQ12 HD12 HY12 HO12 hb13 o13;generalize w12.heap.size=g12 at *;go_wp2_with fail;refine(Ic _ _ ks.length ks.length ks.length ks w13 rfl HKN.o (Fc HO13.o).2.2.2.1 HN13.o).mono ?_;rintro e _ ⟨rfl,q14,rfl⟩;have b14:Below w13.heap.size w13 (w13.drewN q14):=Sz Cs _;have HQ14:=Cq (HQ13.o.grow b14);have HD14:=Cq (HD13.o.below b14);have HY14:AP ((w13.drewN q14).heap[Q]?=UI (UP #[UD da zs.length dc,UD ca ps.length cc,UE UO f,UF d] 40 (0,0))):=by show _=_;rw[b14.block _ (AQ.1 HY13.o).1];exact HY13.o
  have HO14:=Cq (HO13.o.grow b14);clear HQ13 HD13 HY13 HO13 HN13 b14;generalize w13.drewN q14=w14 at *;obtain⟨c0,c1,c2,c3⟩:=Ek HY14.o;go_wp2_with fail;refine(NL (UN #[UD da zs.length dc,UD ca ps.length cc,UE UO f,UF d]) zs ps f d 1 w5.heap.size Q w14 HD14.o AL (AG HSUM.o)).mono ?_;rintro e w15 ⟨rfl,_,hc15⟩;have hk9:(0:Int)<=1+zs.length+ps.length+Db ps/\1+(zs.length:Int)+ps.length+Db ps<=1048577:=AG HSUM.o
  generalize (1+(zs.length:Int)+ps.length+Db ps)=k9 at *;have hP14:P<w14.heap.size:=(AQ.1 HQ14.o.g).1;have HQ15:AP (QT w5 P lo P X2 R w15):=HQ14.o.keep hc15.os hc15.tape hc15.output hc15.size (λk hk ho=>hc15.block k hk (AG HL.o)) ⟨HL.o.2.2.2,AK⟩;have HO15:AP (Df w15 (UI ⟨g,0,none⟩) ks.length):=(TO HO14.o).keep (λad e=>by cases e;exact hc15.block g (AG HL.o) (.inr (AG HL.o))) hc15.size;clear HQ14 HD14 HY14 HO14 hc15 hP14 c0 c1 c2 c3;go_wp2_with fail;refine(Gm (UI ⟨g,0,none⟩) ks.length ks.length k9 w15 HO15.o hk9.1 (AG HKN.o)).mono ?_;rintro e w16 ⟨rfl,_,wr16⟩;have hkk:¬ (k9+(ks.length:Int)<0):=AK
  have hP15:P<w15.heap.size:=(AQ.1 HQ15.o.g).1;have HQ16:AP (QT w5 P lo P X2 R w16):=HQ15.o.keep wr16.os wr16.tape wr16.output (Aw wr16.size.symm) (λk hk ho=>wr16.block k (λad e=>by cases e;have:=HL.o;show k≠g;omega)) ⟨HL.o.2.2.2,AK⟩;clear HQ15 HO15 wr16 hP15;generalize (k9+(ks.length:Int))=kk at *;clear hk9;go_wp2_with (first
   |(refine G1 (by first|rfl|(simp[Region.wanted,yielded,Act.put,hkk];done)) λ_ hK=>BL 50 (.tmp 9) rfl P rfl 50 X2 (0,0) _ HQ16.o.g Tryz.underlying50 rfl HI2.o (hK _ _ ?_))
   |(refine G1 (by first|rfl|(simp[Region.wanted,yielded,Act.put,hkk];done)) λ_ hK=>BL 50 (.tmp 6) rfl N0 rfl 50 X1 (0,0) _ (HR.o _ HQ16.o.bel).1 Tryz.underlying50 rfl HI1.o (hK _ _ ?_))
   |fail)
  refine(KK HQ16.o.im.rtq (HR.o _ HQ16.o.bel).2.1 HRO.o.gle).mono ?_;rintro e w17 ⟨rfl,hb17⟩;have HQ17:=Cq (HQ16.o.grow hb17);clear HQ16 hb17;go_wp2_with (first
   |(refine Ab rfl 50 (.tmp 9) rfl P rfl 50 X2 (0,0) _ HQ17.o.g Tryz.underlying50 rfl HI2.o ?_)
   |fail)
  have hP17:P<w17.heap.size:=(AQ.1 HQ17.o.g).1;refine(Py HQ17.o.im HRO.o.r HRO.o.sum).mono ?_;rintro e w18 ⟨rfl,m18,b18,j18⟩;have HB18:AP (Below w5.heap.size w5 w18):=HQ17.o.bel.trans (b18.mono (AG HL.o));have HX18:AP (w18.heap[P]?=UI (UP X2 50 (0,0))):=by show _=_;rw[j18 P Cw hP17];exact HQ17.o.g
  have hgk:¬ gQ R.z R.p R.k R.r<0:=MK _ _ _ _;have HHD:AP (Calls Tryz.prog 22 #[UN X2,UE UO 1] w18 λe w'=>e=UQ (UE UO (gQ R.z R.p R.k R.r))/\Below w18.heap.size w18 w'):=Pz m18 HRO.o.r HRO.o.sum;clear HQ17 m18 b18 j18 hP17;generalize gQ R.z R.p R.k R.r=K at *;go_wp2_with (first
   |(refine Ab rfl 50 (.tmp 9) rfl P rfl 50 X2 (0,0) _ HX18.o Tryz.underlying50 rfl HI2.o ?_)
   |fail)
  refine HHD.o.mono ?_;rintro e w19 ⟨rfl,b19⟩;have HB19:=Cq (HB18.o.trans (b19.mono HB18.o.size));have zK:(K != K)=false:=AM
  clear HB18 HX18 HHD b19;obtain⟨c0,c1,c2,c3⟩:=LV.cells (HR.o _ HB19.o).2.2;go_wp2_with fail;refine(HTO.o _ (HR.o _ HB19.o).2.2.below).mono ?_;rintro e w20 ⟨v20,rfl,D20,hb20⟩;have HD20:=Cq D20.at_;have HB20:=Cq (HB19.o.trans (hb20.mono HB19.o.size));clear D20 hb20 HB19 c0 c1 c2 c3;go_wp2_with fail;refine(HTB.o _ (HR.o _ HB20.o).2.2.below).mono ?_;rintro e w21 ⟨rfl,o21,hb21⟩;have HD21:=Cq (HD20.o.below hb21);have HA21:=Cq (Fc o21).2.2.2.1;have HB21:=Cq (HB20.o.trans (hb21.mono HB20.o.size));clear o21 hb21 HD20 HB20;generalize w20.heap.size=g20 at *;go_wp2_with fail;refine(HIR.o w21 v20 _ _ HD21.o HA21.o).mono ?_;rintro e w22 ⟨X3,rfl,R22,hb22⟩;have HZ3:=Cq R22.row;have HI3:=Cq (HS17.o X3 HZ3.o.1);have b23:=(Ad w22.heap.size w22).alloc Cw (UP X3 50);have HB23:AP (Below w5.heap.size w5 (w22.alloc (UP X3 50))):=HB21.o.trans ((hb22.trans (b23.mono hb22.size)).mono HB21.o.size);have HR23:AP (IW w21.heap.size (w22.alloc (UP X3 50)) X3 R.c R.z R.p R.k R.f R.d R.r):=R22.below b23;have HX23:AP ((w22.alloc (UP X3 50)).heap[w22.heap.size]?=UI (UP X3 50 (0,0))):=AV w22 _;clear R22 hb22 b23 HB21 HD21 HA21 HIR HTB HTO
  go_upto_region 31 with (first
   |(refine AC 50 (.tmp 13) (.tmp 77) w22.heap.size X3 50 (AV w22 _) HI3.o (by rw[HZ3.o.1];rfl) HZ3.o.2 ?_)
   |fail)
  try rw[World.setRow_alloc_new]
  generalize w22.alloc (UP X3 50)=w23 at *;generalize w22.heap.size=P3 at *;go_wp2_with (first
   |(refine Ab rfl 50 (.tmp 13) rfl P3 rfl 50 X3 (0,0) _ HX23.o Tryz.underlying50 rfl HI3.o ?_)
   |(refine Ab rfl 50 (.tmp 6) rfl N0 rfl 50 X1 (0,0) _ (HR.o _ HB23.o).1 Tryz.underlying50 rfl HI1.o ?_)
   |fail)
  refine(KK HR23.o (HR.o _ HB23.o).2.1 HRO.o.gle).mono ?_;rintro e w24 ⟨rfl,hb24⟩;have HF:AP (Below w.heap.size w w24):=(HR.o _ (HB23.o.trans (hb24.mono HB23.o.size))).2.2.below;clear hb24 HR23 HX23 HB23;go_wp2_with fail
  go_ret
  exact⟨rfl,HF.o⟩
theorem Sd (os:Os) (started:os.Started) (H:Type) (enc:TypeId×Value->H) :
  ReturnsInHanded {} Tryz.checked os 5 .any (Rows.fnExactRecoverSpec.pre6 enc Tryz.prog Tryz.f5 Rows.fnExactRecoverRow.domain false) (Rows.fnExactRecoverSpec.post enc Tryz.prog Tryz.f5 false true false false):=by
 refine returnsInHanded_of_change (C:=Tryz.checked) own started AN Tryz.func5
  (ChangeSpec.witness6 (enc:=enc) (C:=Tryz.checked) false ⟨#[],#[UN Cd,UD none 0 0],[]⟩ 8 AN AN AN AN) ?_
 intro W base args ds gs before hval0 hW hcnd _;have hval:∀(j:Nat) t v,Tryz.f5.params[j]?=UI t->args[j]?=UI v->Value.okWide Tryz.prog W .any base t v:=hval0
 have hW':=hW;obtain⟨p,q,hA0,hV,rfl,hfz,hnd⟩:=hW;have hA:DataW.TrodAll enc Tryz.prog W 0 (λ_=>true) true Tryz.f5.params.toList args.toList ds p:=hA0;rw[Tryz.params5] at hA hval;obtain⟨v0,vs0,d0,ds0,p0,q0,hargs,rfl,rfl,h0,r0⟩:=trodAll_cons hA;obtain⟨v1,vs1,d1,ds1,p1,q1,hargs1,rfl,rfl,h1,r1⟩:=trodAll_cons r0;obtain⟨rfl,rfl,rfl⟩:=trodAll_nil r1;obtain rfl:args=#[v0,v1]:=by cases args;simp_all
 obtain⟨rfl,rfl⟩:=trodVars_none hV;have k0:=h0;have k1:=h1;have lt0:∀ x∈p0,x.block<W.heap.size:=by obtain⟨m,hm⟩:=k0;exact DataW.trod_lt m _ _ _ hm
 have lt1:∀ x∈p1,x.block<W.heap.size:=by obtain⟨m,hm⟩:=k1;exact DataW.trod_lt m _ _ _ hm
 obtain⟨a,n,cap,a',n',cap',zs,ps,f,d,rfl,hn,hn',hm,hm',ha,ha',hps,hbz,hpi,_⟩:=R7 (hval 0 25 v0 rfl rfl) h0;obtain⟨ya0,yn0,yc0,hv2⟩:=okWide_slice Tryz.underlying22 (hval 1 22 v1 rfl rfl);have hcs:∃ ya yn yc z,v1=UD ya yn yc/\z.length=yn/\yn<=9223372036854775807/\At .u8 W ya z:=by
  obtain⟨fuel,h2'⟩:=h1;rw[hv2] at h2';obtain⟨ya,yn,yc,z,e,g1,g2,_,g3⟩:=Is (v:=UD ya0 yn0 yc0) h2';exact⟨ya,yn,yc,z,hv2.trans e,g1,g2,g3⟩
 obtain⟨ya,yn,yc,z,rfl,hyn,hym,hy⟩:=hcs;clear hA0 hval0;refine(Ts a n cap a' n' cap' zs ps f d W hn hn' hm hm' ha ha' hps hbz ya yn yc z hyn hym hy).mono λe W' ⟨he,bel⟩=>?_
 subst he;exact⟨_,rfl,_,_,_,[],_,[],hW',trodAll_mk1 (shut_bool Tryz.underlying4 _),(trodAll_cons_mk (Below.trod M1 AN (CK AN) k0 bel lt0) (trodAll_cons_mk (Below.trod M1 AN (CK AN) k1 bel lt1) trodAll_mk0)),rfl,bel.frame _,λh=>by cases h⟩
theorem over:Rows.fnExactRecoverRow.holds Tryz.pinned (OpenSpec.ofChange Rows.fnExactRecoverSpec):=
 OpenClaim.holds_of_wide 5 Tryz.f5 rfl rfl rfl rfl rfl rfl rfl ⟨rfl,rfl,rfl,rfl,rfl⟩ rfl rfl rfl rfl rfl AN Tryz.func5 AN
  (CK AN) (by unfold Func.isWrapper;first|(rw[AR (by decide +kernel)];kernel_rfl)|(rw[AS (by decide +kernel)];exact⟨rfl,rfl⟩))
  (λos started H enc _=>Sd os started H enc)
end Go.Proofs.YthmeoilbmfdhfaaGreat.lrv
namespace Go.Proofs.YthmeoilbmfdhfaaGreat
theorem recover_holds:Rows.FnExactRecoverSaid:=lrv.over
#print axioms recover_holds
end Go.Proofs.YthmeoilbmfdhfaaGreat
