import Derived.Test.YthmeoilbmfdhfaaGreatMEqSn
open Go.Value renaming slice->UD,int->UE,pointer->UM,bool->UF,agg->UN
open Go.IntKind renaming i64->UO
open Go.Obj renaming cells->UP
open Go.Ending renaming returned->UQ
open Go.Ground renaming data->UR
open Go.Operand renaming tmp->UT
open Option renaming some->UI,none->UJ
open Go renaming World->UK,Value->UL
namespace Go.Proofs.YthmeoilbmfdhfaaGreat
set_option maxHeartbeats 2000000
set_option maxRecDepth 100000
open Go.ChangeShapes Go.WideShapes Go.ChangeAt Go.RowKit
set_option linter.unusedVariables false
def Fb (zs:List Int) (ps:List PD) (k:Nat):List Int:=Tj zs ps (List.replicate ps.length true) (-1) 0 k
theorem H5 (zs:List Int) (ps:List PD):Fb zs ps 0=zs:=rfl
theorem Ms {zs:List Int} {ps:List PD} (h:Ia zs.length ps) (hL:zs.length%64=0) (k:Nat) (hk:k<=ps.length):(Fb zs ps k).length=zs.length:=Qi h hL k hk
theorem H6 {zs:List Int} {ps:List PD} {k s:Nat} (hk:k<ps.length) (hs:(ps.getD k (0,[])).1=(s:Int)) (hd:(ps.getD k (0,[])).2.length=64):Fb zs ps (k+1)=Dc (Fb zs ps k) s (ps.getD k (0,[])).2:=by
 have hr:Sf (List.replicate ps.length true) (-1) 0 k=64:=Oq AK (by simp[List.getD,hk]);show Dc _ _ _=_
 rw[hr,hs,An AK];rfl
def LO (L:Nat) (ps:List PD) (f:Int) (d:Bool):Bool:=C5 L ps f && !d && decide (f≠0)
def LP (zs:List Int) (ps:List PD) (f:Int) (d:Bool):List Int:=if LO zs.length ps f d then Fb zs ps ps.length else zs
def LQ (L:Nat) (ps:List PD) (f:Int) (d:Bool):List PD:=if LO L ps f d then [] else ps
def LR (L:Nat) (ps:List PD) (f:Int) (d:Bool):Int:=if C5 L ps f && !d then EG f else f
def LS (L:Nat) (ps:List PD) (f:Int) (d:Bool):Bool:=if C5 L ps f && !d then Hx f d else d
def DK (w:UK) (B A:Nat) (dv:UL) (y:List Int):Prop:=∃ g o c,dv=UD (UI ⟨g,o,UJ⟩) y.length c/\y.length<=c/\At .u8 w (UI ⟨g,o,UJ⟩) y/\Df w (UI ⟨g,o,UJ⟩) y.length/\B<=g/\g<w.heap.size/\g≠A
theorem DK.keep {w w':UK} {B A:Nat} {dv:UL} {y:List Int} (h:DK w B A dv y) (hk:∀ k,k<w.heap.size->k≠A->w'.heap[k]?=w.heap[k]?) (hs:w.heap.size<=w'.heap.size):DK w' B A dv y:=by
 obtain⟨g,o,c,e,h1,h2,h3,h4,h5,h6⟩:=h;exact⟨g,o,c,e,h1,h2.keep (λad ea=>by cases ea;exact hk g h5 h6) hs,h3.keep (λad ea=>by cases ea;exact hk g h5 h6) hs,h4,AK,h6⟩
theorem DK.of_own {w:UK} {B A:Nat} {dv:UL} {y:List Int} (h:DT w B dv y) (hA:A<B):DK w B A dv y:=by
 obtain⟨g,c,rfl,hb,hg,hc,hAt,hO⟩:=h.at_;exact⟨g,0,c,rfl,hc,hAt,hO,hb,hg,AK⟩
structure SY (w wr:UK) (C1:Array UL) (A:Nat) (dv cv:UL) (f:Int) (y:List Int):Prop where
 box:B2 w wr C1
 aft:wr.heap[A]?=UI (UP #[dv,cv,UE UO f,UF false] 40 (0,0))
 dk:DK wr (w.heap.size+2) A dv y
 hA:w.heap.size+2<=A
theorem SY.grow {w wr w':UK} {C1:Array UL} {A:Nat} {dv cv:UL} {f:Int} {y:List Int} (h:SY w wr C1 A dv cv f y) (hb:Below wr.heap.size wr w'):SY w w' C1 A dv cv f y:=
 ⟨h.box.grow hb,by rw[hb.block _ (AQ.1 h.aft).1];exact h.aft,h.dk.keep (λk hk _=>hb.block k hk) hb.size,h.hA⟩
def GY (D A b5 o5 m cx k s b6 o6 c6 S:Nat) (dv:UL) (Y:List Int):Nat->UK->UL->Prop
 |0,_,v=>v=UM (UI ⟨A,0,UJ⟩)
 |1,_,v=>v=dv
 |2,_,v=>v=UM (UI ⟨D,1,UJ⟩)
 |3,_,v=>v=UD (UI ⟨b5,o5,UJ⟩) m cx
 |4,_,v=>v=UE UO k
 |5,_,v=>v=UM (UI ⟨b5,o5+k*2,UJ⟩)
 |6,_,v=>v=UM (UI ⟨b5,o5+k*2,UJ⟩)
 |7,_,v=>v=UE UO s
 |8,_,v=>v=UM (UI ⟨D,1,UJ⟩)
 |9,_,v=>v=UD (UI ⟨b5,o5,UJ⟩) m cx
 |10,_,v=>v=UE UO k
 |11,_,v=>v=UM (UI ⟨b5,o5+k*2,UJ⟩)
 |12,_,v=>v=UM (UI ⟨b5,o5+k*2+1,UJ⟩)
 |13,_,v=>v=UD (UI ⟨b6,o6,UJ⟩) 64 c6
 |14,w,v=>DT w S v Y
 |_,_,v=>v=UM (UI ⟨A,0,UJ⟩)
theorem RQ (D A b5 o5 m cx k s b6 o6 c6 S:Nat) (dv:UL) (Y:List Int) (i:Nat) (w w':UK) (v:UL) (hm:Below w.heap.size w w') (h:GY D A b5 o5 m cx k s b6 o6 c6 S dv Y i w v):GY D A b5 o5 m cx k s b6 o6 c6 S dv Y i w' v:=by
 unfold GY at *;split at h<;>first|exact h|exact h.grow hm
theorem Pi (v:UL) (zs:List Int) (ps:List PD) (f:Int) (d:Bool) (w:UK) (h:Ei w v zs ps f d) (hz:zs.length<=1048576) (hn:ps.length<=1048576) (hps:∀ i,(ps.getD i (0,[])).2.length<=1048576) (hf:f<=9223372036854775807) :
  Calls Tryz.prog 53 #[v] w λe w'=>∃ r,e=UQ r/\Fj w.heap.size w' r (LP zs ps f d) (LQ zs.length ps f d) (LR zs.length ps f d) (LS zs.length ps f d)/\Below w.heap.size w w':=by
 have HSD:AP _:=Tryz.sizeDv;have hD:=h;obtain⟨a,cap,x,cx,rfl,hA,hP,hcap⟩:=h;have HV:AP (∀ ww:UK,Below w.heap.size w ww->Calls Tryz.prog 27 #[UN #[UD a zs.length cap,UD x ps.length cx,UE UO f,UF d]] ww λe w'=>e=UQ (UF (C5 zs.length ps f))/\Below ww.heap.size ww w'):=λww hb=>Fv _ zs ps f d ww (hD.below hb) hz hn hps
 have HCP:AP (∀ ww:UK,Below w.heap.size w ww->Calls Tryz.prog 102 #[UN #[UD a zs.length cap,UD x ps.length cx,UE UO f,UF d]] ww λe w'=>∃ r,e=UQ r/\Fj ww.heap.size w' r zs ps f d/\Below ww.heap.size ww w'):=λww hb=>(Il _ zs ps f d ww (hD.below hb) hz hn hps).mono (λe w' hh=>by obtain⟨r,h1,h2,h3⟩:=hh;exact⟨r,h1,h2.dx,h3⟩)
 have HST:AP (∀ ww:UK,Below w.heap.size w ww->Calls Tryz.prog 103 #[UN #[UD a zs.length cap,UD x ps.length cx,UE UO f,UF d]] ww λe w'=>∃ r,e=UQ r/\Fj ww.heap.size w' r zs ps (EG f) (Hx f d)/\Below ww.heap.size ww w'):=λww hb=>(Mh _ zs ps f d ww (hD.below hb) hz hn hps hf).mono (λe w' hh=>by obtain⟨r,h1,h2,h3⟩:=hh;exact⟨r,h1,h2.dx,h3⟩)
 have HP:AP (FY w x ps):=hP;have HEQ:AP (∀ Z P F D,LP zs ps f d=Z->LQ zs.length ps f d=P->LR zs.length ps f d=F->LS zs.length ps f d=D->∀(w':UK) (r:UL),Fj w.heap.size w' r Z P F D->Fj w.heap.size w' r (LP zs ps f d) (LQ zs.length ps f d) (LR zs.length ps f d) (LS zs.length ps f d)):=by
  intro Z P F D h1 h2 h3 h4 w' r hd;rw[h1,h2,h3,h4];exact hd
 have HVO:AP (C5 zs.length ps f=true->EA zs.length ps.length f/\Ia zs.length ps):=FS;have HLEN:AP (C5 zs.length ps f=true->∀ k,k<=ps.length->(Fb zs ps k).length=zs.length):=λhv k hk=>Ms (FS hv).2 (FS hv).1.1 k hk
 have HOFF:AP (C5 zs.length ps f=false\/d=true->LP zs ps f d=zs/\LQ zs.length ps f d=ps/\LR zs.length ps f d=f/\LS zs.length ps f d=d):=by
  rintro (hv|hv)
  ·unfold LP LQ LR LS LO;rw[hv];simp
  ·unfold LP LQ LR LS LO;rw[hv];simp
 have HNOF:AP (C5 zs.length ps f=true->d=false->f=0->LP zs ps f d=zs/\LQ zs.length ps f d=ps/\LR zs.length ps f d=EG f/\LS zs.length ps f d=Hx f d):=by
  intro h1 h2 h3;unfold LP LQ LR LS LO;rw[h1,h2,h3];simp
 have HON:AP (C5 zs.length ps f=true->d=false->f≠0->LP zs ps f d=Fb zs ps ps.length/\LQ zs.length ps f d=[]/\LR zs.length ps f d=EG f/\LS zs.length ps f d=false):=by
  intro h1 h2 h3;unfold LP LQ LR LS LO Hx;rw[h1,h2];simp[h3]
 obtain⟨L,hL⟩:∃ L,zs.length=L:=⟨_,rfl⟩
 obtain⟨m,hm⟩:∃ m,ps.length=m:=⟨_,rfl⟩
 have HHL:AP (zs.length=L/\ps.length=m):=⟨hL,hm⟩
 rw[hL] at hz HV HCP HST HEQ HVO HLEN HOFF HNOF HON |-;rw[hm] at hn HV HCP HST HVO HLEN HON |-;clear hL hm hA hP hcap hps hD;have HS0:AP (B2 w _ #[UD a L cap,UD x m cx,UE UO f,UF d]):=B2.start w #[UD a L cap,UD x m cx,UE UO f,UF d];go_enter Tryz.func53,Tryz.ntmps53;go_wp2_with fail;have st1:=HS0.o;clear HS0;generalize ((w.alloc (UP #[UD a L cap,UD x m cx,UE UO f,UF d] 40)).alloc (UP Cd 40))=w1 at *;refine(HV.o w1 st1.below).mono ?_;rintro e w2 ⟨rfl,hb2⟩;have st2:=st1.grow hb2;have hs2:w.heap.size+1<w2.heap.size:=(AQ.1 st2.b1).1;obtain⟨c0,c1,c2,c3⟩:=Ek st2.b0;have HS2:AP (B2 w w2 #[UD a L cap,UD x m cx,UE UO f,UF d]):=st2;clear st1 st2 hb2 HV;by_cases hon:C5 L ps f=true/\d=false
 ·obtain⟨hval,rfl⟩:=hon;rw[hval];obtain⟨⟨v1,v2,v3,v4,v5,v6⟩,hok⟩:=HVO.o hval;have HOK:AP (Ia L ps):=hok;have HLN:AP (∀ k,k<=m->(Fb zs ps k).length=L):=HLEN.o hval;clear hok HVO HLEN HOFF HCP;go_wp2_with fail;refine(HST.o w2 (B2.below HS2.o)).mono ?_;rintro e w3 ⟨r,rfl,D3,hb3⟩;have st3:=B2.grow HS2.o hb3;have hs3:=hb3.size;have D3':=D3;obtain⟨da,dc,ca,cc,B1,rfl,hAt,hOp,hab,_,hB1,_,hdc⟩:=D3';rw[HHL.o.1,HHL.o.2] at D3 |-;have HD3:AP (Fj w2.heap.size w3 (UN #[UD da L dc,UD ca m cc,UE UO (EG f),UF (Hx f false)]) zs ps (EG f) (Hx f false)):=D3;have HDK:AP (At .u8 w3 da zs/\Df w3 da zs.length/\(∀ ad,da=UI ad->w2.heap.size<=ad.block/\ad.block<B1)/\zs.length<=dc):=⟨hAt,hOp,hab,hdc⟩
  have HS3:AP (B2 w w3 #[UD a L cap,UD x m cx,UE UO f,UF false]):=st3;clear st3 D3 hb3 HS2 HST c0 c1 c2 c3 hAt hOp hab hdc;by_cases hf0:f=0
  ·obtain⟨e1,e2,e3,e4⟩:=HNOF.o hval (by trivial) hf0;have hsF:EG f=0:=by rw[hf0];rfl
   have hsD:Hx f false=true:=by rw[hf0];rfl
   have HEND:AP (∀(w':UK) (r:UL),Fj w.heap.size w' r zs ps 0 true->Fj w.heap.size w' r (LP zs ps f false) (LQ L ps f false) (LR L ps f false) (LS L ps f false)):=λw' r hd=>HEQ.o _ _ _ _ e1 e2 (e3.trans hsF) (e4.trans hsD) w' r hd
   rw[hsF,hsD] at HD3 |-;clear e1 e2 e3 e4 hsF hsD HNOF HON HEQ HDK hf0;go_wp2_with (refine EJ rfl 40 (UT 3) (UT 15) rfl w3.heap.size #[UD da L dc,UD ca m cc,UE UO 0,UF true] rfl rfl 40 _ (AV w3 _) HSD.o rfl (EM _ _ _ _ _ _ _ _) ?_);intro w4 hr4 hw4;have hb4:Below w3.heap.size w3 w4:=(Cs.alloc Cw _).trans (hw4.below Cw);have st4:=B2.grow HS3.o hb4;have D4:=Fj.below HD3.o hb4;obtain⟨a0,a1,a2,a3⟩:=Ek hr4;have K1:AP (w4.heap[w.heap.size+1]?=UI (UP Cd 40 (0,0))):=st4.b1;have D5:Fj w.heap.size (w4.setRow (w.heap.size+1) #[UD da L dc,UD ca m cc,UE UO 0,UF true]) (UN #[UD da L dc,UD ca m cc,UE UO 0,UF true]) zs ps 0 true:=
    (D4.keep (w':=w4.setRow (w.heap.size+1) #[UD da L dc,UD ca m cc,UE UO 0,UF true]) (λj hj _=>(Wr.setRow _ _ _).block j AK) (by rw[BP];exact AY _)).mono (B':=w.heap.size) AK
   have K2:AP _:=Ac (HEND.o _ _ D5) (st4.below.trans ((Wr.setRow (w.heap.size+1) w4 #[UD da L dc,UD ca m cc,UE UO 0,UF true]).below AK));clear D5 D4 st4 hr4 hw4 hb4 HS3 HD3;go_wp2_with (refine AC 40 (UT 2) (UT 44) (w.heap.size+1) #[UD da L dc,UD ca m cc,UE UO 0,UF true] 40 K1.o HSD.o rfl (EM _ _ _ _ _ _ _ _) ?_)
   (try simp only[Exit.inBlock,Exit.then])
   exact AZ (v:=UN #[UD da L dc,UD ca m cc,UE UO 0,UF true]) (AW rfl _ _ (w.heap.size+1) 40 _ (0,0) _ rfl (AB K1.o) Tryz.underlying40 rfl HSD.o) rfl ⟨_,rfl,K2.o.1,K2.o.2⟩
  ·obtain⟨e1,e2,e3,e4⟩:=HON.o hval (by trivial) hf0;have hsD:Hx f false=false:=by unfold Hx;rw[AS hf0]
   have HEND:AP (∀(w':UK) (r:UL),Fj w.heap.size w' r (Fb zs ps m) [] (EG f) false->Fj w.heap.size w' r (LP zs ps f false) (LQ L ps f false) (LR L ps f false) (LS L ps f false)):=λw' r hd=>HEQ.o _ _ _ _ e1 e2 e3 e4 w' r hd
   rw[hsD] at HD3 |-;clear e1 e2 e3 e4 hsD HNOF HON HEQ HD3;generalize EG f=F at *;go_wp2_with (refine EJ rfl 40 (UT 3) (UT 15) rfl w3.heap.size #[UD da L dc,UD ca m cc,UE UO F,UF false] rfl rfl 40 _ (AV w3 _) HSD.o rfl (EM _ _ _ _ _ _ _ _) ?_);intro w4 hr4 hw4;have hb4:Below w3.heap.size w3 w4:=(Cs.alloc Cw _).trans (hw4.below Cw);have hAl:w3.heap.size<w4.heap.size:=(AQ.1 hr4).1;have st4:SY w w4 #[UD a L cap,UD x m cx,UE UO f,UF false] w3.heap.size (UD da L dc) (UD ca m cc) F (Fb zs ps 0):=by
    obtain⟨h1,h2,h3,h4⟩:=HDK.o;have hzl:=HHL.o.1;obtain⟨g,o,rfl,hg,_⟩:=h1.get AK;have hb:=h3 _ rfl;refine⟨B2.grow HS3.o hb4,hr4,⟨g,o,dc,by rw[H5,hzl],by rw[H5];exact h4,by rw[H5];exact h1.below hb4,by rw[H5];exact h2.below hb4,?_,AK,?_⟩,AK⟩
    ·have:w2.heap.size<=g:=hb.1;omega
    ·omega
   obtain⟨a0,a1,a2,a3⟩:=Ek st4.aft;obtain⟨c0,c1,c2,c3⟩:=Ek st4.box.b0;have HS4:AP (SY w w4 #[UD a L cap,UD x m cx,UE UO f,UF false] w3.heap.size (UD da L dc) (UD ca m cc) F (Fb zs ps 0)):=st4;clear st4 hr4 hw4 hb4 HDK HS3;generalize w3.heap.size=A at *;go_wp2;have st4:=HS4.o;clear HS4 a0 a1 a2 a3 c0 c1 c2 c3
   go_loopw [4] (λi wr=>∃(k:Nat) (dv:UL),k<=m/\i=UE UO k/\SY w wr #[UD a L cap,UD x m cx,UE UO f,UF false] A dv (UD ca m cc) F (Fb zs ps k)) (λi _=>m-(intOf i).toNat)
   case atStart=>exact⟨0,_,Aj _,rfl,st4⟩
   case round=>
    obtain⟨k,dv,hk,rfl,st⟩:=hrel;clear st4;obtain⟨y0,y1,y2,y3⟩:=Ek st.box.b0;have hlen:=HLN.o k hk;obtain⟨g,o,gc,rfl,hgc,hgA,hgO,hg1,hg2,hg3⟩:=st.dk;rw[hlen] at st hgc;by_cases hlt:k<m
    ·obtain⟨s,hs,hsl,hd⟩:=Ia.at_ HOK.o v1 (i:=k) (by rw[HHL.o.2];exact hlt);obtain⟨b5,o5,b6,o6,c6,rfl,hb5,q1,q2,q4⟩:=FY.entry HP.o (i:=k) (by rw[HHL.o.2];exact hlt) (by rw[hd];decide);have hnew:=H6 (zs:=zs) (by rw[HHL.o.2];exact hlt) hs hd;rw[hs] at q1;rw[hd] at q2;have hlt':(k:Int)<m:=AK
     have HST:AP (SY w wr #[UD a L cap,UD (UI ⟨b5,o5,UJ⟩) m cx,UE UO f,UF false] A (UD (UI ⟨g,o,UJ⟩) L gc) (UD ca m cc) F (Fb zs ps k)):=st;have HNEW:AP (Fb zs ps (k+1)=Dc (Fb zs ps k) s (ps.getD k (0,[])).2):=hnew;have HQ:AP (w.cell? ⟨b5,o5+k*2,UJ⟩=UI (UE UO s)/\w.cell? ⟨b5,o5+k*2+1,UJ⟩=UI (UD (UI ⟨b6,o6,UJ⟩) 64 c6)):=⟨q1,q2⟩
     have HQ4:AP (At .u8 w (UI ⟨b6,o6,UJ⟩) (ps.getD k (0,[])).2):=q4;have HHD:AP ((ps.getD k (0,[])).2.length=64):=hd;have HLK:AP ((Fb zs ps k).length=L):=hlen;have HGA:AP (At .u8 wr (UI ⟨g,o,UJ⟩) (Fb zs ps k)):=hgA;clear st hnew q1 q2 q4 hs hd hlen hgA hgO;go_wp2_with fail;clear y0 y1 y2 y3 hlt';refine Ae AN ?_;refine F2 16 (λw w'=>Below w.heap.size w w') (frame:=(λ(a b c d e f g h i j k l m n o p q r s u v w x y z A B C D:UL)=>λ(t:Nat->UL)=>({ tmps:=List.toArray [a,b,c,d,e,f,g,h,i,j,k,l,m,n,o,p,q,r,s,u,v,w,x,y,z,A,t 0,t 1,t 2,t 3,t 4,t 5,t 6,t 7,t 8,t 9,t 10,t 11,t 12,t 13,t 14,t 15,B,C,D],defers:=[] }:Act)) _ _ _ _ _ _ _ _ _ _ _ _ _ _ _ _ _ _ _ _ _ _ _ _ _ _ _ _ _)
      (Ext:=λw'=>SY w w' #[UD a L cap,UD (UI ⟨b5,o5,UJ⟩) m cx,UE UO f,UF false] A (UD (UI ⟨g,o,UJ⟩) L gc) (UD ca m cc) F (Fb zs ps k)/\Below wr.heap.size wr w') (Good:=GY w.heap.size A b5 o5 m cx k s b6 o6 c6 wr.heap.size (UD (UI ⟨g,o,UJ⟩) L gc) (Fb zs ps (k+1))) AO AN (RQ _ _ _ _ _ _ _ _ _ _ _ _ _ _) AN AN ?hop ?hend _ _ ((λ(x0 x1 x2 x3 x4 x5 x6 x7 x8 x9 x10 x11 x12 x13 x14 x15:UL)=>λ(i:Nat)=>if i=0 then x0 else if i=1 then x1 else if i=2 then x2 else if i=3 then x3 else if i=4 then x4 else if i=5 then x5 else if i=6 then x6 else if i=7 then x7 else if i=8 then x8 else if i=9 then x9 else if i=10 then x10 else if i=11 then x11 else if i=12 then x12 else if i=13 then x13 else if i=14 then x14 else if i=15 then x15 else undef) _ _ _ _ _ _ _ _ _ _ _ _ _ _ _ _) _ AM AM ?ext ?start AM
     case start=>intro i hi h;exact absurd h E0
     case ext=>exact⟨SY.grow HST.o Cs.drew,Cs.drew⟩
     case hop=>
      intro i o' t w' hil ho hx hdep K hK;obtain⟨hx,hxb⟩:=hx;obtain⟨a0,a1,a2,a3⟩:=Ek hx.aft;obtain⟨y0,y1,y2,y3⟩:=Ek hx.box.b0;have hbw:=hx.box.below;have q1':w'.cell? ⟨b5,o5+k*2,UJ⟩=UI (UE UO s):=by rw[hbw.cell (p:=⟨b5,o5+k*2,UJ⟩) hb5];exact HQ.o.1
      have q2':w'.cell? ⟨b5,o5+k*2+1,UJ⟩=UI (UD (UI ⟨b6,o6,UJ⟩) 64 c6):=by rw[hbw.cell (p:=⟨b5,o5+k*2+1,UJ⟩) hb5];exact HQ.o.2
      have REF:AP _:=Ac hx hxb;obtain rfl|rfl|rfl|rfl|rfl|rfl|rfl|rfl|rfl|rfl|rfl|rfl|rfl|rfl|rfl|rfl:i=0\/i=1\/i=2\/i=3\/i=4\/i=5\/i=6\/i=7\/i=8\/i=9\/i=10\/i=11\/i=12\/i=13\/i=14\/i=15:=AK
      all_goals(simp at ho;subst ho)
      ·clear hdep;go_simp;exact hK w' (UM (UI ⟨A,0,UJ⟩)) rfl REF.o Cs
      ·have d0:t 0=_:=hdep ⟨0,UR⟩ AM rfl;clear hdep;go_simp;simpa[Cr,d0] using hK w' (UD (UI ⟨g,o,UJ⟩) L gc) rfl REF.o Cs
      ·clear hdep;go_simp;exact hK w' (UM (UI ⟨w.heap.size,1,UJ⟩)) rfl REF.o Cs
      ·have d2:t 2=_:=hdep ⟨2,UR⟩ AM rfl;clear hdep;go_simp;simpa[Cr,d2] using hK w' (UD (UI ⟨b5,o5,UJ⟩) m cx) rfl REF.o Cs
      ·clear hdep;go_simp;exact hK w' (UE UO k) rfl REF.o Cs
      ·have d3:t 3=_:=hdep ⟨3,UR⟩ AM rfl;have d4:t 4=_:=hdep ⟨4,UR⟩ AM rfl;clear hdep;go_simp;simpa[Cr,d3,d4] using hK w' (UM (UI ⟨b5,o5+k*2,UJ⟩)) rfl REF.o Cs
      ·have d5:t 5=_:=hdep ⟨5,UR⟩ AM rfl;clear hdep;go_simp;simpa[Cr,d5] using hK w' (UM (UI ⟨b5,o5+k*2,UJ⟩)) rfl REF.o Cs
      ·have d6:t 6=_:=hdep ⟨6,UR⟩ AM rfl;clear hdep;go_simp;simpa[Cr,d6] using hK w' (UE UO s) rfl REF.o Cs
      ·clear hdep;go_simp;exact hK w' (UM (UI ⟨w.heap.size,1,UJ⟩)) rfl REF.o Cs
      ·have d8:t 8=_:=hdep ⟨8,UR⟩ AM rfl;clear hdep;go_simp;simpa[Cr,d8] using hK w' (UD (UI ⟨b5,o5,UJ⟩) m cx) rfl REF.o Cs
      ·clear hdep;go_simp;exact hK w' (UE UO k) rfl REF.o Cs
      ·have d9:t 9=_:=hdep ⟨9,UR⟩ AM rfl;have d10:t 10=_:=hdep ⟨10,UR⟩ AM rfl;clear hdep;go_simp;simpa[Cr,d9,d10] using hK w' (UM (UI ⟨b5,o5+k*2,UJ⟩)) rfl REF.o Cs
      ·have d11:t 11=_:=hdep ⟨11,UR⟩ AM rfl;clear hdep;go_simp;simpa[Cr,d11] using hK w' (UM (UI ⟨b5,o5+k*2+1,UJ⟩)) rfl REF.o Cs
      ·have d12:t 12=_:=hdep ⟨12,UR⟩ AM rfl;clear hdep;go_simp;simpa[Cr,d12] using hK w' (UD (UI ⟨b6,o6,UJ⟩) 64 c6) rfl REF.o Cs
      ·have d1:t 1=_:=hdep ⟨1,UR⟩ AM rfl;have d7:t 7=_:=hdep ⟨7,UR⟩ AM rfl;have d13:t 13=_:=hdep ⟨13,UR⟩ AM rfl;clear hdep;have e:=NK g o L gc s b6 o6 64 c6 (Fb zs ps k) (ps.getD k (0,[])).2 w' HLK.o HHD.o hz hgc hsl (At.below HGA.o hxb) (At.below HQ4.o hbw);go_simp;refine e.mono ?_;rintro e w9 ⟨v9,rfl,ho9,hb9⟩;rw[<-HNEW.o] at ho9;have ho9':=ho9.mono hxb.size;have hK':=hK w9 v9 ho9' ⟨hx.grow hb9,hxb.trans (hb9.mono hxb.size)⟩ hb9;clear hK ho9 ho9';go_simp;simpa[Cr,d1,d7,d13] using hK'
      ·clear hdep;go_simp;exact hK w' (UM (UI ⟨A,0,UJ⟩)) rfl REF.o Cs
     case hend=>
      intro o' t w' ho hx hg K hK;simp at ho;subst ho;obtain⟨hx,hxb⟩:=hx;have O14:DT w' wr.heap.size (t 14) (Fb zs ps (k+1)):=hg 14 AL;have h15:t 15=_:=hg 15 AL;clear hg;obtain⟨ng,nc,e14,_⟩:=O14.base;have hln1:=HLN.o (k+1) AK;rw[hln1] at e14;rw[e14] at O14;obtain⟨a0,a1,a2,a3⟩:=Ek hx.aft;have f0:=Ag w' A 0 _ _ hx.aft;have hA9:=Du (i:=0) (UD (UI ⟨ng,0,UJ⟩) L nc) hx.aft rfl;have hoth:∀ j,j≠A->(w'.setCell ⟨A,0,UJ⟩ (UD (UI ⟨ng,0,UJ⟩) L nc)).heap[j]?=w'.heap[j]?:=λj hj=>Ah w' ⟨A,0,UJ⟩ j _ (by simpa using hj)
      have hsz:(w'.setCell ⟨A,0,UJ⟩ (UD (UI ⟨ng,0,UJ⟩) L nc)).heap.size=w'.heap.size:=by simp[World.setCell]
      have hAw:A<wr.heap.size:=(AQ.1 (SY.aft HST.o)).1;have hsA:=hx.hA;have dk0:DK w' wr.heap.size A (UD (UI ⟨ng,0,UJ⟩) L nc) (Fb zs ps (k+1)):=DK.of_own O14 hAw;have dk1:=dk0.keep (w':=w'.setCell ⟨A,0,UJ⟩ (UD (UI ⟨ng,0,UJ⟩) L nc)) (λj _ hj=>hoth j hj) (by rw[hsz];exact AY _);have dk2:DK (w'.setCell ⟨A,0,UJ⟩ (UD (UI ⟨ng,0,UJ⟩) L nc)) (w.heap.size+2) A (UD (UI ⟨ng,0,UJ⟩) L nc) (Fb zs ps (k+1)):=by
       obtain⟨g',o',c',p1,p2,p3,p4,p5,p6,p7⟩:=dk1;exact⟨g',o',c',p1,p2,p3,p4,AK,p6,p7⟩
      have st':SY w (w'.setCell ⟨A,0,UJ⟩ (UD (UI ⟨ng,0,UJ⟩) L nc)) #[UD a L cap,UD (UI ⟨b5,o5,UJ⟩) m cx,UE UO f,UF false] A (UD (UI ⟨ng,0,UJ⟩) L nc) (UD ca m cc) F (Fb zs ps (k+1)):=
       ⟨⟨hx.box.below.setCell (p:=⟨A,0,UJ⟩) (by show w.heap.size<=A;omega) _,by rw[hoth _ AK];exact hx.box.b0,by rw[hoth _ AK];exact hx.box.b1⟩,hA9,dk2,hsA⟩
      have HS':AP (SY w (w'.setCell ⟨A,0,UJ⟩ (UD (UI ⟨ng,0,UJ⟩) L nc)) #[UD a L cap,UD (UI ⟨b5,o5,UJ⟩) m cx,UE UO f,UF false] A (UD (UI ⟨ng,0,UJ⟩) L nc) (UD ca m cc) F (Fb zs ps (k+1))):=st';clear st' dk0 dk1 dk2 hA9 hoth hsz O14 hx hxb;go_simp;apply hK;clear e14 h15;go_wp2;go_roundw
      case rel=>exact⟨k+1,UD (UI ⟨ng,0,UJ⟩) L nc,AK,by go_num,HS'.o⟩
      case measure=>simp[intOf];omega
    ·have hkm:k=m:=AK
     subst hkm;have hlt':¬ (k:Int)<k:=AK
     have hA:=st.hA;have hAw:A<wr.heap.size:=(AQ.1 st.aft).1;obtain⟨a0,a1,a2,a3⟩:=Ek st.aft;have f1:=Ag _ A 1 _ _ st.aft;have hW:∃ W7,W7=(wr.setCell ⟨A,1,UJ⟩ (UD (UI ⟨wr.heap.size,0,UJ⟩) 0 0)).alloc (UP #[] 106):=⟨_,rfl⟩
     obtain⟨W7,hW7⟩:=hW;have hs6:(wr.setCell ⟨A,1,UJ⟩ (UD (UI ⟨wr.heap.size,0,UJ⟩) 0 0)).heap.size=wr.heap.size:=by simp[World.setCell]
     have hb6:=(Ad _ (wr.setCell ⟨A,1,UJ⟩ (UD (UI ⟨wr.heap.size,0,UJ⟩) 0 0))).alloc Cw (UP #[] 106);rw[<-hW7] at hb6;have hoth:∀ j,j<wr.heap.size->j≠A->W7.heap[j]?=wr.heap[j]?:=λj hj hjA=>(hb6.block j AK).trans (Ah _ ⟨A,1,UJ⟩ j _ (by simpa using hjA))
     have hsz:wr.heap.size<=W7.heap.size:=AG hb6.size
     have k1:W7.heap[w.heap.size+1]?=UI (UP Cd 40 (0,0)):=by rw[hoth _ AK AK];exact st.box.b1
     have K1:AP (((wr.setCell ⟨A,1,UJ⟩ (UD (UI ⟨wr.heap.size,0,UJ⟩) 0 0)).alloc (UP #[] 106)).heap[w.heap.size+1]?=UI (UP Cd 40 (0,0))):=by unfold AP;rw[<-hW7];exact k1
     have dk5:DK (W7.setRow (w.heap.size+1) #[UD (UI ⟨g,o,UJ⟩) L gc,UD (UI ⟨wr.heap.size,0,UJ⟩) 0 0,UE UO F,UF false]) (w.heap.size+2) A (UD (UI ⟨g,o,UJ⟩) L gc) (Fb zs ps k):=by
      obtain⟨g',o',c',p1,p2,p3,p4,p5,p6,p7⟩:=st.dk;have hg':(W7.setRow (w.heap.size+1) #[UD (UI ⟨g,o,UJ⟩) L gc,UD (UI ⟨wr.heap.size,0,UJ⟩) 0 0,UE UO F,UF false]).heap[g']?=wr.heap[g']?:=((Wr.setRow (w.heap.size+1) _ _).block g' AK).trans (hoth g' p6 p7);exact⟨g',o',c',p1,p2,p3.keep (λad e=>by cases e;exact hg') (by rw[BP];exact hsz),p4.keep (λad e=>by cases e;exact hg') (by rw[BP];exact hsz),p5,by rw[BP];omega,p7⟩
     have hb7:Below w.heap.size w (W7.setRow (w.heap.size+1) #[UD (UI ⟨g,o,UJ⟩) L gc,UD (UI ⟨wr.heap.size,0,UJ⟩) 0 0,UE UO F,UF false]):=((st.box.below.setCell (p:=⟨A,1,UJ⟩) (by show w.heap.size<=A;omega) (UD (UI ⟨wr.heap.size,0,UJ⟩) 0 0)).trans (hb6.mono (AG st.box.below.size))).trans ((Wr.setRow _ _ _).below AK);have hgc7:(W7.setRow (w.heap.size+1) #[UD (UI ⟨g,o,UJ⟩) L gc,UD (UI ⟨wr.heap.size,0,UJ⟩) 0 0,UE UO F,UF false]).heap[wr.heap.size]?=UI (UP #[] 106 (0,0)):=by
      rw[(Wr.setRow (w.heap.size+1) _ _).block wr.heap.size AK,hW7];have:=AV (wr.setCell ⟨A,1,UJ⟩ (UD (UI ⟨wr.heap.size,0,UJ⟩) 0 0)) (UP #[] 106);rw[hs6] at this;exact this
     have hPn:Dk (W7.setRow (w.heap.size+1) #[UD (UI ⟨g,o,UJ⟩) L gc,UD (UI ⟨wr.heap.size,0,UJ⟩) 0 0,UE UO F,UF false]) wr.heap.size (UD (UI ⟨wr.heap.size,0,UJ⟩) 0 0) []:=
      ⟨⟨rfl,.inr ⟨wr.heap.size,0,#[],rfl,AY _,hgc7,AY _,by unfold maxLen;omega,rfl,rfl⟩⟩,λi q h=>by simp at h,λi j q q' ad ad' h=>by simp at h⟩
     have dx5:Fj w.heap.size (W7.setRow (w.heap.size+1) #[UD (UI ⟨g,o,UJ⟩) L gc,UD (UI ⟨wr.heap.size,0,UJ⟩) 0 0,UE UO F,UF false]) (UN #[UD (UI ⟨g,o,UJ⟩) L gc,UD (UI ⟨wr.heap.size,0,UJ⟩) 0 0,UE UO F,UF false]) (Fb zs ps k) [] F false:=by
      obtain⟨g',o',c',p1,p2,p3,p4,p5,p6,p7⟩:=dk5;cases p1;refine⟨UI ⟨g,o,UJ⟩,gc,UI ⟨wr.heap.size,0,UJ⟩,0,wr.heap.size,by rw[hlen];rfl,p3,p4,λad e=>by cases e;exact⟨by simp only;omega,hg2⟩,AG st.box.below.size,by rw[BP];exact hsz,⟨[],hPn,rfl⟩,p2⟩
     have hfin:=Ac (HEND.o _ _ dx5) hb7;rw[hW7] at hfin;have HFIN:AP _:=hfin;clear hfin hW7;clear st hb6 hs6 hoth hsz k1 dk5 hb7 hgA hgO;go_wp2_with (refine AC 40 (UT 2) (UT 44) (w.heap.size+1) #[UD (UI ⟨g,o,UJ⟩) L gc,UD (UI ⟨wr.heap.size,0,UJ⟩) 0 0,UE UO F,UF false] 40 K1.o HSD.o rfl (EM _ _ _ _ _ _ _ _) ?_)
     (try simp only[Exit.inBlock,Exit.then])
     exact AZ (v:=UN #[UD (UI ⟨g,o,UJ⟩) L gc,UD (UI ⟨wr.heap.size,0,UJ⟩) 0 0,UE UO F,UF false]) (AW rfl _ _ (w.heap.size+1) 40 _ (0,0) _ rfl (AB K1.o) Tryz.underlying40 rfl HSD.o) rfl ⟨_,rfl,HFIN.o.1,HFIN.o.2⟩
 ·have hoff:C5 L ps f=false\/d=true:=by
   cases hv:C5 L ps f with
   |false=>exact .inl rfl
   |true=>
    right;cases hd:d with
    |true=>rfl
    |false=>exact absurd ⟨hv,hd⟩ hon
  obtain⟨e1,e2,e3,e4⟩:=HOFF.o hoff;have HEND:AP (∀(w':UK) (r:UL),Fj w.heap.size w' r zs ps f d->Fj w.heap.size w' r (LP zs ps f d) (LQ L ps f d) (LR L ps f d) (LS L ps f d)):=λw' r hd=>HEQ.o _ _ _ _ e1 e2 e3 e4 w' r hd
  clear hon e1 e2 e3 e4 HOFF HNOF HON HEQ HST HVO HLEN;have FIN:AP (∀(w3:UK) (da:Option Addr) (dc:Nat) (ca:Option Addr) (cc:Nat),Fj w2.heap.size w3 (UN #[UD da L dc,UD ca m cc,UE UO f,UF d]) zs ps f d->Below w2.heap.size w2 w3->
    w3.heap[w.heap.size+1]?=UI (UP Cd 40 (0,0))/\Fj w.heap.size (w3.setRow (w.heap.size+1) #[UD da L dc,UD ca m cc,UE UO f,UF d]) (UN #[UD da L dc,UD ca m cc,UE UO f,UF d]) (LP zs ps f d) (LQ L ps f d) (LR L ps f d) (LS L ps f d)/\Below w.heap.size w (w3.setRow (w.heap.size+1) #[UD da L dc,UD ca m cc,UE UO f,UF d])):=by
   intro w3 da dc ca cc D3 hb3;have st3:=B2.grow HS2.o hb3;refine⟨st3.b1,HEND.o _ _ ?_,st3.below.trans ((Wr.setRow _ _ _).below AK)⟩;exact(D3.keep (λj hj _=>(Wr.setRow _ _ _).block j AK) (by rw[BP];exact AY _)).mono AK
  rcases hoff with hv|rfl
  ·rw[hv];go_wp2_with fail;refine(HCP.o w2 (B2.below HS2.o)).mono ?_;rintro e w3 ⟨r,rfl,D3,hb3⟩;have D3':=D3;obtain⟨da,dc,ca,cc,B1,rfl,_⟩:=D3';rw[HHL.o.1,HHL.o.2] at D3 |-;obtain⟨k1,k2,k3⟩:=FIN.o w3 da dc ca cc D3 hb3;have K1:AP _:=k1;have K2:AP _:=Ac k2 k3;clear k1 k2 k3 D3 hb3 c0 c1 c2 c3;go_wp2_with (refine AC 40 (UT 2) (UT 13) (w.heap.size+1) #[UD da L dc,UD ca m cc,UE UO f,UF d] 40 K1.o HSD.o rfl (EM _ _ _ _ _ _ _ _) ?_)
   (try simp only[Exit.inBlock,Exit.then])
   exact AZ (v:=UN #[UD da L dc,UD ca m cc,UE UO f,UF d]) (AW rfl _ _ (w.heap.size+1) 40 _ (0,0) _ rfl (AB K1.o) Tryz.underlying40 rfl HSD.o) rfl ⟨_,rfl,K2.o.1,K2.o.2⟩
  ·cases hv:C5 L ps f with
   |false=>
    go_wp2_with fail;refine(HCP.o w2 (B2.below HS2.o)).mono ?_;rintro e w3 ⟨r,rfl,D3,hb3⟩;have D3':=D3;obtain⟨da,dc,ca,cc,B1,rfl,_⟩:=D3';rw[HHL.o.1,HHL.o.2] at D3 |-;obtain⟨k1,k2,k3⟩:=FIN.o w3 da dc ca cc D3 hb3;have K1:AP _:=k1;have K2:AP _:=Ac k2 k3;clear k1 k2 k3 D3 hb3 c0 c1 c2 c3;go_wp2_with (refine AC 40 (UT 2) (UT 13) (w.heap.size+1) #[UD da L dc,UD ca m cc,UE UO f,UF true] 40 K1.o HSD.o rfl (EM _ _ _ _ _ _ _ _) ?_)
    (try simp only[Exit.inBlock,Exit.then])
    exact AZ (v:=UN #[UD da L dc,UD ca m cc,UE UO f,UF true]) (AW rfl _ _ (w.heap.size+1) 40 _ (0,0) _ rfl (AB K1.o) Tryz.underlying40 rfl HSD.o) rfl ⟨_,rfl,K2.o.1,K2.o.2⟩
   |true=>
    go_wp2_with fail;refine(HCP.o w2 (B2.below HS2.o)).mono ?_;rintro e w3 ⟨r,rfl,D3,hb3⟩;have D3':=D3;obtain⟨da,dc,ca,cc,B1,rfl,_⟩:=D3';rw[HHL.o.1,HHL.o.2] at D3 |-;obtain⟨k1,k2,k3⟩:=FIN.o w3 da dc ca cc D3 hb3;have K1:AP _:=k1;have K2:AP _:=Ac k2 k3;clear k1 k2 k3 D3 hb3 c0 c1 c2 c3;go_wp2_with (refine AC 40 (UT 2) (UT 13) (w.heap.size+1) #[UD da L dc,UD ca m cc,UE UO f,UF true] 40 K1.o HSD.o rfl (EM _ _ _ _ _ _ _ _) ?_)
    (try simp only[Exit.inBlock,Exit.then])
    exact AZ (v:=UN #[UD da L dc,UD ca m cc,UE UO f,UF true]) (AW rfl _ _ (w.heap.size+1) 40 _ (0,0) _ rfl (AB K1.o) Tryz.underlying40 rfl HSD.o) rfl ⟨_,rfl,K2.o.1,K2.o.2⟩
def Ib (L:Nat) (ps:List PD) (f:Int) (d:Bool) (s:Int) (n:Nat):Bool:=C5 L ps f && !d && Gf L s && decide (n=64) && decide (ps.length≠1000)
def ID (L:Nat) (ps:List PD) (f:Int) (d:Bool) (s:Int) (z:List Int):List PD:=if Ib L ps f d s z.length && decide (f≠0) then ps++[(s,z)] else ps
def Lc (L:Nat) (ps:List PD) (f:Int) (d:Bool) (s:Int) (n:Nat):Int:=if Ib L ps f d s n then EG f else f
def Mt (L:Nat) (ps:List PD) (f:Int) (d:Bool) (s:Int) (n:Nat):Bool:=if Ib L ps f d s n then Hx f d else d
theorem Pj (a:Option Addr) (L cap:Nat) (b:UL) (f:Int) (d:Bool) (w:UK) (hL:L<=1048576) (hb:∃ x m c,b=UD x m c) :
  Calls Tryz.prog 68 #[UN #[UD a L cap,b,UE UO f,UF d]] w λe w'=>e=UQ (UE UO ((L:Int)/64))/\Below w.heap.size w w':=by
 obtain⟨x,m,c,rfl⟩:=hb;have HB:AP _:=(Ad w.heap.size w).alloc Cw (UP #[UD a L cap,UD x m c,UE UO f,UF d] 40);go_enter Tryz.func68,Tryz.ntmps68;go_wp2
 go_ret
 exact⟨rfl,HB.o⟩
def Ta (A S E:Nat) (cv:UL) (qs:List Q1) (s:Int) (xa:Option Addr) (c:Nat) (z:List Int):Nat->(Nat->Bool)->UK->UL->Prop
 |0,_,_,v=>v=UM (UI ⟨A,1,UJ⟩)
 |1,_,_,v=>v=cv
 |2,_,_,v=>v=UE UO s
 |3,_,w,v=>∃ B,v=UD (UI ⟨B,0,UJ⟩) 0 0/\DT w S (UD (UI ⟨B,0,UJ⟩) 0 0) []
 |4,_,_,v=>v=UD xa z.length c
 |5,_,w,v=>Dd w S v z
 |6,_,w,v=>∃ a c',v=UN #[UE UO s,UD a z.length c']/\Dd w S (UD a z.length c') z
 |7,_,w,v=>∃ K a c',v=UD (UI ⟨K,0,UJ⟩) 1 1/\S<=K/\w.heap[K]?=UI (UP #[UE UO s,UD a z.length c'] 106 (0,0))/\Dd w S (UD a z.length c') z
 |8,_,w,v=>∃ q:Q1,q.s=s/\q.z=z/\Dk w E v (qs++[q])
 |_,_,_,v=>v=UM (UI ⟨A,1,UJ⟩)
theorem Pk (A S E:Nat) (cv:UL) (qs:List Q1) (s:Int) (xa:Option Addr) (c:Nat) (z:List Int) (hr:∀ k,cv.ownBlock=UI k->k<S) (j:Nat) (L:Nat->Bool) (w w':UK) (i:Nat) (v:UL)
  (hM:(i≠8->Below w.heap.size w w')/\w.grownBy w' cv.ownBlock) (hij:i≠j) (hL:L i=false) (h:Ta A S E cv qs s xa c z j L w v):Ta A S E cv qs s xa c z j (Ct L i) w' v:=by
 have hg:=hM.2;unfold Ta at *;split at h;all_goals first
  |exact h
  |exact Dd.grown h hg hr
  |(obtain⟨B,e,h⟩:=h;exact⟨B,e,DT.grown h hg hr⟩)
  |(obtain⟨a,c',e,h⟩:=h;exact⟨a,c',e,Dd.grown h hg hr⟩)
  |(obtain⟨K,a,c',e,h1,h2,h⟩:=h;exact⟨K,a,c',e,h1,by rw[hg.block _ (AQ.1 h2).1 (λer=>AG (hr K er.symm))];exact h2,Dd.grown h hg hr⟩)
  |(obtain⟨q,e1,e2,h⟩:=h;exact⟨q,e1,e2,h.below (hM.1 hij)⟩)
theorem Pl (v:UL) (zs:List Int) (ps:List PD) (f:Int) (d:Bool) (s:Int) (xa:Option Addr) (xn xc:Nat) (z:List Int) (w:UK) (h:Ei w v zs ps f d) (hx:At .u8 w xa z) (hxn:z.length=xn) (hz:zs.length<=1048576) (hn:ps.length<=1048576) (hps:∀ i,(ps.getD i (0,[])).2.length<=1048576) (hzn:xn<=1048576) (hf:f<=9223372036854775807) :
  Calls Tryz.prog 54 #[v,UE UO s,UD xa xn xc] w λe w'=>∃ r,e=UQ r/\DR w' w.heap.size r zs (ID zs.length ps f d s z) (Lc zs.length ps f d s z.length) (Mt zs.length ps f d s z.length)/\Below w.heap.size w w':=by
 have HSD:AP _:=Tryz.sizeDv;have hD:=h;obtain⟨a,cap,x,cx,rfl,hA,hP,hcap⟩:=h;have HV:AP (∀ ww:UK,Below w.heap.size w ww->Calls Tryz.prog 27 #[UN #[UD a zs.length cap,UD x ps.length cx,UE UO f,UF d]] ww λe w'=>e=UQ (UF (C5 zs.length ps f))/\Below ww.heap.size ww w'):=λww hb=>Fv _ zs ps f d ww (hD.below hb) hz hn hps
 have HCP:AP (∀ ww:UK,Below w.heap.size w ww->Calls Tryz.prog 102 #[UN #[UD a zs.length cap,UD x ps.length cx,UE UO f,UF d]] ww λe w'=>∃ r,e=UQ r/\DR w' ww.heap.size r zs ps f d/\Below ww.heap.size ww w'):=λww hb=>Il _ zs ps f d ww (hD.below hb) hz hn hps
 have HST:AP (∀ ww:UK,Below w.heap.size w ww->Calls Tryz.prog 103 #[UN #[UD a zs.length cap,UD x ps.length cx,UE UO f,UF d]] ww λe w'=>∃ r,e=UQ r/\DR w' ww.heap.size r zs ps (EG f) (Hx f d)/\Below ww.heap.size ww w'):=λww hb=>Mh _ zs ps f d ww (hD.below hb) hz hn hps hf
 have HX:AP (At .u8 w xa z):=hx;have HEQ:AP (∀ P F D,ID zs.length ps f d s z=P->Lc zs.length ps f d s z.length=F->Mt zs.length ps f d s z.length=D->∀(w':UK) (r:UL),DR w' w.heap.size r zs P F D->DR w' w.heap.size r zs (ID zs.length ps f d s z) (Lc zs.length ps f d s z.length) (Mt zs.length ps f d s z.length)):=by
  intro P F D h2 h3 h4 w' r hd;rw[h2,h3,h4];exact hd
 have HOFF:AP (Ib zs.length ps f d s z.length=false->ID zs.length ps f d s z=ps/\Lc zs.length ps f d s z.length=f/\Mt zs.length ps f d s z.length=d):=by
  intro h;unfold ID Lc Mt;rw[h];simp
 have HON:AP (Ib zs.length ps f d s z.length=true->(f=0->ID zs.length ps f d s z=ps)/\(f≠0->ID zs.length ps f d s z=ps++[(s,z)])/\Lc zs.length ps f d s z.length=EG f/\Mt zs.length ps f d s z.length=Hx f d):=by
  intro h;unfold ID Lc Mt;rw[h];refine⟨λhf=>by simp[hf],λhf=>by simp[hf],rfl,rfl⟩
 have hwon:Ib zs.length ps f d s z.length=(C5 zs.length ps f && !d && Gf zs.length s && decide (z.length=64) && decide (ps.length≠1000)):=rfl;have hhas:Gf zs.length s=decide (0<=s/\s<((zs.length/64:Nat):Int)):=rfl;rw[hxn] at HEQ HOFF HON hwon |-;obtain⟨L,hL⟩:∃ L,zs.length=L:=⟨_,rfl⟩
 obtain⟨m,hm⟩:∃ m,ps.length=m:=⟨_,rfl⟩
 have HHL:AP (zs.length=L/\ps.length=m/\z.length=xn):=⟨hL,hm,hxn⟩
 rw[hL] at hz HV HCP HST HEQ HOFF HON hwon hhas |-;rw[hm] at hn HV HCP HST hwon |-;obtain⟨W0,hW0⟩:∃ W0,Ib L ps f d s xn=W0:=⟨_,rfl⟩
 rw[hW0] at HOFF HON hwon;clear hL hm hA hP hcap hps hD hx hxn;have HS0:AP (B2 w _ #[UD a L cap,UD x m cx,UE UO f,UF d]):=B2.start w #[UD a L cap,UD x m cx,UE UO f,UF d];go_enter Tryz.func54,Tryz.ntmps54;go_wp2_with fail;have st1:=HS0.o;clear HS0;generalize ((w.alloc (UP #[UD a L cap,UD x m cx,UE UO f,UF d] 40)).alloc (UP Cd 40))=w1 at *;refine(HV.o w1 st1.below).mono ?_;rintro e w2 ⟨rfl,hb2⟩;have st2:=st1.grow hb2;have hs2:w.heap.size+1<w2.heap.size:=(AQ.1 st2.b1).1;obtain⟨c0,c1,c2,c3⟩:=Ek st2.b0;have HS2:AP (B2 w w2 #[UD a L cap,UD x m cx,UE UO f,UF d]):=st2;have HLS:AP (∀ ww:UK,Calls Tryz.prog 68 #[UN #[UD a L cap,UD x m cx,UE UO f,UF d]] ww λe w'=>e=UQ (UE UO ((L:Int)/64))/\Below ww.heap.size ww w'):=λww=>Pj a L cap _ f d ww hz ⟨_,_,_,rfl⟩
 clear st1 st2 hb2 HV;have FIN:AP (W0=false->∀(ww w5:UK) (da:Option Addr) (dc:Nat) (ca:Option Addr) (cc:Nat),B2 w ww #[UD a L cap,UD x m cx,UE UO f,UF d]->w.heap.size+1<ww.heap.size->DR w5 ww.heap.size (UN #[UD da L dc,UD ca m cc,UE UO f,UF d]) zs ps f d->Below ww.heap.size ww w5->
   w5.heap[w.heap.size+1]?=UI (UP Cd 40 (0,0))/\DR (w5.setRow (w.heap.size+1) #[UD da L dc,UD ca m cc,UE UO f,UF d]) w.heap.size (UN #[UD da L dc,UD ca m cc,UE UO f,UF d]) zs (ID L ps f d s z) (Lc L ps f d s xn) (Mt L ps f d s xn)/\Below w.heap.size w (w5.setRow (w.heap.size+1) #[UD da L dc,UD ca m cc,UE UO f,UF d])):=by
  intro hw0 ww w5 da dc ca cc hB hlt D5 hb5;obtain⟨e2,e3,e4⟩:=HOFF.o hw0;have st5:=hB.grow hb5;refine⟨st5.b1,HEQ.o _ _ _ e2 e3 e4 _ _ ?_,st5.below.trans ((Wr.setRow _ _ _).below AK)⟩;have h5:=(D5.keep (w':=w5.setRow (w.heap.size+1) #[UD da L dc,UD ca m cc,UE UO f,UF d]) (λj cur t hj _ _=>(Wr.setRow _ _ _).block j AK) (by rw[BP];exact AY _))
  exact h5.mono AK
 cases hval:C5 L ps f with
 |false=>
  have hw0:W0=false:=by rw[hwon,hval];simp
  go_wp2_with fail;refine(HCP.o w2 (B2.below HS2.o)).mono ?_;rintro e w5 ⟨r,rfl,D5,hb5⟩;have D5':=D5;obtain⟨da,dc,ca,cc,B1,hr5,_⟩:=D5'.mine;subst hr5;rw[HHL.o.1,HHL.o.2.1] at D5 |-;obtain⟨k1,k2,k3⟩:=FIN.o hw0 w2 w5 da dc ca cc HS2.o AK D5 hb5;have K1:AP _:=k1;have K2:AP _:=Ac k2 k3;clear k1 k2 k3 D5 hb5 c0 c1 c2 c3;go_wp2_with (refine AC 40 (UT 6) (UT 37) (w.heap.size+1) #[UD da L dc,UD ca m cc,UE UO f,UF d] 40 K1.o HSD.o rfl (EM _ _ _ _ _ _ _ _) ?_)
  (try simp only[Exit.inBlock,Exit.then])
  exact AZ (v:=UN #[UD da L dc,UD ca m cc,UE UO f,UF d]) (AW rfl _ _ (w.heap.size+1) 40 _ (0,0) _ rfl (AB K1.o) Tryz.underlying40 rfl HSD.o) rfl ⟨_,rfl,K2.o.1,K2.o.2⟩
 |true=>
  cases hdd:d with
  |true=>
   subst hdd;have hw0:W0=false:=by rw[hwon];simp
   go_wp2_with fail;refine(HCP.o w2 (B2.below HS2.o)).mono ?_;rintro e w5 ⟨r,rfl,D5,hb5⟩;have D5':=D5;obtain⟨da,dc,ca,cc,B1,hr5,_⟩:=D5'.mine;subst hr5;rw[HHL.o.1,HHL.o.2.1] at D5 |-;obtain⟨k1,k2,k3⟩:=FIN.o hw0 w2 w5 da dc ca cc HS2.o AK D5 hb5;have K1:AP _:=k1;have K2:AP _:=Ac k2 k3;clear k1 k2 k3 D5 hb5 c0 c1 c2 c3;go_wp2_with (refine AC 40 (UT 6) (UT 37) (w.heap.size+1) #[UD da L dc,UD ca m cc,UE UO f,UF true] 40 K1.o HSD.o rfl (EM _ _ _ _ _ _ _ _) ?_)
   (try simp only[Exit.inBlock,Exit.then])
   exact AZ (v:=UN #[UD da L dc,UD ca m cc,UE UO f,UF true]) (AW rfl _ _ (w.heap.size+1) 40 _ (0,0) _ rfl (AB K1.o) Tryz.underlying40 rfl HSD.o) rfl ⟨_,rfl,K2.o.1,K2.o.2⟩
  |false=>
   subst hdd;by_cases hs0:s<0
   ·have hw0:W0=false:=by
     have hh:Gf L s=false:=by rw[hhas];simp;omega
     rw[hwon,hh];simp
    go_wp2_with fail;refine(HCP.o w2 (B2.below HS2.o)).mono ?_;rintro e w5 ⟨r,rfl,D5,hb5⟩;have D5':=D5;obtain⟨da,dc,ca,cc,B1,hr5,_⟩:=D5'.mine;subst hr5;rw[HHL.o.1,HHL.o.2.1] at D5 |-;obtain⟨k1,k2,k3⟩:=FIN.o hw0 w2 w5 da dc ca cc HS2.o AK D5 hb5;have K1:AP _:=k1;have K2:AP _:=Ac k2 k3;clear k1 k2 k3 D5 hb5 c0 c1 c2 c3;go_wp2_with (refine AC 40 (UT 6) (UT 37) (w.heap.size+1) #[UD da L dc,UD ca m cc,UE UO f,UF false] 40 K1.o HSD.o rfl (EM _ _ _ _ _ _ _ _) ?_)
    (try simp only[Exit.inBlock,Exit.then])
    exact AZ (v:=UN #[UD da L dc,UD ca m cc,UE UO f,UF false]) (AW rfl _ _ (w.heap.size+1) 40 _ (0,0) _ rfl (AB K1.o) Tryz.underlying40 rfl HSD.o) rfl ⟨_,rfl,K2.o.1,K2.o.2⟩
   ·have hs0':¬ s<0:=hs0;go_wp2_with fail;refine(HLS.o w2).mono ?_;rintro e w3 ⟨rfl,hb3⟩;have st3:=B2.grow HS2.o hb3;have hs3:w.heap.size+1<w3.heap.size:=(AQ.1 st3.b1).1;clear c0 c1 c2 c3;obtain⟨c0,c1,c2,c3⟩:=Ek st3.b0;have HS3:AP (B2 w w3 #[UD a L cap,UD x m cx,UE UO f,UF false]):=st3;clear st3 hb3 HS2 HLS;have hdiv:((L/64:Nat):Int)=(L:Int)/64:=AK
    by_cases hs1:(L:Int)/64<=s
    ·have hw0:W0=false:=by
      have hh:Gf L s=false:=by rw[hhas,hdiv];simp;omega
      rw[hwon,hh];simp
     go_wp2_with fail;refine(HCP.o w3 (B2.below HS3.o)).mono ?_;rintro e w5 ⟨r,rfl,D5,hb5⟩;have D5':=D5;obtain⟨da,dc,ca,cc,B1,hr5,_⟩:=D5'.mine;subst hr5;rw[HHL.o.1,HHL.o.2.1] at D5 |-;obtain⟨k1,k2,k3⟩:=FIN.o hw0 w3 w5 da dc ca cc HS3.o AK D5 hb5;have K1:AP _:=k1;have K2:AP _:=Ac k2 k3;clear k1 k2 k3 D5 hb5 c0 c1 c2 c3;go_wp2_with (refine AC 40 (UT 6) (UT 37) (w.heap.size+1) #[UD da L dc,UD ca m cc,UE UO f,UF false] 40 K1.o HSD.o rfl (EM _ _ _ _ _ _ _ _) ?_)
     (try simp only[Exit.inBlock,Exit.then])
     exact AZ (v:=UN #[UD da L dc,UD ca m cc,UE UO f,UF false]) (AW rfl _ _ (w.heap.size+1) 40 _ (0,0) _ rfl (AB K1.o) Tryz.underlying40 rfl HSD.o) rfl ⟨_,rfl,K2.o.1,K2.o.2⟩
    ·have hs1':¬ (L:Int)/64<=s:=hs1;by_cases hx64:xn=64
     ·by_cases hm1:m=1000
      ·have hm1':((m:Int) == 1000)=true:=by simp;omega
       have hx64':((xn:Int) != 64)=false:=by simp;omega
       have hw0:W0=false:=by rw[hwon,hm1];simp
       clear hm1 hx64 hwon;go_wp2_with fail;refine(HCP.o w3 (B2.below HS3.o)).mono ?_;rintro e w5 ⟨r,rfl,D5,hb5⟩;have D5':=D5;obtain⟨da,dc,ca,cc,B1,hr5,_⟩:=D5'.mine;subst hr5;rw[HHL.o.1,HHL.o.2.1] at D5 |-;obtain⟨k1,k2,k3⟩:=FIN.o hw0 w3 w5 da dc ca cc HS3.o AK D5 hb5;have K1:AP _:=k1;have K2:AP _:=Ac k2 k3;clear k1 k2 k3 D5 hb5 c0 c1 c2 c3;go_wp2_with (refine AC 40 (UT 6) (UT 37) (w.heap.size+1) #[UD da L dc,UD ca m cc,UE UO f,UF false] 40 K1.o HSD.o rfl (EM _ _ _ _ _ _ _ _) ?_)
       (try simp only[Exit.inBlock,Exit.then])
       exact AZ (v:=UN #[UD da L dc,UD ca m cc,UE UO f,UF false]) (AW rfl _ _ (w.heap.size+1) 40 _ (0,0) _ rfl (AB K1.o) Tryz.underlying40 rfl HSD.o) rfl ⟨_,rfl,K2.o.1,K2.o.2⟩
      ·have hw1:W0=true:=by
        have hh:Gf L s=true:=by rw[hhas,hdiv];simp;omega
        rw[hwon,hval,hh];simp[hx64,hm1]
       obtain⟨p0,p1,p2,p3⟩:=HON.o hw1;have hm1':((m:Int) == 1000)=false:=by simp;omega
       have hx64':((xn:Int) != 64)=false:=by simp;omega
       have HP0:AP (f=0->ID L ps f false s z=ps):=p0;have HP1:AP (f≠0->ID L ps f false s z=ps++[(s,z)]):=p1;have HP2:AP (Lc L ps f false s xn=EG f/\Mt L ps f false s xn=Hx f false):=⟨p2,p3⟩
       clear hx64 hm1 hwon hhas hw1 p0 p1 p2 p3 HOFF HON FIN hW0 HCP;have FIN2:AP (∀(w6:UK) (C:Array UL) (P:List PD),ID L ps f false s z=P->DR w6 w3.heap.size (UN C) zs P (EG f) (Hx f false)->w6.heap[w.heap.size+1]?=UI (UP Cd 40 (0,0))->Below w.heap.size w w6->
         DR (w6.setRow (w.heap.size+1) C) w.heap.size (UN C) zs (ID L ps f false s z) (Lc L ps f false s xn) (Mt L ps f false s xn)/\Below w.heap.size w (w6.setRow (w.heap.size+1) C)):=by
        intro w6 C P hPe D6 hb1 hbw;refine⟨HEQ.o _ _ _ hPe HP2.o.1 HP2.o.2 _ _ ?_,hbw.trans ((Wr.setRow _ _ _).below AK)⟩;have h5:=(D6.keep (w':=w6.setRow (w.heap.size+1) C) (λj cur t hj _ _=>(Wr.setRow _ _ _).block j AK) (by rw[BP];exact AY _))
        exact h5.mono AK
       go_wp2_with fail;refine(HST.o w3 (B2.below HS3.o)).mono ?_;rintro e w4 ⟨r,rfl,D4,hb4⟩;have st4:=B2.grow HS3.o hb4;have hs4:=hb4.size;obtain⟨dv,cv,qs,E,rfl,O4,P4,hq4,hBE,hEw,hdv⟩:=D4;obtain⟨da,dc,e1⟩:=O4.sl';obtain⟨ca,cc,e2,_⟩:=P4.mine;have hql:qs.length=m:=by
        have h1:(Fr qs).length=ps.length:=by rw[hq4]
        have h2:=HHL.o.2.1;simp[Fr] at h1;omega
       rw[HHL.o.1] at e1;rw[hql] at e2;subst e1 e2;have HO4:AP (Dd w4 w3.heap.size (UD da L dc) zs):=O4;have HPW4:AP (Dk w4 E (UD ca m cc) qs):=P4;have HDV:AP (∀ k,(UD da L dc).ownBlock=UI k->k<E):=hdv;have HQ4:AP (Fr qs=ps):=hq4;have HS4:AP (B2 w w4 #[UD a L cap,UD x m cx,UE UO f,UF false]):=st4;clear st4 hb4 O4 P4 hdv hq4 HS3 HST c0 c1 c2 c3;go_wp2_with (refine EJ rfl 40 (UT 7) (UT 39) rfl w4.heap.size #[UD da L dc,UD ca m cc,UE UO (EG f),UF (Hx f false)] rfl rfl 40 _ (AV w4 _) HSD.o rfl (EM _ _ _ _ _ _ _ _) ?_);intro w5 hr5 hw5;have hb5:Below w4.heap.size w4 w5:=(Cs.alloc Cw _).trans (hw5.below Cw);have hA5:w4.heap.size<w5.heap.size:=(AQ.1 hr5).1;obtain⟨a0,a1,a2,a3⟩:=Ek hr5;have HS5:AP (B2 w w5 #[UD a L cap,UD x m cx,UE UO f,UF false]):=B2.grow HS4.o hb5;have HO5:AP (Dd w5 w3.heap.size (UD da L dc) zs):=Dd.grow HO4.o hb5;have HPW5:AP (Dk w5 E (UD ca m cc) qs):=Dk.below HPW4.o hb5;have HR5:AP (w5.heap[w4.heap.size]?=UI (UP #[UD da L dc,UD ca m cc,UE UO (EG f),UF (Hx f false)] 40 (0,0))):=hr5;clear hr5 hw5 hb5 HS4 HO4 HPW4;generalize w4.heap.size=A at *;by_cases hf0:f=0
       ·have hsD:Hx f false=true:=by rw[hf0];rfl
        obtain⟨k2,k3⟩:=FIN2.o w5 #[UD da L dc,UD ca m cc,UE UO (EG f),UF (Hx f false)] ps (HP0.o hf0) ⟨_,_,qs,E,rfl,HO5.o,HPW5.o,HQ4.o,hBE,AK,HDV.o⟩ (B2.b1 HS5.o) (B2.below HS5.o);have K1:AP (w5.heap[w.heap.size+1]?=UI (UP Cd 40 (0,0))):=B2.b1 HS5.o;have K2:AP _:=Ac k2 k3;rw[hsD] at K2 a3 |-;clear k2 k3 hf0 hsD HP0 HP1 HP2 FIN2 HEQ HR5;generalize EG f=F at *;go_wp2_with (refine AC 40 (UT 6) (UT 53) (w.heap.size+1) #[UD da L dc,UD ca m cc,UE UO F,UF true] 40 K1.o HSD.o rfl (EM _ _ _ _ _ _ _ _) ?_)
        (try simp only[Exit.inBlock,Exit.then])
        exact AZ (v:=UN #[UD da L dc,UD ca m cc,UE UO F,UF true]) (AW rfl _ _ (w.heap.size+1) 40 _ (0,0) _ rfl (AB K1.o) Tryz.underlying40 rfl HSD.o) rfl ⟨_,rfl,K2.o.1,K2.o.2⟩
       ·have hsD:Hx f false=false:=by unfold Hx;rw[AS hf0]
        have HP1':AP (ID L ps f false s z=ps++[(s,z)]):=HP1.o hf0;rw[hsD] at FIN2 HR5 a3 |-;have hFF:∃ F,EG f=F:=⟨_,rfl⟩
        obtain⟨F,hF⟩:=hFF;rw[hF] at FIN2 HR5 a2 |-;clear hf0 hsD HP0 HP1 HP2 HEQ hF;have hcb:∀ j,(UD ca m cc).ownBlock=UI j->E<=j/\j<w5.heap.size:=λj e=>⟨(DI (Dk.row HPW5.o) j e).1,(DI (Dk.row HPW5.o) j e).2.1⟩
        have hcA:∀ j,(UD ca m cc).ownBlock=UI j->j≠A:=λj e ej=>by
         obtain⟨_,_,cur,h3⟩:=DI (Dk.row HPW5.o) j e;rw[ej,HR5.o] at h3;simp at h3
        have HCB:AP _:=hcb;have HCA:AP _:=hcA;have HLT:AP (∀(i:Nat) (p:Q1) (k:Nat),qs[i]?=UI p->p.v.ownBlock=UI k->k<w5.heap.size):=λi p k hp e=>((Dk.each HPW5.o i p hp).lt k e).2.1
        clear hcb hcA;go_wp2_with fail;refine Ae AN ?_;refine F3 10 (λi w w'=>(i≠8->Below w.heap.size w w')/\w.grownBy w' (UD ca m cc).ownBlock) (frame:=(λ(a b c d e f g h i j k l m n o p q r s u v w x y z A B C D E F G H I J K L M N O P Q R S:UL)=>λ(t:Nat->UL)=>({ tmps:=List.toArray [a,b,c,d,e,f,g,h,i,j,k,l,m,n,o,p,q,r,s,u,v,w,x,y,z,A,B,C,D,E,F,G,H,I,J,K,L,M,N,O,P,Q,R,t 0,t 1,t 2,t 3,t 4,t 5,t 6,t 7,t 8,t 9,S],defers:=[] }:Act)) _ _ _ _ _ _ _ _ _ _ _ _ _ _ _ _ _ _ _ _ _ _ _ _ _ _ _ _ _ _ _ _ _ _ _ _ _ _ _ _ _ _ _ _)
         (Ext:=λLs w'=>w5.grownBy w' (UD ca m cc).ownBlock/\(Ls 8=false->Below w5.heap.size w5 w')) (Good:=Ta A w5.heap.size E (UD ca m cc) qs s xa xc z) AO AN (Pk _ _ _ _ _ _ _ _ _ (λk e=>(HCB.o k e).2)) AN AN ?hop ?hend _ _ ((λ(x0 x1 x2 x3 x4 x5 x6 x7 x8 x9:UL)=>λ(i:Nat)=>if i=0 then x0 else if i=1 then x1 else if i=2 then x2 else if i=3 then x3 else if i=4 then x4 else if i=5 then x5 else if i=6 then x6 else if i=7 then x7 else if i=8 then x8 else if i=9 then x9 else undef) _ _ _ _ _ _ _ _ _ _) _ AM AM ?ext ?start AM
        case start=>intro i hi h;exact absurd h E0
        case ext=>exact⟨Cx Cs.drew,λ_=>Cs.drew⟩
        case hop=>
         intro i o Ls t w' hil ho hLi hx hdep K hK;obtain⟨hxg,hx9⟩:=hx;have h9:∀(j:Nat) (ww:UK),j≠8->Below w'.heap.size w' ww->Ct Ls j 8=false->Below w5.heap.size w5 ww:=λj ww hj hb hL=>by
          have hL':Ls 8=false:=by simpa[Ct,Ne.symm hj] using hL
          exact(hx9 hL').trans (hb.mono hxg.size)
         have haf:w'.heap[A]?=UI (UP #[UD da L dc,UD ca m cc,UE UO F,UF false] 40 (0,0)):=by
          rw[hxg.block A hA5 (λe=>HCA.o A e.symm rfl)];exact HR5.o
         obtain⟨a0,a1,a2,a3⟩:=Ek haf;have hbw:Below w.heap.size w w':=by
          have hb0:=B2.below HS5.o;have hsz:=hb0.size;exact hb0.trans ⟨hxg.os,hxg.tape,hxg.output,hxg.size,λk hk=>hxg.block k AK (λe=>AG (HCB.o k e.symm))⟩
         have REF:AP (∀ j,j≠8->(w5.grownBy w' (UD ca m cc).ownBlock/\(Ct Ls j 8=false->Below w5.heap.size w5 w'))):=λj hj=>⟨hxg,h9 j w' hj Cs⟩
         have RM:AP (∀ j,(j≠8->Below w'.heap.size w' w')/\w'.grownBy w' (UD ca m cc).ownBlock):=λj=>⟨λ_=>Ad _ _,Cx Cs⟩
         have hs9:=hxg.size;have H9:AP _:=h9;have HX9:AP _:=hx9;have HXG:AP _:=hxg;clear h9 hx9 hxg haf;obtain rfl|rfl|rfl|rfl|rfl|rfl|rfl|rfl|rfl|rfl:i=0\/i=1\/i=2\/i=3\/i=4\/i=5\/i=6\/i=7\/i=8\/i=9:=AK
         all_goals(simp at ho;subst ho)
         ·clear hdep;go_simp;exact hK w' (UM (UI ⟨A,1,UJ⟩)) rfl (REF.o 0 AL) (RM.o 0)
         ·have d0:t 0=_:=hdep ⟨0,UR⟩ AM rfl;clear hdep;go_simp;simpa[Cr,d0] using hK w' (UD ca m cc) rfl (REF.o 1 AL) (RM.o 1)
         ·clear hdep;go_simp;exact hK w' (UE UO s) rfl (REF.o 2 AL) (RM.o 2)
         ·clear hdep;have hb9:=(Ad w'.heap.size w').alloc Cw (UP #[] 5);have hK':=hK (w'.alloc (UP #[] 5)) (UD (UI ⟨w'.heap.size,0,UJ⟩) 0 0) ⟨w'.heap.size,rfl,DT.empty w' _ hs9⟩ ⟨Dr HXG.o (Cx hb9),H9.o 3 _ AL hb9⟩ ⟨λ_=>hb9,Cx hb9⟩;clear hK;go_simp;simpa[Cr] using hK'
         ·clear hdep;go_simp;exact hK w' (UD xa xn xc) (show UD xa xn xc=UD xa z.length xc by rw[HHL.o.2.2]) (REF.o 4 AL) (RM.o 4)
         ·obtain⟨B,d3,O3⟩:=hdep ⟨3,UR⟩ AM rfl;have d4:t 4=_:=hdep ⟨4,UR⟩ AM rfl;clear hdep;refine Ik w' (UT 46) (UT 47) rfl w5.heap.size B d3 O3 xa z.length xc z d4 rfl (At.below HX.o hbw) (by rw[HHL.o.2.2];exact hzn) hs9 ?_;intro v9 w9 O9 hb9;exact hK w9 v9 (.inr O9) ⟨Dr HXG.o (Cx hb9),H9.o 5 w9 AL hb9⟩ ⟨λ_=>hb9,Cx hb9⟩
         ·have d2:t 2=_:=hdep ⟨2,UR⟩ AM rfl;have d6:Dd w' w5.heap.size (t 5) z:=hdep ⟨5,UR⟩ AM rfl;clear hdep;obtain⟨ea,ec,e6⟩:=d6.sl';rw[e6] at d6;have hK':=hK w' (UN #[UE UO s,UD ea z.length ec]) ⟨ea,ec,rfl,d6⟩ (REF.o 6 AL) (RM.o 6);clear d6 hK;go_simp;simpa[Cr,e6,d2] using hK'
         ·obtain⟨ea,ec,e7,O7⟩:=hdep ⟨6,UR⟩ AM rfl;clear hdep;have hb9:=(Ad w'.heap.size w').alloc Cw (UP #[UE UO s,UD ea z.length ec] 106);have hK':=hK (w'.alloc (UP #[UE UO s,UD ea z.length ec] 106)) (UD (UI ⟨w'.heap.size,0,UJ⟩) 1 1) ⟨w'.heap.size,ea,ec,rfl,hs9,AV w' _,O7.grow hb9⟩ ⟨Dr HXG.o (Cx hb9),H9.o 7 _ AL hb9⟩ ⟨λ_=>hb9,Cx hb9⟩;clear hK O7 hb9;go_simp;simpa[Cr,e7] using hK'
         ·have d1:t 1=_:=hdep ⟨1,UR⟩ AM rfl;obtain⟨B,ea,ec,e8,hB,hbB,O8⟩:=hdep ⟨7,UR⟩ AM rfl;clear hdep;have hP9:=Dk.below HPW5.o (HX9.o hLi);refine Ij w' (UT 44) (UT 50) rfl E w5.heap.size (UD ca m cc) qs ⟨s,ea,ec,z⟩ d1 hP9 HLT.o B e8 hbB (.inl O8) AK AK AK ?_;intro v9 w9 hP9' hg9;exact hK w9 v9 ⟨_,rfl,rfl,hP9'⟩ ⟨Dr HXG.o hg9,λh=>by simp[Ct] at h⟩ ⟨λh=>absurd rfl h,hg9⟩
         ·clear hdep;go_simp;exact hK w' (UM (UI ⟨A,1,UJ⟩)) rfl (REF.o 9 AL) (RM.o 9)
        case hend=>
         intro o Ls t w' ho hx hg K hK;simp at ho;subst ho;obtain⟨hxg,_⟩:=hx;obtain⟨q',hq1,hq2,hP9⟩:=hg 8 AL;have h11:t 9=_:=hg 9 AL;clear hg;obtain⟨na,nc,e9,_⟩:=hP9.mine;obtain⟨n9,hn9⟩:∃ n9,(qs++[q']).length=n9:=⟨_,rfl⟩
         rw[hn9] at e9;clear hn9;rw[e9] at hP9;have haf:w'.heap[A]?=UI (UP #[UD da L dc,UD ca m cc,UE UO F,UF false] 40 (0,0)):=by
          rw[hxg.block A hA5 (λe=>HCA.o A e.symm rfl)];exact HR5.o
         have hs9:=hxg.size;have hbw:Below w.heap.size w w':=by
          have hb0:=B2.below HS5.o;have hsz:=hb0.size;exact hb0.trans ⟨hxg.os,hxg.tape,hxg.output,hxg.size,λk hk=>hxg.block k AK (λe=>AG (HCB.o k e.symm))⟩
         have hb1:w'.heap[w.heap.size+1]?=UI (UP Cd 40 (0,0)):=by
          rw[hxg.block _ AK (λe=>AG (HCB.o _ e.symm))];exact B2.b1 HS5.o
         obtain⟨a0,a1,a2,a3⟩:=Ek haf;have f1:=Ag w' A 1 _ _ haf;have hA9:=Du (i:=1) (UD na n9 nc) haf rfl;have hwr:Wr A w' (w'.setCell ⟨A,1,UJ⟩ (UD na n9 nc)):=(Wr.refl A w').setCell 1 _;have O9:Dd w' w3.heap.size (UD da L dc) zs:=Dd.keep HO5.o (λk e=>hxg.block k (Dd.lt HO5.o k e).2.1 (λek=>AI (HCB.o k ek.symm) (HDV.o k e)));have D9:DR w' w3.heap.size (UN #[UD da L dc,UD na n9 nc,UE UO F,UF false]) zs (ps++[(s,z)]) F false:=
          ⟨_,_,qs++[q'],E,rfl,O9,hP9,by rw[<-HQ4.o];simp[Fr,hq1,hq2],hBE,AK,HDV.o⟩
         have D10:=D9.keep (w':=w'.setCell ⟨A,1,UJ⟩ (UD na n9 nc)) (λk cur t _ hh ht=>hwr.block k (λe=>by rw[e,haf] at hh;simp at hh;exact ht hh.2.symm)) (by rw[hwr.size];exact AY _);have hb1':(w'.setCell ⟨A,1,UJ⟩ (UD na n9 nc)).heap[w.heap.size+1]?=UI (UP Cd 40 (0,0)):=by rw[hwr.block _ AK];exact hb1
         obtain⟨k2,k3⟩:=FIN2.o _ _ _ HP1'.o D10 hb1' (hbw.trans (hwr.below AK));have K1:AP ((w'.setCell ⟨A,1,UJ⟩ (UD na n9 nc)).heap[w.heap.size+1]?=UI (UP Cd 40 (0,0))):=hb1';have K2:AP _:=Ac k2 k3;clear k2 k3 hb1' D10 D9 O9 hwr hA9 hb1 hbw haf hP9 hxg hq1 hq2;go_simp;apply hK;clear e9 h11;go_wp2_with (refine AC 40 (UT 6) (UT 53) (w.heap.size+1) #[UD da L dc,UD na n9 nc,UE UO F,UF false] 40 K1.o HSD.o rfl (EM _ _ _ _ _ _ _ _) ?_)
         (try simp only[Exit.inBlock,Exit.then])
         exact AZ (v:=UN #[UD da L dc,UD na n9 nc,UE UO F,UF false]) (AW rfl _ _ (w.heap.size+1) 40 _ (0,0) _ rfl (AB K1.o) Tryz.underlying40 rfl HSD.o) rfl ⟨_,rfl,K2.o.1,K2.o.2⟩
     ·have hx64':((xn:Int) != 64)=true:=by simp;omega
      have hw0:W0=false:=by rw[hwon];simp[hx64]
      go_wp2_with fail;refine(HCP.o w3 (B2.below HS3.o)).mono ?_;rintro e w5 ⟨r,rfl,D5,hb5⟩;have D5':=D5;obtain⟨da,dc,ca,cc,B1,hr5,_⟩:=D5'.mine;subst hr5;rw[HHL.o.1,HHL.o.2.1] at D5 |-;obtain⟨k1,k2,k3⟩:=FIN.o hw0 w3 w5 da dc ca cc HS3.o AK D5 hb5;have K1:AP _:=k1;have K2:AP _:=Ac k2 k3;clear k1 k2 k3 D5 hb5 c0 c1 c2 c3;go_wp2_with (refine AC 40 (UT 6) (UT 37) (w.heap.size+1) #[UD da L dc,UD ca m cc,UE UO f,UF false] 40 K1.o HSD.o rfl (EM _ _ _ _ _ _ _ _) ?_)
      (try simp only[Exit.inBlock,Exit.then])
      exact AZ (v:=UN #[UD da L dc,UD ca m cc,UE UO f,UF false]) (AW rfl _ _ (w.heap.size+1) 40 _ (0,0) _ rfl (AB K1.o) Tryz.underlying40 rfl HSD.o) rfl ⟨_,rfl,K2.o.1,K2.o.2⟩
theorem RR (v:UL) (zs:List Int) (ps:List PD) (f:Int) (d:Bool) (s:Int) (xa:Option Addr) (xn xc:Nat) (z:List Int) (w:UK) (h:Ei w v zs ps f d) (hx:At .u8 w xa z) (hxn:z.length=xn) (hz:zs.length<=1048576) (hn:ps.length<=1048576) (hps:∀ i,(ps.getD i (0,[])).2.length<=1048576) (hzn:xn<=1048576) (hf:f<=9223372036854775807) :
  Calls Tryz.prog 54 #[v,UE UO s,UD xa xn xc] w λe w'=>∃ r,e=UQ r/\FH w.heap.size w'.heap.size w' r zs (ID zs.length ps f d s z) (Lc zs.length ps f d s z.length) (Mt zs.length ps f d s z.length)/\Below w.heap.size w w':=
 (Pl v zs ps f d s xa xn xc z w h hx hxn hz hn hps hzn hf).mono (λe w' hh=>by obtain⟨r,h1,h2,h3⟩:=hh;exact⟨r,h1,h2.mine,h3⟩)
end Go.Proofs.YthmeoilbmfdhfaaGreat
