import Derived.Test.YthmeoilbmfdhfaaGreatMArrEq
import Derived.Test.YthmeoilbmfdhfaaGreatMDevLaw
open Go.Value renaming slice->UD,int->UE,pointer->UM,bool->UF,agg->UN
open Go.IntKind renaming u32->UG,u8->UH
open Go.Obj renaming cells->UP
open Go.Ending renaming returned->UQ
open Go.Ground renaming data->UR
open Go.Operand renaming tmp->UT
open Option renaming some->UI,none->UJ
open Go renaming World->UK,Value->UL
namespace Go.Proofs.YthmeoilbmfdhfaaGreat
set_option maxHeartbeats 8000000
set_option maxRecDepth 100000
open Go.ChangeShapes Go.WideShapes Go.ChangeAt Go.RowKit
set_option linter.unusedVariables false
theorem Iow.freshH {w w':UK} {v:UL} {xs:List Int} (h:Iow w.heap.size w' v xs):DU w w' v:=by
 intro k hk;rcases h.2 with⟨h',_⟩|⟨g,c,cur,h',hb,hh,_⟩
 ·rw[h'] at hk;rcases hk with⟨a,ha,_⟩|⟨cs,hc,_⟩
  ·cases ha
  ·cases hc
 ·rw[h'] at hk;rcases hk with⟨a,ha,rfl⟩|⟨cs,hc,_⟩
  ·cases ha;exact⟨hb,(AQ.1 hh).1⟩
  ·cases hc
def Sg (lo:Nat) (gn tl:Int) (D U:List Int) (w:UK) (v:UL):Prop:=∃ aD nD cD aU nU cU,v=UN #[UE UG gn,UE UG tl,UD aD nD cD,UD aU nU cU]/\Iow lo w (UD aD nD cD) D/\Iow lo w (UD aU nU cU) U/\Ej aD aU
theorem Sg.below {lo:Nat} {gn tl:Int} {D U:List Int} {w w':UK} {v:UL} (h:Sg lo gn tl D U w v) (b:Below w.heap.size w w'):Sg lo gn tl D U w' v:=by
 obtain⟨aD,nD,cD,aU,nU,cU,e,h1,h2,h3⟩:=h;exact⟨aD,nD,cD,aU,nU,cU,e,h1.below b,h2.below b,h3⟩
def Qy (lo:Nat) (w:UK) (v:UL):Prop:=∃ q,v=UM (UI ⟨q,0,UJ⟩)/\lo<=q/\w.heap[q]?=UI (UP Cj 30 (0,0))
theorem Qy.below {lo:Nat} {w w':UK} {v:UL} (h:Qy lo w v) (b:Below w.heap.size w w'):Qy lo w' v:=by
 obtain⟨q,e,h1,h2⟩:=h;exact⟨q,e,h1,by rw[b.block q (AQ.1 h2).1];exact h2⟩
structure Gk (w wr:UK):Prop where
 below:Below w.heap.size w wr
 box:wr.heap[w.heap.size]?=UI (UP Ce 63 (0,0))
theorem Gk.lt {w wr:UK} (h:Gk w wr):w.heap.size<wr.heap.size:=(AQ.1 h.box).1
theorem Gk.call {w wr w':UK} (h:Gk w wr) (b:Below wr.heap.size wr w'):Gk w w':=⟨h.below.trans (b.mono (Nat.le_of_lt h.lt)),by rw[b.block _ h.lt];exact h.box⟩
theorem Gk.start (w:UK):Gk w (w.alloc (UP Ce 63)):=⟨Cv w _,AV w _⟩
theorem FV {w w':UK} {g lo:Nat} {t:TypeId} {zs:List Int} (h:DP w g t zs) (b:Below lo w w') (hl:g<lo):DP w' g t zs:=by unfold DP;rw[b.block g hl];exact h
def Tl (p:Nat) (W:UK) (gn tl:Int) (D U:List Int) (u:Nat->UL) (w:UK):Prop:=
 ∃ G aD nD cD aU nU cU,u p=UM (UI ⟨G,0,UJ⟩)/\W.heap.size<=G/\w.heap[G]?=UI (UP #[UE UG gn,UE UG tl,UD aD nD cD,UD aU nU cU] 30 (0,0))/\Iow W.heap.size w (UD aD nD cD) D/\Iow W.heap.size w (UD aU nU cU) U/\Ej aD aU/\Below W.heap.size W w
theorem PK (gn tl:Int) (aD aU:Option Addr) (nD cD nU cU:Nat):(#[UE UG gn,UE UG tl,UD aD nD cD,UD aU nU cU]:Array UL).all (λx=>x.oneCell')=true:=by simp[Value.oneCell']
theorem Er (b:Bool) (gn tl:Int) (aD aU:Option Addr) (nD cD nU cU:Nat):(#[UF b,UE UG gn,UE UG tl,UD aD nD cD,UD aU nU cU]:Array UL).all (λx=>x.oneCell')=true:=by simp[Value.oneCell']
theorem PL (g:Nat) (zs:List Int) (w:UK) (hr:DP w g 124 zs) (hl:zs.length=128) (hz:Cu zs) (h16:zs.getD 6 0<=16) :
  Calls Tryz.prog 78 #[UM (UI ⟨g,0,UJ⟩)] w λe w'=>∃ v,e=UQ v/\Rt w.heap.size w' v (Fh zs)/\Below w.heap.size w w':=by
 have HB1:AP (Gk w (w.alloc (UP Ce 63))):=Gk.start w;have HR:AP (DP w g 124 zs/\Cu zs):=⟨hr,hz⟩
 have HLZ:AP (zs.length=128):=hl;have HN16:AP (zs.getD 6 0<=16):=h16;have c6:(w.alloc (UP Ce 63)).cell? ⟨g,6,UJ⟩=UI (UE UH (zs.getD 6 0)):=by rw[(Cv w _).cell (p:=⟨g,6,UJ⟩) hr.lt];exact hr.cell 6 AK
 have hc6:¬ (zs.getD 6 0>16):=AK
 have HSN:AP ((Tryz.prog.info? 30).map (·.size)=UI 4):=by show _=_;kernel_rfl
 have HSR:AP ((Tryz.prog.info? 63).map (·.size)=UI 5):=by show _=_;kernel_rfl
 have C0:=λww (b:Below w.heap.size w ww)=>K8 g 124 0 zs ww (FV hr b hr.lt) hz hl AL AL
 have C8:=λww (b:Below w.heap.size w ww)=>K8 g 124 8 zs ww (FV hr b hr.lt) hz hl AL AL
 have CD:=λww (b:Below w.heap.size w ww)=>L2 g zs ww (FV hr b hr.lt) hl hz h16
 have CU:=λww (b:Below w.heap.size w ww)=>PH g zs ww (FV hr b hr.lt) hl hz
 have HUU:AP (D8 (DD zs 0)/\D8 (DD zs 8)):=⟨Gi zs hz 0,Gi zs hz 8⟩
 have HBD:AP ((Fp zs (La zs)).length<=256/\(Lz zs).length<=256):=⟨by rw[Ii];unfold La;omega,Fu _ _⟩
 rw[show(0:Int).toNat=0 from rfl] at C0;rw[show(8:Int).toNat=8 from rfl] at C8;obtain⟨gn,hgn⟩:∃ gn,DD zs 0=gn:=⟨_,rfl⟩
 obtain⟨tl,htl⟩:∃ tl,DD zs 8=tl:=⟨_,rfl⟩
 obtain⟨D,hD⟩:∃ D,Fp zs (La zs)=D:=⟨_,rfl⟩
 obtain⟨U,hU⟩:∃ U,Lz zs=U:=⟨_,rfl⟩
 rw[hgn] at C0 HUU;rw[htl] at C8 HUU;rw[hD] at CD HBD;rw[hU] at CU HBD;have HGT:AP (DD zs 0=gn/\DD zs 8=tl/\Fp zs (La zs)=D/\Lz zs=U):=⟨hgn,htl,hD,hU⟩
 have HC0:=DQ C0;have HC8:=DQ C8;have HCD:=DQ CD;have HCU:=DQ CU;clear hr hl hz h16 hgn htl hD hU C0 C8 CD CU;generalize zs.getD 6 0=z6 at c6 hc6;go_enter Tryz.func78,Tryz.ntmps78;go_wp2_with fail;clear c6 hc6;generalize (w.alloc (UP Ce 63))=w1 at *;refine Ae AN ?_;refine DF 14 (λ_ a b=>Below a.heap.size a b) (frame:=(λ(a b c d e f g h i j k l m n o p q r s u v w:UL)=>λ(t:Nat->UL)=>({ tmps:=List.toArray [a,b,c,t 13,d,e,f,g,h,i,j,t 0,t 1,t 2,t 3,t 4,t 5,t 6,t 7,t 8,t 9,t 10,t 11,t 12,k,l,m,n,o,p,q,r,s,u,v,w],defers:=[] }:Act)) _ _ _ _ _ _ _ _ _ _ _ _ _ _ _ _ _ _ _ _ _ _)
  (Ext:=λL u w'=>Fo w1 [9,11] L u w') (Good:=λi L w' v=>if i=0 then v=UM (UI ⟨g,0,UJ⟩) else if i=1 then v=UM (UI ⟨g,0,UJ⟩) else if i=2 then v=UM (UI ⟨g,0,UJ⟩) else if i=3 then v=UE UG gn else if i=4 then v=UM (UI ⟨g,0,UJ⟩) else if i=5 then v=UM (UI ⟨g,0,UJ⟩) else if i=6 then v=UM (UI ⟨g,0,UJ⟩) else if i=7 then v=UE UG tl else if i=8 then v=UM (UI ⟨g,0,UJ⟩) else if i=9 then Iow w1.heap.size w' v D else if i=10 then v=UM (UI ⟨g,0,UJ⟩) else if i=11 then Iow w1.heap.size w' v U else if i=12 then Sg w1.heap.size gn tl D U w' v else if i=13 then Qy w1.heap.size w' v else True) (Fin:=Tl 13 w1 gn tl D U) rfl AN ?hstab AN ?hop ?hend ?hdone _ _ ((λ(x0 x1 x2 x3 x4 x5 x6 x7 x8 x9 x10 x11 x12 x13:UL)=>λ(i:Nat)=>if i=0 then x0 else if i=1 then x1 else if i=2 then x2 else if i=3 then x3 else if i=4 then x4 else if i=5 then x5 else if i=6 then x6 else if i=7 then x7 else if i=8 then x8 else if i=9 then x9 else if i=10 then x10 else if i=11 then x11 else if i=12 then x12 else if i=13 then x13 else undef) _ _ _ _ _ _ _ _ _ _ _ _ _ _) _ AM ?none ?ext AM
 case none=>exact λ_=>FJ
 case ext=>exact Fo.start w1 [9,11] _ _ (λ_=>FJ) ⟨rfl,rfl,rfl,AY _,λ_ _=>rfl⟩
 case hstab=>
  intro j L w9 w' i v _ hM _ _ h;by_cases h9:j=9
  ·subst h9;simp at h |-;exact h.below hM
  by_cases h11:j=11
  ·subst h11;simp at h |-;exact h.below hM
  by_cases h12:j=12
  ·subst h12;simp at h |-;exact h.below hM
  by_cases h13:j=13
  ·subst h13;simp at h |-;exact h.below hM
  simp only[if_neg h9,if_neg h11,if_neg h12,if_neg h13] at h |-;exact h
 case hop=>
  intro i o L t w' hi ho hLi hx hdep K hK;obtain rfl|rfl|rfl|rfl|rfl|rfl|rfl|rfl|rfl|rfl|rfl|rfl|rfl|rfl:i=0\/i=1\/i=2\/i=3\/i=4\/i=5\/i=6\/i=7\/i=8\/i=9\/i=10\/i=11\/i=12\/i=13:=AK
  all_goals(simp at ho;subst ho)
  ·clear hdep;have hK':=hK w' (UM (UI ⟨g,0,UJ⟩)) AM (hx.step 0 _ Cs C7) Cs;clear hK;rw[AR AO];go_simp;simpa[Cr] using hK'
  ·have d0:t 0=UM (UI ⟨g,0,UJ⟩):=by simpa using(hdep ⟨0,UR⟩ AM rfl).2
   clear hdep;have hK':=hK w' (UM (UI ⟨g,0,UJ⟩)) AM (hx.step 1 _ Cs C7) Cs;clear hK;rw[AR AO];go_simp;simpa[Cr,d0] using hK'
  ·have d1:t 1=UM (UI ⟨g,0,UJ⟩):=by simpa using(hdep ⟨1,UR⟩ AM rfl).2
   clear hdep;have hK':=hK w' (UM (UI ⟨g,0,UJ⟩)) AM (hx.step 2 _ Cs C7) Cs;clear hK;rw[AR AO];go_simp;simpa[Cr,d1] using hK'
  ·have d2:t 2=UM (UI ⟨g,0,UJ⟩):=by simpa using(hdep ⟨2,UR⟩ AM rfl).2
   clear hdep;have bw:Below w.heap.size w w':=HB1.o.below.trans (hx.below.mono HB1.o.below.size);have A:=HC0.o w' bw;have hK':∀ ww,Below w'.heap.size w' ww->K _ ww:=λww hb=>hK ww (UE UG gn) AM (hx.step 3 _ hb C7) hb
   clear hK;rw[AR AO];go_simp;try simp only[d2]
   refine A.mono ?_;rintro e w9 ⟨rfl,hb9⟩;have hK2:=hK' w9 hb9;clear hK' A hb9;go_simp;simpa[Cr,d2] using hK2
  ·clear hdep;have hK':=hK w' (UM (UI ⟨g,0,UJ⟩)) AM (hx.step 4 _ Cs C7) Cs;clear hK;rw[AR AO];go_simp;simpa[Cr] using hK'
  ·have d4:t 4=UM (UI ⟨g,0,UJ⟩):=by simpa using(hdep ⟨4,UR⟩ AM rfl).2
   clear hdep;have hK':=hK w' (UM (UI ⟨g,0,UJ⟩)) AM (hx.step 5 _ Cs C7) Cs;clear hK;rw[AR AO];go_simp;simpa[Cr,d4] using hK'
  ·have d5:t 5=UM (UI ⟨g,0,UJ⟩):=by simpa using(hdep ⟨5,UR⟩ AM rfl).2
   clear hdep;have hK':=hK w' (UM (UI ⟨g,0,UJ⟩)) AM (hx.step 6 _ Cs C7) Cs;clear hK;rw[AR AO];go_simp;simpa[Cr,d5] using hK'
  ·have d6:t 6=UM (UI ⟨g,0,UJ⟩):=by simpa using(hdep ⟨6,UR⟩ AM rfl).2
   clear hdep;have bw:Below w.heap.size w w':=HB1.o.below.trans (hx.below.mono HB1.o.below.size);have A:=HC8.o w' bw;have hK':∀ ww,Below w'.heap.size w' ww->K _ ww:=λww hb=>hK ww (UE UG tl) AM (hx.step 7 _ hb C7) hb
   clear hK;rw[AR AO];go_simp;try simp only[d6]
   refine A.mono ?_;rintro e w9 ⟨rfl,hb9⟩;have hK2:=hK' w9 hb9;clear hK' A hb9;go_simp;simpa[Cr,d6] using hK2
  ·clear hdep;have hK':=hK w' (UM (UI ⟨g,0,UJ⟩)) AM (hx.step 8 _ Cs C7) Cs;clear hK;rw[AR AO];go_simp;simpa[Cr] using hK'
  ·have d8:t 8=UM (UI ⟨g,0,UJ⟩):=by simpa using(hdep ⟨8,UR⟩ AM rfl).2
   clear hdep;have bw:Below w.heap.size w w':=HB1.o.below.trans (hx.below.mono HB1.o.below.size);have hszw:w1.heap.size<=w'.heap.size:=hx.below.size;have A:=HCD.o w' bw;have hK':∀ ww v,Iow w1.heap.size ww v D->DU w' ww v->Below w'.heap.size w' ww->K _ ww:=λww v hv hf hb=>hK ww v (by simpa using hv) (hx.step 9 v hb (λ_=>hf)) hb
   clear hK;rw[AR AO];go_simp;try simp only[d8]
   refine A.mono ?_;rintro e w9 ⟨v9,rfl,hio,hb9⟩;have hK2:=hK' w9 v9 (Iow.mono hio hszw) hio.freshH hb9;clear hK' A hio hb9;go_simp;simpa[Cr,d8] using hK2
  ·clear hdep;have hK':=hK w' (UM (UI ⟨g,0,UJ⟩)) AM (hx.step 10 _ Cs C7) Cs;clear hK;rw[AR AO];go_simp;simpa[Cr] using hK'
  ·have d10:t 10=UM (UI ⟨g,0,UJ⟩):=by simpa using(hdep ⟨10,UR⟩ AM rfl).2
   clear hdep;have bw:Below w.heap.size w w':=HB1.o.below.trans (hx.below.mono HB1.o.below.size);have hszw:w1.heap.size<=w'.heap.size:=hx.below.size;have A:=HCU.o w' bw;have hK':∀ ww v,Iow w1.heap.size ww v U->DU w' ww v->Below w'.heap.size w' ww->K _ ww:=λww v hv hf hb=>hK ww v (by simpa using hv) (hx.step 11 v hb (λ_=>hf)) hb
   clear hK;rw[AR AO];go_simp;try simp only[d10]
   refine A.mono ?_;rintro e w9 ⟨v9,rfl,hio,hb9⟩;have hK2:=hK' w9 v9 (Iow.mono hio hszw) hio.freshH hb9;clear hK' A hio hb9;go_simp;simpa[Cr,d10] using hK2
  ·have d3:t 3=UE UG gn:=by simpa using(hdep ⟨3,UR⟩ AM rfl).2
   have d7:t 7=UE UG tl:=by simpa using(hdep ⟨7,UR⟩ AM rfl).2
   have l9:L 9=true:=(hdep ⟨9,UR⟩ AM rfl).1;have f9:Iow w1.heap.size w' (t 9) D:=by simpa using(hdep ⟨9,UR⟩ AM rfl).2
   have l11:L 11=true:=(hdep ⟨11,UR⟩ AM rfl).1;have f11:Iow w1.heap.size w' (t 11) U:=by simpa using(hdep ⟨11,UR⟩ AM rfl).2
   clear hdep;obtain⟨aD,nD,cD,eD⟩:=f9.form;obtain⟨aU,nU,cU,eU⟩:=f11.form;have hap:Ej aD aU:=λx y hx1 hy1 hb=>by
    have:=hx.ap 9 AL 11 AL AL l9 l11;rw[eD,eU] at this;exact this x.block (.inl ⟨x,hx1,rfl⟩) (.inl ⟨y,hy1,hb.symm⟩)
   rw[eD] at f9;rw[eU] at f11;have hsv:Sg w1.heap.size gn tl D U w' (UN #[UE UG gn,UE UG tl,UD aD nD cD,UD aU nU cU]):=⟨aD,nD,cD,aU,nU,cU,rfl,f9,f11,hap⟩
   have hK':=hK w' (UN #[UE UG gn,UE UG tl,UD aD nD cD,UD aU nU cU]) (by simpa using hsv) (hx.step 12 _ Cs C7) Cs;clear hK f9 f11 hap hsv;rw[AR AO];go_simp;simpa[Cr,d3,d7,eD,eU] using hK'
  ·clear hdep;have hsz:w1.heap.size<=w'.heap.size:=hx.below.size;have bb:Below w'.heap.size w' (w'.alloc (UP Cj 30)):=Cs.alloc Cw _;have hnw:Qy w1.heap.size (w'.alloc (UP Cj 30)) (UM (UI ⟨w'.heap.size,0,UJ⟩)):=⟨w'.heap.size,rfl,hsz,AV w' _⟩
   have hK':=hK (w'.alloc (UP Cj 30)) (UM (UI ⟨w'.heap.size,0,UJ⟩)) (by simpa using hnw) (hx.step 13 _ bb C7) bb;clear hK bb hnw;rw[AR AO];go_simp;simpa[Cr] using hK'
 case hend=>
  intro o L t w' ho hx hg K hK;simp at ho;subst ho;have f12:Sg w1.heap.size gn tl D U w' (t 12):=by simpa using(hg 12 AL).2
  have f13:Qy w1.heap.size w' (t 13):=by simpa using(hg 13 AL).2
  clear hg;obtain⟨aD,nD,cD,aU,nU,cU,e12,i1,i2,hap⟩:=f12;obtain⟨q,e13,hq,hbx⟩:=f13;have hTT:(30:TypeId)≠2:=AL
  have hK':∀ ww,Wr q w' ww->ww.heap[q]?=UI (UP #[UE UG gn,UE UG tl,UD aD nD cD,UD aU nU cU] 30 (0,0))->K _ ww:=λww hw hr=>hK ww undef ⟨q,aD,nD,cD,aU,nU,cU,by simp[Cr];exact e13,hq,hr,i1.keepN hbx hTT hw,i2.keepN hbx hTT hw,hap,hx.below.trans (hw.below hq)⟩
  clear hK i1 i2 hap hTT;rw[AR AO];refine A8 30 (UT 3) (UT 23) rfl q #[UE UG gn,UE UG tl,UD aD nD cD,UD aU nU cU] e13 e12 30 _ hbx HSN.o rfl (PK _ _ _ _ _ _ _ _) ?_;have hK2:=hK' _ (Wr.setRow _ _ _) (AB hbx);clear hK';simpa[Cr,Act.put] using hK2
 case hdone=>
  intro t w2 hf;obtain⟨Q,aD,nD,cD,aU,nU,cU,e13,hQ,hbx,i1,i2,hap,hbw⟩:=hf;obtain⟨s1,n1,l1⟩:=i1.sat;obtain⟨s2,n2,l2⟩:=i2.sat;have HAT:AP (At .i64 w2 aD D/\At .i64 w2 aU U/\D.length=nD/\U.length=nU):=⟨s1.at_,s2.at_,n1,n2⟩
  have hnD:nD<=1048576:=AG HBD.o.1
  have hnU:nU<=1048576:=AG HBD.o.2
  have HB2:AP (Gk w w2):=HB1.o.call hbw;have HR2:AP (DP w2 g 124 zs):=FV HR.o.1 HB2.o.below HR.o.1.lt;have HGL:AP (g<w2.heap.size):=DP.lt HR2.o;have HQ2:AP (w2.heap[Q]?=UI (UP #[UE UG gn,UE UG tl,UD aD nD cD,UD aU nU cU] 30 (0,0))):=hbx;have HIO:AP (Iow w1.heap.size w2 (UD aD nD cD) D/\Iow w1.heap.size w2 (UD aU nU cU) U/\Ej aD aU):=⟨i1,i2,hap⟩
  have HCL:AP (∀ w',Below w2.heap.size w2 w'->Q<w'.heap.size/\w'.cell? ⟨Q,0,UJ⟩=UI (UE UG gn)/\w'.cell? ⟨Q,1,UJ⟩=UI (UE UG tl)/\w'.cell? ⟨Q,2,UJ⟩=UI (UD aD nD cD)/\w'.cell? ⟨Q,3,UJ⟩=UI (UD aU nU cU)):=λw' b=>by
   have hb':w'.heap[Q]?=UI (UP #[UE UG gn,UE UG tl,UD aD nD cD,UD aU nU cU] 30 (0,0)):=by rw[b.block Q (AQ.1 hbx).1];exact hbx
   exact⟨(AQ.1 hb').1,AA hb' _,AA hb' _,AA hb' _,AA hb' _⟩
  have HCV:AP (∀ w',Below w2.heap.size w2 w'->Calls Tryz.prog 130 #[UM (UI ⟨Q,0,UJ⟩)] w' λe w''=>e=UQ (UF (Ih gn tl D U))/\Below w'.heap.size w' w''):=λw' b=>by
   obtain⟨q0,q1,q2,q3,q4⟩:=HCL.o w' b;exact Qj Q gn tl aD aU nD cD nU cU D U w' q0 q1 q2 q3 q4 HAT.o.2.2.1 HAT.o.2.2.2 hnD hnU (HAT.o.1.below b) (HAT.o.2.1.below b)
  have HSS:AP ((Tryz.prog.info? 124).map (·.size)=UI (zs.map (Value.int UH)).toArray.size):=by show _=_;rw[BX,BI,HLZ.o];kernel_rfl
  simp only[e13];clear e13 hbx i1 i2 hap hbw s1 s2 n1 n2 l1 l2 hQ;go_wp2_with fail;by_cases hs:Jb gn tl D U
  ·have HCE:AP (∀ w',Below w2.heap.size w2 w'->Calls Tryz.prog 106 #[UM (UI ⟨Q,0,UJ⟩)] w' λe w''=>e=UQ (UN ((Gz gn tl D U).map (Value.int UH)).toArray)/\Below w'.heap.size w' w''):=λw' b=>by
    obtain⟨q0,q1,q2,q3,q4⟩:=HCL.o w' b;exact Kz Q gn tl aD aU nD cD nU cU D U w' q0 q1 q2 q3 q4 HAT.o.2.2.1 HAT.o.2.2.2 hnD hnU (HAT.o.1.below b) (HAT.o.2.1.below b) HUU.o.1 HUU.o.2 hs
   have HEE:AP (L0 zs=Gz gn tl D U):=by
    show _=_
    unfold L0;rw[HGT.o.1,HGT.o.2.1,HGT.o.2.2.1,HGT.o.2.2.2];unfold O5;rw[Fi hs];rfl
   have HLN:AP ((Gz gn tl D U).length=128/\zs.length=128):=⟨Gr,HLZ.o⟩
   rw[Fi hs] at HCV;clear hs;refine Ae AN ?_;refine C3 (λ_ a b=>Below a.heap.size a b) (frame:=(λ(a b c d e f g h i j k l m n o p q r s u v w x y z A B:UL)=>λ(t:Nat->UL)=>({ tmps:=List.toArray [a,b,c,d,e,f,g,h,i,j,k,l,m,n,o,p,q,r,s,u,v,w,x,y,t 0,t 1,t 2,t 3,t 4,t 5,t 6,t 7,t 8,z,A,B],defers:=[] }:Act)) _ _ _ _ _ _ _ _ _ _ _ _ _ _ _ _ _ _ _ _ _ _ _ _ _ _ _)
    (Ext:=λL u w'=>IV w2 [] L u w') (Good:=λi L w' v=>if i=0 then v=UF true else if i=1 then v=UF false else if i=2 then v=UF false else if i=3 then v=UN ((Gz gn tl D U).map (Value.int UH)).toArray else if i=4 then v=UM (UI ⟨g,0,UJ⟩) else if i=5 then v=UM (UI ⟨g,0,UJ⟩) else if i=6 then v=UN (zs.map (Value.int UH)).toArray else if i=7 then v=UF (!decide (Gz gn tl D U=zs)) else if i=8 then v=UF (!decide (Gz gn tl D U=zs)) else True) ?hstab AN ?hop ?hdone _ _ ((λ(x0 x1 x2 x3 x4 x5 x6 x7 x8:UL)=>λ(i:Nat)=>if i=0 then x0 else if i=1 then x1 else if i=2 then x2 else if i=3 then x3 else if i=4 then x4 else if i=5 then x5 else if i=6 then x6 else if i=7 then x7 else if i=8 then x8 else undef) _ _ _ _ _ _ _ _ _) _ AM ?ext ?start AM
   case start=>intro i hi h;exact absurd h E0
   case ext=>exact(IV.start w2 [] _ _ (λ_=>FJ)).drew
   case hstab=>
    intro j L w9 w' i v hM _ _ h;exact h
   case hop=>
    intro i o L t w' ho hLi hx hdep K hK;have hi:i<9:=(AQ.1 ho).1;obtain rfl|rfl|rfl|rfl|rfl|rfl|rfl|rfl|rfl:i=0\/i=1\/i=2\/i=3\/i=4\/i=5\/i=6\/i=7\/i=8:=AK
    all_goals(simp at ho;subst ho)
    ·clear hdep;have b2:=hx.below;have A:=HCV.o w' b2;have hK':∀ ww,Below w'.heap.size w' ww->K _ ww:=λww hb=>hK ww (UF true) AM (hx.step 0 _ hb C7) hb
     clear hK;rw[AR AO];go_simp;try simp only[]
     refine A.mono ?_;rintro e w9 ⟨rfl,hb9⟩;have hK2:=hK' w9 hb9;clear hK' A hb9;go_simp;simpa[Cr] using hK2
    ·have d0:t 0=UF true:=by simpa using(hdep ⟨0,UR⟩ AM rfl).2
     clear hdep;have hK':=hK w' (UF false) AM (hx.step 1 _ Cs C7) Cs;clear hK;rw[AR AO];go_simp;simpa[Cr,d0] using hK'
    ·have d1:t 1=UF false:=by simpa using(hdep ⟨1,UR⟩ AM rfl).2
     clear hdep;have hK':=hK w' (UF false) AM (hx.step 2 _ Cs C7) Cs;clear hK;rw[AR AO];go_simp;simpa[Cr,d1] using hK'
    ·have d2:t 2=UF false:=by simpa using(hdep ⟨2,.guard⟩ AM rfl).2
     clear hdep;have b2:=hx.below;have A:=HCE.o w' b2;have hK':∀ ww,Below w'.heap.size w' ww->K _ ww:=λww hb=>hK ww (UN ((Gz gn tl D U).map (Value.int UH)).toArray) AM (hx.step 3 _ hb C7) hb
     clear hK;rw[AR (by simp[Region.wanted,yielded,d2])];go_simp;refine A.mono ?_;rintro e w9 ⟨rfl,hb9⟩;have hK2:=hK' w9 hb9;clear hK' A hb9;go_simp;simpa[Cr,d2] using hK2
    ·have d2:t 2=UF false:=by simpa using(hdep ⟨2,.guard⟩ AM rfl).2
     clear hdep;have hK':=hK w' (UM (UI ⟨g,0,UJ⟩)) AM (hx.step 4 _ Cs C7) Cs;clear hK;rw[AR (by simp[Region.wanted,yielded,d2])];go_simp;simpa[Cr,d2] using hK'
    ·have d4:t 4=UM (UI ⟨g,0,UJ⟩):=by simpa using(hdep ⟨4,UR⟩ AM rfl).2
     have d2:t 2=UF false:=by simpa using(hdep ⟨2,.guard⟩ AM rfl).2
     clear hdep;have hK':=hK w' (UM (UI ⟨g,0,UJ⟩)) AM (hx.step 5 _ Cs C7) Cs;clear hK;rw[AR (by simp[Region.wanted,yielded,d2])];go_simp;simpa[Cr,d2,d4] using hK'
    ·have d5:t 5=UM (UI ⟨g,0,UJ⟩):=by simpa using(hdep ⟨5,UR⟩ AM rfl).2
     have d2:t 2=UF false:=by simpa using(hdep ⟨2,.guard⟩ AM rfl).2
     clear hdep;have hrw:DP w' g 124 zs:=FV HR2.o hx.below HGL.o;have hK':=hK w' (UN (zs.map (Value.int UH)).toArray) AM (hx.step 6 _ Cs C7) Cs;clear hK;rw[AR (by simp[Region.wanted,yielded,d2])];refine BL 124 (UT 29) rfl g d5 124 _ (0,0) _ hrw Tryz.underlying124 rfl HSS.o ?_;go_simp;simpa[Cr,d2,d5] using hK'
    ·have d3:t 3=UN ((Gz gn tl D U).map (Value.int UH)).toArray:=by simpa using(hdep ⟨3,UR⟩ AM rfl).2
     have d6:t 6=UN (zs.map (Value.int UH)).toArray:=by simpa using(hdep ⟨6,UR⟩ AM rfl).2
     have d2:t 2=UF false:=by simpa using(hdep ⟨2,.guard⟩ AM rfl).2
     clear hdep;have hne:(Op.equalIn 10000 124 (UN ((Gz gn tl D U).map (Value.int UH)).toArray) (UN (zs.map (Value.int UH)).toArray)).run Tryz.prog w'=.ok (decide (Gz gn tl D U=zs)) w':=L3 w' 9997 (Gz gn tl D U) zs HLN.o.1 HLN.o.2;have hK':=hK w' (UF (!decide (Gz gn tl D U=zs))) AM (hx.step 7 _ Cs C7) Cs;clear hK;rw[AR (by simp[Region.wanted,yielded,d2])];go_simp;simpa[Cr,d2,d3,d6,hne] using hK'
    ·have d2:t 2=UF false:=by simpa using(hdep ⟨2,UR⟩ AM rfl).2
     have d7:t 7=UF (!decide (Gz gn tl D U=zs)):=by simpa using(hdep ⟨7,UR⟩ AM rfl).2
     clear hdep;have hK':=hK w' (UF (!decide (Gz gn tl D U=zs))) AM (hx.step 8 _ Cs C7) Cs;clear hK;rw[AR AO];go_simp;simpa[Cr,d2,d7] using hK'
   case hdone=>
    intro L t w3 hx hg;have e8:t 8=UF (!decide (Gz gn tl D U=zs)):=by simpa using hg 8 AL
    clear hg;by_cases heq:Gz gn tl D U=zs
    ·have hde:decide (Gz gn tl D U=zs)=true:=by simpa using heq
     rw[hde] at e8;simp only[e8,Bool.not_true];have HBX:AP (Gk w w3):=HB2.o.call hx.below;have HLI:AP (Iow w1.heap.size w3 (UD aD nD cD) D/\Iow w1.heap.size w3 (UD aU nU cU) U):=⟨HIO.o.1.below hx.below,HIO.o.2.1.below hx.below⟩
     have HQ:AP (w3.heap[Q]?=UI (UP #[UE UG gn,UE UG tl,UD aD nD cD,UD aU nU cU] 30 (0,0))):=by show _=_;rw[hx.below.block Q (AQ.1 HQ2.o).1];exact HQ2.o
     have HEQ:=DQ heq;clear hx e8 hde heq;go_wp2_with (first
      |(refine Ab rfl 30 (UT 3) rfl Q rfl 30 _ (0,0) _ HQ.o Tryz.underlying30 rfl HSN.o ?_)
      |(refine AC 63 (UT 2) (UT 35) w.heap.size #[UF true,UE UG gn,UE UG tl,UD aD nD cD,UD aU nU cU] 63 HBX.o.box HSR.o rfl (Er _ _ _ _ _ _ _ _ _) ?_)
      |fail)
     (try simp only[Exit.inBlock,Exit.then])
     refine AZ (v:=UN #[UF true,UE UG gn,UE UG tl,UD aD nD cD,UD aU nU cU]) (AW rfl _ _ w.heap.size 63 _ (0,0) _ rfl (AB HBX.o.box) Tryz.underlying63 rfl HSR.o) rfl ⟨_,rfl,?_,HBX.o.below.trans ((Wr.setRow _ _ _).below Cw)⟩;rw[J3 HLZ.o HN16.o (by rw[HEE.o];exact HEQ.o)];have hw:=Wr.setRow w.heap.size w3 #[UF true,UE UG gn,UE UG tl,UD aD nD cD,UD aU nU cU];have h1:=HLI.o.1.wr hw HB1.o.lt;have h2:=HLI.o.2.wr hw HB1.o.lt;exact⟨aD,nD,cD,aU,nU,cU,by rw[K7,HGT.o.1,HGT.o.2.1],by
      have:=S3.of_io (Iow.mono h1 (Nat.le_of_lt HB1.o.lt)) (Iow.mono h2 (Nat.le_of_lt HB1.o.lt)) HIO.o.2.2;rw[K7];show S3 _ _ _ _ _ _ _ _ (Fp zs (La zs)) (Lz zs) _
      rw[HGT.o.2.2.1,HGT.o.2.2.2];exact this⟩
    ·have hde:decide (Gz gn tl D U=zs)=false:=by simpa using heq
     have HNE:AP (L0 zs≠zs):=by show _≠_;rw[HEE.o];exact heq
     rw[hde] at e8;simp only[Bool.not_false] at e8;simp only[e8];have HBX:AP (Gk w w3):=HB2.o.call hx.below;clear hx e8 hde heq;go_wp2_with (first
      |(refine AC 63 (UT 2) (UT 33) w.heap.size Ce 63 HBX.o.box HSR.o rfl (Er _ _ _ _ _ _ _ _ _) ?_)
      |fail)
     (try simp only[Exit.inBlock,Exit.then])
     refine AZ (v:=UN Ce) (AW rfl _ _ w.heap.size 63 _ (0,0) _ rfl (AB HBX.o.box) Tryz.underlying63 rfl HSR.o) rfl ⟨_,rfl,?_,HBX.o.below.trans ((Wr.setRow _ _ _).below Cw)⟩;rw[L1 HNE.o];exact Rt.no _ _
  ·have HE0:AP (L0 zs≠zs):=by
    show _≠_
    unfold L0;rw[HGT.o.1,HGT.o.2.1,HGT.o.2.2.1,HGT.o.2.2.2];unfold O5;rw[Eo hs];intro h;have:=HLZ.o;rw[<-h] at this;simp at this
   rw[Eo hs] at HCV;clear hs;refine Ae AN ?_;refine C3 (λ_ a b=>Below a.heap.size a b) (frame:=(λ(a b c d e f g h i j k l m n o p q r s u v w x y z A B:UL)=>λ(t:Nat->UL)=>({ tmps:=List.toArray [a,b,c,d,e,f,g,h,i,j,k,l,m,n,o,p,q,r,s,u,v,w,x,y,t 0,t 1,t 2,t 3,t 4,t 5,t 6,t 7,t 8,z,A,B],defers:=[] }:Act)) _ _ _ _ _ _ _ _ _ _ _ _ _ _ _ _ _ _ _ _ _ _ _ _ _ _ _)
    (Ext:=λL u w'=>IV w2 [] L u w') (Good:=λi L w' v=>if i=0 then v=UF false else if i=1 then v=UF true else if i=2 then v=UF true else if i=3 then True else if i=4 then True else if i=5 then True else if i=6 then True else if i=7 then True else if i=8 then v=UF true else True) ?hstab AN ?hop ?hdone _ _ ((λ(x0 x1 x2 x3 x4 x5 x6 x7 x8:UL)=>λ(i:Nat)=>if i=0 then x0 else if i=1 then x1 else if i=2 then x2 else if i=3 then x3 else if i=4 then x4 else if i=5 then x5 else if i=6 then x6 else if i=7 then x7 else if i=8 then x8 else undef) _ _ _ _ _ _ _ _ _) _ AM ?ext ?start AM
   case start=>intro i hi h;exact absurd h E0
   case ext=>exact(IV.start w2 [] _ _ (λ_=>FJ)).drew
   case hstab=>
    intro j L w9 w' i v hM _ _ h;exact h
   case hop=>
    intro i o L t w' ho hLi hx hdep K hK;have hi:i<9:=(AQ.1 ho).1;obtain rfl|rfl|rfl|rfl|rfl|rfl|rfl|rfl|rfl:i=0\/i=1\/i=2\/i=3\/i=4\/i=5\/i=6\/i=7\/i=8:=AK
    all_goals(simp at ho;subst ho)
    ·clear hdep;have b2:=hx.below;have A:=HCV.o w' b2;have hK':∀ ww,Below w'.heap.size w' ww->K _ ww:=λww hb=>hK ww (UF false) AM (hx.step 0 _ hb C7) hb
     clear hK;rw[AR AO];go_simp;try simp only[]
     refine A.mono ?_;rintro e w9 ⟨rfl,hb9⟩;have hK2:=hK' w9 hb9;clear hK' A hb9;go_simp;simpa[Cr] using hK2
    ·have d0:t 0=UF false:=by simpa using(hdep ⟨0,UR⟩ AM rfl).2
     clear hdep;have hK':=hK w' (UF true) AM (hx.step 1 _ Cs C7) Cs;clear hK;rw[AR AO];go_simp;simpa[Cr,d0] using hK'
    ·have d1:t 1=UF true:=by simpa using(hdep ⟨1,UR⟩ AM rfl).2
     clear hdep;have hK':=hK w' (UF true) AM (hx.step 2 _ Cs C7) Cs;clear hK;rw[AR AO];go_simp;simpa[Cr,d1] using hK'
    ·have d2:t 2=UF true:=by simpa using(hdep ⟨2,.guard⟩ AM rfl).2
     clear hdep;have hK':=hK w' undef AM (hx.step 3 _ Cs C7) Cs;clear hK;rw[AS (by simp[Region.wanted,yielded,d2])];go_simp;simpa[Cr,d2] using hK'
    ·have d2:t 2=UF true:=by simpa using(hdep ⟨2,.guard⟩ AM rfl).2
     clear hdep;have hK':=hK w' undef AM (hx.step 4 _ Cs C7) Cs;clear hK;rw[AS (by simp[Region.wanted,yielded,d2])];go_simp;simpa[Cr,d2] using hK'
    ·have d2:t 2=UF true:=by simpa using(hdep ⟨2,.guard⟩ AM rfl).2
     clear hdep;have hK':=hK w' undef AM (hx.step 5 _ Cs C7) Cs;clear hK;rw[AS (by simp[Region.wanted,yielded,d2])];go_simp;simpa[Cr,d2] using hK'
    ·have d2:t 2=UF true:=by simpa using(hdep ⟨2,.guard⟩ AM rfl).2
     clear hdep;have hK':=hK w' undef AM (hx.step 6 _ Cs C7) Cs;clear hK;rw[AS (by simp[Region.wanted,yielded,d2])];go_simp;simpa[Cr,d2] using hK'
    ·have d2:t 2=UF true:=by simpa using(hdep ⟨2,.guard⟩ AM rfl).2
     clear hdep;have hK':=hK w' undef AM (hx.step 7 _ Cs C7) Cs;clear hK;rw[AS (by simp[Region.wanted,yielded,d2])];go_simp;simpa[Cr,d2] using hK'
    ·have d2:t 2=UF true:=by simpa using(hdep ⟨2,UR⟩ AM rfl).2
     clear hdep;have hK':=hK w' (UF true) AM (hx.step 8 _ Cs C7) Cs;clear hK;rw[AR AO];go_simp;simpa[Cr,d2] using hK'
   case hdone=>
    intro L t w3 hx hg;have e8:t 8=UF true:=by simpa using hg 8 AL
    clear hg;simp only[e8];have HBX:AP (Gk w w3):=HB2.o.call hx.below;clear hx e8;go_wp2_with (first
     |(refine AC 63 (UT 2) (UT 33) w.heap.size Ce 63 HBX.o.box HSR.o rfl (Er _ _ _ _ _ _ _ _ _) ?_)
     |fail)
    (try simp only[Exit.inBlock,Exit.then])
    refine AZ (v:=UN Ce) (AW rfl _ _ w.heap.size 63 _ (0,0) _ rfl (AB HBX.o.box) Tryz.underlying63 rfl HSR.o) rfl ⟨_,rfl,?_,HBX.o.below.trans ((Wr.setRow _ _ _).below Cw)⟩;rw[L1 HE0.o];exact Rt.no _ _
theorem PM (g:Nat) (zs:List Int) (w:UK) (hr:DP w g 124 zs) (hl:zs.length=128) (hz:Cu zs) :
  Calls Tryz.prog 78 #[UM (UI ⟨g,0,UJ⟩)] w λe w'=>∃ v,e=UQ v/\Rt w.heap.size w' v (Fh zs)/\Below w.heap.size w w':=by
 by_cases h16:zs.getD 6 0<=16
 ·exact PL g zs w hr hl hz h16
 ·have HBX:AP (Gk w (w.alloc (UP Ce 63))):=Gk.start w;have HF:AP (Fh zs=Fg):=Mb h16;have c6:(w.alloc (UP Ce 63)).cell? ⟨g,6,UJ⟩=UI (UE UH (zs.getD 6 0)):=by rw[(Cv w _).cell (p:=⟨g,6,UJ⟩) hr.lt];exact hr.cell 6 AK
  have hc6:zs.getD 6 0>16:=AK
  have HSR:AP ((Tryz.prog.info? 63).map (·.size)=UI 5):=by show _=_;kernel_rfl
  clear hr hl hz h16;generalize zs.getD 6 0=z6 at c6 hc6;go_enter Tryz.func78,Tryz.ntmps78;go_wp2_with (first
   |(refine AC 63 (UT 2) (UT 10) w.heap.size Ce 63 HBX.o.box HSR.o rfl (Er _ _ _ _ _ _ _ _ _) ?_)
   |fail)
  (try simp only[Exit.inBlock,Exit.then])
  refine AZ (v:=UN Ce) (AW rfl _ _ w.heap.size 63 _ (0,0) _ rfl (AB HBX.o.box) Tryz.underlying63 rfl HSR.o) rfl ⟨_,rfl,?_,HBX.o.below.trans ((Wr.setRow _ _ _).below Cw)⟩;rw[HF.o];exact Rt.no _ _
theorem Nd (vs:List UL):∀(k off:Nat) (cs:Array UL),off+k+vs.length<=cs.size->
  (vs.zipIdx k).foldl (λcs (p:UL×Nat)=>cs.setIfInBounds (off+p.2) p.1) cs=(cs.toList.take (off+k)++(vs++cs.toList.drop (off+k+vs.length))).toArray:=by
 induction vs with
 |nil=>intro k off cs h;simp
 |cons v vs ih=>
  intro k off cs h;simp only[List.length_cons] at h;rw[List.zipIdx_cons,List.foldl_cons,ih (k+1) off _ (by simp;omega)]
  congr 1
  have hlt:off+k<cs.toList.length:=by simp;omega
  have e:(cs.setIfInBounds (off+k) v).toList=cs.toList.set (off+k) v:=AM
  rw[e];rw[show off+(k+1)=off+k+1 by omega,BO (by simpa using hlt),List.take_set_of_le Cw,List.getElem_set_self,List.drop_set_of_lt AK];simp;rw[show off+k+1+vs.length=off+k+(vs.length+1) by omega]
theorem LC (vs:List UL) (off size:Nat) (cs:Array UL) (hs:vs.length=size) (hl:off+size<=cs.size) :
  (vs.toArray.zipIdx.foldl (λcs (p:UL×Nat)=>cs.setIfInBounds (off+p.2) p.1) cs)=(cs.toList.take off++(vs++cs.toList.drop (off+size))).toArray:=by
 have:=Nd vs 0 off cs AK;rw[Nat.add_zero,hs] at this;rw[<-this];simp
theorem Tryz.infoSL:(Tryz.prog.info? 124).map (λi=>(i.zero,i.size,i.bytes))=UI (UI (UN Tryz.zeroCells124),128,128):=AN
theorem L8 (w:UK) (xs ys:List Int) (hx:xs.length=64) (hy:ys.length=64) :
  (Instr.build 124 #[(0,UN (xs.map (Value.int UH)).toArray),(1,UN (ys.map (Value.int UH)).toArray)]).run Tryz.prog w=.ok (UN ((xs++ys).map (Value.int UH)).toArray) w:=by
 obtain⟨i0,hi,hz0,hz1,hz2⟩:=Be Tryz.infoSL;have hzv:(zeroValue 124).run Tryz.prog w=.ok (UN Tryz.zeroCells124) w:=by simp[zeroValue,typeInfo,hi,hz0]
 have hf:Instr.fill (λi=>UI (i*64,64)) Tryz.zeroCells124 [(0,UN (xs.map (Value.int UH)).toArray),(1,UN (ys.map (Value.int UH)).toArray)]=UI ((xs++ys).map (Value.int UH)).toArray:=by
  have hzl:Tryz.zeroCells124.size=128:=by rw[Tu];simp
  have q0:(UN (xs.map (Value.int UH)).toArray).cells=(xs.map (Value.int UH)).toArray:=rfl;have q1:(UN (ys.map (Value.int UH)).toArray).cells=(ys.map (Value.int UH)).toArray:=rfl;have s0:(xs.map (Value.int UH)).toArray.size=64:=by simp[hx]
  have s1:(ys.map (Value.int UH)).toArray.size=64:=by simp[hy]
  have f0:=LC (xs.map (Value.int UH)) 0 64 Tryz.zeroCells124 (by simp[hx]) AK;have f1:=LC (ys.map (Value.int UH)) 64 64 ((Tryz.zeroCells124).toList.take 0++(xs.map (Value.int UH)++(Tryz.zeroCells124).toList.drop (0+64))).toArray (by simp[hy]) (by simp[hx,hzl]);unfold Instr.fill;simp only[q0,s0,Nat.zero_mul,hzl];rw[AS AL,f0];unfold Instr.fill;simp only[q1,s1,Nat.one_mul];rw[AS (by simp[hx,hzl]),f1];unfold Instr.fill
  congr 1
  simp[hx,List.drop_append,hzl]
 unfold Instr.build;simp only[Sem.run_bind,hzv,Result.andThen_ok,run_underlying Tryz.underlying124,LA];rw[show(UN Tryz.zeroCells124).cells=Tryz.zeroCells124 from rfl];simp only[hf];rfl
theorem Nf {w:UK} {o:Oper} {a:Act} {K:Act->UK->Prop} {Q:Exit->Act->UK->Prop} (x y:Operand) (ho:o.op=.build 124 #[(0,x),(1,y)]) (xs ys:List Int) (hx:xs.length=64) (hy:ys.length=64)
  (ex:a.eval x=UN (xs.map (Value.int UH)).toArray) (ey:a.eval y=UN (ys.map (Value.int UH)).toArray) (hK:K (a.put o.dst (UN ((xs++ys).map (Value.int UH)).toArray)) w):o.wp Tryz.prog a w K Q:=by
 have hr:=L8 w xs ys hx hy;unfold Oper.wp execOp;simp only[ho,Sem.run_bind,Sem.run_pure,Result.andThen_ok,List.map_toArray,List.map_cons,List.map_nil,ex,ey,hr];exact hK
theorem Cp {p:Prop} (h:p):AP p:=h
structure Md (w:UK) (g:Nat) (a x:Option Addr) (L c m cx:Nat) (f:Int) (d:Bool) (zs:List Int) (ps:List PD):Prop where
 row:w.heap[g]?=UI (UP #[UD a L c,UD x m cx,UE .i64 f,UF d] 40 (0,0))
 at_:At UH w a zs
 pat:FY w x ps
theorem Md.lt {w:UK} {g:Nat} {a x:Option Addr} {L c m cx:Nat} {f:Int} {d:Bool} {zs:List Int} {ps:List PD} (h:Md w g a x L c m cx f d zs ps):g<w.heap.size:=(AQ.1 h.row).1
theorem Md.below {w w':UK} {g:Nat} {a x:Option Addr} {L c m cx:Nat} {f:Int} {d:Bool} {zs:List Int} {ps:List PD} (h:Md w g a x L c m cx f d zs ps) (b:Below w.heap.size w w'):Md w' g a x L c m cx f d zs ps:=
 ⟨by rw[b.block g h.lt];exact h.row,h.at_.below b,h.pat.below b⟩
section
variable {w:UK} {g:Nat} {a x:Option Addr} {L c m cx:Nat} {f:Int} {d:Bool} {zs:List Int} {ps:List PD}
theorem I1 (h:Md w g a x L c m cx f d zs ps) (F:JF L c m f zs ps) :
  Calls Tryz.prog 65 #[UM (UI ⟨g,0,UJ⟩)] w λe w'=>e=UQ (UE UG ((L/64-4:Nat):Int))/\w'=w:=by
 have c0:=AA h.row 0;simp at c0;obtain⟨b1,b2,b3,b4⟩:=F.base;clear h F;go_enter Tryz.func65,Tryz.ntmps65;go_wp2
 go_ret
 refine⟨?_,rfl⟩;simp;omega
theorem PN (h:Md w g a x L c m cx f d zs ps) (F:JF L c m f zs ps) (q:Nat) (hq:q<4294967296) :
  Calls Tryz.prog 81 #[UM (UI ⟨g,0,UJ⟩),UE UG (q:Int)] w λe w'=>e=UQ (UE .i64 ((4+q%(L/64-4):Nat):Int))/\w'=w:=by
 obtain⟨b1,b2,b3,b4⟩:=F.base;have A:=Cp (I1 h F);clear h F;obtain⟨J,hJ⟩:∃ J,L/64-4=J:=⟨_,rfl⟩
 have hJ0:((J:Int) == 0)=false:=by simp;omega
 have hJ1:0<J:=AK
 have hJ2:J<=252:=AK
 rw[hJ] at A |-;clear hJ b1 b2 b3 b4;go_enter Tryz.func81,Tryz.ntmps81;go_wp2_with fail;refine A.o.mono ?_;rintro e _ ⟨rfl,rfl⟩;clear A;have e1:(q:Int)%(J:Int)=((q%J:Nat):Int):=AM
 have hlt:=Nat.mod_lt q hJ1;generalize hr:q%J=r at *;go_wp2
 go_ret
 refine⟨?_,rfl⟩;simp;exact e1.symm
theorem I2 (q:Int) (h0:0<=q) (h1:q<4294967296) (w:UK):Calls Tryz.prog 79 #[UE UG q] w λe w'=>e=UQ (UE .i64 (q%2))/\w'=w:=by
 go_enter Tryz.func79,Tryz.ntmps79;go_wp2
 go_ret
 exact⟨rfl,rfl⟩
theorem G0 {ops:Array Oper} {rest:List Oper} {o:Oper} {ac:Act} {Q:Exit->Act->UK->Prop} (hg:o.guard=UJ) (y z:Operand) (ho:o.op=.build 124 #[(0,y),(1,z)]) (xs ys:List Int) (hx:xs.length=64) (hy:ys.length=64)
  (ex:ac.eval y=UN (xs.map (Value.int UH)).toArray) (ey:ac.eval z=UN (ys.map (Value.int UH)).toArray) (hK:wpList Tryz.prog ops Q rest (ac.put o.dst (UN ((xs++ys).map (Value.int UH)).toArray)) w):wpList Tryz.prog ops Q (o::rest) ac w:=
 wpList_plain hg λK hK'=>Nf y z ho xs ys hx hy ex ey (hK' _ _ hK)
theorem Ng (h:Md w g a x L c m cx f d zs ps) (F:JF L c m f zs ps) (i:Nat) (hi:i<2) :
  Calls Tryz.prog 77 #[UM (UI ⟨g,0,UJ⟩),UE .i64 (i:Int)] w λe w'=>e=UQ (UN ((GJ zs ps i).map (Value.int UH)).toArray)/\Below w.heap.size w w':=by
 obtain⟨b1,b2,b3,b4⟩:=F.base;obtain rfl|rfl:i=0\/i=1:=AK
 ·have HL:AP ((Dw zs ps (0:Nat)).length=64/\(Dw zs ps (1:Nat)).length=64):=⟨(F.rd 0 AK).1,(F.rd 1 AK).1⟩
  have hsz:((Dw zs ps (0:Nat)++Dw zs ps (1:Nat)).map (Value.int UH)).toArray.size=128:=by rw[BX,BI,Al,HL.o.1,HL.o.2]
  have HSS:AP ((Tryz.prog.info? 124).map (·.size)=UI ((Dw zs ps (0:Nat)++Dw zs ps (1:Nat)).map (Value.int UH)).toArray.size):=by show _=_;rw[hsz];kernel_rfl
  have HEQ:AP ((Tryz.zeroCells124).size=((Dw zs ps (0:Nat)++Dw zs ps (1:Nat)).map (Value.int UH)).toArray.size):=by show _=_;rw[hsz];kernel_rfl
  have HOK:AP (((Dw zs ps (0:Nat)++Dw zs ps (1:Nat)).map (Value.int UH)).toArray.all (λx=>x.oneCell')=true):=by show _=_;simp[Value.oneCell']
  have A:=Cp (λww (b:Below w.heap.size w ww)=>Gg g a x L c m cx f 0 d zs ps ww (h.below b).row AK F.hc F.hl F.hm AK AK (h.below b).at_ (h.below b).pat (λi hi=>F.len i hi));have B:=Cp (λww (b:Below w.heap.size w ww)=>Gg g a x L c m cx f 1 d zs ps ww (h.below b).row AK F.hc F.hl F.hm AK AK (h.below b).at_ (h.below b).pat (λi hi=>F.len i hi));have HB0:AP (Below w.heap.size w (w.alloc (UP Tryz.zeroCells124 124))):=Cs.alloc Cw _;have HR0:AP ((w.alloc (UP Tryz.zeroCells124 124)).heap[w.heap.size]?=UI (UP Tryz.zeroCells124 124 (0,0))):=AV w _;have hlt0:w.heap.size<(w.alloc (UP Tryz.zeroCells124 124)).heap.size:=AM
  unfold GJ;clear h F hsz;go_enter Tryz.func77,Tryz.ntmps77;go_wp2_with fail;generalize w.alloc (UP Tryz.zeroCells124 124)=w0 at *;refine(A.o w0 HB0.o).mono ?_;rintro e w1 ⟨rfl,b1⟩;have HB1:=Cp (HB0.o.trans (b1.mono HB0.o.size));have HR1:AP (w1.heap[w.heap.size]?=UI (UP Tryz.zeroCells124 124 (0,0))):=by show _=_;rw[b1.block _ hlt0];exact HR0.o
  have hlt1:w.heap.size<w1.heap.size:=Ax hlt0 b1.size;clear A b1 HB0 HR0;go_wp2_with fail;refine(B.o w1 HB1.o).mono ?_;rintro e w2 ⟨rfl,b2⟩;have HB2:=Cp (HB1.o.trans (b2.mono HB1.o.size));have HR2:AP (w2.heap[w.heap.size]?=UI (UP Tryz.zeroCells124 124 (0,0))):=by show _=_;rw[b2.block _ hlt1];exact HR1.o
  clear B b2 HB1 HR1;go_wp2_with (first
   |(refine G0 rfl (UT 8) (UT 13) rfl (Dw zs ps (0:Nat)) (Dw zs ps (1:Nat)) HL.o.1 HL.o.2 rfl rfl ?_)
   |(refine AC 124 (UT 4) (UT 14) w.heap.size (((Dw zs ps (0:Nat)++Dw zs ps (1:Nat)).map (Value.int UH)).toArray) 124 HR2.o HSS.o HEQ.o HOK.o ?_)
   |fail)
  (try simp only[Exit.inBlock,Exit.then])
  exact AZ (v:=UN ((Dw zs ps (0:Nat)++Dw zs ps (1:Nat)).map (Value.int UH)).toArray) (AW rfl _ _ w.heap.size 124 _ (0,0) _ rfl (AB HR2.o) Tryz.underlying124 rfl HSS.o) rfl ⟨rfl,HB2.o.trans ((Wr.setRow _ _ _).below Cw)⟩
 ·have HL:AP ((Dw zs ps (2:Nat)).length=64/\(Dw zs ps (3:Nat)).length=64):=⟨(F.rd 2 AK).1,(F.rd 3 AK).1⟩
  have hsz:((Dw zs ps (2:Nat)++Dw zs ps (3:Nat)).map (Value.int UH)).toArray.size=128:=by rw[BX,BI,Al,HL.o.1,HL.o.2]
  have HSS:AP ((Tryz.prog.info? 124).map (·.size)=UI ((Dw zs ps (2:Nat)++Dw zs ps (3:Nat)).map (Value.int UH)).toArray.size):=by show _=_;rw[hsz];kernel_rfl
  have HEQ:AP ((Tryz.zeroCells124).size=((Dw zs ps (2:Nat)++Dw zs ps (3:Nat)).map (Value.int UH)).toArray.size):=by show _=_;rw[hsz];kernel_rfl
  have HOK:AP (((Dw zs ps (2:Nat)++Dw zs ps (3:Nat)).map (Value.int UH)).toArray.all (λx=>x.oneCell')=true):=by show _=_;simp[Value.oneCell']
  have A:=Cp (λww (b:Below w.heap.size w ww)=>Gg g a x L c m cx f 2 d zs ps ww (h.below b).row AK F.hc F.hl F.hm AK AK (h.below b).at_ (h.below b).pat (λi hi=>F.len i hi));have B:=Cp (λww (b:Below w.heap.size w ww)=>Gg g a x L c m cx f 3 d zs ps ww (h.below b).row AK F.hc F.hl F.hm AK AK (h.below b).at_ (h.below b).pat (λi hi=>F.len i hi));have HB0:AP (Below w.heap.size w (w.alloc (UP Tryz.zeroCells124 124))):=Cs.alloc Cw _;have HR0:AP ((w.alloc (UP Tryz.zeroCells124 124)).heap[w.heap.size]?=UI (UP Tryz.zeroCells124 124 (0,0))):=AV w _;have hlt0:w.heap.size<(w.alloc (UP Tryz.zeroCells124 124)).heap.size:=AM
  unfold GJ;clear h F hsz;go_enter Tryz.func77,Tryz.ntmps77;go_wp2_with fail;generalize w.alloc (UP Tryz.zeroCells124 124)=w0 at *;refine(A.o w0 HB0.o).mono ?_;rintro e w1 ⟨rfl,b1⟩;have HB1:=Cp (HB0.o.trans (b1.mono HB0.o.size));have HR1:AP (w1.heap[w.heap.size]?=UI (UP Tryz.zeroCells124 124 (0,0))):=by show _=_;rw[b1.block _ hlt0];exact HR0.o
  have hlt1:w.heap.size<w1.heap.size:=Ax hlt0 b1.size;clear A b1 HB0 HR0;go_wp2_with fail;refine(B.o w1 HB1.o).mono ?_;rintro e w2 ⟨rfl,b2⟩;have HB2:=Cp (HB1.o.trans (b2.mono HB1.o.size));have HR2:AP (w2.heap[w.heap.size]?=UI (UP Tryz.zeroCells124 124 (0,0))):=by show _=_;rw[b2.block _ hlt1];exact HR1.o
  clear B b2 HB1 HR1;go_wp2_with (first
   |(refine G0 rfl (UT 8) (UT 13) rfl (Dw zs ps (2:Nat)) (Dw zs ps (3:Nat)) HL.o.1 HL.o.2 rfl rfl ?_)
   |(refine AC 124 (UT 4) (UT 14) w.heap.size (((Dw zs ps (2:Nat)++Dw zs ps (3:Nat)).map (Value.int UH)).toArray) 124 HR2.o HSS.o HEQ.o HOK.o ?_)
   |fail)
  (try simp only[Exit.inBlock,Exit.then])
  exact AZ (v:=UN ((Dw zs ps (2:Nat)++Dw zs ps (3:Nat)).map (Value.int UH)).toArray) (AW rfl _ _ w.heap.size 124 _ (0,0) _ rfl (AB HR2.o) Tryz.underlying124 rfl HSS.o) rfl ⟨rfl,HB2.o.trans ((Wr.setRow _ _ _).below Cw)⟩
end
end Go.Proofs.YthmeoilbmfdhfaaGreat
