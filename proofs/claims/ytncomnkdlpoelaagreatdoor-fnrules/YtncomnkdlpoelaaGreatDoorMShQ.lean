import Derived.Test.YtncomnkdlpoelaaGreatDoorShN
import Derived.Test.YtncomnkdlpoelaaGreatDoorMEsd
open Go.Proofs.Tryz renaming prog->tP
open Go.Proofs.Tryz
open Go.Value renaming slice->aM,int->aO,pointer->aY,bool->ae,agg->af
open Go.IntKind renaming i64->aZ,u32->ai,u8->aP
open Go.Obj renaming cells->aa
open Go.Ending renaming returned->aQ
open Go.Ground renaming data->ag
open Go.Operand renaming tmp->ah
open Option renaming some->aR,none->aS
open Go renaming World->aV,Value->aX
set_option maxHeartbeats 16000000
set_option maxRecDepth 100000
namespace Go.Proofs.YtncomnkdlpoelaaGreatDoor
open Go.ChangeShapes Go.WideShapes Go.ChangeAt Go.RowKit
set_option linter.unusedVariables false
def Ty (q:Nat):List Int:=(List.range q).map kt
theorem L7 (q:Nat):(Ty q).length=q:=by simp[Ty]
theorem TI (q:Nat):Ty (q+1)=Ty q++[kt q]:=by unfold Ty;rw[CD,BI];rfl
theorem VE (q i:Nat) (h:i<q):(Ty q).getD i 0=kt i:=by unfold Ty;simp[List.getD,h]
theorem XG (q:Nat) (h:q<88):QG (q:Int)=kt q:=by
 unfold QG kt;rw[AP AJ,Bm]
theorem OY (w:aV) (g c:Nat) (hc:88<=c):(Instr.sliceAt 134 (aM (aR ⟨g,0,aS⟩) 88 c) (aR (aO aZ 80)) aS aS).run tP w=.ok (aM (aR ⟨g,80,aS⟩) 8 (c-80)) w:=by
 have h4:¬ (c=80):=AJ
 unfold Instr.sliceAt;simp[run_underlying underlying134,go_sem,Instr.sliceBounds,h4,Addr.add];try omega
theorem OZ (w:aV) (g L c I:Nat) (hI:I+128<=L) (hc:L<=c):(Instr.sliceAt 22 (aM (aR ⟨g,0,aS⟩) L c) (aR (aO aZ (I:Int))) (aR (aO aZ ((I:Int)+128))) aS).run tP w=.ok (aM (aR ⟨g,I,aS⟩) 128 (c-I)) w:=by
 have h2:((I:Int)+128)<=(c:Int):=AJ
 have h3:((I:Int)+128).toNat=I+128:=AJ
 have h4:¬ (c=I):=AJ
 have h6:(0:Int)<=(I:Int):=AJ
 have h7:(0:Int)<=(I:Int)+128:=AJ
 unfold Instr.sliceAt;simp[run_underlying underlying22,go_sem,Instr.sliceBounds,h2,h3,h4,h6,h7,Addr.add];omega
structure HW (w:aV) (v:aX) (hs:List Int):Prop where
 ex:∃ b o c,v=aM (aR ⟨b,o,aS⟩) 8 c/\b<w.heap.size/\∀ i,i<8->w.cell? ⟨b,o+i,aS⟩=aR (aO .u64 (hs.getD i 0))
theorem HW.of_own {w:aV} {B:Nat} {v:aX} {hs:List Int} (h:FC w B v hs) (h8:hs.length=8):HW w v hs:=by
 obtain⟨g,c,rfl,hB,hg,hc⟩:=h.base;refine⟨g,0,c,by rw[h8],hg,λi hi=>?_⟩;rw[Ar];exact h.cellAt rfl i AJ
structure MS (W:aV) (gk gm:Nat) (ms:List Int) (y:aV):Prop where
 k:gk<y.heap.size/\∀ i,i<88->y.cell? ⟨gk,i,aS⟩=aR (aO .u64 (kt i))
 m:gm<y.heap.size/\∀ i,i<ms.length->y.cell? ⟨gm,i,aS⟩=aR (aO aP (ms.getD i 0))
 below:Below W.heap.size W y
theorem MS.new {W:aV} {gk gm:Nat} {ms:List Int} {y y':aV} (h:MS W gk gm ms y) (hb:Below y.heap.size y y'):MS W gk gm ms y':=
 ⟨⟨Ap h.k.1 hb.size,λi hi=>by rw[Af (w:=y) (hb.block gk h.k.1)];exact h.k.2 i hi⟩,⟨Ap h.m.1 hb.size,λi hi=>by rw[Af (w:=y) (hb.block gm h.m.1)];exact h.m.2 i hi⟩,h.below.trans (hb.mono h.below.size)⟩
theorem NA (b off cap n:Nat) (zs:List Int) (w:aV) (hn:zs.length=n) (hb:b<w.heap.size) (hc:∀ i,i<zs.length->w.cell? ⟨b,off+i,aS⟩=aR (aO aP (zs.getD i 0))) (hz:Cb zs) (hm:n<=2097152) :
  Calls tP 88 #[aM (aR ⟨b,off,aS⟩) n cap] w λe w'=>∃ v,e=aQ v/\DB w' w.heap.size v (F0 zs)/\Below w.heap.size w w':=by
 have HC:=CX hc;have HN:=CX hn;have HZ:=CX hz;have HE0:=CX (DQ.empty (k:=.u64) (t:=135) w w.heap.size Ch);have HAL:AO (Below w.heap.size w (w.alloc (aa #[] 135))):=Cf.alloc Ch _;clear hc hn hz;go_enter func88,ntmps88;go_wp2
 go_loopw [3,4] (λv i wr=>∃ q:Nat,q<=88/\i=aO aZ q/\FC wr w.heap.size v (Ty q)/\Below w.heap.size w wr) (λ_ i _=>88-(intOf i).toNat)
 case atStart=>exact⟨0,AJ,rfl,HE0.o,HAL.o⟩
 case round=>
  clear HE0 HAL;obtain⟨q,hq,rfl,hown,hbel⟩:=hrel;by_cases hlt:q<88
  ·have hlt':(q:Int)<88:=AJ
   have hsz:=hbel.size;have HO:=CX hown;have HB:=CX hbel;have A:=CX (UW (q:Int) wr AJ AJ);rw[XG q hlt] at A;have HSN:=CX (TI q);have HLS:=CX (L7 q);clear hown hbel;generalize kt q=x at *;go_wp2_with fail;refine A.o.mono ?_;rintro e w1 ⟨rfl,b1⟩;have HO1:=CX (HO.o.grow b1);have HB1:=CX (HB.o.trans (b1.mono hsz));have hsz1:=HB1.o.size;clear A HO HB b1;have HLJ:AO ((Ty q).length+1<=1099511627776):=by show _<=_;rw[HLS.o];omega
   go_wp2_with (at_builtin;refine Dd _ Xe rfl _ _ rfl w.heap.size _ _ rfl (HO1.o.alloc _) ⟨w1.heap.size,0,aS⟩ 1 1 [x] rfl rfl ?c1 ?c2 ?c3 ?_);all_goals first|(intro j hj;obtain rfl:j=0:=AJ
                                                                                                                                                               simp[Addr.add];done)|skip
   case c2=>have:=HLJ.o;simpa using by omega
   case c3=>rw[Ay];omega
   intro v' w2 hown' hbel' _;have HO2:AO (FC w2 w.heap.size v' (Ty (q+1))):=by rw[HSN.o];exact hown'
   have HB2:=CY <| (HB1.o.alloc hsz1 _).trans hbel'
   clear hown' hbel' HO1 HB1;go_wp2;go_roundw
   case rel=>exact⟨q+1,AJ,by go_num,HO2.o,HB2.o⟩
   case measure=>simp[intOf];omega
  ·obtain rfl:q=88:=AJ
   obtain⟨gk,ck,rfl,hk1,hk2,hk3⟩:=hown.base;have HKC:AO (∀ i,i<88->wr.cell? ⟨gk,i,aS⟩=aR (aO .u64 (kt i))):=λi hi=>by
    rw[hown.cellAt rfl i (by rw[L7];exact hi),VE _ _ hi]
   rw[L7] at hk3 |-;have hsl:=λw=>OY w gk ck hk3
   have HB:=CX hbel;have hsz:=hbel.size;have hbr:b<wr.heap.size:=AJ
   have A:=CX (Ry b off cap n zs wr HN.o hbr (λi hi=>by rw[Af (w:=w) (hbel.block b hb)];exact HC.o i hi) hm);clear hown hbel;go_wp2_with fail;refine A.o.mono ?_;rintro e W ⟨vm,rfl,om,bm⟩;obtain⟨gm,cm,rfl,hm1,hm2,hm3⟩:=om.base;have HMC:AO (∀ i,i<(Ew zs).length->W.cell? ⟨gm,i,aS⟩=aR (aO aP ((Ew zs).getD i 0))):=λi hi=>by
    obtain⟨b',o',c',e',_,hcc⟩:=om.part;cases e';have:=hcc i hi
    rwa [Ar] at this
   have HMS:AO (MS W gk gm (Ew zs) W):=⟨⟨Ap hk2 bm.size,λi hi=>by rw[Af (w:=wr) (bm.block gk hk2)];exact HKC.o i hi⟩,⟨hm2,HMC.o⟩,A8 _ _⟩
   have HHW:AO (HW W (aM (aR ⟨gk,80,aS⟩) 8 (ck-80)) (OT zs 0)):=⟨gk,80,ck-80,rfl,HMS.o.k.1,λi hi=>by
    rw[HMS.o.k.2 (80+i) AJ];show _=aR (aO .u64 (Ns.getD i 0))
    rw[PE i hi]⟩
   have HBW:=CY <| HB.o.trans (bm.mono hsz)
   have HLP:AO ((Ew zs).length=128*OV n):=by show _=_;rw[Pi,HN.o]
   rw[HLP.o] at hm3 |-;have hK:128*OV n<=2097152+256:=by rw[<-HLP.o,M8,HN.o];have:=(GM n).2;omega
   have HSH:AO (Gm (OT zs (OV n))=F0 zs):=by show _=_;rw[<-HN.o];exact VA zs (by rw[HN.o];exact hm)
   have HPB:=CX (Qs HZ.o);clear A hsl om bm HMC HKC HC HZ HB hk1 hm1 hk2 hm2;generalize OV n=K at *;obtain⟨L,hL⟩:∃ L,L=128*K:=⟨_,rfl⟩
   rw[<-hL] at hm3 HLP hK |-;have HL:=CX hL;clear hL;go_wp2
   go_loopw [5,7] (λv i y=>∃ j I:Nat,j<=K/\I=128*j/\i=aO aZ (I:Int)/\HW y v (OT zs j)/\MS W gk gm (Ew zs) y) (λ_ i _=>(L+128-(intOf i).toNat))
   case atStart=>exact⟨0,0,AJ,rfl,rfl,HHW.o,HMS.o⟩
   case round=>
    clear HHW HMS;obtain⟨j,I,hj,hI,rfl,⟨bh,oh,ch,rfl,hh1,hh2⟩,hms⟩:=hrel;have hL:=HL.o;have HI:=CX hI;by_cases hlt:j<K
    ·have hlt':(I:Int)<(L:Int):=AJ
     have hIL:I+128<=L:=AJ
     have hsl:=λw=>OZ w gm L cm I hIL hm3
     have HMS:=CX hms;have HBS:AO (OT zs (j+1)=EL (OT zs j) (((Ew zs).drop (128*j)).take 128)):=rfl;have hbl:(((Ew zs).drop (128*j)).take 128).length=128:=by rw[Aq,BF,HLP.o];omega
     have hbb:Cb (((Ew zs).drop (128*j)).take 128):=λz h=>HPB.o z (BT (Ax h))
     have hBK:BK wr bh oh gm I gk (OT zs j) (((Ew zs).drop (128*j)).take 128):=
      ⟨⟨hh1,hh2⟩,⟨hms.m.1,λi hi=>by rw[hms.m.2 (I+i) (by rw[HLP.o];omega),Hf _ _ _ hi,hI]⟩,hms.k⟩
     have A:=CX (OW bh oh ch gm I (cm-I) gk ck _ _ wr hBK (OU zs j) hbl hbb AJ);rw[<-HBS.o] at A;have HJ:AO (j+1<=K/\I+128=128*(j+1)):=by constructor<;>omega
     clear hms hh2 hbl hbb hBK HBS hI hL hj hlt;go_wp2_with fail;refine A.o.mono ?_;rintro e w3 ⟨v3,rfl,o3,b3⟩;have HMS3:=CX (HMS.o.new b3);have HHW3:=CX (HW.of_own o3 (OU zs (j+1)).1);clear A hsl o3 b3 HMS;go_wp2;go_roundw
     case rel=>exact⟨j+1,I+128,HJ.o.1,HJ.o.2,by go_num,HHW3.o,HMS3.o⟩
     case measure=>simp[intOf];omega
    ·obtain rfl:j=K:=AJ
     have hlt':¬ ((I:Int)<(L:Int)):=AJ
     have HBR:=CY <| HBW.o.trans (hms.below.mono HBW.o.size)
     have HHH:=CX hh2;have H8:=CX (OU zs j);have hIb:I<=2097700:=AJ
     clear hms hh2 HBW HPB hI hL HI HL;generalize OT zs j=hs at *;obtain⟨wy,rfl⟩:∃ y,y=wr:=⟨_,rfl⟩
     go_wp2
     go_loopw [8,9] (λv i y=>∃ q:Nat,q<=8/\i=aO aZ q/\DB y wy.heap.size v (Gm (hs.take q))/\Below wy.heap.size wy y) (λ_ i _=>8-(intOf i).toNat)
     case atStart=>exact⟨0,AJ,rfl,DB.empty _ _ Ch,Cf.alloc Ch _⟩
     case round=>
      obtain⟨q,hq,rfl,hown,hbel⟩:=hrel;by_cases hlq:q<8
      ·have hlq':(q:Int)<8:=AJ
       have hsz:=hbel.size;have hcl:=HHH.o q hlq;rw[<-Af (w':=wr) (hbel.block bh hh1)] at hcl;have HSN:=CX (Kz hs q (by rw[H8.o.1];exact hlq));have HPL:=CX (Gv (hs.take q));rw[Aq,H8.o.1] at HPL;have hu:=H8.o.2 q;have HO:=CX hown;have HB:=CX hbel;clear hown hbel;obtain⟨x,hx⟩:∃ x,x=hs.getD q 0:=⟨_,rfl⟩
       rw[<-hx] at hcl hu HSN;clear hx;have A:=CX (J7 x wr hu);obtain⟨hu0,hu1⟩:=hu;go_wp2_with fail;refine A.o.mono ?_;rintro e w5 ⟨v5,rfl,o5,b5⟩;obtain⟨g5,c5,rfl,h51,h52,h53⟩:=o5.base;have HC5:AO (∀ i,i<8->w5.cell? ((⟨g5,0,aS⟩:Addr).add i)=aR (aO aP ((Jb x).getD i 0))):=λi hi=>by
        obtain⟨b',o',c',e',_,hcc⟩:=o5.part;cases e';rw[A0];exact hcc i (by rw[D8];exact hi)
       have HO5:=CX (MU HO.o b5);have HB5:=CX (HB.o.trans (b5.mono hsz));have hsz5:=HB5.o.size;rw[D8];clear A HO HB o5 b5;have HLY:AO ((Gm (hs.take q)).length+8<=1099511627776):=by show _<=_;rw[HPL.o];omega
       go_wp2_with (at_builtin;refine Cv _ rfl _ _ rfl wy.heap.size _ _ rfl HO5.o ⟨g5,0,aS⟩ 8 c5 (Jb x) rfl (D8 _) HC5.o HLY.o hsz5 ?_);intro v6 w6 o6 b6 _;have HO6:AO (DB w6 wy.heap.size v6 (Gm (hs.take (q+1)))):=by rw[HSN.o];exact o6
       have HB6:=CX (HB5.o.trans b6);clear o6 b6 HO5 HB5;go_wp2;go_roundw
       case rel=>exact⟨q+1,AJ,by go_num,HO6.o,HB6.o⟩
       case measure=>simp[intOf];omega
      ·obtain rfl:q=8:=AJ
       rw[Ad (by rw[H8.o.1];exact Aa _),HSH.o] at hown;have HOF:AO (DB _ w.heap.size _ (F0 zs)):=hown.lowK HBR.o.size;have HBF:=CX (HBR.o.trans (hbel.mono HBR.o.size));clear hown hbel;go_wp2
       go_ret
       exact⟨_,rfl,HOF.o,HBF.o⟩
def NW (P:Q4):Int:=OB P.1 P.2.1 P.2.2.1
def Kk (pub msg sig:List Int):Int:=val 256 (F0 (sig.take 32++pub++msg))%DZ
def JG (pub msg sig:List Int):Bool:=decide (NW (mS (val 256 (sig.drop 32)) (D7 bB) 256).1=NW (F4 (D7 (sig.take 32)) (mS (Kk pub msg sig) (D7 pub) 256).1))
def XH (pub msg sig:List Int):Bool:=decide (NW (pS (val 256 (sig.drop 32)) (D7 bB) 256)=NW (F4 (D7 (sig.take 32)) (pS (Kk pub msg sig) (D7 pub) 256)))
def Hu (pub msg sig:List Int):Bool:=decide (sig.length=64) && decide (val 256 (sig.drop 32)<DZ) && mB pub Dl && mB (sig.take 32) Dl && JG pub msg sig
theorem Pk (k:Nat) (P:Q4):NW (Mz (2^k) P)=NW P:=U2 k _ _ _
theorem TJ (pub msg sig:List Int) (hp:Rd (D7 pub)) (hs:Rd (D7 (sig.take 32))) (hb:Rd (D7 bB)):XH pub msg sig=JG pub msg sig:=by
 unfold XH JG;obtain⟨⟨j,hj⟩,_,_⟩:=Sr (val 256 (sig.drop 32)) (D7 bB) hb 256;obtain⟨⟨k,hk⟩,_,_⟩:=Sr (Kk pub msg sig) (D7 pub) hp 256;rw[hj,hk,Pk];have e:F4 (D7 (sig.take 32)) (Mz (2^k) (mS (Kk pub msg sig) (D7 pub) 256).1)=Mz (2^(k+k)) (F4 (D7 (sig.take 32)) (mS (Kk pub msg sig) (D7 pub) 256).1):=by
  conv=>lhs;rw[<-PU hs]
  rw[OI,Int.one_mul,<-Int.pow_add]
 rw[e,Pk]
structure FK (w:aV) (b o:Nat) (zs:List Int):Prop where
 lt:b<w.heap.size
 c:∀ i,i<zs.length->w.cell? ⟨b,o+i,aS⟩=aR (aO aP (zs.getD i 0))
theorem FK.below {w w':aV} {b o:Nat} {zs:List Int} (h:FK w b o zs) (hb:Below w.heap.size w w'):FK w' b o zs:=
 ⟨Ap h.lt hb.size,λi hi=>by rw[Af (w:=w) (hb.block b h.lt)];exact h.c i hi⟩
theorem FK.at_ {w:aV} {b o:Nat} {zs:List Int} (h:FK w b o zs):At aP w (aR ⟨b,o,aS⟩) zs:=.inr ⟨b,o,rfl,h.lt,h.c⟩
theorem FK.take {w:aV} {b o:Nat} {zs:List Int} (h:FK w b o zs) (n:Nat):FK w b o (zs.take n):=
 ⟨h.lt,λi hi=>by rw[Aq] at hi;rw[h.c i AJ,IQ _ _ _ AJ]⟩
theorem FK.drop {w:aV} {b o:Nat} {zs:List Int} (h:FK w b o zs) (n:Nat):FK w b (o+n) (zs.drop n):=
 ⟨h.lt,λi hi=>by rw[BF] at hi;rw[A7,h.c (n+i) AJ,Fw]⟩
theorem FK.part {w:aV} {b o:Nat} {zs:List Int} (h:FK w b o zs) (n c:Nat) (hn:zs.length=n):Fl w (aM (aR ⟨b,o,aS⟩) n c) zs:=⟨b,o,c,by rw[hn],h.lt,h.c⟩
theorem FK.of_own {w:aV} {B:Nat} {v:aX} {zs:List Int} (h:DB w B v zs):∃ g c,v=aM (aR ⟨g,0,aS⟩) zs.length c/\FK w g 0 zs/\zs.length<=c:=by
 obtain⟨g,c,e,_,_,hc⟩:=h.base;obtain⟨b',o',c',e',hl,hcc⟩:=h.part;rw[e] at e';cases e';exact⟨g,c,e,⟨hl,hcc⟩,hc⟩
theorem Fj {zs:List Int} (h:Cb zs) (n:Nat):Cb (zs.take n):=λz hz=>h z (Ax hz)
theorem Hv {zs:List Int} (h:Cb zs) (n:Nat):Cb (zs.drop n):=λz hz=>h z (BT hz)
theorem JR (w:aV) (b o c:Nat) (hc:64<=c):(Instr.sliceAt 22 (aM (aR ⟨b,o,aS⟩) 64 c) (aR (aO aZ 32)) aS aS).run tP w=.ok (aM (aR ⟨b,o+32,aS⟩) 32 (c-32)) w:=by
 have h4:¬ (c=32):=AJ
 unfold Instr.sliceAt;simp[run_underlying underlying22,go_sem,Instr.sliceBounds,h4,Addr.add];try omega
theorem JS (w:aV) (b o c:Nat) (hc:64<=c):(Instr.sliceAt 22 (aM (aR ⟨b,o,aS⟩) 64 c) aS (aR (aO aZ 32)) aS).run tP w=.ok (aM (aR ⟨b,o,aS⟩) 32 c) w:=by
 have h2:(32:Int)<=(c:Int):=AJ
 unfold Instr.sliceAt;simp[run_underlying underlying22,go_sem,Instr.sliceBounds,h2,Addr.add];try omega
def VF (w:aV) (g:Nat) (Q:Q4):Prop:=
 ∃ g1 c1 g2 c2 g3 c3 g4 c4,EM w g #[aM (aR ⟨g1,0,aS⟩) 16 c1,aM (aR ⟨g2,0,aS⟩) 16 c2,aM (aR ⟨g3,0,aS⟩) 16 c3,aM (aR ⟨g4,0,aS⟩) 16 c4]/\
  Cy w (aR ⟨g1,0,aS⟩) Q.1/\Cy w (aR ⟨g2,0,aS⟩) Q.2.1/\Cy w (aR ⟨g3,0,aS⟩) Q.2.2.1/\Cy w (aR ⟨g4,0,aS⟩) Q.2.2.2
theorem VF.below {w w':aV} {g:Nat} {Q:Q4} (h:VF w g Q) (hb:Below w.heap.size w w'):VF w' g Q:=by
 obtain⟨g1,c1,g2,c2,g3,c3,g4,c4,hp,f1,f2,f3,f4⟩:=h;exact⟨g1,c1,g2,c2,g3,c3,g4,c4,hp.below hb hp.lt,f1.below hb,f2.below hb,f3.below hb,f4.below hb⟩
def Oa (w:aV) (v:aX) (Q:Q4):Prop:=
 ∃ g1 c1 g2 c2 g3 c3 g4 c4,v=af #[aM (aR ⟨g1,0,aS⟩) 16 c1,aM (aR ⟨g2,0,aS⟩) 16 c2,aM (aR ⟨g3,0,aS⟩) 16 c3,aM (aR ⟨g4,0,aS⟩) 16 c4]/\
  Cy w (aR ⟨g1,0,aS⟩) Q.1/\Cy w (aR ⟨g2,0,aS⟩) Q.2.1/\Cy w (aR ⟨g3,0,aS⟩) Q.2.2.1/\Cy w (aR ⟨g4,0,aS⟩) Q.2.2.2
theorem Oa.below {w w':aV} {v:aX} {Q:Q4} (h:Oa w v Q) (hb:Below w.heap.size w w'):Oa w' v Q:=by
 obtain⟨g1,c1,g2,c2,g3,c3,g4,c4,hp,f1,f2,f3,f4⟩:=h;exact⟨g1,c1,g2,c2,g3,c3,g4,c4,hp,f1.below hb,f2.below hb,f3.below hb,f4.below hb⟩
theorem Oa.elim_ {w:aV} {v:aX} {Q:Q4} {C:Prop} (h:Oa w v Q) (k:∀ g1 c1 g2 c2 g3 c3 g4 c4,v=af #[aM (aR ⟨g1,0,aS⟩) 16 c1,aM (aR ⟨g2,0,aS⟩) 16 c2,aM (aR ⟨g3,0,aS⟩) 16 c3,aM (aR ⟨g4,0,aS⟩) 16 c4]->Cy w (aR ⟨g1,0,aS⟩) Q.1->Cy w (aR ⟨g2,0,aS⟩) Q.2.1->Cy w (aR ⟨g3,0,aS⟩) Q.2.2.1->Cy w (aR ⟨g4,0,aS⟩) Q.2.2.2->C):C:=by
 obtain⟨g1,c1,g2,c2,g3,c3,g4,c4,hp,f1,f2,f3,f4⟩:=h;exact k g1 c1 g2 c2 g3 c3 g4 c4 hp f1 f2 f3 f4
theorem EM.fe {w:aV} {G g:Nat} {a:Option Addr} {n c:Nat} {s1 s2 s3:aX} {x:Int} (h:EM w G #[aM a n c,s1,s2,s3]) (f:Cy w (aR ⟨g,0,aS⟩) x):g≠G:=by
 intro e;subst e;obtain⟨zs,h1,h2,_⟩:=f;obtain⟨b,o,e,_,hc⟩:=h1.get (AG h2.1);cases e;have c0:=hc 0 (AG h2.1);rw[Ar,h.c0] at c0;cases c0
def z4:Array aX:=CO
def V7 (B:Nat) (w:aV) (v:aX):Prop:=∃ g,v=aY (aR ⟨g,0,aS⟩)/\B<=g/\EM w g CO
theorem V7.below {B:Nat} {w w':aV} {v:aX} (h:V7 B w v) (hb:Below w.heap.size w w'):V7 B w' v:=by
 obtain⟨g,e,h1,h2⟩:=h;exact⟨g,e,h1,h2.below hb h2.lt⟩
def V9 (w:aV) (v:aX) (Q:Q4):Prop:=∃ g,v=aY (aR ⟨g,0,aS⟩)/\VF w g Q
theorem V9.below {w w':aV} {v:aX} {Q:Q4} (h:V9 w v Q) (hb:Below w.heap.size w w'):V9 w' v Q:=by
 obtain⟨g,e,h1⟩:=h;exact⟨g,e,h1.below hb⟩
structure Ob (W:aV) (a s c:Nat) (Q:Q4) (L:Nat->Bool) (u:Nat->aX) (w:aV):Prop where
 below:Below W.heap.size W w
 fin:L s=true->(L a=true/\L c=true)/\V9 w (u a) Q
section
variable {W:aV} {a s c:Nat} {Q:Q4} {L:Nat->Bool} {u:Nat->aX} {w w':aV}
theorem Ob.start (h:∀ i,L i=false):Ob W a s c Q L u W.drew:=⟨Cf.drew,λh'=>by rw[h] at h';cases h'⟩
theorem Hi (L:Nat->Bool) {i j:Nat} (h:j≠i):CZ L i j=L j:=by unfold CZ;rw[AQ h]
theorem Pl (u:Nat->aX) {i j:Nat} (v:aX) (h:j≠i):Ca u i v j=u j:=by unfold Ca;rw[AQ h]
theorem Ob.step (h:Ob W a s c Q L u w) (i:Nat) (v:aX) (hb:Below w.heap.size w w') (hs:s≠i) (ha:a≠i):Ob W a s c Q (CZ L i) (Ca u i v) w':=
 ⟨h.below.trans (hb.mono h.below.size),by
  rw[Hi L hs,Hi L ha,Pl u v ha];exact λh'=>⟨⟨(h.fin h').1.1,by have:=(h.fin h').1.2;unfold CZ;split<;>simp[this]⟩,(h.fin h').2.below hb⟩⟩
theorem Ob.made (h:Ob W a s c Q L u w) (v:aX) (hb:Below w.heap.size w w') (hs:s≠a) (hL:L a=false):Ob W a s c Q (CZ L a) (Ca u a v) w':=
 ⟨h.below.trans (hb.mono h.below.size),by
  rw[Hi L hs];intro h';have:=(h.fin h').1.1;rw[hL] at this;cases this⟩
theorem Ob.set (h:Ob W a s c Q L u w) (v:aX) (hb:Below W.heap.size w w') (hs:a≠s) (hc:c≠s) (hL:L a=true) (hLc:L c=true) (hf:V9 w' (u a) Q):Ob W a s c Q (CZ L s) (Ca u s v) w':=
 ⟨h.below.trans hb,λ_=>⟨⟨by rw[Hi L hs];exact hL,by rw[Hi L hc];exact hLc⟩,by rw[Pl u v hs];exact hf⟩⟩
end
theorem LJ {w:aV} {o:Oper} {a:Act} {K:Act->aV->Prop} {Q:Exit->Act->aV->Prop} (x y:Operand) (ho:o.op=.store 79 x y) (B:Nat) (R:Q4) (vx vy:aX)
  (hx:a.eval x=vx) (hy:a.eval y=vy) (hz:V7 B w vx) (ht:Oa w vy R) (hK:∀ w',Below B w w'->V9 w' vx R->K (a.put o.dst undef) w'):o.wp tP a w K Q:=by
 obtain⟨g,rfl,h1,h2⟩:=hz;obtain⟨g1,c1,g2,c2,g3,c3,g4,c4,rfl,f1,f2,f3,f4⟩:=ht;have hw:Wr g w (w.setRow g #[aM (aR ⟨g1,0,aS⟩) 16 c1,aM (aR ⟨g2,0,aS⟩) 16 c2,aM (aR ⟨g3,0,aS⟩) 16 c3,aM (aR ⟨g4,0,aS⟩) 16 c4]):=Wr.setRow _ _ _;refine Be 79 x y ho g #[aM (aR ⟨g1,0,aS⟩) 16 c1,aM (aR ⟨g2,0,aS⟩) 16 c2,aM (aR ⟨g3,0,aS⟩) 16 c3,aM (aR ⟨g4,0,aS⟩) 16 c4] hx hy 79 _ h2 Tryz.sizePt rfl (by simp[Value.oneCell']) ?_;exact hK _ (hw.below h1) ⟨g,rfl,g1,c1,g2,c2,g3,c3,g4,c4,AB h2,f1.wr hw (h2.fe f1),f2.wr hw (h2.fe f2),f3.wr hw (h2.fe f3),f4.wr hw (h2.fe f4)⟩
def VG (w:aV) (v:aX) (V:Int):Prop:=∃ g c bs,v=aM (aR ⟨g,0,aS⟩) 32 c/\FK w g 0 bs/\Cb bs/\bs.length=32/\val 256 bs=V
theorem VG.below {w w':aV} {v:aX} {V:Int} (h:VG w v V) (hb:Below w.heap.size w w'):VG w' v V:=by
 obtain⟨g,c,bs,e,h1,h2⟩:=h;exact⟨g,c,bs,e,h1.below hb,h2⟩
def XI (w:aV) (v:aX) (V:Int):Prop:=∃ bs,v=.string (strOfNums bs)/\Cb bs/\bs.length=32/\val 256 bs=V
theorem XI.below {w w':aV} {v:aX} {V:Int} (h:XI w v V) (hb:Below w.heap.size w w'):XI w' v V:=h
theorem TK {xs ys:List Int} (hx:Cb xs) (hy:Cb ys):((strOfNums xs).toList == (strOfNums ys).toList)=decide (xs=ys):=by
 rw[Bool.eq_iff_iff,decide_eq_true_eq,beq_iff_eq,ByteArray.toList_eq,ByteArray.toList_eq,strOfNums_data,strOfNums_data];constructor
 ·intro h;have hl:xs.length=ys.length:=by simpa using congrArg List.length h
  apply List.ext_getElem hl;intro i h1 h2;have e:(xs.map λn=>UInt8.ofNat n.toNat)[i]?=(ys.map λn=>UInt8.ofNat n.toNat)[i]?:=by rw[h]
  simp[h1,h2] at e;have e':=congrArg UInt8.toNat e;have bx:=hx xs[i] (BL h1);have by':=hy ys[i] (BL h2);simp only[UInt8.toNat_ofNat'] at e';omega
 ·rintro rfl;rfl
theorem VH {xs ys:List Int} (hx:Cb xs) (hy:Cb ys) (lx:xs.length=32) (ly:ys.length=32):((strOfNums xs).toList == (strOfNums ys).toList)=decide (val 256 xs=val 256 ys):=by
 rw[TK hx hy];by_cases h:xs=ys
 ·rw[Aj h,Aj (by rw[h])]
 ·rw[Ac h,Ac (λe=>h (GQ (B:=256) AK hx hy AJ e))]
theorem VI {pub msg sig:List Int} (h:¬ sig.length=64):Hu pub msg sig=false:=by unfold Hu;simp[h]
theorem VJ {pub msg sig:List Int} (h:¬ pub.length=32):Hu pub msg sig=false:=by
 have:mB pub Dl=false:=by
  cases hb:mB pub Dl with
  |false=>rfl
  |true=>exact absurd (Jm hb).1 h
 unfold Hu;simp[this]
theorem XJ {pub msg sig:List Int} (h:decide (val 256 (sig.drop 32)<DZ)=false):Hu pub msg sig=false:=by unfold Hu;simp[h]
theorem XK {pub msg sig:List Int} (h:mB pub Dl=false):Hu pub msg sig=false:=by unfold Hu;simp[h]
theorem XL {pub msg sig:List Int} (h:mB (sig.take 32) Dl=false):Hu pub msg sig=false:=by unfold Hu;simp[h]
theorem XM {pub msg sig:List Int} (h1:sig.length=64) (h2:decide (val 256 (sig.drop 32)<DZ)=true) (h3:mB pub Dl=true) (h4:mB (sig.take 32) Dl=true):Hu pub msg sig=JG pub msg sig:=by unfold Hu;rw[h2,h3,h4,Aj h1];simp
theorem md_pt {zs:List Int} {s1 s2 s3 s4:aX} {w2 w3:aV} {G:Nat} (hok:mB zs Dl=true->∃ g1 c1 g2 c2 g3 c3 g4 c4,s1=aM (aR ⟨g1,0,aS⟩) 16 c1/\s2=aM (aR ⟨g2,0,aS⟩) 16 c2/\s3=aM (aR ⟨g3,0,aS⟩) 16 c3/\s4=aM (aR ⟨g4,0,aS⟩) 16 c4/\
   Cy w2 (aR ⟨g1,0,aS⟩) (mX zs Dl)/\Cy w2 (aR ⟨g2,0,aS⟩) (mY zs)/\Cy w2 (aR ⟨g3,0,aS⟩) (1%fp)/\Cy w2 (aR ⟨g4,0,aS⟩) (mX zs Dl*mY zs%fp))
  (hp:EM w3 G #[s1,s2,s3,s4]) (hb:Below w2.heap.size w2 w3) (h:mB zs Dl=true):VF w3 G (D7 zs):=by
 obtain⟨g1,c1,g2,c2,g3,c3,g4,c4,rfl,rfl,rfl,rfl,f1,f2,f3,f4⟩:=hok h;exact⟨g1,c1,g2,c2,g3,c3,g4,c4,hp,f1.below hb,f2.below hb,f3.below hb,f4.below hb⟩
theorem VK (bp op cp bm om cm bs os cs np nm ns:Nat) (pub msg sig:List Int) (w:aV) (hpl:pub.length=np) (hml:msg.length=nm) (hsl:sig.length=ns) (hp:FK w bp op pub) (hm:FK w bm om msg) (hs:FK w bs os sig)
  (zp:Cb pub) (zm:Cb msg) (zs:Cb sig) (hcs:ns<=cs) (bnp:np<=1048576) (bnm:nm<=1048576) (bns:ns<=1048576) :
  Calls tP 67 #[aM (aR ⟨bp,op,aS⟩) np cp,aM (aR ⟨bm,om,aS⟩) nm cm,aM (aR ⟨bs,os,aS⟩) ns cs] w λe w'=>e=aQ (ae (Hu pub msg sig))/\Below w.heap.size w w':=by
 have HP:=CX hp;have HM:=CX hm;have HS:=CX hs;have HZ:=CX (Al zp (Al zm zs));by_cases h32:np=32
 ·subst h32;by_cases h64:ns=64
  ·subst h64;have hslh:=λw=>JR w bs os cs hcs
   have hsll:=λw=>JS w bs os cs hcs
   have hdl:(sig.drop 32).length=32:=by rw[BF,hsl]
   have htl:(sig.take 32).length=32:=by rw[Aq,hsl];rfl
   go_enter func67,ntmps67;go_wp2_with fail;refine(Ur (aR ⟨bs,os+32,aS⟩) 32 (cs-32) (sig.drop 32) _ hdl (HS.o.drop 32).at_ (Hv HZ.o.2.2 32)).mono ?_;rintro e w0 ⟨rfl,b0⟩;have HB0:=CX b0;have hqq:decide (32=32/\val 256 (sig.drop 32)<DZ)=decide (val 256 (sig.drop 32)<DZ):=AL
   rw[hqq];cases hq:decide (val 256 (sig.drop 32)<DZ) with
   |false=>
    have HV:=CX (XJ (pub:=pub) (msg:=msg) hq);go_wp2
    go_ret
    exact⟨by rw[HV.o];rfl,HB0.o⟩
   |true=>
    have HQ:=CX hq;go_wp2_with fail;refine(SI _).mono ?_;rintro e w1 ⟨gd,cd,rfl,_,_,hf,hb⟩;have HB1:=CY <| HB0.o.trans (hb.mono HB0.o.size)
    have HD1:=CX hf;go_wp2_with fail;refine(F6 (aR ⟨bp,op,aS⟩) _ 32 cp cd pub Dl _ hpl AK (HP.o.below HB1.o).at_ HZ.o.1 HD1.o).mono ?_;rintro e w2 ⟨s1,s2,s3,s4,rfl,hb2,hone,hok⟩;have HON:=CX hone;have HOK:=CX hok;have HPN:=CX (EM.new w2);have HB2:=CY <| HB1.o.trans (hb2.mono HB1.o.size)
    have HD2:=CX (HD1.o.below hb2);generalize hqa:mB pub Dl=qa at *;have HQA:=CX hqa;go_wp2_with (first
     |(refine Cc rfl (ah 9) (ah 37) rfl w2.heap.size s1 s2 s3 s4 _ HON.o.1 HON.o.2.1 HON.o.2.2.1 HON.o.2.2.2 rfl rfl rfl HPN.o ?_)
     |fail)
    intro w3 hp3 hw3;have b23:=(Ce _ _).trans (hw3.below Ch);have HB3:=CY <| HB2.o.trans (b23.mono HB2.o.size)
    have HD3:=CX (HD2.o.below b23);have HA3:AO (qa=true->VF w3 w2.heap.size (D7 pub)):=λh=>md_pt (λh'=>HOK.o (by rw[<-HQA.o];exact h')) hp3 b23 (by rw[HQA.o];exact h)
    generalize w2.heap.size=Ga at *;go_wp2_with fail;refine(F6 (aR ⟨bs,os,aS⟩) _ 32 cs cd (sig.take 32) Dl _ htl AK ((HS.o.below HB3.o).take 32).at_ (Fj HZ.o.2.2 32) HD3.o).mono ?_;rintro e w4 ⟨r1,r2,r3,r4,rfl,hb4,hone,hok⟩;have HON:=CX hone;have HOK:=CX hok;have HPN:=CX (EM.new w4);have HB4:=CY <| HB3.o.trans (hb4.mono HB3.o.size)
    have HD4:=CX (HD3.o.below hb4);have HA4:AO (qa=true->VF w4 Ga (D7 pub)):=λh=>(HA3.o h).below hb4
    generalize hqr:mB (sig.take 32) Dl=qr at *;have HQR:=CX hqr;go_wp2_with (first
     |(refine Cc rfl (ah 11) (ah 44) rfl w4.heap.size r1 r2 r3 r4 _ HON.o.1 HON.o.2.1 HON.o.2.2.1 HON.o.2.2.2 rfl rfl rfl HPN.o ?_)
     |fail)
    intro w5 hp5 hw5;have b45:=(Ce _ _).trans (hw5.below Ch);have HB5:=CY <| HB4.o.trans (b45.mono HB4.o.size)
    have HD5:=CX (HD4.o.below b45);have HA5:AO (qa=true->VF w5 Ga (D7 pub)):=λh=>(HA4.o h).below b45
    have HR5:AO (qr=true->VF w5 w4.heap.size (D7 (sig.take 32))):=λh=>md_pt (λh'=>HOK.o (by rw[<-HQR.o];exact h')) hp5 b45 (by rw[HQR.o];exact h)
    generalize w4.heap.size=Gr at *;cases qa with
    |false=>
     have HV:=CX (XK (msg:=msg) (sig:=sig) HQA.o);go_wp2
     go_ret
     exact⟨by rw[HV.o];rfl,HB5.o⟩
    |true=>
     cases qr with
     |false=>
      have HV:=CX (XL (msg:=msg) (pub:=pub) HQR.o);go_wp2
      go_ret
      exact⟨by rw[HV.o];rfl,HB5.o⟩
     |true=>
      have HVR:=CX (XM (msg:=msg) hsl HQ.o HQA.o HQR.o);have HA6:=CX (HA5.o rfl);have HR6:=CX (HR5.o rfl);go_wp2_with fail;refine(Mq _).mono ?_;rintro e w6 ⟨v6,b6s,rfl,o6,c1,c2,c3,b6⟩;obtain rfl:=Ss c1 c2 c3;obtain⟨g6,c6,rfl,hA6,hc6⟩:=FK.of_own o6;have HB6:=CY <| HB5.o.trans (b6.mono HB5.o.size)
      have HD6:=CX (HD5.o.below b6);have HPA6:=CX (HA6.o.below b6);have HPR6:=CX (HR6.o.below b6);have HBB6:=CX hA6;rw[IP];go_wp2_with fail;refine(F6 (aR ⟨g6,0,aS⟩) _ 32 c6 cd bB Dl _ IP AK HBB6.o.at_ Ir HD6.o).mono ?_;rintro e w7 ⟨t1,t2,t3,t4,rfl,hb7,hone,hok⟩;have HON:=CX hone;have HOK:=CX hok;have HPN:=CX (EM.new w7);have HB7:=CY <| HB6.o.trans (hb7.mono HB6.o.size)
      have HD7:=CX (HD6.o.below hb7);have HPA7:=CX (HPA6.o.below hb7);have HPR7:=CX (HPR6.o.below hb7);have HMB:=CX PY;generalize mB bB Dl=mb at *;go_wp2_with (first
       |(refine Cc rfl (ah 13) (ah 56) rfl w7.heap.size t1 t2 t3 t4 _ HON.o.1 HON.o.2.1 HON.o.2.2.1 HON.o.2.2.2 rfl rfl rfl HPN.o ?_)
       |fail)
      intro w8 hp8 hw8;have b78:=(Ce _ _).trans (hw8.below Ch);have HB8:=CY <| HB7.o.trans (b78.mono HB7.o.size)
      have HD8:=CX (HD7.o.below b78);have HPA8:=CX (HPA7.o.below b78);have HPR8:=CX (HPR7.o.below b78);have HPB8:=CY <| md_pt (λ_=>HOK.o HMB.o) hp8 b78 PY
      generalize w7.heap.size=Gb at *;have hfl:[sig.take 32,pub,msg].flatten=sig.take 32++pub++msg:=AL
      have hfn:(sig.take 32++pub++msg).length=32+32+nm:=by rw[Ae,Ae,htl,hpl,hml]
      have HAL:AO (Below w8.heap.size w8 (w8.alloc (aa #[aM (aR ⟨bs,os,aS⟩) 32 cs,aM (aR ⟨bp,op,aS⟩) 32 cp,aM (aR ⟨bm,om,aS⟩) nm cm] 22))):=Ce _ _;have CC:AO (Calls tP 63 #[aM (aR ⟨w8.heap.size,0,aS⟩) 3 3] (w8.alloc (aa #[aM (aR ⟨bs,os,aS⟩) 32 cs,aM (aR ⟨bp,op,aS⟩) 32 cp,aM (aR ⟨bm,om,aS⟩) nm cm] 22)) _):=
       Lv w8.heap.size 3 3 [aM (aR ⟨bs,os,aS⟩) 32 cs,aM (aR ⟨bp,op,aS⟩) 32 cp,aM (aR ⟨bm,om,aS⟩) nm cm] [sig.take 32,pub,msg] _ rfl AL
        (λi hi=>by
         rw[AA (AS w8 _) i]
         match i,hi with
         |0,_=>rfl
         |1,_=>rfl
         |2,_=>rfl)
        (λi hi=>by
         have bx:=HB8.o.trans (HAL.o.mono HB8.o.size)
         match i,hi with
         |0,_=>exact((HS.o.below bx).take 32).part 32 cs htl
         |1,_=>exact(HP.o.below bx).part 32 cp hpl
         |2,_=>exact(HM.o.below bx).part nm cm hml)
        (by rw[hfl,hfn];omega) AK
      rw[hfl] at CC;have HFN:=CX hfn;go_wp2_with fail;refine CC.o.mono ?_;rintro e w9 ⟨v9,rfl,o9,b9⟩;obtain⟨g9,c9,rfl,hA9,hc9⟩:=FK.of_own o9;have b89:=HAL.o.trans (b9.mono HAL.o.size);have HB9:=CY <| HB8.o.trans (b89.mono HB8.o.size)
      have HD9:=CX (HD8.o.below b89);have HPA9:=CX (HPA8.o.below b89);have HPR9:=CX (HPR8.o.below b89);have HPB9:=CX (HPB8.o.below b89);have HBY:AO (Cb (sig.take 32++pub++msg)):=λz hz=>by
       simp only[List.mem_append] at hz;rcases hz with (h|h)|h
       {exact Fj HZ.o.2.2 32 z h};{exact HZ.o.1 z h};{exact HZ.o.2.1 z h}
      have CH:=CX (NA g9 0 c9 _ (sig.take 32++pub++msg) w9 rfl hA9.lt hA9.c HBY.o (by rw[HFN.o];omega));rw[HFN.o] at CH |-;go_wp2_with fail;refine CH.o.mono ?_;rintro e w10 ⟨v10,rfl,o10,b10⟩;obtain⟨g10,c10,rfl,hA10,hc10⟩:=FK.of_own o10;have HB10:=CY <| HB9.o.trans (b10.mono HB9.o.size)
      have HD10:=CX (HD9.o.below b10);have HPA10:=CX (HPA9.o.below b10);have HPR10:=CX (HPR9.o.below b10);have HPB10:=CX (HPB9.o.below b10);have hsl9:(F0 (sig.take 32++pub++msg)).length=64:=by unfold F0;rw[Gv,(Jo _ _ _).1]
      have CR:=CX (KK (aR ⟨g10,0,aS⟩) 64 c10 (F0 (sig.take 32++pub++msg)) w10 hsl9 AK hA10.at_ (by unfold F0;exact I5 _));rw[hsl9];go_wp2_with fail;refine CR.o.mono ?_;rintro e w11 ⟨v11,ks,rfl,o11,hkb,hkl,hkv,b11⟩;obtain⟨gk,ck,rfl,hAk,hck⟩:=FK.of_own o11;rw[hkl];have HB11:=CY <| HB10.o.trans (b11.mono HB10.o.size)
      have HD:=CX (HD10.o.below b11);have HPA:=CX (HPA10.o.below b11);have HPR:=CX (HPR10.o.below b11);have HPB:=CX (HPB10.o.below b11);have HK:=CX hAk;have HKV:AO (Cb ks/\ks.length=32/\val 256 ks=Kk pub msg sig):=⟨hkb,hkl,hkv⟩
      go_wp2_with fail;obtain⟨p1,pc1,p2,pc2,p3,pc3,p4,pc4,pW,pf1,pf2,pf3,pf4⟩:=HPB.o;have PW:=CX pW;have PF:=CX (Al pf1 (Al pf2 (Al pf3 pf4)));refine Ag AM ?_;refine Cg (λi x y=>i=6\/Below x.heap.size x y) (frame:=(λ(a b c d e f g h i j k l m n o p q r s u v w x y z A B C D E F G H I J K L M N O P Q R S T U V W X Y Z a0 a1 a2 a3 a4 a5 a6 a7 a8 a9 b0 b1 b2 b3 b4 b5 b6 b7 b8 b9 c0 c1 c2 c3 c4 c5 c6:aX)=>λ(t:Nat->aX)=>({ tmps:=List.toArray [a,b,c,d,e,f,g,h,i,j,k,l,m,n,o,t 5,p,q,r,s,u,v,w,x,y,z,A,B,C,D,E,F,G,H,I,J,K,L,M,N,O,P,Q,R,S,T,U,V,W,X,Y,Z,a0,a1,a2,a3,a4,a5,a6,a7,a8,a9,b0,b1,b2,t 0,t 1,t 2,t 3,t 4,b3,b4,b5,b6,b7,b8,b9,c0,c1,c2,c3,c4,c5,c6],defers:=[] }:Act)) _ _ _ _ _ _ _ _ _ _ _ _ _ _ _ _ _ _ _ _ _ _ _ _ _ _ _ _ _ _ _ _ _ _ _ _ _ _ _ _ _ _ _ _ _ _ _ _ _ _ _ _ _ _ _ _ _ _ _ _ _ _ _ _ _ _ _ _ _ _ _ _ _ _ _ _ _ _)
       (Ext:=λL u w'=>Ob w11 5 6 4 ((mS (val 256 (sig.drop 32)) (D7 bB) 256).1) L u w') (Good:=λi L w' v=>if i=0 then v=aM (aR ⟨bs,os,aS⟩) 64 cs else if i=1 then v=aM (aR ⟨bs,os+32,aS⟩) 32 (cs-32) else if i=2 then v=af #[aM (aR ⟨p1,0,aS⟩) 16 pc1,aM (aR ⟨p2,0,aS⟩) 16 pc2,aM (aR ⟨p3,0,aS⟩) 16 pc3,aM (aR ⟨p4,0,aS⟩) 16 pc4] else if i=3 then v=aM (aR ⟨gd,0,aS⟩) 16 cd else if i=4 then(L 6=true\/Oa w' v ((mS (val 256 (sig.drop 32)) (D7 bB) 256).1)) else if i=5 then(L 6=true\/V7 w11.heap.size w' v) else if i=6 then L 6=true else True) ?hstab AM ?hop ?hdone _ _ ((λ(x0 x1 x2 x3 x4 x5:aX)=>λ(i:Nat)=>if i=0 then x0 else if i=1 then x1 else if i=2 then x2 else if i=3 then x3 else if i=4 then x4 else if i=5 then x5 else undef) _ _ _ _ _ _) _ AL ?ext ?start AL
      case start=>intro i hi h;exact absurd h Ef
      case ext=>exact Ob.start (λ_=>NR)
      case hstab=>
       intro j L w9 w' i v hM hij hLi h;have hu:∀ k,L k=true->CZ L i k=true:=λk hk=>by unfold CZ;split<;>simp[hk]
       by_cases h4:j=4
       ·subst h4;simp at h |-;rcases hM with rfl|hM
        ·exact .inl (by simp[CZ])
        ·rcases h with h|h
         {exact .inl (hu _ h)};{exact .inr (h.below hM)}
       by_cases h5:j=5
       ·subst h5;simp at h |-;rcases hM with rfl|hM
        ·exact .inl (by simp[CZ])
        ·rcases h with h|h
         {exact .inl (hu _ h)};{exact .inr (h.below hM)}
       by_cases hs:j=6
       ·subst hs;simp at h |-;exact hu _ h
       simp only[if_neg h4,if_neg h5,if_neg hs] at h |-;exact h
      case hop=>
       intro i o L t w' ho hLi hx hdep K hK;have hi:i<7:=(AR.1 ho).1;obtain rfl|rfl|rfl|rfl|rfl|rfl|rfl:i=0\/i=1\/i=2\/i=3\/i=4\/i=5\/i=6:=AJ
       all_goals(simp at ho;subst ho)
       all_goals try(have hK':=hK w' _ rfl (hx.step _ _ Cf AK AK) (.inr Cf);clear hK;simp[Region.binds] at hdep;rw[AP AN];go_simp;simpa[Ca,hdep] using hK';done)
       ·clear hdep;have hK':=hK w' (af #[aM (aR ⟨p1,0,aS⟩) 16 pc1,aM (aR ⟨p2,0,aS⟩) 16 pc2,aM (aR ⟨p3,0,aS⟩) 16 pc3,aM (aR ⟨p4,0,aS⟩) 16 pc4]) AL (hx.step 2 _ Cf AK AK) (.inr Cf);rw[AP AN];refine Bp 79 (ah 13) rfl Gb rfl 79 _ (0,0) _ (PW.o.below hx.below PW.o.lt) underlying79 rfl Tryz.sizePt ?_;simpa[Ca,Act.put] using hK'
       ·have d1:t 1=aM (aR ⟨bs,os+32,aS⟩) 32 (cs-32):=by simpa using(hdep ⟨1,ag⟩ AL rfl).2
        have d2:t 2=af #[aM (aR ⟨p1,0,aS⟩) 16 pc1,aM (aR ⟨p2,0,aS⟩) 16 pc2,aM (aR ⟨p3,0,aS⟩) 16 pc3,aM (aR ⟨p4,0,aS⟩) 16 pc4]:=by simpa using(hdep ⟨2,ag⟩ AL rfl).2
        have d3:t 3=aM (aR ⟨gd,0,aS⟩) 16 cd:=by simpa using(hdep ⟨3,ag⟩ AL rfl).2
        have A:=KM (aR ⟨bs,os+32,aS⟩) (cs-32) (sig.drop 32) p1 p2 p3 p4 gd pc1 pc2 pc3 pc4 cd (D7 bB) w' hdl (Hv HZ.o.2.2 32) ((HS.o.below (HB11.o.trans (hx.below.mono HB11.o.size))).drop 32).at_ (PF.o.1.below hx.below) (PF.o.2.1.below hx.below) (PF.o.2.2.1.below hx.below) (PF.o.2.2.2.below hx.below) (HD.o.below hx.below);have hK':∀ ww v,Oa ww v ((mS (val 256 (sig.drop 32)) (D7 bB) 256).1)->Below w'.heap.size w' ww->K _ ww:=λww v hv hb=>hK ww v (by simp;exact .inr hv) (hx.step 4 v hb AK AK) (.inr hb)
        rw[AP AN];go_simp;try simp only[d1,d2,d3]
        refine A.mono ?_;rintro e w9 ⟨h1,k1,h2,k2,h3,k3,h4,k4,rfl,f1,f2,f3,f4,hb9⟩;have hK2:=hK' w9 _ ⟨h1,k1,h2,k2,h3,k3,h4,k4,rfl,f1,f2,f3,f4⟩ hb9;go_simp;simpa[Ca,d1,d2,d3] using hK2
       ·clear hdep;have hK':=hK (w'.alloc (aa CO 79)) (aY (aR ⟨w'.heap.size,0,aS⟩)) (by simp;exact .inr ⟨_,rfl,hx.below.size,EM.new w'⟩) (hx.made _ (Ce _ _) AK hLi) (.inr (Ce _ _));rw[AP AN];go_simp;simpa[Ca] using hK'
       ·have l4:=(hdep ⟨4,ag⟩ AL rfl).1;have f4:Oa w' (t 4) ((mS (val 256 (sig.drop 32)) (D7 bB) 256).1):=by have h:=(hdep ⟨4,ag⟩ AL rfl).2;simp at h;rcases h with h|h;(rw[hLi] at h;cases h);exact h
        have l5:=(hdep ⟨5,ag⟩ AL rfl).1;have f5:V7 w11.heap.size w' (t 5):=by have h:=(hdep ⟨5,ag⟩ AL rfl).2;simp at h;rcases h with h|h;(rw[hLi] at h;cases h);exact h
        have hK':∀ w9,Below w11.heap.size w' w9->V9 w9 (t 5) ((mS (val 256 (sig.drop 32)) (D7 bB) 256).1)->K _ w9:=λw9 hb hf=>hK w9 undef (by simp[CZ]) (hx.set undef hb AK AK l5 l4 hf) (.inl rfl)
        rw[AP AN];refine LJ (ah 15) (ah 69) rfl w11.heap.size ((mS (val 256 (sig.drop 32)) (D7 bB) 256).1) (t 5) (t 4) rfl rfl f5 f4 ?_;intro w9 hb hf;have hK2:=hK' w9 hb hf;simpa[Ca,Act.put] using hK2
      case hdone=>
       intro L t w12 hx hg;have hl:L 6=true:=by simpa using hg 6 AK
       obtain⟨_,hf⟩:=hx.fin hl;have hb:=hx.below;obtain⟨Gl,eGl,hGl⟩:=hf;have HB12:=CY <| HB11.o.trans (hb.mono HB11.o.size)
       have HD12:=CX (HD.o.below hb);have HPA12:=CX (HPA.o.below hb);have HPR12:=CX (HPR.o.below hb);have HPL12:=CX hGl;have HK12:=CX (HK.o.below hb);simp only[eGl];go_wp2_with fail;obtain⟨r1,rc1,r2,rc2,r3,rc3,r4,rc4,rW,rf1,rf2,rf3,rf4⟩:=HPR12.o;have RW:=CX rW;have RF:=CX (Al rf1 (Al rf2 (Al rf3 rf4)));obtain⟨a1,ac1,a2,ac2,a3,ac3,a4,ac4,aW,af1,af2,af3,af4⟩:=HPA12.o;have AW:=CX aW;have AF:=CX (Al af1 (Al af2 (Al af3 af4)));refine Ag AM ?_;refine Cg (λi x y=>i=8\/Below x.heap.size x y) (frame:=(λ(a b c d e f g h i j k l m n o p q r s u v w x y z A B C D E F G H I J K L M N O P Q R S T U V W X Y Z a0 a1 a2 a3 a4 a5 a6 a7 a8 a9 b0 b1 b2 b3 b4 b5 b6 b7 b8 b9 c0 c1 c2 c3 c4:aX)=>λ(t:Nat->aX)=>({ tmps:=List.toArray [a,b,c,d,e,f,g,h,i,j,k,l,m,n,o,p,t 7,q,r,s,u,v,w,x,y,z,A,B,C,D,E,F,G,H,I,J,K,L,M,N,O,P,Q,R,S,T,U,V,W,X,Y,Z,a0,a1,a2,a3,a4,a5,a6,a7,a8,a9,b0,b1,b2,b3,b4,b5,b6,b7,t 0,t 1,t 2,t 3,t 4,t 5,t 6,b8,b9,c0,c1,c2,c3,c4],defers:=[] }:Act)) _ _ _ _ _ _ _ _ _ _ _ _ _ _ _ _ _ _ _ _ _ _ _ _ _ _ _ _ _ _ _ _ _ _ _ _ _ _ _ _ _ _ _ _ _ _ _ _ _ _ _ _ _ _ _ _ _ _ _ _ _ _ _ _ _ _ _ _ _ _ _ _ _ _ _ _)
        (Ext:=λL u w'=>Ob w12 7 8 6 (F4 (D7 (sig.take 32)) (mS (Kk pub msg sig) (D7 pub) 256).1) L u w') (Good:=λi L w' v=>if i=0 then v=af #[aM (aR ⟨r1,0,aS⟩) 16 rc1,aM (aR ⟨r2,0,aS⟩) 16 rc2,aM (aR ⟨r3,0,aS⟩) 16 rc3,aM (aR ⟨r4,0,aS⟩) 16 rc4] else if i=1 then v=aM (aR ⟨gk,0,aS⟩) 32 ck else if i=2 then v=af #[aM (aR ⟨a1,0,aS⟩) 16 ac1,aM (aR ⟨a2,0,aS⟩) 16 ac2,aM (aR ⟨a3,0,aS⟩) 16 ac3,aM (aR ⟨a4,0,aS⟩) 16 ac4] else if i=3 then v=aM (aR ⟨gd,0,aS⟩) 16 cd else if i=4 then(L 8=true\/Oa w' v ((mS (Kk pub msg sig) (D7 pub) 256).1)) else if i=5 then v=aM (aR ⟨gd,0,aS⟩) 16 cd else if i=6 then(L 8=true\/Oa w' v (F4 (D7 (sig.take 32)) (mS (Kk pub msg sig) (D7 pub) 256).1)) else if i=7 then(L 8=true\/V7 w12.heap.size w' v) else if i=8 then L 8=true else True) ?hstab AM ?hop ?hdone _ _ ((λ(x0 x1 x2 x3 x4 x5 x6 x7:aX)=>λ(i:Nat)=>if i=0 then x0 else if i=1 then x1 else if i=2 then x2 else if i=3 then x3 else if i=4 then x4 else if i=5 then x5 else if i=6 then x6 else if i=7 then x7 else undef) _ _ _ _ _ _ _ _) _ AL ?ext ?start AL
       case start=>intro i hi h;exact absurd h Ef
       case ext=>exact Ob.start (λ_=>NR)
       case hstab=>
        intro j L w9 w' i v hM hij hLi h;have hu:∀ k,L k=true->CZ L i k=true:=λk hk=>by unfold CZ;split<;>simp[hk]
        by_cases h4:j=4
        ·subst h4;simp at h |-;rcases hM with rfl|hM
         ·exact .inl (by simp[CZ])
         ·rcases h with h|h
          {exact .inl (hu _ h)};{exact .inr (h.below hM)}
        by_cases h6:j=6
        ·subst h6;simp at h |-;rcases hM with rfl|hM
         ·exact .inl (by simp[CZ])
         ·rcases h with h|h
          {exact .inl (hu _ h)};{exact .inr (h.below hM)}
        by_cases h7:j=7
        ·subst h7;simp at h |-;rcases hM with rfl|hM
         ·exact .inl (by simp[CZ])
         ·rcases h with h|h
          {exact .inl (hu _ h)};{exact .inr (h.below hM)}
        by_cases hs:j=8
        ·subst hs;simp at h |-;exact hu _ h
        simp only[if_neg h4,if_neg h6,if_neg h7,if_neg hs] at h |-;exact h
       case hop=>
        intro i o L t w' ho hLi hx hdep K hK;have hi:i<9:=(AR.1 ho).1;obtain rfl|rfl|rfl|rfl|rfl|rfl|rfl|rfl|rfl:i=0\/i=1\/i=2\/i=3\/i=4\/i=5\/i=6\/i=7\/i=8:=AJ
        all_goals(simp at ho;subst ho)
        all_goals try(have hK':=hK w' _ rfl (hx.step _ _ Cf AK AK) (.inr Cf);clear hK;simp[Region.binds] at hdep;rw[AP AN];go_simp;simpa[Ca,hdep] using hK';done)
        {clear hdep;have hK':=hK w' (af #[aM (aR ⟨r1,0,aS⟩) 16 rc1,aM (aR ⟨r2,0,aS⟩) 16 rc2,aM (aR ⟨r3,0,aS⟩) 16 rc3,aM (aR ⟨r4,0,aS⟩) 16 rc4]) AL (hx.step 0 _ Cf AK AK) (.inr Cf);rw[AP AN];refine Bp 79 (ah 11) rfl Gr rfl 79 _ (0,0) _ (RW.o.below hx.below RW.o.lt) underlying79 rfl Tryz.sizePt ?_;simpa[Ca,Act.put] using hK'};{clear hdep;have hK':=hK w' (af #[aM (aR ⟨a1,0,aS⟩) 16 ac1,aM (aR ⟨a2,0,aS⟩) 16 ac2,aM (aR ⟨a3,0,aS⟩) 16 ac3,aM (aR ⟨a4,0,aS⟩) 16 ac4]) AL (hx.step 2 _ Cf AK AK) (.inr Cf);rw[AP AN];refine Bp 79 (ah 9) rfl Ga rfl 79 _ (0,0) _ (AW.o.below hx.below AW.o.lt) underlying79 rfl Tryz.sizePt ?_;simpa[Ca,Act.put] using hK'}
        ·have d1:t 1=aM (aR ⟨gk,0,aS⟩) 32 ck:=by simpa using(hdep ⟨1,ag⟩ AL rfl).2
         have d2:t 2=af #[aM (aR ⟨a1,0,aS⟩) 16 ac1,aM (aR ⟨a2,0,aS⟩) 16 ac2,aM (aR ⟨a3,0,aS⟩) 16 ac3,aM (aR ⟨a4,0,aS⟩) 16 ac4]:=by simpa using(hdep ⟨2,ag⟩ AL rfl).2
         have d3:t 3=aM (aR ⟨gd,0,aS⟩) 16 cd:=by simpa using(hdep ⟨3,ag⟩ AL rfl).2
         have A:=CX (KM (aR ⟨gk,0,aS⟩) ck ks a1 a2 a3 a4 gd ac1 ac2 ac3 ac4 cd (D7 pub) w' HKV.o.2.1 HKV.o.1 (HK12.o.below hx.below).at_ (AF.o.1.below hx.below) (AF.o.2.1.below hx.below) (AF.o.2.2.1.below hx.below) (AF.o.2.2.2.below hx.below) (HD12.o.below hx.below));rw[HKV.o.2.2] at A;have A:=A.o;have hK':∀ ww v,Oa ww v ((mS (Kk pub msg sig) (D7 pub) 256).1)->Below w'.heap.size w' ww->K _ ww:=λww v hv hb=>hK ww v (by simp;exact .inr hv) (hx.step 4 v hb AK AK) (.inr hb)
         rw[AP AN];go_simp;try simp only[d1,d2,d3]
         refine A.mono ?_;rintro e w9 ⟨h1,k1,h2,k2,h3,k3,h4,k4,rfl,f1,f2,f3,f4,hb9⟩;have hK2:=hK' w9 _ ⟨h1,k1,h2,k2,h3,k3,h4,k4,rfl,f1,f2,f3,f4⟩ hb9;go_simp;simpa[Ca,d1,d2,d3] using hK2
        ·have d0:t 0=af #[aM (aR ⟨r1,0,aS⟩) 16 rc1,aM (aR ⟨r2,0,aS⟩) 16 rc2,aM (aR ⟨r3,0,aS⟩) 16 rc3,aM (aR ⟨r4,0,aS⟩) 16 rc4]:=by simpa using(hdep ⟨0,ag⟩ AL rfl).2
         have l4:=(hdep ⟨4,ag⟩ AL rfl).1;have f4:L 8=true\/Oa w' (t 4) ((mS (Kk pub msg sig) (D7 pub) 256).1):=by have h:=(hdep ⟨4,ag⟩ AL rfl).2;simpa using h
         have d5:t 5=aM (aR ⟨gd,0,aS⟩) 16 cd:=by simpa using(hdep ⟨5,ag⟩ AL rfl).2
         rcases f4 with f4|f4
         ·have:=(hx.fin f4).1.2;rw[hLi] at this;cases this
         refine f4.elim_ λq1 e1 q2 e2 q3 e3 q4 e4 d4 y1 y2 y3 y4=>?_
         have A:=Gc (aR ⟨r1,0,aS⟩) (aR ⟨r2,0,aS⟩) (aR ⟨r3,0,aS⟩) (aR ⟨r4,0,aS⟩) (aR ⟨q1,0,aS⟩) (aR ⟨q2,0,aS⟩) (aR ⟨q3,0,aS⟩) (aR ⟨q4,0,aS⟩) (aR ⟨gd,0,aS⟩) rc1 rc2 rc3 rc4 e1 e2 e3 e4 cd _ _ _ _ _ _ _ _ Dl w' (λe he=>by
           simp only[List.mem_cons,List.not_mem_nil,or_false] at he;rcases he with rfl|rfl|rfl|rfl|rfl|rfl|rfl|rfl|rfl
           {exact RF.o.1.below hx.below};{exact RF.o.2.1.below hx.below};{exact RF.o.2.2.1.below hx.below};{exact RF.o.2.2.2.below hx.below};{exact y1};{exact y2};{exact y3};{exact y4}
           ·exact HD12.o.below hx.below)
         have hK':∀ ww v,Oa ww v (F4 (D7 (sig.take 32)) (mS (Kk pub msg sig) (D7 pub) 256).1)->Below w'.heap.size w' ww->K _ ww:=λww v hv hb=>hK ww v (by simp;exact .inr hv) (hx.step 6 v hb AK AK) (.inr hb)
         rw[AP AN];go_simp;try simp only[d0,d5,d4]
         refine A.mono ?_;rintro e w9 ⟨h1,k1,h2,k2,h3,k3,h4,k4,rfl,f1,f2,f3,f4x,hb9,_⟩;have hK2:=hK' w9 _ ⟨h1,k1,h2,k2,h3,k3,h4,k4,rfl,f1,f2,f3,f4x⟩ hb9;go_simp;simpa[Ca,d0,d5,d4] using hK2
        ·clear hdep;have hK':=hK (w'.alloc (aa CO 79)) (aY (aR ⟨w'.heap.size,0,aS⟩)) (by simp;exact .inr ⟨_,rfl,hx.below.size,EM.new w'⟩) (hx.made _ (Ce _ _) AK hLi) (.inr (Ce _ _));rw[AP AN];go_simp;simpa[Ca] using hK'
        ·have l6:=(hdep ⟨6,ag⟩ AL rfl).1;have f6:Oa w' (t 6) (F4 (D7 (sig.take 32)) (mS (Kk pub msg sig) (D7 pub) 256).1):=by have h:=(hdep ⟨6,ag⟩ AL rfl).2;simp at h;rcases h with h|h;(rw[hLi] at h;cases h);exact h
         have l7:=(hdep ⟨7,ag⟩ AL rfl).1;have f7:V7 w12.heap.size w' (t 7):=by have h:=(hdep ⟨7,ag⟩ AL rfl).2;simp at h;rcases h with h|h;(rw[hLi] at h;cases h);exact h
         have hK':∀ w9,Below w12.heap.size w' w9->V9 w9 (t 7) (F4 (D7 (sig.take 32)) (mS (Kk pub msg sig) (D7 pub) 256).1)->K _ w9:=λw9 hb hf=>hK w9 undef (by simp[CZ]) (hx.set undef hb AK AK l7 l6 hf) (.inl rfl)
         rw[AP AN];refine LJ (ah 16) (ah 76) rfl w12.heap.size (F4 (D7 (sig.take 32)) (mS (Kk pub msg sig) (D7 pub) 256).1) (t 7) (t 6) rfl rfl f7 f6 ?_;intro w9 hb hf;have hK2:=hK' w9 hb hf;simpa[Ca,Act.put] using hK2
       case hdone=>
        intro L t w13 hx hg;have hl:L 8=true:=by simpa using hg 8 AK
        obtain⟨_,hf⟩:=hx.fin hl;have hb:=hx.below;obtain⟨Gs,eGs,hGs⟩:=hf;have HB13:=CY <| HB12.o.trans (hb.mono HB12.o.size)
        have HPL13:=CX (HPL12.o.below hb);have HPS13:=CX hGs;simp only[eGs];go_wp2_with fail;obtain⟨l1,lc1,l2,lc2,l3,lc3,l4,lc4,lW,lf1,lf2,lf3,lf4⟩:=HPL13.o;have LW:=CX lW;have LF:=CX (Al lf1 (Al lf2 (Al lf3 lf4)));obtain⟨s1,sc1,s2,sc2,s3,sc3,s4,sc4,sW,sf1,sf2,sf3,sf4⟩:=HPS13.o;have SW:=CX sW;have SF:=CX (Al sf1 (Al sf2 (Al sf3 sf4)));refine Ag AM ?_;refine Cg (λ_ a b=>Below a.heap.size a b) (frame:=(λ(a b c d e f g h i j k l m n o p q r s u v w x y z A B C D E F G H I J K L M N O P Q R S T U V W X Y Z a0 a1 a2 a3 a4 a5 a6 a7 a8 a9 b0 b1 b2 b3 b4 b5 b6 b7 b8 b9 c0 c1 c2 c3 c4:aX)=>λ(t:Nat->aX)=>({ tmps:=List.toArray [a,b,c,d,e,f,t 7,g,h,i,j,k,l,m,n,o,p,q,r,s,u,v,w,x,y,z,A,B,C,D,E,F,G,H,I,J,K,L,M,N,O,P,Q,R,S,T,U,V,W,X,Y,Z,a0,a1,a2,a3,a4,a5,a6,a7,a8,a9,b0,b1,b2,b3,b4,b5,b6,b7,b8,b9,c0,c1,c2,c3,c4,t 0,t 1,t 2,t 3,t 4,t 5,t 6],defers:=[] }:Act)) _ _ _ _ _ _ _ _ _ _ _ _ _ _ _ _ _ _ _ _ _ _ _ _ _ _ _ _ _ _ _ _ _ _ _ _ _ _ _ _ _ _ _ _ _ _ _ _ _ _ _ _ _ _ _ _ _ _ _ _ _ _ _ _ _ _ _ _ _ _ _ _ _ _ _ _)
         (Ext:=λL u w'=>KX w13 [] L u w') (Good:=λi L w' v=>if i=0 then v=af #[aM (aR ⟨l1,0,aS⟩) 16 lc1,aM (aR ⟨l2,0,aS⟩) 16 lc2,aM (aR ⟨l3,0,aS⟩) 16 lc3,aM (aR ⟨l4,0,aS⟩) 16 lc4] else if i=1 then VG w' v (NW ((mS (val 256 (sig.drop 32)) (D7 bB) 256).1)) else if i=2 then XI w' v (NW ((mS (val 256 (sig.drop 32)) (D7 bB) 256).1)) else if i=3 then v=af #[aM (aR ⟨s1,0,aS⟩) 16 sc1,aM (aR ⟨s2,0,aS⟩) 16 sc2,aM (aR ⟨s3,0,aS⟩) 16 sc3,aM (aR ⟨s4,0,aS⟩) 16 sc4] else if i=4 then VG w' v (NW (F4 (D7 (sig.take 32)) (mS (Kk pub msg sig) (D7 pub) 256).1)) else if i=5 then XI w' v (NW (F4 (D7 (sig.take 32)) (mS (Kk pub msg sig) (D7 pub) 256).1)) else if i=6 then v=ae (JG pub msg sig) else if i=7 then v=ae (JG pub msg sig) else True) ?hstab AM ?hop ?hdone _ _ ((λ(x0 x1 x2 x3 x4 x5 x6 x7:aX)=>λ(i:Nat)=>if i=0 then x0 else if i=1 then x1 else if i=2 then x2 else if i=3 then x3 else if i=4 then x4 else if i=5 then x5 else if i=6 then x6 else if i=7 then x7 else undef) _ _ _ _ _ _ _ _) _ AL ?ext ?start AL
        case start=>intro i hi h;exact absurd h Ef
        case ext=>exact(KX.start w13 [] _ _ (λ_=>NR)).drew
        case hstab=>
         intro j L w9 w' i v hM _ _ h;by_cases h1:j=1
         ·subst h1;simp at h |-;exact h.below hM
         by_cases h2:j=2
         ·subst h2;simp at h |-;exact h.below hM
         by_cases h4:j=4
         ·subst h4;simp at h |-;exact h.below hM
         by_cases h5:j=5
         ·subst h5;simp at h |-;exact h.below hM
         simp only[if_neg h1,if_neg h2,if_neg h4,if_neg h5] at h |-;exact h
        case hop=>
         intro i o L t w' ho hLi hx hdep K hK;have hi:i<8:=(AR.1 ho).1;obtain rfl|rfl|rfl|rfl|rfl|rfl|rfl|rfl:i=0\/i=1\/i=2\/i=3\/i=4\/i=5\/i=6\/i=7:=AJ
         all_goals(simp at ho;subst ho)
         ·clear hdep;have hK':=hK w' (af #[aM (aR ⟨l1,0,aS⟩) 16 lc1,aM (aR ⟨l2,0,aS⟩) 16 lc2,aM (aR ⟨l3,0,aS⟩) 16 lc3,aM (aR ⟨l4,0,aS⟩) 16 lc4]) AL (hx.step 0 _ Cf ES) Cf;rw[AP AN];refine Bp 79 (ah 15) rfl Gl rfl 79 _ (0,0) _ (LW.o.below hx.below LW.o.lt) underlying79 rfl Tryz.sizePt ?_;simpa[Ca,Act.put] using hK'
         ·have d0:t 0=af #[aM (aR ⟨l1,0,aS⟩) 16 lc1,aM (aR ⟨l2,0,aS⟩) 16 lc2,aM (aR ⟨l3,0,aS⟩) 16 lc3,aM (aR ⟨l4,0,aS⟩) 16 lc4]:=by simpa using(hdep ⟨0,ag⟩ AL rfl).2
          have A:=KH (aR ⟨l1,0,aS⟩) (aR ⟨l2,0,aS⟩) (aR ⟨l3,0,aS⟩) (aR ⟨l4,0,aS⟩) lc1 lc2 lc3 lc4 _ _ _ w' (LF.o.1.below hx.below) (LF.o.2.1.below hx.below) (LF.o.2.2.1.below hx.below);have hK':∀ ww v,VG ww v (NW ((mS (val 256 (sig.drop 32)) (D7 bB) 256).1))->Below w'.heap.size w' ww->K _ ww:=λww v hv hb=>hK ww v (by simpa using hv) (hx.step 1 v hb ES) hb
          rw[AP AN];go_simp;try simp only[d0]
          refine A.mono ?_;rintro e w9 ⟨v9,bx,rfl,o9,hy,hl,hv,hb9⟩;have hK2:=hK' w9 v9 (by obtain⟨g,c,e,hA,_⟩:=FK.of_own o9;rw[hl] at e;exact⟨g,c,bx,e,hA,hy,hl,hv⟩) hb9;go_simp;simpa[Ca,d0] using hK2
         ·have f1:VG w' (t 1) (NW ((mS (val 256 (sig.drop 32)) (D7 bB) 256).1)):=by simpa using(hdep ⟨1,ag⟩ AL rfl).2
          refine Exists.elim f1 λgg hh=>?_
          obtain⟨cc,bx,dj,hA,hy,hl,hv⟩:=hh;have hcv:=run_convert_bytes_arg w' 22 5 underlying22 underlying5 gg 0 32 cc bx hl (λi hi=>hA.c i (by rw[hl];exact hi)) 9 underlying9;have hK':=hK w' (.string (strOfNums bx)) (by simpa using⟨bx,rfl,hy,hl,hv⟩) (hx.step 2 _ Cf ES) Cf;rw[AP AN];go_simp;simpa[Ca,dj,hcv] using hK'
         ·clear hdep;have hK':=hK w' (af #[aM (aR ⟨s1,0,aS⟩) 16 sc1,aM (aR ⟨s2,0,aS⟩) 16 sc2,aM (aR ⟨s3,0,aS⟩) 16 sc3,aM (aR ⟨s4,0,aS⟩) 16 sc4]) AL (hx.step 3 _ Cf ES) Cf;rw[AP AN];refine Bp 79 (ah 16) rfl Gs rfl 79 _ (0,0) _ (SW.o.below hx.below SW.o.lt) underlying79 rfl Tryz.sizePt ?_;simpa[Ca,Act.put] using hK'
         ·have d3:t 3=af #[aM (aR ⟨s1,0,aS⟩) 16 sc1,aM (aR ⟨s2,0,aS⟩) 16 sc2,aM (aR ⟨s3,0,aS⟩) 16 sc3,aM (aR ⟨s4,0,aS⟩) 16 sc4]:=by simpa using(hdep ⟨3,ag⟩ AL rfl).2
          have A:=KH (aR ⟨s1,0,aS⟩) (aR ⟨s2,0,aS⟩) (aR ⟨s3,0,aS⟩) (aR ⟨s4,0,aS⟩) sc1 sc2 sc3 sc4 _ _ _ w' (SF.o.1.below hx.below) (SF.o.2.1.below hx.below) (SF.o.2.2.1.below hx.below);have hK':∀ ww v,VG ww v (NW (F4 (D7 (sig.take 32)) (mS (Kk pub msg sig) (D7 pub) 256).1))->Below w'.heap.size w' ww->K _ ww:=λww v hv hb=>hK ww v (by simpa using hv) (hx.step 4 v hb ES) hb
          rw[AP AN];go_simp;try simp only[d3]
          refine A.mono ?_;rintro e w9 ⟨v9,bx,rfl,o9,hy,hl,hv,hb9⟩;have hK2:=hK' w9 v9 (by obtain⟨g,c,e,hA,_⟩:=FK.of_own o9;rw[hl] at e;exact⟨g,c,bx,e,hA,hy,hl,hv⟩) hb9;go_simp;simpa[Ca,d3] using hK2
         ·have f4:VG w' (t 4) (NW (F4 (D7 (sig.take 32)) (mS (Kk pub msg sig) (D7 pub) 256).1)):=by simpa using(hdep ⟨4,ag⟩ AL rfl).2
          refine Exists.elim f4 λgg hh=>?_
          obtain⟨cc,bx,dj,hA,hy,hl,hv⟩:=hh;have hcv:=run_convert_bytes_arg w' 22 5 underlying22 underlying5 gg 0 32 cc bx hl (λi hi=>hA.c i (by rw[hl];exact hi)) 9 underlying9;have hK':=hK w' (.string (strOfNums bx)) (by simpa using⟨bx,rfl,hy,hl,hv⟩) (hx.step 5 _ Cf ES) Cf;rw[AP AN];go_simp;simpa[Ca,dj,hcv] using hK'
         ·have f2:XI w' (t 2) (NW ((mS (val 256 (sig.drop 32)) (D7 bB) 256).1)):=by simpa using(hdep ⟨2,ag⟩ AL rfl).2
          have f5:XI w' (t 5) (NW (F4 (D7 (sig.take 32)) (mS (Kk pub msg sig) (D7 pub) 256).1)):=by simpa using(hdep ⟨5,ag⟩ AL rfl).2
          refine Exists.elim f2 λbx hh=>?_
          obtain⟨d2,hy,hl,hv⟩:=hh;refine Exists.elim f5 λbz hh'=>?_
          obtain⟨d5,hy',hl',hv'⟩:=hh';have hq:((strOfNums bx).toList == (strOfNums bz).toList)=JG pub msg sig:=by rw[VH hy hy' hl hl',hv,hv'];rfl
          have hK':=hK w' (ae (JG pub msg sig)) AL (hx.step 6 _ Cf ES) Cf;generalize JG pub msg sig=bb at *;rw[AP AN];go_simp;simpa[Ca,d2,d5,hq] using hK'
         ·have d6:t 6=ae (JG pub msg sig):=by simpa using(hdep ⟨6,ag⟩ AL rfl).2
          have hK':=hK w' (ae (JG pub msg sig)) AL (hx.step 7 _ Cf ES) Cf;rw[AP AN];go_simp;simpa[Ca,d6] using hK'
        case hdone=>
         intro L t w14 hx hg;have e7:t 7=ae (JG pub msg sig):=by simpa using hg 7 AK
         have HBF:=CY <| HB13.o.trans (hx.below.mono HB13.o.size)
         simp only[e7];go_wp2
         go_ret
         exact⟨by rw[HVR.o];rfl,HBF.o⟩
  ·have HV:=CX (VI (pub:=pub) (msg:=msg) (sig:=sig) (by rw[hsl];exact h64));have h65:¬ ((ns:Int)=64):=AJ
   have h66:((ns:Int) != 64)=true:=by simpa using h65
   go_enter func67,ntmps67;go_wp2
   go_ret
   exact⟨by rw[HV.o];rfl,A8 _ _⟩
 ·have HV:=CX (VJ (pub:=pub) (msg:=msg) (sig:=sig) (by rw[hpl];exact h32));have h65:¬ ((np:Int)=32):=AJ
  have h66:((np:Int) != 32)=true:=by simpa using h65
  go_enter func67,ntmps67;go_wp2
  go_ret
  exact⟨by rw[HV.o];rfl,A8 _ _⟩
noncomputable def Db (D U ks tk:List Int) (now:Int):Int:=
 if now<0 then 10 else if 4294967295<now then 10 else if Jp tk=false then 2 else if 256<=E6 tk then 3 else if FN tk<now then 4 else if Df (E6 tk) D=true then 5 else if Df (E6 tk) U=true then 6 else if Hu ks (tk.take 8) (tk.drop 8)=true then 1 else 7
structure Q8 (w:aV) (t0 t1:TypeId) (c0 c1:Array aX) (wr:aV):Prop where
 below:Below w.heap.size w wr
 b0:wr.heap[w.heap.size]?=aR (aa c0 t0 (0,0))
 b1:wr.heap[w.heap.size+1]?=aR (aa c1 t1 (0,0))
theorem Q8.start (w:aV) (t0 t1:TypeId) (c0 c1:Array aX):Q8 w t0 t1 c0 c1 ((w.alloc (aa c0 t0)).alloc (aa c1 t1)):=by
 refine⟨(Cf.alloc Ch _).alloc AL _,?_,?_⟩
 ·rw[BD _ _ w.heap.size AL];exact AS w _
 ·have:=AS (w.alloc (aa c0 t0)) (aa c1 t1)
  rwa [show(w.alloc (aa c0 t0)).heap.size=w.heap.size+1 by simp] at this
theorem Q8.lt {w wr:aV} {t0 t1:TypeId} {c0 c1:Array aX} (h:Q8 w t0 t1 c0 c1 wr):w.heap.size+1<wr.heap.size:=(AR.1 h.b1).1
theorem Q8.call {w wr w':aV} {t0 t1:TypeId} {c0 c1:Array aX} (h:Q8 w t0 t1 c0 c1 wr) (b:Below wr.heap.size wr w'):Q8 w t0 t1 c0 c1 w':=by
 have:=h.lt;exact⟨h.below.trans (b.mono h.below.size),by rw[b.block _ AJ];exact h.b0,by rw[b.block _ AJ];exact h.b1⟩
theorem NB {D U ks tk:List Int} {now:Int} (h:now<0\/4294967295<now):Db D U ks tk now=10:=by
 unfold Db;by_cases h0:now<0
 ·rw[AP h0]
 ·rw[AQ h0,AP (h.resolve_left h0)]
theorem Pm {D U ks tk:List Int} {now:Int} (h0:0<=now) (h1:now<=4294967295):Db D U ks tk now=if Jp tk=false then 2 else if 256<=E6 tk then 3 else if FN tk<now then 4 else if Df (E6 tk) D=true then 5 else if Df (E6 tk) U=true then 6 else if Hu ks (tk.take 8) (tk.drop 8)=true then 1 else 7:=by
 unfold Db;rw[AQ AJ,AQ AJ]
theorem VL (aD aU aT:Option Addr) (nD cD nU cU nT cT:Nat) (D U:List Int) (k:Int) (bp op cp:Nat) (ks:List Int) (ta:Option Addr) (tn tc:Nat) (tk:List Int) (kind now N:Int) (w:aV) (hD:D.length=nD) (hU:U.length=nU) (mD:nD<=1048576) (mU:nU<=1048576)
  (haD:At aZ w aD D) (haU:At aZ w aU U) (hk:ks.length=32) (hp:FK w bp op ks) (zk:Cb ks) (ht:tk.length=tn) (mt:tn<=1048576) (hct:tn<=tc) (hat:At aP w ta tk) (zt:Cb tk) :
  Calls tP 41 #[af #[aM aD nD cD,aM aU nU cU,aO aZ k,aM aT nT cT],aM (aR ⟨bp,op,aS⟩) 32 cp,af #[aO aZ kind,aM ta tn tc,aO aZ now,aO aZ N]] w λe w'=>e=aQ (aO aZ (Db D U ks tk now))/\Below w.heap.size w w':=by
 have HX0:AO (Q8 w 26 28 #[aM aD nD cD,aM aU nU cU,aO aZ k,aM aT nT cT] #[aO aZ kind,aM ta tn tc,aO aZ now,aO aZ N] ((w.alloc (aa #[aM aD nD cD,aM aU nU cU,aO aZ k,aM aT nT cT] 26)).alloc (aa #[aO aZ kind,aM ta tn tc,aO aZ now,aO aZ N] 28))):=Q8.start _ _ _ _ _;have HA:AO (∀ wz,Below w.heap.size w wz->At aZ wz aD D/\At aZ wz aU U/\At aP wz ta tk/\FK wz bp op ks):=λwz h=>⟨haD.below h,haU.below h,hat.below h,hp.below h⟩
 have HL:AO (D.length=nD/\U.length=nU/\tk.length=tn/\ks.length=32/\Cb ks/\Cb tk):=⟨hD,hU,ht,hk,zk,zt⟩
 have HTB:AO (Jp tk=true->tk.length=72):=λh=>by
  unfold Jp at h;simp at h;exact h.1
 have HSZ:AO ((tP.info? 86).map (·.size)=aR 3):=by show _=_;kernel_rfl
 have HCB:AO (now<0\/4294967295<now->Db D U ks tk now=10):=NB;have HCI:AO (0<=now->now<=4294967295->Db D U ks tk now=if Jp tk=false then 2 else if 256<=E6 tk then 3 else if FN tk<now then 4 else if Df (E6 tk) D=true then 5 else if Df (E6 tk) U=true then 6 else if Hu ks (tk.take 8) (tk.drop 8)=true then 1 else 7):=Pm;clear hD hU haD haU hk hp zk ht hat zt;go_enter func41,ntmps41
 go_upto_region 1 with fail
 generalize ((w.alloc (aa #[aM aD nD cD,aM aU nU cU,aO aZ k,aM aT nT cT] 26)).alloc (aa #[aO aZ kind,aM ta tn tc,aO aZ now,aO aZ N] 28))=w0 at *;have o1:w0.cell? ⟨w.heap.size+1,1,aS⟩=aR (aM ta tn tc):=by rw[AA HX0.o.b1 1];rfl
 have o2:w0.cell? ⟨w.heap.size+1,2,aS⟩=aR (aO aZ now):=by rw[AA HX0.o.b1 2];rfl
 have HB0:=CY <| HX0.o.below
 by_cases hn0:now<0
 ·have HF:=CY <| HCB.o (.inl hn0)
  clear HCB HCI HTB;go_wp2
  go_ret
  exact⟨by rw[HF.o];rfl,HB0.o⟩
 by_cases hn1:4294967295<now
 ·have HF:=CY <| HCB.o (.inr hn1)
  have hn0':=Ac hn0;have hn1':=Aj hn1;clear HCB HCI HTB;go_wp2
  go_ret
  exact⟨by rw[HF.o];rfl,HB0.o⟩
 have hn0':=Ac hn0;have hn1':=Ac hn1;have HC:=CX (HCI.o AJ AJ);clear HCB HCI hn0 hn1;go_wp2_with fail;refine(Pj ta tn tc tk _ HL.o.2.2.1 mt hct (HA.o _ HB0.o).2.2.1 HL.o.2.2.2.2.2).mono ?_;rintro e w1 ⟨rfl,hb1⟩;have HX1:=CY <| HX0.o.call hb1
 clear hb1 HX0 HB0 o1 o2;generalize hq:Jp tk=q at *;have HQ:=CY <| hq
 clear hq;obtain⟨s,x,HV⟩:∃ s x,AO (Tx tk=af #[ae q,aO aZ s,aO aZ x]/\(q=true->E6 tk=s/\FN tk=x)):=by
  cases q with
  |false=>exact⟨0,0,Hg HQ.o,λh=>by cases h⟩
  |true=>exact⟨_,_,Iy HQ.o,λ_=>⟨rfl,rfl⟩⟩
 have HN:AO ((w1.alloc (aa CF 86)).heap[w1.heap.size]?=aR (aa CF 86 (0,0))):=AS w1 _;have HB2:AO (Below w1.heap.size w1 ((w1.alloc (aa CF 86)).setRow w1.heap.size #[ae q,aO aZ s,aO aZ x])):=(Cf.alloc Ch _).trans ((Wr.setRow _ _ _).below Ch);have HR2:AO (((w1.alloc (aa CF 86)).setRow w1.heap.size #[ae q,aO aZ s,aO aZ x]).heap[w1.heap.size]?=aR (aa #[ae q,aO aZ s,aO aZ x] 86 (0,0))):=AB HN.o;have HX2:=CY <| HX1.o.call HB2.o
 rw[HV.o.1]
 go_upto_region 4 with (first
  |(refine AE 86 (ah 7) (ah 18) w1.heap.size #[ae q,aO aZ s,aO aZ x] 86 HN.o HSZ.o rfl (by simp[Value.oneCell']) ?_)
  |fail)
 clear HN HSZ HB2 HX1;generalize (w1.alloc (aa CF 86)).setRow w1.heap.size #[ae q,aO aZ s,aO aZ x]=w2 at *;have HB2:=CY <| HX2.o.below
 have c0:w2.cell? ⟨w1.heap.size,0,aS⟩=aR (ae q):=by rw[AA HR2.o 0];rfl
 have c1:w2.cell? ⟨w1.heap.size,1,aS⟩=aR (aO aZ s):=by rw[AA HR2.o 1];rfl
 have c2:w2.cell? ⟨w1.heap.size,2,aS⟩=aR (aO aZ x):=by rw[AA HR2.o 2];rfl
 have o1:AO (w2.cell? ⟨w.heap.size+1,1,aS⟩=aR (aM ta tn tc)):=by show _=_;rw[AA HX2.o.b1 1];rfl
 have o2:w2.cell? ⟨w.heap.size+1,2,aS⟩=aR (aO aZ now):=by rw[AA HX2.o.b1 2];rfl
 have s0:w2.cell? ⟨w.heap.size,0,aS⟩=aR (aM aD nD cD):=by rw[AA HX2.o.b0 0];rfl
 have s1:w2.cell? ⟨w.heap.size,1,aS⟩=aR (aM aU nU cU):=by rw[AA HX2.o.b0 1];rfl
 clear HR2;cases q with
 |false=>
  have HF:AO (Db D U ks tk now=2):=by show _=_;rw[HC.o,AP rfl]
  clear HC HV HTB;go_wp2
  go_ret
  exact⟨by rw[HF.o];rfl,HB2.o⟩
 |true=>
 have HC2:=HC.o;rw[AQ (λh=>by cases h),(HV.o.2 rfl).1,(HV.o.2 rfl).2] at HC2;have HY:=CX HC2;clear HC2;have HC2:=HY;clear HY;have HT72:=CY <| HTB.o rfl
 have HSB:AO (Df s D=Df s D):=rfl;clear HC HV HTB HQ;by_cases hs:256<=s
 ·have HF:AO (Db D U ks tk now=3):=by show _=_;rw[HC2.o,AP hs]
  have hs':=hs;clear HC2;go_wp2
  go_ret
  exact⟨by rw[HF.o];rfl,HB2.o⟩
 have hs':=hs;by_cases hx:x<now
 ·have HF:AO (Db D U ks tk now=4):=by show _=_;rw[HC2.o,AQ hs,AP hx]
  have hx':=hx;clear HC2;go_wp2
  go_ret
  exact⟨by rw[HF.o];rfl,HB2.o⟩
 have hx':=hx;have HC3:=HC2.o;rw[AQ hs,AQ hx] at HC3;have HY:=CX HC3;clear HC3;have HC3:=HY;clear HY;clear HC2 HSB;go_wp2_with fail;refine(C3 aD nD cD D s _ HL.o.1 mD (HA.o _ HB2.o).1).mono ?_;rintro e w4 ⟨rfl,e4⟩;obtain rfl:w2=w4:=e4.symm;cases hm:Df s D with
 |true=>
  have HF:AO (Db D U ks tk now=5):=by show _=_;rw[HC3.o,AP hm]
  clear HC3 hm;go_wp2
  go_ret
  exact⟨by rw[HF.o];rfl,HB2.o⟩
 |false=>
 have HC4:=HC3.o;rw[AQ (by rw[hm];decide)] at HC4;have HY:=CX HC4;clear HC4;have HC4:=HY;clear HY;clear HC3 hm;go_wp2_with fail;refine(C3 aU nU cU U s _ HL.o.2.1 mU (HA.o _ HB2.o).2.1).mono ?_;rintro e w4 ⟨rfl,e4⟩;obtain rfl:w2=w4:=e4.symm;cases hm:Df s U with
 |true=>
  have HF:AO (Db D U ks tk now=6):=by show _=_;rw[HC4.o,AP hm]
  clear HC4 hm;go_wp2
  go_ret
  exact⟨by rw[HF.o];rfl,HB2.o⟩
 |false=>
 have HC5:=HC4.o;rw[AQ (by rw[hm];decide)] at HC5;have HTV:=CX HC5;clear HC4 HC5 hm;have h72:=HT72.o.symm.trans HL.o.2.2.1;subst h72;obtain⟨bt,ot,rfl,-,-⟩:=(HA.o _ HB2.o).2.2.1.get (by rw[HT72.o];decide);have HPT:AO (∀ wz,Below w.heap.size w wz->FK wz bt ot tk):=λwz h=>by
  obtain⟨b',o',e',hl',hc'⟩:=(HA.o _ h).2.2.1.get (by rw[HT72.o];decide);cases e';exact⟨hl',hc'⟩
 have HT8:AO ((8:Int)<=tc/\(72:Int)<=tc/\¬ (tc=8)):=⟨AJ,AJ,AJ⟩
 have HVS:AO (∀ wz,Below w.heap.size w wz->Calls tP 67 #[aM (aR ⟨bp,op,aS⟩) 32 cp,aM (aR ⟨bt,ot,aS⟩) 8 tc,aM (aR ⟨bt,ot+8,aS⟩) 64 (tc-8:Nat)] wz λe w'=>e=aQ (ae (Hu ks (tk.take 8) (tk.drop 8)))/\Below wz.heap.size wz w'):=λwz h=>
  VK bp op cp bt ot tc bt (ot+8) (tc-8) 32 8 64 ks (tk.take 8) (tk.drop 8) wz HL.o.2.2.2.1 (by rw[Aq,HT72.o];rfl) (by rw[BF,HT72.o]) (HA.o wz h).2.2.2 ((HPT.o wz h).take 8) ((HPT.o wz h).drop 8) HL.o.2.2.2.2.1 (λz hz=>HL.o.2.2.2.2.2 z (Ax hz)) (λz hz=>HL.o.2.2.2.2.2 z (BT hz)) AJ AK AK AK
 have HC1:=o1;have HLT:=CY <| HX2.o.lt
 have HB9:=CY <| HB2.o
 generalize Hu ks (tk.take 8) (tk.drop 8)=V at *;clear HPT HT72 HA HL HX2 HB2 o1 o2 s0 s1 c0 c1 c2 hs hx hs' hx' hn0' hn1' mD mU mt hct;go_wp2_with fail;refine Ag AM ?_;refine Cg (λ_ a b=>Below a.heap.size a b) (frame:=(λ(a b c d e f g h i j k l m n o p q r s u v w x y z A B C D E F G H I J K L M N O:aX)=>λ(t:Nat->aX)=>({ tmps:=List.toArray [a,b,c,d,e,f,g,h,i,j,k,l,m,n,o,p,q,r,s,u,v,w,x,y,z,A,B,C,D,E,F,G,H,I,J,K,L,M,N,O,t 0,t 1,t 2,t 3,t 4,t 5,t 6,t 7,t 8],defers:=[] }:Act)) _ _ _ _ _ _ _ _ _ _ _ _ _ _ _ _ _ _ _ _ _ _ _ _ _ _ _ _ _ _ _ _ _ _ _ _ _ _ _ _)
  (Ext:=λL u w'=>KX w2 [] L u w') (Good:=λi L w' v=>if i=0 then v=aM (aR ⟨bp,op,aS⟩) 32 cp else if i=1 then v=aY (aR ⟨w.heap.size+1,1,aS⟩) else if i=2 then v=aM (aR ⟨bt,ot,aS⟩) 72 tc else if i=3 then v=aM (aR ⟨bt,ot,aS⟩) 8 tc else if i=4 then v=aY (aR ⟨w.heap.size+1,1,aS⟩) else if i=5 then v=aM (aR ⟨bt,ot,aS⟩) 72 tc else if i=6 then v=aM (aR ⟨bt,ot+8,aS⟩) 64 (tc-8:Nat) else if i=7 then v=ae V else if i=8 then v=ae (!V) else True) ?hstab AM ?hop ?hdone _ _ ((λ(x0 x1 x2 x3 x4 x5 x6 x7 x8:aX)=>λ(i:Nat)=>if i=0 then x0 else if i=1 then x1 else if i=2 then x2 else if i=3 then x3 else if i=4 then x4 else if i=5 then x5 else if i=6 then x6 else if i=7 then x7 else if i=8 then x8 else undef) _ _ _ _ _ _ _ _ _) _ AL ?ext ?start AL
 case start=>intro i hi h;exact absurd h Ef
 case ext=>exact(KX.start w2 [] _ _ (λ_=>NR)).drew
 case hstab=>
  intro j L w9 w' i v hM _ _ h;exact h
 case hop=>
  intro i o L t w' ho hLi hx hdep K hK;have hi:i<9:=(AR.1 ho).1;obtain rfl|rfl|rfl|rfl|rfl|rfl|rfl|rfl|rfl:i=0\/i=1\/i=2\/i=3\/i=4\/i=5\/i=6\/i=7\/i=8:=AJ
  all_goals(simp at ho;subst ho)
  all_goals try(have hK':=hK w' _ rfl (hx.step _ _ Cf ES) Cf;clear hK;simp[Region.binds] at hdep;rw[AP AN];go_simp;simpa[Ca,hdep] using hK';done)
  ·have d1:t 1=aY (aR ⟨w.heap.size+1,1,aS⟩):=by simpa using(hdep ⟨1,ag⟩ AL rfl).2
   clear hdep;have cc:w'.cell? ⟨w.heap.size+1,1,aS⟩=aR (aM (aR ⟨bt,ot,aS⟩) 72 tc):=by rw[hx.below.cell (p:=⟨w.heap.size+1,1,aS⟩) HLT.o];exact HC1.o
   have hK':=hK w' (aM (aR ⟨bt,ot,aS⟩) 72 tc) AL (hx.step 2 _ Cf ES) Cf;clear hK;rw[AP AN];go_simp;simpa[Ca,d1] using hK'
  ·have d2:t 2=aM (aR ⟨bt,ot,aS⟩) 72 tc:=by simpa using(hdep ⟨2,ag⟩ AL rfl).2
   clear hdep;have h8:=HT8.o.1;have hK':=hK w' (aM (aR ⟨bt,ot,aS⟩) 8 tc) AL (hx.step 3 _ Cf ES) Cf;clear hK;rw[AP AN];go_simp;simpa[Ca,d2] using hK'
  ·have d4:t 4=aY (aR ⟨w.heap.size+1,1,aS⟩):=by simpa using(hdep ⟨4,ag⟩ AL rfl).2
   clear hdep;have cc:w'.cell? ⟨w.heap.size+1,1,aS⟩=aR (aM (aR ⟨bt,ot,aS⟩) 72 tc):=by rw[hx.below.cell (p:=⟨w.heap.size+1,1,aS⟩) HLT.o];exact HC1.o
   have hK':=hK w' (aM (aR ⟨bt,ot,aS⟩) 72 tc) AL (hx.step 5 _ Cf ES) Cf;clear hK;rw[AP AN];go_simp;simpa[Ca,d4] using hK'
  ·have d5:t 5=aM (aR ⟨bt,ot,aS⟩) 72 tc:=by simpa using(hdep ⟨5,ag⟩ AL rfl).2
   clear hdep;have h8:(8:Int)<=tc:=HT8.o.1;have h72:(72:Int)<=tc:=HT8.o.2.1;have hne:¬ (tc=8):=HT8.o.2.2;have hK':=hK w' (aM (aR ⟨bt,ot+8,aS⟩) 64 (tc-8:Nat)) AL (hx.step 6 _ Cf ES) Cf;clear hK;rw[AP AN];go_simp;simpa[Ca,d5] using hK'
  ·have d0:t 0=aM (aR ⟨bp,op,aS⟩) 32 cp:=by simpa using(hdep ⟨0,ag⟩ AL rfl).2
   have d3:t 3=aM (aR ⟨bt,ot,aS⟩) 8 tc:=by simpa using(hdep ⟨3,ag⟩ AL rfl).2
   have d6:t 6=aM (aR ⟨bt,ot+8,aS⟩) 64 (tc-8:Nat):=by simpa using(hdep ⟨6,ag⟩ AL rfl).2
   clear hdep;have A:=HVS.o w' (HB9.o.trans (hx.below.mono HB9.o.size));have hK':∀ ww,Below w'.heap.size w' ww->K _ ww:=λww hb=>hK ww (ae V) AL (hx.step 7 _ hb ES) hb
   clear hK;rw[AP AN];go_simp;try simp only[d0,d3,d6]
   refine A.mono ?_;rintro e w9 ⟨rfl,hb9⟩;have hK2:=hK' w9 hb9;clear hK' A hb9;go_simp;simpa[Ca,d0,d3,d6] using hK2
 case hdone=>
  intro L t w6 hx hg;have e8:t 8=ae (!V):=by simpa using hg 8 AK
  have HBF:AO (Below w.heap.size w w6):=HB9.o.trans (hx.below.mono HB9.o.size);clear hg hx;simp only[e8];clear e8;cases V with
  |true=>
   have HF:AO (Db D U ks tk now=1):=HTV.o;clear HTV;go_wp2
   go_ret
   exact⟨by rw[HF.o];rfl,HBF.o⟩
  |false=>
   have HF:AO (Db D U ks tk now=7):=HTV.o;clear HTV;go_wp2
   go_ret
   exact⟨by rw[HF.o];rfl,HBF.o⟩
structure DU where
 c:Int
 fk:Int
 a:Nat
 b:Nat
noncomputable def FL (D U:List Int) (k:Int) (n:Nat) (ks:List Int) (kind:Int) (tk:List Int) (now N:Int):DU:=
 if kind=1 then(if Db D U ks tk now=1 then ⟨1,1,(E6 tk).toNat,now.toNat⟩ else ⟨Db D U ks tk now,0,0,0⟩)
 else if kind=2 then(if 0<=N/\N<256 then(if Df N D=true then ⟨9,0,0,0⟩ else if D.length=16 then ⟨10,0,0,0⟩ else ⟨9,2,N.toNat,1⟩) else ⟨10,0,0,0⟩)
 else if kind=3 then(if 0<=N/\N<256 then(if Df N D=true then ⟨9,2,N.toNat,0⟩ else ⟨9,0,0,0⟩) else ⟨10,0,0,0⟩)
 else if kind=4 then(if N<k then ⟨10,0,0,0⟩ else if k+(n:Int)<N then ⟨10,0,0,0⟩ else if N=k then ⟨9,0,0,0⟩ else ⟨9,3,N.toNat,0⟩)
 else ⟨9,0,0,0⟩
def IU (r:DU):aX:=.tuple #[aO aZ r.c,af #[aO ai 0,aO aZ r.fk,aO ai (r.a:Int),aO ai (r.b:Int)]]
theorem TL {x:Nat} (h:x<=4294967295):IntKind.u32.wrap (x:Int)=x:=by
 rw[IntKind.wrap_u32];omega
theorem TM {tk:List Int} (h:Cb tk):0<=E6 tk:=by
 unfold E6;have a:∀ i,0<=tk.getD i 0:=λi=>by
  by_cases hi:i<tk.length
  {have:=h (tk.getD i 0) (by simp[List.getD,hi]);omega};{simp[List.getD,hi]}
 have:=a 2;have:=a 3;omega
theorem KO {D U ks tk:List Int} {now:Int} (hz:Cb tk) (h:Db D U ks tk now=1):∃ s m:Nat,E6 tk=s/\now=m/\s<256/\m<=4294967295/\Jp tk=true:=by
 have hs:=TM hz;unfold Db at h;by_cases h0:now<0
 ·rw[AP h0] at h;omega
 rw[AQ h0] at h;by_cases h1:4294967295<now
 ·rw[AP h1] at h;omega
 rw[AQ h1] at h;by_cases h2:Jp tk=false
 ·rw[AP h2] at h;omega
 rw[AQ h2] at h;by_cases h3:256<=E6 tk
 ·rw[AP h3] at h;omega
 exact⟨(E6 tk).toNat,now.toNat,AJ,AJ,AJ,AJ,by simpa using h2⟩
theorem NC {D U:List Int} {k:Int} {n:Nat} {ks tk:List Int} {now N:Int}:FL D U k n ks 4 tk now N=if N<k then ⟨10,0,0,0⟩ else if k+(n:Int)<N then ⟨10,0,0,0⟩ else if N=k then ⟨9,0,0,0⟩ else ⟨9,3,N.toNat,0⟩:=by
 unfold FL;rw[AQ AK,AQ AK,AQ AK,AP rfl]
theorem VM (w:aV) (o:Bool) (s x:Int):(Instr.field 86 (af #[ae o,aO aZ s,aO aZ x]) 1).run tP w=.ok (aO aZ s) w:=AM
theorem C6 {fn:Func} {p u:Tmp} (h:fn.results=#[.tmp u,.cell p 38]) (tmps:Array aX) (w:aV) (g:Nat) (cs:Array aX) (v:aX) (hv:tmps.getD u undef=v)
  (hp:tmps.getD p undef=aY (aR ⟨g,0,aS⟩)) (hr:w.heap[g]?=aR (aa cs 38 (0,0))) (hs:(tP.info? 38).map (·.size)=aR cs.size) :
  (results fn tmps).run tP w=.ok (.tuple #[v,af cs]) w:=by
 have hp':tmps[p]?.getD undef=aY (aR ⟨g,0,aS⟩):=by simpa using hp
 have hv':tmps[u]?.getD undef=v:=by simpa using hv
 have hl:=run_loadVar_row (P:=tP) w g 38 38 cs (0,0) _ hr underlying38 rfl hs;simp[results,h,hp',hv',asAddr,hl]
theorem VN (aD aU aT:Option Addr) (nD cD nU cU nT cT:Nat) (D U:List Int) (k:Int) (bp op cp:Nat) (ks:List Int) (ta:Option Addr) (tn tc:Nat) (tk:List Int) (kind now N:Int) (w:aV) (hD:D.length=nD) (hU:U.length=nU) (mD:nD<=1048576) (mU:nU<=1048576) (mT:nT<=1048576)
  (haD:At aZ w aD D) (haU:At aZ w aU U) (h0:0<=k) (h1:k<=1048576) (hk:ks.length=32) (hp:FK w bp op ks) (zk:Cb ks) (ht:tk.length=tn) (mt:tn<=1048576) (hct:tn<=tc) (hat:At aP w ta tk) (zt:Cb tk) :
  Calls tP 22 #[af #[aM aD nD cD,aM aU nU cU,aO aZ k,aM aT nT cT],aM (aR ⟨bp,op,aS⟩) 32 cp,af #[aO aZ kind,aM ta tn tc,aO aZ now,aO aZ N]] w λe w'=>e=aQ (IU (FL D U k nT ks kind tk now N))/\Below w.heap.size w w':=by
 have HXQ:AO (Q8 w 26 28 #[aM aD nD cD,aM aU nU cU,aO aZ k,aM aT nT cT] #[aO aZ kind,aM ta tn tc,aO aZ now,aO aZ N] ((w.alloc (aa #[aM aD nD cD,aM aU nU cU,aO aZ k,aM aT nT cT] 26)).alloc (aa #[aO aZ kind,aM ta tn tc,aO aZ now,aO aZ N] 28))):=Q8.start _ _ _ _ _;have HQZ:AO (((w.alloc (aa #[aM aD nD cD,aM aU nU cU,aO aZ k,aM aT nT cT] 26)).alloc (aa #[aO aZ kind,aM ta tn tc,aO aZ now,aO aZ N] 28)).heap.size=w.heap.size+2):=by show _=_;simp
 have HA:AO (∀ wz,Below w.heap.size w wz->At aZ wz aD D/\At aZ wz aU U/\At aP wz ta tk/\FK wz bp op ks):=λwz h=>⟨haD.below h,haU.below h,hat.below h,hp.below h⟩
 have HL:AO (D.length=nD/\U.length=nU/\tk.length=tn/\ks.length=32/\Cb ks/\Cb tk):=⟨hD,hU,ht,hk,zk,zt⟩
 have HFZ:AO ((tP.info? 38).map (·.size)=aR 4):=by show _=_;kernel_rfl
 have HSZ:AO ((tP.info? 26).map (·.size)=aR 4):=by show _=_;kernel_rfl
 have HOZ:AO ((tP.info? 28).map (·.size)=aR 4):=by show _=_;kernel_rfl
 clear hD hU haD haU hk hp zk ht hat zt;go_enter func22,ntmps22
 go_upto_region 1 with fail
 generalize ((w.alloc (aa #[aM aD nD cD,aM aU nU cU,aO aZ k,aM aT nT cT] 26)).alloc (aa #[aO aZ kind,aM ta tn tc,aO aZ now,aO aZ N] 28))=wq at *;have HRB:AO ((wq.alloc (aa CI 38)).heap[w.heap.size+2]?=aR (aa CI 38 (0,0))):=by show _=_;rw[<-HQZ.o];exact AS wq _
 have HBQ:AO (Below wq.heap.size wq (wq.alloc (aa CI 38))):=Cf.alloc Ch _;have HX0:=CY <| HXQ.o.call HBQ.o
 generalize wq.alloc (aa CI 38)=w0 at *;have HB:=CY <| HX0.o.below
 have o0:w0.cell? ⟨w.heap.size+1,0,aS⟩=aR (aO aZ kind):=by rw[AA HX0.o.b1 0];rfl
 have o3:w0.cell? ⟨w.heap.size+1,3,aS⟩=aR (aO aZ N):=by rw[AA HX0.o.b1 3];rfl
 have s0:w0.cell? ⟨w.heap.size,0,aS⟩=aR (aM aD nD cD):=by rw[AA HX0.o.b0 0];rfl
 have s2:w0.cell? ⟨w.heap.size,2,aS⟩=aR (aO aZ k):=by rw[AA HX0.o.b0 2];rfl
 have s3:w0.cell? ⟨w.heap.size,3,aS⟩=aR (aM aT nT cT):=by rw[AA HX0.o.b0 3];rfl
 by_cases hk1:kind=1
 ·subst hk1;have hser:(decide (0<=N)=true/\decide (N<256)=true)\/(decide (0<=N)=true/\decide (N<256)=false)\/decide (0<=N)=false:=by
   cases decide (0<=N)<;>cases decide (N<256)<;>simp
  rcases hser with⟨hn0',hn1'⟩|⟨hn0',hn1'⟩|hn0'
  all_goals
   have HLT:=CY <| HXQ.o.lt
   go_wp2_with (first
    |(refine AZ rfl 26 (ah 3) rfl w.heap.size rfl 26 _ (0,0) _ HX0.o.b0 underlying26 rfl HSZ.o ?_)
    |(refine AZ rfl 28 (ah 5) rfl (w.heap.size+1) rfl 28 _ (0,0) _ HX0.o.b1 underlying28 rfl HOZ.o ?_)
    |fail)
   refine(VL aD aU aT nD cD nU cU nT cT D U k bp op cp ks ta tn tc tk 1 now N w0 HL.o.1 HL.o.2.1 mD mU (HA.o _ HB.o).1 (HA.o _ HB.o).2.1 HL.o.2.2.2.1 (HA.o _ HB.o).2.2.2 HL.o.2.2.2.2.1 HL.o.2.2.1 mt hct (HA.o _ HB.o).2.2.1 HL.o.2.2.2.2.2).mono ?_;rintro e w1 ⟨rfl,hb1⟩;have HR0:AO (w1.heap[w.heap.size+2]?=aR (aa CI 38 (0,0))):=by show _=_;rw[hb1.block _ (AR.1 HRB.o).1];exact HRB.o
   have HW0:=CY <| Hh (HBQ.o.trans (hb1.mono HBQ.o.size)) 1
   have HB1:=CY <| HB.o.trans (hb1.mono HB.o.size)
   have HT1:AO (Db D U ks tk now=1->∃ s m:Nat,E6 tk=s/\now=m/\s<256/\m<=4294967295/\Jp tk=true):=KO HL.o.2.2.2.2.2;have HDU:AO (IU (FL D U k nT ks 1 tk now N)=if Db D U ks tk now=1 then .tuple #[aO aZ 1,af #[aO ai 0,aO aZ 1,aO ai ((E6 tk).toNat:Nat),aO ai (now.toNat:Nat)]] else .tuple #[aO aZ (Db D U ks tk now),af CI]):=by
    show _=_
    unfold FL;by_cases h:Db D U ks tk now=1<;>simp[h,IU]
   clear hb1 o0 o3 s0 s2 s3 HRB HB HBQ HX0;generalize hc:Db D U ks tk now=c at *;have HC:=CY <| hc
   clear hc;by_cases hc1:c=1
   ·subst hc1;obtain⟨s,m,hs,hm,hs2,hm2,htb⟩:=HT1.o rfl;have HF:AO (IU (FL D U k nT ks 1 tk now N)=.tuple #[aO aZ 1,af #[aO ai 0,aO aZ 1,aO ai s,aO ai m]]):=by show _=_;rw[HDU.o,AP rfl,hs,hm];rfl
    have HPT:AO (∀ wz,Below wq.heap.size wq wz->Calls tP 42 #[aM ta tn tc] wz λe w'=>e=aQ (af #[ae true,aO aZ s,aO aZ (FN tk)])/\Below wz.heap.size wz w'):=λwz h=>by
     have:=Pj ta tn tc tk wz HL.o.2.2.1 mt hct (HA.o wz (HXQ.o.below.trans (h.mono HXQ.o.below.size))).2.2.1 HL.o.2.2.2.2.2;rw[Iy htb,hs] at this;exact this
    have HW1:AO (IntKind.u32.wrap (s:Int)=s):=TL AJ;have HW2:AO (IntKind.u32.wrap (m:Int)=m):=TL AJ;subst hm;generalize FN tk=x at *;clear HDU HT1 HC hs htb HA HL hs2 hm2;go_wp2_with fail;refine Ag AM ?_;refine Ej (λi a b=>if i=11 then Wr (w.heap.size+2) a b else Below a.heap.size a b) (frame:=(λ(a b c d e f g h i j k l m n o p q r s u v w x y z A B C D E F G H I J K L M N O P Q R S T U V W X Y Z a0 a1 a2 a3 a4 a5 a6 a7 a8 a9 b0 b1 b2 b3 b4 b5 b6 b7 b8 b9 c0 c1 c2 c3 c4 c5 c6 c7 c8 c9 d0 d1 d2 d3 d4 d5 d6 d7 d8 d9 e0 e1 e2 e3 e4:aX)=>λ(t:Nat->aX)=>({ tmps:=List.toArray [a,b,c,d,e,f,t 10,g,h,i,j,k,l,m,n,o,p,q,r,s,u,v,w,x,y,z,A,B,C,D,E,t 0,t 1,t 2,t 3,t 4,t 5,t 6,t 7,t 8,t 9,F,G,H,I,J,K,L,M,N,O,P,Q,R,S,T,U,V,W,X,Y,Z,a0,a1,a2,a3,a4,a5,a6,a7,a8,a9,b0,b1,b2,b3,b4,b5,b6,b7,b8,b9,c0,c1,c2,c3,c4,c5,c6,c7,c8,c9,d0,d1,d2,d3,d4,d5,d6,d7,d8,d9,e0,e1,e2,e3,e4],defers:=[] }:Act)) _ _ _ _ _ _ _ _ _ _ _ _ _ _ _ _ _ _ _ _ _ _ _ _ _ _ _ _ _ _ _ _ _ _ _ _ _ _ _ _ _ _ _ _ _ _ _ _ _ _ _ _ _ _ _ _ _ _ _ _ _ _ _ _ _ _ _ _ _ _ _ _ _ _ _ _ _ _ _ _ _ _ _ _ _ _ _ _ _ _ _ _ _ _ _ _)
     (Ext:=λL u w'=>NS wq (w.heap.size+2) 11 38 CI (λ_ cs=>cs=#[aO ai 0,aO aZ 1,aO ai s,aO ai m]) [] L u w') (Good:=λi L w' v=>if i=0 then v=aO aZ 1 else if i=1 then v=aY (aR ⟨w.heap.size+1,1,aS⟩) else if i=2 then v=aM ta tn tc else if i=3 then v=af #[ae true,aO aZ s,aO aZ x] else if i=4 then v=aO aZ s else if i=5 then v=aO ai s else if i=6 then v=aY (aR ⟨w.heap.size+1,2,aS⟩) else if i=7 then v=aO aZ m else if i=8 then v=aO ai m else if i=9 then v=af #[aO ai 0,aO aZ 1,aO ai s,aO ai m] else if i=10 then v=aO aZ 1 else if i=11 then L 11=true else True) ?hstab AM ?hop ?hdone _ _ ((λ(x0 x1 x2 x3 x4 x5 x6 x7 x8 x9 x10:aX)=>λ(i:Nat)=>if i=0 then x0 else if i=1 then x1 else if i=2 then x2 else if i=3 then x3 else if i=4 then x4 else if i=5 then x5 else if i=6 then x6 else if i=7 then x7 else if i=8 then x8 else if i=9 then x9 else if i=10 then x10 else undef) _ _ _ _ _ _ _ _ _ _ _) _ AL ?ext ?start AL
    case start=>intro i hi h;exact absurd h Ef
    case ext=>exact NS.start ⟨HW0.o,λp _ hp=>absurd hp Ef,λp _ q _ _ hp=>absurd hp Ef⟩ (λ_=>NR) HR0.o
    case hstab=>
     intro j L w9 w' i v hM hij hLi h;by_cases hl:j=11
     ·subst hl;simp at h |-;unfold CZ;simp[h]
     simp only[if_neg hl] at h |-;exact h
    case hop=>
     intro i o L t w' ho hLi hx hdep K hK;have hi:i<12:=(AR.1 ho).1;obtain rfl|rfl|rfl|rfl|rfl|rfl|rfl|rfl|rfl|rfl|rfl|rfl:i=0\/i=1\/i=2\/i=3\/i=4\/i=5\/i=6\/i=7\/i=8\/i=9\/i=10\/i=11:=AJ
     all_goals(simp at ho;subst ho)
     {clear hdep;have hK':=hK w' (aO aZ 1) AL (hx.step (λ_ _ _ _ h=>h) 0 AK _ Cf ES) (by rw[AQ AK];exact Cf);clear hK;rw[AP AN];go_simp;simpa[Ca] using hK'};{clear hdep;have hK':=hK w' (aY (aR ⟨w.heap.size+1,1,aS⟩)) AL (hx.step (λ_ _ _ _ h=>h) 1 AK _ Cf ES) (by rw[AQ AK];exact Cf);clear hK;rw[AP AN];go_simp;simpa[Ca] using hK'}
     ·have d1:t 1=aY (aR ⟨w.heap.size+1,1,aS⟩):=by simpa using(hdep ⟨1,ag⟩ AL rfl).2
      clear hdep;have cc:w'.cell? ⟨w.heap.size+1,1,aS⟩=aR (aM ta tn tc):=by rw[Af (a:=⟨w.heap.size+1,1,aS⟩) (w:=wq) (hx.ax.below.block _ HLT.o),AA HXQ.o.b1 1];rfl
      have hK':=hK w' (aM ta tn tc) AL (hx.step (λ_ _ _ _ h=>h) 2 AK _ Cf ES) (by rw[AQ AK];exact Cf);clear hK;rw[AP AN];go_simp;simpa[Ca,d1] using hK'
     ·have d2:t 2=aM ta tn tc:=by simpa using(hdep ⟨2,ag⟩ AL rfl).2
      clear hdep;have A:=HPT.o w' hx.ax.below;have hK':∀ ww,Below w'.heap.size w' ww->K _ ww:=λww hb=>hK ww (af #[ae true,aO aZ s,aO aZ x]) AL (hx.step (λ_ _ _ _ h=>h) 3 AK _ hb ES) (by rw[AQ AK];exact hb)
      clear hK;rw[AP AN];go_simp;try simp only[d2]
      refine A.mono ?_;rintro e w9 ⟨rfl,hb9⟩;have hK2:=hK' w9 hb9;clear hK' A hb9;go_simp;simpa[Ca,d2] using hK2
     ·have d3:t 3=af #[ae true,aO aZ s,aO aZ x]:=by simpa using(hdep ⟨3,ag⟩ AL rfl).2
      clear hdep;have hK':=hK w' (aO aZ s) AL (hx.step (λ_ _ _ _ h=>h) 4 AK _ Cf ES) (by rw[AQ AK];exact Cf);clear hK;rw[AP AN];go_simp;try simp only[d3]
      rw[VM];go_simp;simpa[Ca,d3] using hK'
     ·have d4:t 4=aO aZ s:=by simpa using(hdep ⟨4,ag⟩ AL rfl).2
      clear hdep;have hw:=HW1.o;have hK':=hK w' (aO ai s) AL (hx.step (λ_ _ _ _ h=>h) 5 AK _ Cf ES) (by rw[AQ AK];exact Cf);clear hK;rw[AP AN];go_simp;simpa[Ca,d4] using hK'
     ·clear hdep;have hK':=hK w' (aY (aR ⟨w.heap.size+1,2,aS⟩)) AL (hx.step (λ_ _ _ _ h=>h) 6 AK _ Cf ES) (by rw[AQ AK];exact Cf);clear hK;rw[AP AN];go_simp;simpa[Ca] using hK'
     ·have d6:t 6=aY (aR ⟨w.heap.size+1,2,aS⟩):=by simpa using(hdep ⟨6,ag⟩ AL rfl).2
      clear hdep;have cc:w'.cell? ⟨w.heap.size+1,2,aS⟩=aR (aO aZ m):=by rw[Af (a:=⟨w.heap.size+1,2,aS⟩) (w:=wq) (hx.ax.below.block _ HLT.o),AA HXQ.o.b1 2];rfl
      have hK':=hK w' (aO aZ m) AL (hx.step (λ_ _ _ _ h=>h) 7 AK _ Cf ES) (by rw[AQ AK];exact Cf);clear hK;rw[AP AN];go_simp;simpa[Ca,d6] using hK'
     ·have d7:t 7=aO aZ m:=by simpa using(hdep ⟨7,ag⟩ AL rfl).2
      clear hdep;have hw:=HW2.o;have hK':=hK w' (aO ai m) AL (hx.step (λ_ _ _ _ h=>h) 8 AK _ Cf ES) (by rw[AQ AK];exact Cf);clear hK;rw[AP AN];go_simp;simpa[Ca,d7] using hK'
     ·have d5:t 5=aO ai s:=by simpa using(hdep ⟨5,ag⟩ AL rfl).2
      have d8:t 8=aO ai m:=by simpa using(hdep ⟨8,ag⟩ AL rfl).2
      clear hdep;have hK':=hK w' (af #[aO ai 0,aO aZ 1,aO ai s,aO ai m]) AL (hx.step (λ_ _ _ _ h=>h) 9 AK _ Cf ES) (by rw[AQ AK];exact Cf);clear hK;rw[AP AN];go_simp;simpa[Ca,d5,d8] using hK'
     ·have d0:t 0=aO aZ 1:=by simpa using(hdep ⟨0,ag⟩ AL rfl).2
      clear hdep;have hK':=hK w' (aO aZ 1) AL (hx.step (λ_ _ _ _ h=>h) 10 AK _ Cf ES) (by rw[AQ AK];exact Cf);clear hK;rw[AP AN];go_simp;simpa[Ca,d0] using hK'
     ·have d9:t 9=af #[aO ai 0,aO aZ 1,aO ai s,aO ai m]:=by simpa using(hdep ⟨9,ag⟩ AL rfl).2
      clear hdep;have hrs:=hx.pre hLi;have hK':∀ ww,Wr (w.heap.size+2) w' ww->ww.heap[w.heap.size+2]?=aR (aa #[aO ai 0,aO aZ 1,aO ai s,aO ai m] 38 (0,0))->K _ ww:=λww hw hr=>hK ww undef (by simp[CZ]) (hx.put (Nat.le_of_eq HQZ.o) AK _ hw hr rfl) (by rw[AP rfl];exact hw)
      clear hK;rw[AP AN];refine Be 38 (ah 7) (ah 40) rfl (w.heap.size+2) _ rfl d9 38 _ hrs HFZ.o rfl (by simp[Value.oneCell']) ?_;have hK2:=hK' _ (Wr.setRow _ _ _) (AB hrs);clear hK';simpa[Ca,Act.put] using hK2
    case hdone=>
     intro L t w' hx hg;have l11:L 11=true:=by simpa using hg 11 AK
     have e10:t 10=aO aZ 1:=by simpa using hg 10 AK
     clear hg;obtain⟨cs,hr,rfl⟩:=hx.fin l11;have HR9:=CY <| hr
     have HFF:=CY <| HXQ.o.below.trans (hx.ax.below.mono HXQ.o.below.size)
     clear hx hr;simp only[e10];clear e10;go_wp2_with fail;exact AU (v:=.tuple #[aO aZ 1,af #[aO ai 0,aO aZ 1,aO ai s,aO ai m]]) (C6 rfl _ _ (w.heap.size+2) _ _ rfl rfl HR9.o HFZ.o) rfl ⟨by rw[HF.o],HFF.o⟩
   ·have HF:AO (IU (FL D U k nT ks 1 tk now N)=.tuple #[aO aZ c,af CI]):=by show _=_;rw[HDU.o,AQ hc1]
    have hc1':=Ac hc1;have HB:=HB1;have HRB:=HR0;clear HDU HT1 HC;have HFN:AO (Below w.heap.size w (w1.setRow (w.heap.size+2) CI)):=HB.o.trans ((Wr.setRow _ _ _).below AJ)
    go_upto_region 7 with fail
    go_wp2_with (first
     |(refine AE 38 (ah 7) (ah 30) (w.heap.size+2) CI 38 HRB.o HFZ.o rfl (by simp[Value.oneCell']) ?_)
     |fail)
    all_goals exact AU (v:=.tuple #[aO aZ c,af CI]) (C6 rfl _ _ (w.heap.size+2) _ _ rfl rfl (AB HRB.o) HFZ.o) rfl ⟨by rw[HF.o],HFN.o⟩
 by_cases hk2:kind=2
 ·subst hk2;clear hk1;by_cases hn0:0<=N
  ·by_cases hn1:N<256
   ·obtain⟨m,rfl⟩:∃ m:Nat,N=m:=⟨N.toNat,AJ⟩
    have hn0':=Aj hn0;have hn1':=Aj hn1;have hwr:IntKind.u32.wrap (m:Int)=m:=TL AJ;clear hn0;go_wp2_with fail;refine(C3 aD nD cD D m _ HL.o.1 mD (HA.o _ HB.o).1).mono ?_;rintro e w4 ⟨rfl,e4⟩;obtain rfl:w0=w4:=e4.symm;cases hm:Df (m:Int) D with
    |true=>
     have HMT:=CY <| hm
     have HF:AO (IU (FL D U k nT ks 2 tk now m)=.tuple #[aO aZ 9,af CI]):=by show _=_;unfold FL;simp[hn1,hm,IU]
     clear hm hn1;go_wp2_with fail;refine(C3 aD nD cD D m _ HL.o.1 mD (HA.o _ HB.o).1).mono ?_;rintro e w4 ⟨rfl,e4⟩;obtain rfl:w0=w4:=e4.symm;rw[HMT.o];have HFN:AO (Below w.heap.size w (w0.setRow (w.heap.size+2) CI)):=HB.o.trans ((Wr.setRow _ _ _).below AJ)
     go_upto_region 13 with fail
     go_wp2_with (first
      |(refine AE 38 (ah 7) (ah 63) (w.heap.size+2) CI 38 HRB.o HFZ.o rfl (by simp[Value.oneCell']) ?_)
      |fail)
     all_goals exact AU (v:=.tuple #[aO aZ 9,af CI]) (C6 rfl _ _ (w.heap.size+2) _ _ rfl rfl (AB HRB.o) HFZ.o) rfl ⟨by rw[HF.o],HFN.o⟩
    |false=>
     by_cases h16:nD=16
     ·have HF:AO (IU (FL D U k nT ks 2 tk now m)=.tuple #[aO aZ 10,af CI]):=by show _=_;unfold FL;simp[hn1,hm,IU,HL.o.1,h16]
      subst h16;clear hm hn1;have HFN:AO (Below w.heap.size w (w0.setRow (w.heap.size+2) CI)):=HB.o.trans ((Wr.setRow _ _ _).below AJ)
      go_upto_region 11 with fail
      go_wp2_with (first
       |(refine AE 38 (ah 7) (ah 58) (w.heap.size+2) CI 38 HRB.o HFZ.o rfl (by simp[Value.oneCell']) ?_)
       |fail)
      all_goals exact AU (v:=.tuple #[aO aZ 10,af CI]) (C6 rfl _ _ (w.heap.size+2) _ _ rfl rfl (AB HRB.o) HFZ.o) rfl ⟨by rw[HF.o],HFN.o⟩
     ·have HF:AO (IU (FL D U k nT ks 2 tk now m)=.tuple #[aO aZ 9,af #[aO ai 0,aO aZ 2,aO ai m,aO ai 1]]):=by show _=_;unfold FL;simp[hn1,hm,IU,HL.o.1,h16]
      have h16':¬ ((nD:Int)=16):=AJ
      have HM:=CY <| hm
      clear hm hn1 h16;go_wp2_with fail;refine(C3 aD nD cD D m _ HL.o.1 mD (HA.o _ HB.o).1).mono ?_;rintro e w4 ⟨rfl,e4⟩;obtain rfl:w0=w4:=e4.symm;rw[HM.o];have HFN:AO (Below w.heap.size w (w0.setRow (w.heap.size+2) #[aO ai 0,aO aZ 2,aO ai m,aO ai 1])):=HB.o.trans ((Wr.setRow _ _ _).below AJ)
      go_upto_region 14 with fail
      go_wp2_with (first
       |(refine AE 38 (ah 7) (ah 66) (w.heap.size+2) #[aO ai 0,aO aZ 2,aO ai m,aO ai 1] 38 HRB.o HFZ.o rfl (by simp[Value.oneCell']) ?_)
       |fail)
      all_goals exact AU (v:=.tuple #[aO aZ 9,af #[aO ai 0,aO aZ 2,aO ai m,aO ai 1]]) (C6 rfl _ _ (w.heap.size+2) _ _ rfl rfl (AB HRB.o) HFZ.o) rfl ⟨by rw[HF.o],HFN.o⟩
   ·have HF:AO (IU (FL D U k nT ks 2 tk now N)=.tuple #[aO aZ 10,af CI]):=by show _=_;unfold FL;simp[hn1,IU]
    have hn0':=Aj hn0;have hn1':=Ac hn1;clear hn0 hn1;have HFN:AO (Below w.heap.size w (w0.setRow (w.heap.size+2) CI)):=HB.o.trans ((Wr.setRow _ _ _).below AJ)
    go_upto_region 11 with fail
    go_wp2_with (first
     |(refine AE 38 (ah 7) (ah 58) (w.heap.size+2) CI 38 HRB.o HFZ.o rfl (by simp[Value.oneCell']) ?_)
     |fail)
    all_goals exact AU (v:=.tuple #[aO aZ 10,af CI]) (C6 rfl _ _ (w.heap.size+2) _ _ rfl rfl (AB HRB.o) HFZ.o) rfl ⟨by rw[HF.o],HFN.o⟩
  ·have HF:AO (IU (FL D U k nT ks 2 tk now N)=.tuple #[aO aZ 10,af CI]):=by show _=_;unfold FL;simp[hn0,IU]
   have hn0':=Ac hn0;clear hn0;have HFN:AO (Below w.heap.size w (w0.setRow (w.heap.size+2) CI)):=HB.o.trans ((Wr.setRow _ _ _).below AJ)
   go_upto_region 11 with fail
   go_wp2_with (first
    |(refine AE 38 (ah 7) (ah 58) (w.heap.size+2) CI 38 HRB.o HFZ.o rfl (by simp[Value.oneCell']) ?_)
    |fail)
   all_goals exact AU (v:=.tuple #[aO aZ 10,af CI]) (C6 rfl _ _ (w.heap.size+2) _ _ rfl rfl (AB HRB.o) HFZ.o) rfl ⟨by rw[HF.o],HFN.o⟩
 by_cases hk3:kind=3
 ·subst hk3;clear hk1 hk2;by_cases hn0:0<=N
  ·by_cases hn1:N<256
   ·obtain⟨m,rfl⟩:∃ m:Nat,N=m:=⟨N.toNat,AJ⟩
    have hn0':=Aj hn0;have hn1':=Aj hn1;have hwr:IntKind.u32.wrap (m:Int)=m:=TL AJ;clear hn0;go_wp2_with fail;refine(C3 aD nD cD D m _ HL.o.1 mD (HA.o _ HB.o).1).mono ?_;rintro e w4 ⟨rfl,e4⟩;obtain rfl:w0=w4:=e4.symm;cases hm:Df (m:Int) D with
    |true=>
     have HF:AO (IU (FL D U k nT ks 3 tk now m)=.tuple #[aO aZ 9,af #[aO ai 0,aO aZ 2,aO ai m,aO ai 0]]):=by show _=_;unfold FL;simp[hn1,hm,IU]
     clear hm hn1;have HFN:AO (Below w.heap.size w (w0.setRow (w.heap.size+2) #[aO ai 0,aO aZ 2,aO ai m,aO ai 0])):=HB.o.trans ((Wr.setRow _ _ _).below AJ)
     go_upto_region 20 with fail
     go_wp2_with (first
      |(refine AE 38 (ah 7) (ah 80) (w.heap.size+2) #[aO ai 0,aO aZ 2,aO ai m,aO ai 0] 38 HRB.o HFZ.o rfl (by simp[Value.oneCell']) ?_)
      |fail)
     all_goals exact AU (v:=.tuple #[aO aZ 9,af #[aO ai 0,aO aZ 2,aO ai m,aO ai 0]]) (C6 rfl _ _ (w.heap.size+2) _ _ rfl rfl (AB HRB.o) HFZ.o) rfl ⟨by rw[HF.o],HFN.o⟩
    |false=>
     have HF:AO (IU (FL D U k nT ks 3 tk now m)=.tuple #[aO aZ 9,af CI]):=by show _=_;unfold FL;simp[hn1,hm,IU]
     clear hm hn1;have HFN:AO (Below w.heap.size w (w0.setRow (w.heap.size+2) CI)):=HB.o.trans ((Wr.setRow _ _ _).below AJ)
     go_upto_region 19 with fail
     go_wp2_with (first
      |(refine AE 38 (ah 7) (ah 77) (w.heap.size+2) CI 38 HRB.o HFZ.o rfl (by simp[Value.oneCell']) ?_)
      |fail)
     all_goals exact AU (v:=.tuple #[aO aZ 9,af CI]) (C6 rfl _ _ (w.heap.size+2) _ _ rfl rfl (AB HRB.o) HFZ.o) rfl ⟨by rw[HF.o],HFN.o⟩
   ·have HF:AO (IU (FL D U k nT ks 3 tk now N)=.tuple #[aO aZ 10,af CI]):=by show _=_;unfold FL;simp[hn1,IU]
    have hn0':=Aj hn0;have hn1':=Ac hn1;clear hn0 hn1;have HFN:AO (Below w.heap.size w (w0.setRow (w.heap.size+2) CI)):=HB.o.trans ((Wr.setRow _ _ _).below AJ)
    go_upto_region 17 with fail
    go_wp2_with (first
     |(refine AE 38 (ah 7) (ah 71) (w.heap.size+2) CI 38 HRB.o HFZ.o rfl (by simp[Value.oneCell']) ?_)
     |fail)
    all_goals exact AU (v:=.tuple #[aO aZ 10,af CI]) (C6 rfl _ _ (w.heap.size+2) _ _ rfl rfl (AB HRB.o) HFZ.o) rfl ⟨by rw[HF.o],HFN.o⟩
  ·have HF:AO (IU (FL D U k nT ks 3 tk now N)=.tuple #[aO aZ 10,af CI]):=by show _=_;unfold FL;simp[hn0,IU]
   have hn0':=Ac hn0;clear hn0;have HFN:AO (Below w.heap.size w (w0.setRow (w.heap.size+2) CI)):=HB.o.trans ((Wr.setRow _ _ _).below AJ)
   go_upto_region 17 with fail
   go_wp2_with (first
    |(refine AE 38 (ah 7) (ah 71) (w.heap.size+2) CI 38 HRB.o HFZ.o rfl (by simp[Value.oneCell']) ?_)
    |fail)
   all_goals exact AU (v:=.tuple #[aO aZ 10,af CI]) (C6 rfl _ _ (w.heap.size+2) _ _ rfl rfl (AB HRB.o) HFZ.o) rfl ⟨by rw[HF.o],HFN.o⟩
 by_cases hk4:kind=4
 ·subst hk4;clear hk1 hk2 hk3;have hser:(decide (0<=N)=true/\decide (N<256)=true)\/(decide (0<=N)=true/\decide (N<256)=false)\/decide (0<=N)=false:=by
   cases decide (0<=N)<;>cases decide (N<256)<;>simp
  rcases hser with⟨hn0',hn1'⟩|⟨hn0',hn1'⟩|hn0'
  all_goals
   by_cases hlo:N<k
   ·have HF:AO (IU (FL D U k nT ks 4 tk now N)=.tuple #[aO aZ 10,af CI]):=by show _=_;rw[NC,AP hlo];rfl
    have hlo':=Aj hlo;clear hlo;have HFN:AO (Below w.heap.size w (w0.setRow (w.heap.size+2) CI)):=HB.o.trans ((Wr.setRow _ _ _).below AJ)
    go_upto_region 23 with fail
    go_wp2_with (first
     |(refine AE 38 (ah 7) (ah 97) (w.heap.size+2) CI 38 HRB.o HFZ.o rfl (by simp[Value.oneCell']) ?_)
     |fail)
    all_goals exact AU (v:=.tuple #[aO aZ 10,af CI]) (C6 rfl _ _ (w.heap.size+2) _ _ rfl rfl (AB HRB.o) HFZ.o) rfl ⟨by rw[HF.o],HFN.o⟩
   have hlo':=Ac hlo;by_cases hhi:k+(nT:Int)<N
   ·have HF:AO (IU (FL D U k nT ks 4 tk now N)=.tuple #[aO aZ 10,af CI]):=by show _=_;rw[NC,AQ hlo,AP hhi];rfl
    have hhi':=Aj hhi;clear hlo hhi;have HFN:AO (Below w.heap.size w (w0.setRow (w.heap.size+2) CI)):=HB.o.trans ((Wr.setRow _ _ _).below AJ)
    go_upto_region 23 with fail
    go_wp2_with (first
     |(refine AE 38 (ah 7) (ah 97) (w.heap.size+2) CI 38 HRB.o HFZ.o rfl (by simp[Value.oneCell']) ?_)
     |fail)
    all_goals exact AU (v:=.tuple #[aO aZ 10,af CI]) (C6 rfl _ _ (w.heap.size+2) _ _ rfl rfl (AB HRB.o) HFZ.o) rfl ⟨by rw[HF.o],HFN.o⟩
   have hhi':decide (k+(nT:Int)<N)=false:=Ac hhi;by_cases hne:N=k
   ·have HF:AO (IU (FL D U k nT ks 4 tk now N)=.tuple #[aO aZ 9,af CI]):=by show _=_;rw[NC,AQ hlo,AQ hhi,AP hne];rfl
    subst hne;clear hlo hhi;have HFN:AO (Below w.heap.size w (w0.setRow (w.heap.size+2) CI)):=HB.o.trans ((Wr.setRow _ _ _).below AJ)
    go_upto_region 25 with fail
    go_wp2_with (first
     |(refine AE 38 (ah 7) (ah 102) (w.heap.size+2) CI 38 HRB.o HFZ.o rfl (by simp[Value.oneCell']) ?_)
     |fail)
    all_goals exact AU (v:=.tuple #[aO aZ 9,af CI]) (C6 rfl _ _ (w.heap.size+2) _ _ rfl rfl (AB HRB.o) HFZ.o) rfl ⟨by rw[HF.o],HFN.o⟩
   obtain⟨m,rfl⟩:∃ m:Nat,N=m:=⟨N.toNat,AJ⟩
   have HF:AO (IU (FL D U k nT ks 4 tk now m)=.tuple #[aO aZ 9,af #[aO ai 0,aO aZ 3,aO ai m,aO ai 0]]):=by show _=_;rw[NC,AQ hlo,AQ hhi,AQ hne];rfl
   have hwr:IntKind.u32.wrap (m:Int)=m:=TL AJ;clear hlo hhi;have HFN:AO (Below w.heap.size w (w0.setRow (w.heap.size+2) #[aO ai 0,aO aZ 3,aO ai m,aO ai 0])):=HB.o.trans ((Wr.setRow _ _ _).below AJ)
   go_upto_region 26 with fail
   go_wp2_with (first
    |(refine AE 38 (ah 7) (ah 105) (w.heap.size+2) #[aO ai 0,aO aZ 3,aO ai m,aO ai 0] 38 HRB.o HFZ.o rfl (by simp[Value.oneCell']) ?_)
    |fail)
   all_goals exact AU (v:=.tuple #[aO aZ 9,af #[aO ai 0,aO aZ 3,aO ai m,aO ai 0]]) (C6 rfl _ _ (w.heap.size+2) _ _ rfl rfl (AB HRB.o) HFZ.o) rfl ⟨by rw[HF.o],HFN.o⟩
 have hser:(decide (0<=N)=true/\decide (N<256)=true)\/(decide (0<=N)=true/\decide (N<256)=false)\/decide (0<=N)=false:=by
  cases decide (0<=N)<;>cases decide (N<256)<;>simp
 rcases hser with⟨hn0',hn1'⟩|⟨hn0',hn1'⟩|hn0'
 all_goals
  have HF:AO (IU (FL D U k nT ks kind tk now N)=.tuple #[aO aZ 9,af CI]):=by show _=_;unfold FL;simp[hk1,hk2,hk3,hk4,IU]
  have HFN:AO (Below w.heap.size w (w0.setRow (w.heap.size+2) CI)):=HB.o.trans ((Wr.setRow _ _ _).below AJ)
  go_upto_region 27 with fail
  go_wp2_with (first
   |(refine AE 38 (ah 7) (ah 106) (w.heap.size+2) CI 38 HRB.o HFZ.o rfl (by simp[Value.oneCell']) ?_)
   |fail)
  all_goals exact AU (v:=.tuple #[aO aZ 9,af CI]) (C6 rfl _ _ (w.heap.size+2) _ _ rfl rfl (AB HRB.o) HFZ.o) rfl ⟨by rw[HF.o],HFN.o⟩
end Go.Proofs.YtncomnkdlpoelaaGreatDoor
