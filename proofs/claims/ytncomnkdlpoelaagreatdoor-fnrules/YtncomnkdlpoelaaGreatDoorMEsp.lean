import Derived.Test.YtncomnkdlpoelaaGreatDoorMEso
open Go.Proofs.Tryz renaming prog->tP
open Go.Proofs.Tryz
open Go.Value renaming slice->aM,int->aO,pointer->aY,bool->ae,agg->af
open Go.IntKind renaming i64->aZ,u32->ai,u8->aP
open Go.Obj renaming cells->aa
open Go.Ground renaming data->ag
open Go.Operand renaming tmp->ah
open Option renaming some->aR,none->aS
open Go renaming World->aV,Value->aX
set_option maxHeartbeats 16000000
set_option maxRecDepth 100000
namespace Go.Proofs.YtncomnkdlpoelaaGreatDoor
open Go.ChangeShapes Go.WideShapes Go.ChangeAt Go.RowKit
set_option linter.unusedVariables false
theorem Of (g:Nat) (x:Option Addr) (n cap:Nat) (q m c sg:Nat) (w:aV) (hc:Dc w g x n cap) (ht:Fb w g x n) (hp:NG g w (aM (aR ⟨q,0,aS⟩) m c) m) (hs0:1<=sg) (hs1:sg<=m) (hm:m<=16) :
  Calls tP 18 #[aY (aR ⟨g,0,aS⟩),aM (aR ⟨q,0,aS⟩) m c,aO aZ sg] w (Yf w g x n cap):=by
 have HCT:=CY ht;have HPO:=CY hp;have HSZ:AO ((tP.info? 28).map (·.size)=aR 4):=by show _=_;kernel_rfl
 have bR:=Co w (aa CQ 28);have HB:=CY (Cl g x n cap 16 _ (hc.bel bR).1 (ht.wr (λk hk=>bR.block k (Nat.lt_trans hk (hc.bel bR).2))) AK AK);have hg:=(hc.bel bR).2;go_enter func18,ntmps18;go_wp2_with fail;refine HB.o.mono ?_;rintro e w1 ⟨k,rfl,hk0,hk1,hc1,hw1⟩;have HN:=CY (AS w1 (aa CQ 28));have HO:=CY (Ja.start hw1 hc1 hg)
 go_upto_if 13 with (first
  |(refine AE 28 (ah 8) (ah 11) w1.heap.size CQ 28 HN.o HSZ.o rfl (by simp[Value.oneCell']) ?_)
  |fail)
 generalize (w1.alloc (aa CQ 28)).setRow w1.heap.size CQ=w2 at *;generalize w1.heap.size=S at *;by_cases hk7:k<7
 ·obtain⟨s0,_,_,_,fz⟩:=HO.o.cells;have f0:=fz 0;have HO1:=CY (HO.o.put 0 (aO aZ (1)) rfl HO.o.tx HO.o.nb)
  go_upto_region 5 with fail
  generalize w2.setCell ⟨S,0,aS⟩ (aO aZ 1)=w3 at *;have HE:=CY (DB.empty w3 w3.heap.size Ch);have bE:=Co w3 (aa #[] 5);have HOE:=CY (HO1.o.call bE);have HBW:=CY (Cl g x n cap sg _ HOE.o.cb (HOE.o.ct HCT.o) AJ AJ);have HLT:=CY (Ap HOE.o.hg HO1.o.wg.size);go_wp2_with fail;refine HBW.o.mono ?_;rintro e w5 ⟨y,rfl,hy0,hy1,hcy,hwy⟩;obtain⟨j,rfl⟩:=Ab hy0;have HOY:=CY (HOE.o.cur hcy hwy);obtain⟨q',c',e',h2,h3,h4,h5⟩:=HPO.o.wrG HOY.o.wg;cases e';obtain⟨u,ku,cu,hku,T⟩:=h5 j AJ;obtain⟨bu,ou,cc,rfl⟩:∃ b o c,u=aM (aR ⟨b,o,aS⟩) ku c:=by obtain⟨b,o,c,zs,cs,fr,h1,_⟩:=T;exact⟨b,o,c,h1⟩
  have HT:=CY T;have HEY:=CY (HE.o.keepE (λk hk hk'=>hwy.block k (AG HLT.o)));have HCY:=CY hcy;have HWY:=CY ((Eo.of_below bE).trans hwy.wrG);have hsy:=CY (show w3.heap.size<=w5.heap.size by have:=hwy.size;have:=bE.size;omega);have hj':(j:Int)<m:=AJ
  go_wp2_with (at_builtin;refine IS rfl _ _ rfl w3.heap.size w3.heap.size (g+1) (aM (aR ⟨bu,ou,aS⟩) ku cc) ku rfl HEY.o rfl HT.o hku hsy.o ?_);intro v6 w6 zs O6 l6 y6 b6;obtain⟨q6,c6,e6⟩:=O6.2;have HO6:=CY (HO1.o.wrg (HCY.o.keepE (b6.block g HLT.o)) (HWY.o.bel b6));have HT6:=CY ((Gj.of_own O6 l6 y6).mono HO1.o.wg.size);rw[l6] at e6;subst e6;obtain⟨_,s1,_,_,fz⟩:=HO6.o.cells;have f1:=fz 1;have HO7:=CY (HO6.o.put 1 (aM (aR ⟨q6,0,aS⟩) ku c6) rfl (.inr ⟨ku,hku,HT6.o⟩) HO6.o.nb)
  go_upto_region 6 with fail
  generalize w6.setCell ⟨S,1,aS⟩ (aM (aR ⟨q6,0,aS⟩) ku c6)=w7 at *;have HBW:=CY (Cl g x n cap 80 _ HO7.o.cb (HO7.o.ct HCT.o) AK AK);go_wp2_with fail;refine HBW.o.mono ?_;rintro e w8 ⟨y8,rfl,y80,y81,hc,hw⟩;have HO8:=CY (HO7.o.cur hc hw);obtain⟨_,_,s2,_,fz⟩:=HO8.o.cells;have f2:=fz 2;have HO9:=CY (HO8.o.put 2 (aO aZ (y8)) rfl HO8.o.tx AJ)
  go_upto_region 7 with fail
  generalize w8.setCell ⟨S,2,aS⟩ (aO aZ y8)=w9 at *;have HBW:=CY (EN g x n cap 4 _ HO9.o.cb (HO9.o.ct HCT.o) AK AK);go_wp2_with fail;refine HBW.o.mono ?_;rintro e wa ⟨bo,rfl,hc,hw⟩;have HOA:=CY (HO9.o.cur hc hw)
  go_upto_if 28 with fail
  try dsimp only[Act.put]
  go_cut [] from 9 (λww=>∃ tv nw,Ja w g x n cap S 1 tv nw 0 ww)
  case first=>
   cases bo with
   |false=>
    go_wp2
    go_meet
    case rel=>exact⟨_,_,HOA.o⟩
   |true=>
    go_upto_region 8 with fail
    have HE:=CY (DB.empty wa wa.heap.size Ch);have bE:=Co wa (aa #[] 5);have HOE:=CY (HOA.o.call bE);have HBW:=CY (Cl g x n cap m _ HOE.o.cb (HOE.o.ct HCT.o) AJ AJ);have HLT:=CY (Ap HOE.o.hg HOA.o.wg.size);go_wp2_with fail;refine HBW.o.mono ?_;rintro e wb ⟨y,rfl,hy0,hy1,hcy,hwy⟩;obtain⟨j,rfl⟩:=Ab hy0;have HOY:=CY (HOE.o.cur hcy hwy);obtain⟨q',c',e',h2,h3,h4,h5⟩:=HPO.o.wrG HOY.o.wg;cases e';obtain⟨u,ku,cu,hku,T⟩:=h5 j AJ;obtain⟨bu,ou,cc,rfl⟩:∃ b o c,u=aM (aR ⟨b,o,aS⟩) ku c:=by obtain⟨b,o,c,zs,cs,fr,h1,_⟩:=T;exact⟨b,o,c,h1⟩
    have HT:=CY T;have HEY:=CY (HE.o.keepE (λk hk hk'=>hwy.block k (AG HLT.o)));have HCY:=CY hcy;have HWY:=CY ((Eo.of_below bE).trans hwy.wrG);have hsy:=CY (show wa.heap.size<=wb.heap.size by have:=hwy.size;have:=bE.size;omega);have hj':(j:Int)<m:=AJ
    go_wp2_with (at_builtin;refine IS rfl _ _ rfl wa.heap.size wa.heap.size (g+1) (aM (aR ⟨bu,ou,aS⟩) ku cc) ku rfl HEY.o rfl HT.o hku hsy.o ?_);intro v6 w6 zs O6 l6 y6 b6;obtain⟨q6,c6,e6⟩:=O6.2;have HO6:=CY (HOA.o.wrg (HCY.o.keepE (b6.block g HLT.o)) (HWY.o.bel b6));have HT6:=CY ((Gj.of_own O6 l6 y6).mono HOA.o.wg.size);rw[l6] at e6;subst e6;obtain⟨_,s1,_,_,fz⟩:=HO6.o.cells;have f1:=fz 1;have HO7:=CY (HO6.o.put 1 (aM (aR ⟨q6,0,aS⟩) ku c6) rfl (.inr ⟨ku,hku,HT6.o⟩) HO6.o.nb);go_wp2
    go_meet
    case rel=>exact⟨_,_,HO7.o⟩
  case rest=>
   obtain⟨tv,nw,ho⟩:=hcut;obtain⟨ta,tn,tc,rfl⟩:=ho.tx.frm;have HOA:=CY ho;have HBW:=CY (EN g x n cap 20 _ HOA.o.cb (HOA.o.ct HCT.o) AK AK);go_wp2_with fail;refine HBW.o.mono ?_;rintro e wd ⟨bo,rfl,hc,hw⟩;have HOD:=CY (HOA.o.cur hc hw)
   go_upto_if 40 with fail
   try dsimp only[Act.put]
   go_cut [] from 9 (λww=>∃ tv nw,Ja w g x n cap S 1 tv nw 0 ww)
   case first=>
    cases bo with
    |false=>
     go_wp2
     go_meet
     case rel=>exact⟨_,_,HOD.o⟩
    |true=>
     have HBW:=CY (Cl g x n cap 2 _ HOD.o.cb (HOD.o.ct HCT.o) AK AK);go_wp2_with fail;refine HBW.o.mono ?_;rintro e we ⟨ye,rfl,ye0,ye1,hc,hw⟩;have HOE:=CY (HOD.o.cur hc hw);obtain⟨_,_,s2,_,fz⟩:=HOE.o.cells;have f2:=fz 2;have HOF:=CY (HOE.o.put 2 (aO aZ (-1+4294967297*ye)) rfl HOE.o.tx AJ);go_wp2
     go_meet
     case rel=>exact⟨_,_,HOF.o⟩
   case rest=>
    obtain⟨tv,nw,ho⟩:=hcut;obtain⟨ta,tn,tc,rfl⟩:=ho.tx.frm;have HO:=CY ho;go_wp2_with (first
     |(refine AZ rfl 28 (ah 8) rfl S rfl 28 _ (0,0) _ HO.o.s underlying28 rfl HSZ.o ?_)
     |(refine AE 28 (ah 6) (ah 46) w.heap.size #[aO aZ 1,aM ta tn tc,aO aZ nw,aO aZ 0] 28 HO.o.bx HSZ.o rfl (by simp[Value.oneCell']) ?_)
     |fail)
    (try simp only[Exit.inBlock,Exit.then])
    exact AU (AY rfl _ _ w.heap.size 28 _ (0,0) _ rfl (AB HO.o.bx) underlying28 rfl HSZ.o) rfl (HO.o.fin _)
 ·have HBW:=CY (Cl g x n cap 8 _ HO.o.cb (HO.o.ct HCT.o) AK AK);go_wp2_with fail;refine HBW.o.mono ?_;rintro e w3 ⟨y3,rfl,y30,y31,hc,hw⟩;have HO3:=CY (HO.o.cur hc hw);obtain⟨_,_,_,s3,fz⟩:=HO3.o.cells;have f3:=fz 3;have HO4:=CY (HO3.o.put 3 (aO aZ (y3)) rfl HO3.o.tx AJ)
  go_upto_if 51 with fail
  generalize w3.setCell ⟨S,3,aS⟩ (aO aZ y3)=w4 at *;try dsimp only[Act.put]
  go_cut [] from 9 (λww=>∃ nn,Ja w g x n cap S 0 (aM aS 0 0) 0 nn ww)
  case first=>
   by_cases h7:k=7
   ·subst h7;have HBW:=CY (Cl g x n cap 300 _ HO4.o.cb (HO4.o.ct HCT.o) AK AK);go_wp2_with fail;refine HBW.o.mono ?_;rintro e w5 ⟨y5,rfl,y50,y51,hc,hw⟩;have HO5:=CY (HO4.o.cur hc hw);obtain⟨_,_,_,s3,fz⟩:=HO5.o.cells;have f3:=fz 3;have HO6:=CY (HO5.o.put 3 (aO aZ (y5-20)) rfl HO5.o.tx AJ);go_wp2
    go_meet
    case rel=>exact⟨_,HO6.o⟩
   ·have h7':(k == 7)=false:=by simp[h7]
    go_wp2
    go_meet
    case rel=>exact⟨_,HO4.o⟩
  case rest=>
   obtain⟨nn,ho⟩:=hcut;have HO5:=CY ho
   go_upto_if 57 with fail
   try dsimp only[Act.put]
   go_cut [] from 9 (λww=>∃ kd nn,Ja w g x n cap S kd (aM aS 0 0) 0 nn ww)
   case first=>
    by_cases h10:k<10
    ·obtain⟨s0,_,_,_,fz⟩:=HO5.o.cells;have f0:=fz 0;have HO6:=CY (HO5.o.put 0 (aO aZ (2)) rfl HO5.o.tx HO5.o.nb);go_wp2
     go_meet
     case rel=>exact⟨_,_,HO6.o⟩
    ·by_cases h11:k=10
     ·have h11':(k == 10)=true:=by simp[h11]
      clear h11;obtain⟨s0,_,_,_,fz⟩:=HO5.o.cells;have f0:=fz 0;have HO6:=CY (HO5.o.put 0 (aO aZ (3)) rfl HO5.o.tx HO5.o.nb);clear HO5 fz;go_wp2
      go_meet
      case rel=>exact⟨_,_,HO6.o⟩
     ·have h11':(k == 10)=false:=by simp[h11]
      by_cases h14:k<14
      ·obtain⟨s0,_,_,_,fz⟩:=HO5.o.cells;have f0:=fz 0;have HO6:=CY (HO5.o.put 0 (aO aZ (4)) rfl HO5.o.tx HO5.o.nb)
       go_upto_region 21 with fail
       generalize World.setCell _ ⟨S,0,aS⟩ (aO aZ 4)=w6 at *;have HBW:=CY (Cl g x n cap 5 _ HO6.o.cb (HO6.o.ct HCT.o) AK AK);go_wp2_with fail;refine HBW.o.mono ?_;rintro e w7 ⟨y7,rfl,y70,y71,hc,hw⟩;have HO7:=CY (HO6.o.cur hc hw);obtain⟨_,_,_,s3,fz⟩:=HO7.o.cells;have f3:=fz 3;have HO8:=CY (HO7.o.put 3 (aO aZ (y7)) rfl HO7.o.tx AJ);go_wp2
       go_meet
       case rel=>exact⟨_,_,HO8.o⟩
      ·obtain⟨s0,_,_,_,fz⟩:=HO5.o.cells;have f0:=fz 0;have HO6:=CY (HO5.o.put 0 (aO aZ (5)) rfl HO5.o.tx HO5.o.nb);go_wp2
       go_meet
       case rel=>exact⟨_,_,HO6.o⟩
   case rest=>
    obtain⟨kd,nn,ho⟩:=hcut;have HO:=CY ho;go_wp2_with (first
     |(refine AZ rfl 28 (ah 8) rfl S rfl 28 _ (0,0) _ HO.o.s underlying28 rfl HSZ.o ?_)
     |(refine AE 28 (ah 6) (ah 69) w.heap.size #[aO aZ kd,aM aS 0 0,aO aZ 0,aO aZ nn] 28 HO.o.bx HSZ.o rfl (by simp[Value.oneCell']) ?_)
     |fail)
    (try simp only[Exit.inBlock,Exit.then])
    exact AU (AY rfl _ _ w.heap.size 28 _ (0,0) _ rfl (AB HO.o.bx) underlying28 rfl HSZ.o) rfl (HO.o.fin _)
theorem WD (n:Int):-9223372036854775808<=IntKind.i64.wrap n/\IntKind.i64.wrap n<=9223372036854775807:=by rw[Ak];omega
def Zl (w:aV) (e:Ending) (w':aV):Prop:=
 ∃ aD nD cD aU nU cU k aT nT cT ak nk ck kd ta tn tc nw nn,e=.returned (.tuple #[af #[aM aD nD cD,aM aU nU cU,aO aZ k,aM aT nT cT],aM ak nk ck,af #[aO aZ kd,aM ta tn tc,aO aZ nw,aO aZ nn]])/\DX (w.heap.size+2) aD nD cD aU nU cU k aT nT cT ak nk ck ta tn tc w'/\nk<=32/\Below w.heap.size w w'
theorem Og (x:Option Addr) (n cap:Nat) (zs:List Int) (w:aV) (hl:zs.length=n) (hn:n<=1048576) (hz:Cb zs) (ha:At aP w x zs) :
  Calls tP 4 #[aM x n cap] w (Zl w):=by
 have b0:Below w.heap.size w ((w.alloc (aa CJ 26)).alloc (aa CQ 28)):=(Cf.alloc Ch _).alloc AL _;have HN:=CY (PQ x n cap zs _ hl hn hz (ha.below b0));have h1:=heap_alloc2_old w (aa CJ 26) (aa CQ 28);have h3:=heap_alloc2_new w (aa CJ 26) (aa CQ 28);have HT:=CY (show zs.length=n/\n<=1048576/\Cb zs/\At aP w x zs from⟨hl,hn,hz,ha⟩);have HR:=CY (Al b0 (Al h1 h3));go_enter func4,ntmps4;go_wp2_with fail;generalize ew:(w.alloc (aa CJ 26)).alloc (aa CQ 28)=w0 at *;have hs0:w0.heap.size=w.heap.size+2:=by rw[<-ew];simp
 refine HN.o.mono ?_;rintro e w1 ⟨rfl,hc1,B1,s1⟩;rw[hs0] at hc1 B1 s1 |-;have hbl:=HR.o.1.trans (B1.mono (show w.heap.size<=w.heap.size+2 by omega));have e1:w1.heap[w.heap.size]?=aR (aa CJ 26 (0,0)):=by rw[B1.block _ AJ];exact HR.o.2.1
 have e3:w1.heap[w.heap.size+1]?=aR (aa CQ 28 (0,0)):=by rw[B1.block _ AJ];exact HR.o.2.2
 have HD1:=CY (show DR 28 TZ w x n cap w.heap.size (w.heap.size+1) CJ CQ w1 from⟨hbl,hc1,Fb.of_at HT.o.1 HT.o.2.1 HT.o.2.2.1 HT.o.2.2.2 hbl AJ,e1,e3,e1,e3,AJ,AJ,AK⟩);have HBW:=CY (KR (w.heap.size+2) x n cap _ HD1.o.cb HD1.o.ct);go_wp2_with fail;refine HBW.o.mono ?_;rintro e w2 ⟨v,rfl,aD,nD,cD,aU,nU,cU,k,aT,nT,cT,D,U,T,rfl,i1,i2,i3,pD,lD,pU,lT,hk,ap,hc,hw⟩;have hz1:w.heap.size+2+1<=w1.heap.size:=HD1.o.lt;have HD2:=CY (HD1.o.to hw.wrT hc);have HL2:=CY (show Ls (w.heap.size+2) w2 _ _ _ D U T nT from⟨Iow.mono i1 hz1,Iow.mono i2 hz1,Cj.mono i3 hz1,AJ,Ai pU.len AK,AJ⟩);have HNS:=CY (AS w2 (aa CJ 26));have bS:Below w2.heap.size w2 ((w2.alloc (aa CJ 26)).setRow w2.heap.size #[aM aD nD cD,aM aU nU cU,aO aZ k,aM aT nT cT]):=(Co _ _).trans ((Wr.setRow _ _ _).below Ch);have hz2:w.heap.size+2<w2.heap.size:=HD2.o.lt;have HD3:=CY ((HD2.o.to (Eo.of_below bS).wrT (HD2.o.cb.bel bS).1).swS (AB HNS.o) AJ);have HL3:=CY (HL2.o.wrG (Eo.of_below bS));have hlD:=i1.sat.2.1;have hlU:=i2.sat.2.1;have hnU:=pU.len;have HAP:=CY (Al ap (Al hk (show nD<=280/\nU<=280 by omega)))
 go_upto_region 3 with (first
  |(refine AE 26 (ah 6) (ah 14) w2.heap.size #[aM aD nD cD,aM aU nU cU,aO aZ k,aM aT nT cT] 26 HNS.o Tryz.sizeSt rfl (by simp[Value.oneCell']) ?_)
  |fail)
 clear HNS;generalize (w2.alloc (aa CJ 26)).setRow w2.heap.size #[aM aD nD cD,aM aU nU cU,aO aZ k,aM aT nT cT]=w3 at *;generalize w2.heap.size=S at *;have HBW:=CY (Cl (w.heap.size+2) x n cap 400 _ HD3.o.cb HD3.o.ct AK AK);go_wp2_with fail;refine HBW.o.mono ?_;rintro e w4 ⟨y,rfl,y0,y1,hc,hw⟩;have HD4:=CY (HD3.o.cur hc hw);have HL4:=CY (HL3.o.wrG hw.wrG);clear HD3 HL3 HBW hc hw;have HBW:=CY (KP (1+y) w4 AJ AJ);go_wp2_with fail;refine HBW.o.mono ?_;rintro e w5 ⟨v5,rfl,T5,b5⟩;obtain⟨q5,c5,rfl⟩:=T5.frm;have HD5:=CY (HD4.o.to (Eo.of_below b5).wrT (HD4.o.cb.bel b5).1);have HL5:=CY (HL4.o.wrG (Eo.of_below b5));have HK5:=CY ((Gj.of_txO T5).mono (show w.heap.size+2+1<=w4.heap.size from HD4.o.lt));clear HD4 HL4 HBW T5 b5;have P:=Ta (w.heap.size+2) x n cap (1+y) 1 w5 HD5.o.cb HD5.o.ct AJ AJ AK AK;rw[show((1:Nat):Int)=1 from rfl] at P;have HBW:=CY P;clear P;go_wp2_with fail;refine HBW.o.mono ?_;rintro e w6 ⟨v6,m,vs,rfl,m0,m1,hp⟩;have HPO:=hp.pool AJ;obtain⟨q6,c6,rfl,_⟩:=hp.form1 AJ;have HD6:=CY (HD5.o.to hp.wg.wrT hp.cb);have HL6:=CY (HL5.o.wrG hp.wg);have HK6:=CY (HK5.o.wrT hp.wg.wrT);have P:=Of (w.heap.size+2) x n cap q6 m c6 1 w6 HD6.o.cb HD6.o.ct HPO AK AJ AJ;rw[show((1:Nat):Int)=1 from rfl] at P;clear HBW;have HBW:=CY P;clear P hp HPO HD5 HL5 HK5;go_wp2_with fail;refine HBW.o.mono ?_;rintro e w7 ⟨kd,ta,tn,tc,nw,nn,rfl,tk,nb,hc,hw⟩;have HD7:=CY (HD6.o.to hw.wrT hc);have HX7:=CY (show DX (w.heap.size+2) aD nD cD aU nU cU k aT nT cT (aR ⟨q5,0,aS⟩) 32 c5 ta tn tc w7 from⟨⟨D,U,T,HL6.o.wrG hw⟩,HK6.o.wrT hw.wrT,tk.mono (show w.heap.size+2+1<=w6.heap.size from HD6.o.lt),HAP.o.2.1⟩);have HNO:=CY (AS w7 (aa CQ 28));have bO:Below w7.heap.size w7 ((w7.alloc (aa CQ 28)).setRow w7.heap.size #[aO aZ kd,aM ta tn tc,aO aZ nw,aO aZ nn]):=(Co _ _).trans ((Wr.setRow _ _ _).below Ch);have hz7:w.heap.size+2<w7.heap.size:=HD7.o.lt;have hSO:w7.heap.size≠S:=Nat.ne_of_gt (Cm HD7.o.s);have HD8:=CY ((HD7.o.to (Eo.of_below bO).wrT (HD7.o.cb.bel bO).1).swO (AB HNO.o) AJ);have HX8:=CY (HX7.o.wrG (Eo.of_below bO));clear HD6 HL6 HK6 HBW tk nb hc hw HD7 HX7 bO
 go_upto_region 7 with (first
  |(refine AE 28 (ah 10) (ah 25) w7.heap.size #[aO aZ kd,aM ta tn tc,aO aZ nw,aO aZ nn] 28 HNO.o Tryz.sizeOp rfl (by simp[Value.oneCell']) ?_)
  |fail)
 clear HNO;generalize (w7.alloc (aa CQ 28)).setRow w7.heap.size #[aO aZ kd,aM ta tn tc,aO aZ nw,aO aZ nn]=w8 at *;generalize w7.heap.size=O at *;have o0:w8.cell? ⟨O,0,aS⟩=aR (aO aZ kd):=AA HD8.o.o _
 go_upto_if 28 with fail
 clear o0;try dsimp only[Act.put]
 go_cut [] from 11 (λww=>∃ nn,DR 28 TZ w x n cap S O #[aM aD nD cD,aM aU nU cU,aO aZ k,aM aT nT cT] #[aO aZ kd,aM ta tn tc,aO aZ nw,aO aZ nn] ww/\DX (w.heap.size+2) aD nD cD aU nU cU k aT nT cT (aR ⟨q5,0,aS⟩) 32 c5 ta tn tc ww)
 case first=>
  by_cases h4:kd=4
  ·have h4':(kd == 4)=true:=by simp[h4]
   clear h4
   go_upto_region 8 with fail
   try simp only[h4']
   clear h4';have hnT:(nT:Int)<=100:=AJ
   have hnT0:0<=(nT:Int):=AJ
   refine Ag AM ?_;refine Cg (λ_ _ _=>True) (frame:=(λ(a b c d e f g h i j k l m n o p q r s u v w x y z A B C D E F G H I J K L M N O P Q R S T U V W X Y Z a0 a1 a2 a3 a4 a5 a6 a7 a8 a9 b0 b1 b2 b3 b4 b5 b6 b7 b8:aX)=>λ(t:Nat->aX)=>({ tmps:=List.toArray [a,b,c,d,e,f,g,h,i,j,k,l,m,n,o,p,q,r,s,u,v,w,x,y,z,A,B,C,D,t 0,t 1,t 2,t 3,t 4,t 5,t 6,t 7,t 8,t 9,t 10,E,F,G,H,I,J,K,L,M,N,O,P,Q,R,S,T,U,V,W,X,Y,Z,a0,a1,a2,a3,a4,a5,a6,a7,a8,a9,b0,b1,b2,b3,b4,b5,b6,b7,b8],defers:=[] }:Act)) _ _ _ _ _ _ _ _ _ _ _ _ _ _ _ _ _ _ _ _ _ _ _ _ _ _ _ _ _ _ _ _ _ _ _ _ _ _ _ _ _ _ _ _ _ _ _ _ _ _ _ _ _ _ _ _ _ _ _ _ _ _ _ _ _ _ _ _ _ _)
    (Ext:=λL u w'=>((L 8=true->L 7=true)/\(L 9=true->L 8=true)/\(L 11=true->L 9=true))/\(if L 11=true then(∃ nn,DR 28 TZ w x n cap S O #[aM aD nD cD,aM aU nU cU,aO aZ k,aM aT nT cT] #[aO aZ kd,aM ta tn tc,aO aZ nw,aO aZ nn] w'/\DX (w.heap.size+2) aD nD cD aU nU cU k aT nT cT (aR ⟨q5,0,aS⟩) 32 c5 ta tn tc w') else(DR 28 TZ w x n cap S O #[aM aD nD cD,aM aU nU cU,aO aZ k,aM aT nT cT] #[aO aZ kd,aM ta tn tc,aO aZ nw,aO aZ nn] w'/\DX (w.heap.size+2) aD nD cD aU nU cU k aT nT cT (aR ⟨q5,0,aS⟩) 32 c5 ta tn tc w'))) (Good:=λi L w' v=>if i=0 then v=aY (aR ⟨S,2,aS⟩) else if i=1 then v=aO aZ k else if i=2 then v=aY (aR ⟨w.heap.size+2,0,aS⟩) else if i=3 then v=aY (aR ⟨S,3,aS⟩) else if i=4 then v=aM aT nT cT else if i=5 then v=aO aZ nT else if i=6 then v=aO aZ (nT+3) else if i=7 then ∃ z:Int,v=aO aZ z/\-9223372036854775808<=z/\z<=9223372036854775807 else if i=8 then ∃ z:Int,v=aO aZ z/\-9223372036854775808<=z/\z<=9223372036854775807 else if i=9 then ∃ z:Int,v=aO aZ z/\-9223372036854775808<=z/\z<=9223372036854775807 else if i=10 then v=aY (aR ⟨O,3,aS⟩) else if i=11 then L 11=true else True) ?hstab AM ?hop ?hdone _ _ ((λ(x0 x1 x2 x3 x4 x5 x6 x7 x8 x9 x10:aX)=>λ(i:Nat)=>if i=0 then x0 else if i=1 then x1 else if i=2 then x2 else if i=3 then x3 else if i=4 then x4 else if i=5 then x5 else if i=6 then x6 else if i=7 then x7 else if i=8 then x8 else if i=9 then x9 else if i=10 then x10 else undef) _ _ _ _ _ _ _ _ _ _ _) _ AL ?ext ?start AL
   case start=>intro i hi h;exact absurd h Ef
   case ext=>exact⟨⟨AL,AL,AL⟩,by simp;exact⟨HD8.o.to (Eo.of_below (Cf.drew)).wrT (HD8.o.cb.bel (Cf.drew)).1,HX8.o.wrG (Eo.of_below (Cf.drew))⟩⟩
   case hstab=>
    intro j L w9 w' i v hM hij hLi h;by_cases h11:j=11
    ·subst h11;simp at h |-;unfold CZ;split<;>simp[h]
    simp only[if_neg h11] at h |-;exact h
   case hop=>
    intro i o L t w' ho hLi hx hdep K hK;have hi:i<12:=(AR.1 ho).1;have hD:∃ co,DR 28 TZ w x n cap S O #[aM aD nD cD,aM aU nU cU,aO aZ k,aM aT nT cT] co w':=by
     have h:=hx.2;by_cases h11:L 11=true
     {rw[AP h11] at h;obtain⟨_,h,_⟩:=h;exact⟨_,h⟩};{rw[AQ h11] at h;exact⟨_,h.1⟩}
    obtain⟨co,hD⟩:=hD;have s2:w'.cell? ⟨S,2,aS⟩=aR (aO aZ k):=AA hD.s _;have s3:w'.cell? ⟨S,3,aS⟩=aR (aM aT nT cT):=AA hD.s _;clear hD;obtain rfl|rfl|rfl|rfl|rfl|rfl|rfl|rfl|rfl|rfl|rfl|rfl:i=0\/i=1\/i=2\/i=3\/i=4\/i=5\/i=6\/i=7\/i=8\/i=9\/i=10\/i=11:=AJ
    all_goals(simp at ho;subst ho)
    all_goals try(have hK':=hK w' _ rfl ⟨by simpa[CZ] using hx.1,by simpa[CZ] using hx.2⟩ trivial;clear hK;simp[Region.binds] at hdep;rw[AP AN];go_simp;simpa[Ca,hdep,s2,s3] using hK';done)
    ·have d5:t 5=aO aZ nT:=by simpa using(hdep ⟨5,ag⟩ AL rfl).2
     clear hdep s2 s3;have e3:IntKind.i64.wrap ((nT:Int)+3)=nT+3:=by rw[Ak];omega
     have hK':=hK w' (aO aZ (nT+3)) AL ⟨by simpa[CZ] using hx.1,by simpa[CZ] using hx.2⟩ trivial;clear hK hx;rw[AP AN];go_simp;simpa[Ca,d5,e3] using hK'
    ·have d2:t 2=aY (aR ⟨w.heap.size+2,0,aS⟩):=by simpa using(hdep ⟨2,ag⟩ AL rfl).2
     have d6:t 6=aO aZ (nT+3):=by simpa using(hdep ⟨6,ag⟩ AL rfl).2
     clear hdep s2 s3;have h11:¬ L 11=true:=λh=>by rw[hx.1.1 (hx.1.2.1 (hx.1.2.2 h))] at hLi;cases hLi
     have h8:¬ L 8=true:=λh=>by rw[hx.1.1 h] at hLi;cases hLi
     have h9:¬ L 9=true:=λh=>h8 (hx.1.2.1 h)
     have hf:=hx.2;rw[AQ h11] at hf;have A:=Cl (w.heap.size+2) x n cap (nT+3) w' hf.1.cb hf.1.ct AJ (AG hf.2.bnd);have hK':∀ ww y,0<=y->y<=(nT:Int)+3-1->Dc ww (w.heap.size+2) x n cap->Wr (w.heap.size+2) w' ww->K _ ww:=λww y hy0 hy1 hc hw=>hK ww (aO aZ y) (by simp;have:=hf.2.bnd;omega) ⟨by simp[CZ,h8,h9,h11],by simp only[CZ];simp[h11];exact⟨hf.1.cur hc hw,hf.2.wrG hw.wrG⟩⟩ trivial
     clear hK hx hf;rw[AP AN];go_simp;try simp only[d2,d6]
     refine A.mono ?_;rintro e w9 ⟨y,rfl,hy0,hy1,hc,hw⟩;have hK2:=hK' w9 y hy0 hy1 hc hw;clear hK' A hc hw;go_simp;simpa[Ca,d2,d6] using hK2
    ·have d1:t 1=aO aZ k:=by simpa using(hdep ⟨1,ag⟩ AL rfl).2
     have l7:=(hdep ⟨7,ag⟩ AL rfl).1;obtain⟨y,d7,hy⟩:∃ z:Int,t 7=aO aZ z/\-9223372036854775808<=z/\z<=9223372036854775807:=by simpa using(hdep ⟨7,ag⟩ AL rfl).2
     clear hdep s2 s3;have hK':=hK w' (aO aZ (IntKind.i64.wrap (k+y))) (by simp;exact WD _) ⟨⟨by simp[CZ,l7],by simp[CZ],by simpa[CZ] using hx.1.2.2⟩,by simpa[CZ] using hx.2⟩ trivial;clear hK hx;rw[AP AN];go_simp;simpa[Ca,d1,d7] using hK'
    ·have l8:=(hdep ⟨8,ag⟩ AL rfl).1;obtain⟨y,d8,hy⟩:∃ z:Int,t 8=aO aZ z/\-9223372036854775808<=z/\z<=9223372036854775807:=by simpa using(hdep ⟨8,ag⟩ AL rfl).2
     clear hdep s2 s3;have hK':=hK w' (aO aZ (IntKind.i64.wrap (y-1))) (by simp;exact WD _) ⟨⟨by simpa[CZ] using hx.1.1,by simp[CZ,l8],by simp[CZ]⟩,by simpa[CZ] using hx.2⟩ trivial;clear hK hx;rw[AP AN];go_simp;simpa[Ca,d8] using hK'
    ·have d10:t 10=aY (aR ⟨O,3,aS⟩):=by simpa using(hdep ⟨10,ag⟩ AL rfl).2
     have l9:=(hdep ⟨9,ag⟩ AL rfl).1;obtain⟨z,d9,hz⟩:∃ z:Int,t 9=aO aZ z/\-9223372036854775808<=z/\z<=9223372036854775807:=by simpa using(hdep ⟨9,ag⟩ AL rfl).2
     clear hdep s2 s3;have hf:=hx.2;rw[hLi,AQ AK] at hf;have o3:w'.cell? ⟨O,3,aS⟩=aR (aO aZ nn):=AA hf.1.o _;have f3:w'.frozen? ⟨O,3,aS⟩=false:=An _ _ _ _ _ hf.1.o;have hwO:Wr O w' (w'.setCell ⟨O,3,aS⟩ (aO aZ z)):=(Wr.refl _ _).setCell _ _;have hK':=hK (w'.setCell ⟨O,3,aS⟩ (aO aZ z)) undef (by simp[CZ]) ⟨⟨by simpa[CZ] using hx.1.1,by simpa[CZ] using hx.1.2.1,by simp[CZ,l9]⟩,by
      have e:CZ L 11 11=true:=by simp[CZ]
      rw[AP e];exact⟨z,hf.1.putO AJ hwO (Ao _ _ _ _ _ _ hf.1.o),hf.2.typ hf.1.o AK AK AK hwO⟩⟩ trivial
     rw[AP AN];go_simp;simpa[Ca,d9,d10,Act.put] using hK'
   case hdone=>
    intro L t w' hx hg;have h11:L 11=true:=by simpa using hg 11 AK
    have hf:=hx.2;rw[AP h11] at hf;obtain⟨nn',hf⟩:=hf;have HF:=CY hf;go_wp2
    go_meet
    case rel=>exact⟨_,HF.o⟩
  ·have h4':(kd == 4)=false:=by simp[h4]
   go_wp2
   go_meet
   case rel=>exact⟨_,HD8.o,HX8.o⟩
 case rest=>
  obtain⟨nn,hd,hx⟩:=hcut;have HD:=CY hd;have HX:=CY hx
  go_upto_region 9 with fail
  go_cut [57] from 11 (λv ww=>∃ b:Bool,v=ae b/\(b=true->0<nD)/\DR 28 TZ w x n cap S O #[aM aD nD cD,aM aU nU cU,aO aZ k,aM aT nT cT] #[aO aZ kd,aM ta tn tc,aO aZ nw,aO aZ nn] ww/\DX (w.heap.size+2) aD nD cD aU nU cU k aT nT cT (aR ⟨q5,0,aS⟩) 32 c5 ta tn tc ww)
  case first=>
   have o0:_=aR (aO aZ kd):=AA HD.o.o 0;have s0:_=aR (aM aD nD cD):=AA HD.o.s 0;have HBW:=CY (EN (w.heap.size+2) x n cap 2 _ HD.o.cb HD.o.ct AK AK);by_cases h2:kd=2
   ·have e2:(kd == 2)=true:=by simp[h2]
    by_cases hD:0<nD
    ·have hD':0<(nD:Int):=AJ
     go_wp2_with fail;refine HBW.o.mono ?_;rintro e w9 ⟨bo,rfl,hc,hw⟩;have HF:=CY (HD.o.cur hc hw);have HXF:=CY (HX.o.wrG hw.wrG);go_wp2
     go_meet
     case rel=>exact⟨bo,rfl,λ_=>hD,HF.o,HXF.o⟩
    ·have hD':¬ 0<(nD:Int):=AJ
     go_wp2
     go_meet
     case rel=>exact⟨false,rfl,AL,HD.o,HX.o⟩
   ·have e2:(kd == 2)=false:=by simp[h2]
    by_cases h3:kd=3
    ·have e3:(kd == 3)=true:=by simp[h3]
     by_cases hD:0<nD
     ·have hD':0<(nD:Int):=AJ
      go_wp2_with fail;refine HBW.o.mono ?_;rintro e w9 ⟨bo,rfl,hc,hw⟩;have HF:=CY (HD.o.cur hc hw);have HXF:=CY (HX.o.wrG hw.wrG);go_wp2
      go_meet
      case rel=>exact⟨bo,rfl,λ_=>hD,HF.o,HXF.o⟩
     ·have hD':¬ 0<(nD:Int):=AJ
      go_wp2
      go_meet
      case rel=>exact⟨false,rfl,AL,HD.o,HX.o⟩
    ·have e3:(kd == 3)=false:=by simp[h3]
     go_wp2
     go_meet
     case rel=>exact⟨false,rfl,AL,HD.o,HX.o⟩
  case rest=>
   obtain⟨b,rfl,hb,hd,hx⟩:=hcut;have HD':=CY hd;have HX':=CY hx
   go_upto_if 57 with fail
   try dsimp only[Act.put]
   go_cut [] from 11 (λww=>∃ nn,DR 28 TZ w x n cap S O #[aM aD nD cD,aM aU nU cU,aO aZ k,aM aT nT cT] #[aO aZ kd,aM ta tn tc,aO aZ nw,aO aZ nn] ww/\DX (w.heap.size+2) aD nD cD aU nU cU k aT nT cT (aR ⟨q5,0,aS⟩) 32 c5 ta tn tc ww)
   case first=>
    cases b with
    |false=>
     go_wp2
     go_meet
     case rel=>exact⟨_,HD'.o,HX'.o⟩
    |true=>
     obtain⟨D',U',T',hl⟩:=HX'.o.ls;obtain⟨qd,z,rfl,cz⟩:=hl.d.hd (hb rfl);have hnD:0<(nD:Int):=AG (hb rfl)
     have s0:_=aR (aM (aR ⟨qd,0,aS⟩) nD cD):=AA HD'.o.s 0;have o3:_=aR (aO aZ nn):=AA HD'.o.o 3;have f3:=An _ _ 3 _ _ HD'.o.o;have HF:=CY (HD'.o.putO AJ ((Wr.refl _ _).setCell 3 (aO aZ z)) (Ao _ _ _ _ _ _ HD'.o.o));have HXF:=CY (HX'.o.typ HD'.o.o AK AK AK ((Wr.refl _ _).setCell 3 (aO aZ z)));go_wp2
     go_meet
     case rel=>exact⟨_,HF.o,HXF.o⟩
   case rest=>
    obtain⟨nn,hd,hx⟩:=hcut;have HD:=CY hd;have HX:=CY hx;have HBW:=CY (EN (w.heap.size+2) x n cap 14 _ HD.o.cb HD.o.ct AK AK);go_wp2_with fail;refine HBW.o.mono ?_;rintro e w9 ⟨bo,rfl,hc,hw⟩;have HD':=CY (HD.o.cur hc hw);have HX':=CY (HX.o.wrG hw.wrG)
    go_upto_if 64 with fail
    try dsimp only[Act.put]
    go_cut [] from 11 (λww=>∃ aD nD cD aU nU cU k aT nT cT,DR 28 TZ w x n cap S O #[aM aD nD cD,aM aU nU cU,aO aZ k,aM aT nT cT] #[aO aZ kd,aM ta tn tc,aO aZ nw,aO aZ nn] ww/\DX (w.heap.size+2) aD nD cD aU nU cU k aT nT cT (aR ⟨q5,0,aS⟩) 32 c5 ta tn tc ww)
    case first=>
     cases bo with
     |false=>
      go_wp2
      go_meet
      case rel=>exact⟨_,_,_,_,_,_,_,_,_,_,HD'.o,HX'.o⟩
     |true=>
      obtain⟨D',U',T',hl⟩:=HX'.o.ls;have hlD:=hl.d.sat.2.1;have hlU:=hl.u.sat.2.1;have hbd:=HAP.o.2.2;have HBW:=CY (JW (w.heap.size+2) x n cap aD aU aT nD cD nU cU nT cT D' U' T' k _ HD'.o.cb HD'.o.ct hl AJ HAP.o.1 HX'.o.nb);go_wp2_with (first
       |(refine AZ rfl 26 (ah 6) rfl S rfl 26 _ (0,0) _ HD'.o.s underlying26 rfl Tryz.sizeSt ?_)
       |fail)
      refine HBW.o.mono ?_;rintro e wq ⟨v,rfl,⟨bD,mD,dD,bU,mU,dU,kk,bT,mT,dT,D9,U9,T9,rfl,hl9,hk9⟩,hc,hw⟩;have HDq:=CY (HD'.o.to hw hc);have HXq:=CY (show DX (w.heap.size+2) bD mD dD bU mU dU kk bT mT dT (aR ⟨q5,0,aS⟩) 32 c5 ta tn tc wq from⟨⟨_,_,_,hl9⟩,HX'.o.ke.wrT hw,HX'.o.tk.wrT hw,hk9⟩);have hwS:=Wr.setRow S wq #[aM bD mD dD,aM bU mU dU,aO aZ kk,aM bT mT dT];have HF:=CY (HDq.o.putS AJ hwS (AB HDq.o.s));have HXF:=CY (HXq.o.typ HDq.o.s AK AK AK hwS);go_wp2_with (first
       |(refine AE 26 (ah 6) (ah 67) S #[aM bD mD dD,aM bU mU dU,aO aZ kk,aM bT mT dT] 26 HDq.o.s Tryz.sizeSt rfl (by simp[Value.oneCell']) ?_)
       |fail)
      go_meet
      case rel=>exact⟨_,_,_,_,_,_,_,_,_,_,HF.o,HXF.o⟩
    case rest=>
     obtain⟨aD,nD,cD,aU,nU,cU,k,aT,nT,cT,hd,hx⟩:=hcut;have HD:=CY hd;have HX:=CY hx;have HBW:=CY (EN (w.heap.size+2) x n cap 30 _ HD.o.cb HD.o.ct AK AK);go_wp2_with fail;refine HBW.o.mono ?_;rintro e wa ⟨bo,rfl,hc,hw⟩;have HD':=CY (HD.o.cur hc hw);have HX':=CY (HX.o.wrG hw.wrG)
     go_upto_if 69 with fail
     try dsimp only[Act.put]
     go_cut [8] from 11 (λv ww=>∃ ak nk ck,v=aM ak nk ck/\nk<=32/\DR 28 TZ w x n cap S O #[aM aD nD cD,aM aU nU cU,aO aZ k,aM aT nT cT] #[aO aZ kd,aM ta tn tc,aO aZ nw,aO aZ nn] ww/\DX (w.heap.size+2) aD nD cD aU nU cU k aT nT cT ak nk ck ta tn tc ww)
     case first=>
      cases bo with
      |false=>
       go_wp2
       go_meet
       case rel=>exact⟨_,_,_,rfl,AK,HD'.o,HX'.o⟩
      |true=>
       have h31:(31:Int)<=c5:=by
        obtain⟨_,_,_,_,_,_,e,h,_⟩:=HX'.o.ke;cases e;omega
       have HXF:=CY (show DX (w.heap.size+2) aD nD cD aU nU cU k aT nT cT (aR ⟨q5,0,aS⟩) 31 c5 ta tn tc _ from⟨HX'.o.ls,HX'.o.ke.cut 31 AK,HX'.o.tk,HX'.o.nb⟩);go_wp2
       go_meet
       case rel=>exact⟨_,_,_,rfl,AK,HD'.o,HXF.o⟩
     case rest=>
      obtain⟨ak,nk,ck,rfl,hnk,hd,hx⟩:=hcut;have HD:=CY hd;have HX:=CY hx;have HBW:=CY (EN (w.heap.size+2) x n cap 20 _ HD.o.cb HD.o.ct AK AK);go_wp2_with fail;refine HBW.o.mono ?_;rintro e wb ⟨bo,rfl,hc,hw⟩;have HD':=CY (HD.o.cur hc hw);have HX':=CY (HX.o.wrG hw.wrG)
      go_upto_if 73 with fail
      try dsimp only[Act.put]
      go_cut [] from 11 (λww=>∃ kd,DR 28 TZ w x n cap S O #[aM aD nD cD,aM aU nU cU,aO aZ k,aM aT nT cT] #[aO aZ kd,aM ta tn tc,aO aZ nw,aO aZ nn] ww/\DX (w.heap.size+2) aD nD cD aU nU cU k aT nT cT ak nk ck ta tn tc ww)
      case first=>
       cases bo with
       |false=>
        go_wp2
        go_meet
        case rel=>exact⟨_,HD'.o,HX'.o⟩
       |true=>
        have HBW:=CY (Cl (w.heap.size+2) x n cap 2 _ HD'.o.cb HD'.o.ct AK AK);go_wp2_with fail;refine HBW.o.mono ?_;rintro e wq ⟨z,rfl,z0,z1,hc,hw⟩;have HDq:=CY (HD'.o.cur hc hw);have HXq:=CY (HX'.o.wrG hw.wrG);have o0:wq.cell? ⟨O,0,aS⟩=aR (aO aZ kd):=AA HDq.o.o _;have f0:=An _ _ 0 _ _ HDq.o.o;have HF:=CY (HDq.o.putO AJ ((Wr.refl _ _).setCell 0 (aO aZ (6*z))) (Ao _ _ _ _ _ _ HDq.o.o));have HXF:=CY (HXq.o.typ HDq.o.o AK AK AK ((Wr.refl _ _).setCell 0 (aO aZ (6*z))));go_wp2
        go_meet
        case rel=>exact⟨_,HF.o,HXF.o⟩
      case rest=>
       obtain⟨kd,hd,hx⟩:=hcut;have HD:=CY hd;have HX:=CY hx
       go_upto_region 17 with fail
       have HSO:=CY (show w.heap.size+1<S/\w.heap.size+1<O by omega);refine Ag AM ?_;refine Ej (λ_ _ _=>True) (frame:=(λ(a b c d e f g h i j k l m n o p q r s u v w x y z A B C D E F G H I J K L M N O P Q R S T U V W X Y Z a0 a1 a2 a3 a4 a5 a6 a7 a8 a9 b0 b1 b2 b3 b4 b5 b6 b7 b8 b9 c0 c1 c2 c3 c4 c5:aX)=>λ(t:Nat->aX)=>({ tmps:=List.toArray [a,b,c,t 4,d,e,f,g,h,i,j,k,l,m,n,o,p,q,r,s,u,v,w,x,y,z,A,B,C,D,E,F,G,H,I,J,K,L,M,N,O,P,Q,R,S,T,U,V,W,X,Y,Z,a0,a1,a2,a3,a4,a5,a6,a7,a8,a9,b0,b1,b2,b3,b4,b5,b6,b7,b8,b9,c0,c1,c2,c3,c4,c5,t 0,t 1,t 2],defers:=[] }:Act)) _ _ _ _ _ _ _ _ _ _ _ _ _ _ _ _ _ _ _ _ _ _ _ _ _ _ _ _ _ _ _ _ _ _ _ _ _ _ _ _ _ _ _ _ _ _ _ _ _ _ _ _ _ _ _ _ _ _ _ _ _ _ _ _ _ _ _ _ _ _ _ _ _ _ _ _ _)
        (Ext:=λL u w'=>ZR 28 TZ w S O #[aM aD nD cD,aM aU nU cU,aO aZ k,aM aT nT cT] #[aO aZ kd,aM ta tn tc,aO aZ nw,aO aZ nn] (L 3) (L 5) w'/\DX (w.heap.size+2) aD nD cD aU nU cU k aT nT cT ak nk ck ta tn tc w') (Good:=λi L w' v=>if i=0 then v=af #[aM aD nD cD,aM aU nU cU,aO aZ k,aM aT nT cT] else if i=1 then v=aM ak nk ck else if i=2 then v=af #[aO aZ kd,aM ta tn tc,aO aZ nw,aO aZ nn] else if i=3 then L 3=true else if i=4 then v=aM ak nk ck else if i=5 then L 5=true else True) ?hstab AM ?hop ?hdone _ _ ((λ(x0 x1 x2 x4:aX)=>λ(i:Nat)=>if i=0 then x0 else if i=1 then x1 else if i=2 then x2 else if i=4 then x4 else undef) _ _ _ _) _ AL ?ext ?start AL
       case start=>intro i hi h;exact absurd h Ef
       case ext=>exact⟨⟨HD.o.bel.trans ((Cf.drew).mono HD.o.bel.size),HD.o.s,HD.o.o,HD.o.r1,HD.o.r3⟩,HX.o.wrG (Eo.of_below (Cf.drew))⟩
       case hstab=>
        intro j L w9 w' i v hM hij hLi h;by_cases h3:j=3
        ·subst h3;simp at h |-;unfold CZ;split<;>simp[h]
        by_cases h5:j=5
        ·subst h5;simp at h |-;unfold CZ;split<;>simp[h]
        simp only[if_neg h3,if_neg h5] at h |-;exact h
       case hop=>
        intro i o L t w' ho hLi hx hdep K hK;have hi:i<6:=(AR.1 ho).1;obtain rfl|rfl|rfl|rfl|rfl|rfl:i=0\/i=1\/i=2\/i=3\/i=4\/i=5:=AJ
        all_goals(simp at ho;subst ho)
        all_goals try(have hK':=hK w' _ rfl (by simpa[CZ] using hx) trivial;simp[Region.binds] at hdep;rw[AP AN];go_simp;simpa[Ca,hdep] using hK';done)
        {clear hdep;have hK':=hK w' (af #[aM aD nD cD,aM aU nU cU,aO aZ k,aM aT nT cT]) AL (by simpa[CZ] using hx) trivial;rw[AP AN];refine Bp 26 (ah 6) rfl S rfl 26 _ (0,0) _ hx.1.s underlying26 rfl Tryz.sizeSt ?_;simpa[Ca,Act.put] using hK'};{clear hdep;have hK':=hK w' (af #[aO aZ kd,aM ta tn tc,aO aZ nw,aO aZ nn]) AL (by simpa[CZ] using hx) trivial;rw[AP AN];refine Bp 28 (ah 10) rfl O rfl 28 _ (0,0) _ hx.1.o underlying28 rfl Tryz.sizeOp ?_;simpa[Ca,Act.put] using hK'}
        ·have d0:t 0=af #[aM aD nD cD,aM aU nU cU,aO aZ k,aM aT nT cT]:=by simpa using(hdep ⟨0,ag⟩ AL rfl).2
         obtain⟨hz,hX⟩:=hx;rw[hLi] at hz;have hK':=hK (w'.setRow w.heap.size #[aM aD nD cD,aM aU nU cU,aO aZ k,aM aT nT cT]) undef (by simp[CZ]) (by
          simp only[CZ];simp;exact⟨hz.one HSO.o,hX.typ hz.r1 AK AK AK (Wr.setRow _ _ _)⟩) trivial
         rw[AP AN];refine Be 26 (ah 2) (ah 78) rfl w.heap.size #[aM aD nD cD,aM aU nU cU,aO aZ k,aM aT nT cT] rfl d0 26 _ hz.r1 Tryz.sizeSt rfl (by simp[Value.oneCell']) ?_;simpa[Ca,Act.put] using hK'
        ·have d2:t 2=af #[aO aZ kd,aM ta tn tc,aO aZ nw,aO aZ nn]:=by simpa using(hdep ⟨2,ag⟩ AL rfl).2
         obtain⟨hz,hX⟩:=hx;rw[hLi] at hz;have hK':=hK (w'.setRow (w.heap.size+1) #[aO aZ kd,aM ta tn tc,aO aZ nw,aO aZ nn]) undef (by simp[CZ]) (by
          simp only[CZ];simp;exact⟨hz.two HSO.o,hX.typ hz.r3 AK AK AK (Wr.setRow _ _ _)⟩) trivial
         rw[AP AN];refine Be 28 (ah 4) (ah 80) rfl (w.heap.size+1) #[aO aZ kd,aM ta tn tc,aO aZ nw,aO aZ nn] rfl d2 28 _ hz.r3 Tryz.sizeOp rfl (by simp[Value.oneCell']) ?_;simpa[Ca,Act.put] using hK'
       case hdone=>
        intro L t w' hx hg;have h3:L 3=true:=by simpa using hg 3 AK
        have h5:L 5=true:=by simpa using hg 5 AK
        have d4:t 4=aM ak nk ck:=by simpa using hg 4 AK
        rw[h3,h5] at hx;have HF:=CY hx;simp only[d4];go_wp2_with fail
        (try simp only[Exit.inBlock,Exit.then])
        exact AU (Od rfl _ _ w.heap.size (w.heap.size+1) _ _ _ _ _ _ _ _ rfl rfl HF.o.1.r1 HF.o.1.r3) rfl ⟨_,_,_,_,_,_,_,_,_,_,_,_,_,_,_,_,_,_,_,rfl,HF.o.2,hnk,HF.o.1.bel⟩
theorem WC.mono {lo lo':Nat} {w:aV} {v:aX} {r:WA} (h:WC lo w v r) (hl:lo'<=lo):WC lo' w v r:=by
 obtain⟨aD,nD,cD,aU,nU,cU,aT,nT,cT,e,h1,h2,h3,h4,h5,h6,l1,l2,l3,l4,l5⟩:=h;exact⟨aD,nD,cD,aU,nU,cU,aT,nT,cT,e,h1,h2,h3,h4,h5,h6,l1.mono hl Ch,l2.mono hl Ch,l3.mono hl Ch,l4,l5⟩
theorem Po {lo R:Nat} {k c:Int} {D U T:List Int} {nT:Nat} {w w':aV} {aD aU aT:Option Addr} {nD cD nU cU cT:Nat} (h:Hd lo k D U T nT w #[aM aD nD cD,aM aU nU cU,aO aZ k,aM aT nT cT]) (hR:R<lo) (hw:Wr R w w') :
  WC lo w' (af #[aO aZ c,aM aD nD cD,aM aU nU cU,aO aZ k,aM aT nT cT]) ⟨c,D,U,k,T,nT⟩:=by
 obtain⟨bD,mD,dD,bU,mU,dU,bT,dT,e,h1,h2,h3⟩:=h;simp at e;obtain⟨⟨rfl,rfl,rfl⟩,⟨rfl,rfl,rfl⟩,rfl,rfl⟩:=e;obtain⟨-,q1,-⟩:=h1.sat;obtain⟨-,q2,-⟩:=h2.sat;obtain⟨-,q3,-⟩:=h3.tapV.sat;have y1:=(h1.lk (lo:=lo) (O:=R) Ch (.inl hR)).wr hw;have y2:=(h2.lk (lo:=lo) (O:=R) Ch (.inl hR)).wr hw;have y3:=(h3.lk (lo:=lo) (O:=R) Ch (.inl hR)).wr hw;have hc:=h3.cap;exact⟨_,_,_,_,_,_,_,_,_,rfl,y1.1,y2.1,y3.1,q1,q2,q3,λad e=>⟨(y1.2 ad e).1,(y1.2 ad e).2.2⟩,λad e=>⟨(y2.2 ad e).1,(y2.2 ad e).2.2⟩,λad e=>⟨(y3.2 ad e).1,(y3.2 ad e).2.2⟩,hc.1,hc.2⟩
theorem XS (w:aV) (o:Bool) (aD aU aT:Option Addr) (nD cD nU cU nT cT:Nat) (k:Int):(Instr.field 42 (af #[ae o,aM aD nD cD,aM aU nU cU,aO aZ k,aM aT nT cT]) 1).run tP w=.ok (af #[aM aD nD cD,aM aU nU cU,aO aZ k,aM aT nT cT]) w:=AM
structure Oh (w:aV) (sc oc:Array aX) (wr:aV):Prop where
 below:Below w.heap.size w wr
 sb:wr.heap[w.heap.size]?=aR (aa sc 26 (0,0))
 ob:wr.heap[w.heap.size+1]?=aR (aa oc 28 (0,0))
 rb:wr.heap[w.heap.size+2]?=aR (aa CT 32 (0,0))
theorem Oh.lt {w wr:aV} {sc oc:Array aX} (h:Oh w sc oc wr):w.heap.size+2<wr.heap.size:=(AR.1 h.rb).1
theorem Oh.keep {w wr w':aV} {sc oc:Array aX} {B:Nat} (h:Oh w sc oc wr) (b:Below B wr w') (hB:w.heap.size+3<=B):Oh w sc oc w':=
 ⟨h.below.trans (b.mono AJ),by rw[b.block _ AJ];exact h.sb,by rw[b.block _ AJ];exact h.ob,by rw[b.block _ AJ];exact h.rb⟩
theorem Oh.call {w wr w':aV} {sc oc:Array aX} (h:Oh w sc oc wr) (b:Below wr.heap.size wr w'):Oh w sc oc w':=h.keep b h.lt
theorem Oh.start (w:aV) (sc oc:Array aX):Oh w sc oc (((w.alloc (aa sc 26)).alloc (aa oc 28)).alloc (aa CT 32)):=by
 have h:=Q8.start w 26 28 sc oc;have b:Below ((w.alloc (aa sc 26)).alloc (aa oc 28)).heap.size ((w.alloc (aa sc 26)).alloc (aa oc 28)) _:=Cf.alloc Ch (aa CT 32);have h2:=h.call b;refine⟨h2.below,h2.b0,h2.b1,?_⟩;have:=AS ((w.alloc (aa sc 26)).alloc (aa oc 28)) (aa CT 32)
 rwa [show((w.alloc (aa sc 26)).alloc (aa oc 28)).heap.size=w.heap.size+2 by simp] at this
theorem VX (aD aU aT:Option Addr) (nD cD nU cU nT cT:Nat) (D U:List Int) (k:Int) (T:List Int) (ka:Option Addr) (nk ck:Nat) (ks:List Int) (ta:Option Addr) (tn tc:Nat) (tk:List Int) (kind now N:Int) (w:aV) (hD:D.length=nD) (hU:U.length=nU) (hT:T.length=nT*2) (mD:nD<=1048576) (mU:nU<=1048576) (mT:nT<=1048576)
  (haD:At aZ w aD D) (haU:At aZ w aU U) (haT:At aZ w aT T) (hcT:nT<=cT) (hcm:cT<=9223372036854775807) (hk0:-9223372036854775808<=k) (hk1:k<9223372036854775808) (hk:ks.length=nk) (mk:nk<=1048576) (hp:At aP w ka ks) (zk:Cb ks) (ht:tk.length=tn) (mt:tn<=1048576) (hct:tn<=tc) (hat:At aP w ta tk) (zt:Cb tk) :
  Calls tP 5 #[af #[aM aD nD cD,aM aU nU cU,aO aZ k,aM aT nT cT],aM ka nk ck,af #[aO aZ kind,aM ta tn tc,aO aZ now,aO aZ N]] w λe w'=>∃ v,e=.returned v/\WC w.heap.size w' v (IA D U k T nT ks kind tk now N)/\Below w.heap.size w w':=by
 have HX0:AO (Oh w #[aM aD nD cD,aM aU nU cU,aO aZ k,aM aT nT cT] #[aO aZ kind,aM ta tn tc,aO aZ now,aO aZ N] (((w.alloc (aa #[aM aD nD cD,aM aU nU cU,aO aZ k,aM aT nT cT] 26)).alloc (aa #[aO aZ kind,aM ta tn tc,aO aZ now,aO aZ N] 28)).alloc (aa CT 32))):=Oh.start _ _ _;have HLN:AO (D.length=nD/\U.length=nU/\T.length=nT*2):=⟨hD,hU,hT⟩
 have HA:AO (∀ wz,Below w.heap.size w wz->At aZ wz aD D/\At aZ wz aU U/\At aZ wz aT T/\At aP wz ka ks/\At aP wz ta tk):=λwz h=>⟨haD.below h,haU.below h,haT.below h,hp.below h,hat.below h⟩
 have HKL:AO (ks.length=nk/\Cb ks/\tk.length=tn/\Cb tk):=⟨hk,zk,ht,zt⟩
 have HC:=Hs aD aU aT nD cD nU cU nT cT D U k T _ hD hU hT mD mU mT (haD.below HX0.o.below) (haU.below HX0.o.below) (haT.below HX0.o.below) hk0 hk1;have HRZ:AO ((tP.info? 32).map (·.size)=aR 5):=by show _=_;kernel_rfl
 have HSZ:AO ((tP.info? 26).map (·.size)=aR 4):=by show _=_;kernel_rfl
 have HOZ:AO ((tP.info? 28).map (·.size)=aR 4):=by show _=_;kernel_rfl
 have HFZ:AO ((tP.info? 38).map (·.size)=aR 4):=by show _=_;kernel_rfl
 have HST:AO (Ep D U k T nT=true->Tt D U k T nT):=GD;have HSR:AO (IA D U k T nT ks kind tk now N=IA D U k T nT ks kind tk now N):=rfl;clear haD haU haT hD hU hT hk hp zk ht hat zt;go_enter func5,ntmps5
 go_upto_region 1 with fail
 generalize (((w.alloc (aa #[aM aD nD cD,aM aU nU cU,aO aZ k,aM aT nT cT] 26)).alloc (aa #[aO aZ kind,aM ta tn tc,aO aZ now,aO aZ N] 28)).alloc (aa CT 32))=w0 at *;have o0:w0.cell? ⟨w.heap.size+1,0,aS⟩=aR (aO aZ kind):=by rw[AA HX0.o.ob 0];rfl
 go_wp2_with (first
  |(refine AZ rfl 26 (ah 3) rfl w.heap.size rfl 26 _ (0,0) _ HX0.o.sb underlying26 rfl HSZ.o ?_)
  |fail)
 refine HC.mono ?_;rintro e w1 ⟨rfl,hb1⟩;have HX1:=CY <| HX0.o.call hb1
 have o1:w1.cell? ⟨w.heap.size+1,0,aS⟩=aR (aO aZ kind):=by rw[AA HX1.o.ob 0];rfl
 clear HC HX0 hb1 o0;by_cases hbad:¬ (Ep D U k T nT=true/\nk=32/\1<=kind/\kind<=5)
 ·have HR:AO (IA D U k T nT ks kind tk now N=⟨10,D,U,k,T,nT⟩):=by
   show _=_
   unfold IA;by_cases h:Ep D U k T nT=true/\ks.length=32
   ·rw[AP h];unfold FB;have h2:¬ (1<=kind/\kind<=5):=λh3=>hbad ⟨h.1,HKL.o.1.symm.trans h.2,h3⟩
    rw[AQ AJ,AQ AJ,AQ AJ,AQ AJ,AQ AJ]
   ·rw[AQ h]
  have hcs:Ep D U k T nT=false\/(Ep D U k T nT=true/\((nk:Int) != 32)=true)\/(Ep D U k T nT=true/\nk=32/\kind<1)\/(Ep D U k T nT=true/\nk=32/\¬ kind<1/\5<kind):=by
   cases hq:Ep D U k T nT with
   |false=>exact .inl rfl
   |true=>
    by_cases h32:nk=32
    ·by_cases h1:kind<1
     ·exact .inr (.inr (.inl ⟨rfl,h32,h1⟩))
     ·have h3:¬ (1<=kind/\kind<=5):=λh=>hbad ⟨hq,h32,h⟩
      exact .inr (.inr (.inr ⟨rfl,h32,h1,AJ⟩))
    ·exact .inr (.inl ⟨rfl,by simp;omega⟩)
  clear hbad HST HSR;generalize hq:Ep D U k T nT=q at *;clear hq;rcases hcs with rfl|⟨rfl,h32⟩|⟨rfl,rfl,h1⟩|⟨rfl,rfl,h1,h5⟩
  all_goals
   go_upto_region 2 with fail
   go_wp2_with (first
    |(refine AZ rfl 26 (ah 3) rfl w.heap.size rfl 26 _ (0,0) _ HX1.o.sb underlying26 rfl HSZ.o ?_)
    |fail)
   refine(L4 aD aU aT nD cD nU cU nT cT D U k T w1 HLN.o.1 HLN.o.2.1 HLN.o.2.2 mD mU mT (HA.o w1 HX1.o.below).1 (HA.o w1 HX1.o.below).2.1 (HA.o w1 HX1.o.below).2.2.1).mono ?_;rintro e w9 ⟨cs,rfl,hcp,hb9⟩;have HX9:=CY <| HX1.o.call hb9
   have HL9:=CY <| HX1.o.lt
   have HCP:=CY <| hcp
   obtain⟨bD,mD',dD,bU,mU',dU,bT,dT,rfl,-⟩:=hcp;have HRB:=CY <| HX9.o.rb
   have HF:AO (WC w.heap.size (w9.setRow (w.heap.size+2) #[aO aZ 10,aM bD mD' dD,aM bU mU' dU,aO aZ k,aM bT nT dT]) (af #[aO aZ 10,aM bD mD' dD,aM bU mU' dU,aO aZ k,aM bT nT dT]) (IA D U k T nT ks kind tk now N)/\Below w.heap.size w (w9.setRow (w.heap.size+2) #[aO aZ 10,aM bD mD' dD,aM bU mU' dU,aO aZ k,aM bT nT dT])):=⟨by rw[HR.o];exact(Po HCP.o HL9.o (Wr.setRow _ _ _)).mono (AH HX9.o.below.size HL9.o),HX9.o.below.trans ((Wr.setRow _ _ _).below AJ)⟩
   clear hb9 HCP HL9 HX1;go_wp2_with (first
    |(refine AE 32 (ah 6) (ah 29) (w.heap.size+2) #[aO aZ 10,aM bD mD' dD,aM bU mU' dU,aO aZ k,aM bT nT dT] 32 HRB.o HRZ.o rfl (by simp[Value.oneCell']) ?_)
    |fail)
   exact AU (v:=af #[aO aZ 10,aM bD mD' dD,aM bU mU' dU,aO aZ k,aM bT nT dT]) (AY rfl _ _ (w.heap.size+2) 32 _ (0,0) _ rfl (AB HRB.o) underlying32 rfl HRZ.o) rfl ⟨_,rfl,HF.o.1,HF.o.2⟩
 have hgood:=Decidable.not_not.1 hbad;obtain⟨hq,h32,hki,hk5⟩:=hgood;have hst:=HST.o hq;have hkn:k+nT=(nU:Int):=by have:=hst.2.2.2.2.1;rw[HLN.o.2.1] at this;exact this
 have hkk:=hst.2.2.2.1;have hd16:=hst.2.1;have HSO:AO (IA D U k T nT ks kind tk now N=FB D U k T nT ks kind tk now N):=by show _=_;unfold IA;rw[AP ⟨hq,HKL.o.1.trans h32⟩]
 have HDO:=CX (WB (ks:=ks) (kind:=kind) (tk:=tk) (now:=now) (N:=N) hq HKL.o.2.2.2 hkk AJ mT hd16 hki hk5);have hkb:k<=1048576:=AJ
 have h1:¬ kind<1:=AJ
 have h5:¬ 5<kind:=AJ
 have HQ:=CY <| hq
 rw[hq];clear hst hbad HST hkn hd16 hq hki hk5 HSR;subst h32;obtain⟨bp,op,rfl,-,-⟩:=(HA.o w1 HX1.o.below).2.2.2.1.get (by rw[HKL.o.1];decide);have HPT:AO (∀ wz,Below w.heap.size w wz->FK wz bp op ks):=λwz h=>by
  obtain⟨b',o',e',hl',hc'⟩:=(HA.o wz h).2.2.2.1.get (by rw[HKL.o.1];decide);cases e';exact⟨hl',hc'⟩
 go_upto_region 3 with fail
 clear h1 h5 o1;go_wp2_with (first
  |(refine AZ rfl 26 (ah 3) rfl w.heap.size rfl 26 _ (0,0) _ HX1.o.sb underlying26 rfl HSZ.o ?_)
  |(refine AZ rfl 28 (ah 5) rfl (w.heap.size+1) rfl 28 _ (0,0) _ HX1.o.ob underlying28 rfl HOZ.o ?_)
  |fail)
 refine(VN aD aU aT nD cD nU cU nT cT D U k bp op ck ks ta tn tc tk kind now N w1 HLN.o.1 HLN.o.2.1 mD mU mT (HA.o w1 HX1.o.below).1 (HA.o w1 HX1.o.below).2.1 hkk hkb HKL.o.1 (HPT.o w1 HX1.o.below) HKL.o.2.1 HKL.o.2.2.1 mt hct (HA.o w1 HX1.o.below).2.2.2.2 HKL.o.2.2.2).mono ?_;rintro e w4 ⟨rfl,hb4⟩;have HX4:=CY <| HX1.o.call hb4
 clear hb4 HX1 HPT;generalize FL D U k nT ks kind tk now N=r at *;obtain⟨c,fk,a,b⟩:=r;unfold IU;dsimp only at HDO |-;have HN:AO ((w4.alloc (aa CI 38)).heap[w4.heap.size]?=aR (aa CI 38 (0,0))):=AS w4 _;have HB5:AO (Below w4.heap.size w4 ((w4.alloc (aa CI 38)).setRow w4.heap.size #[aO ai 0,aO aZ fk,aO ai (a:Int),aO ai (b:Int)])):=(Cf.alloc Ch _).trans ((Wr.setRow _ _ _).below Ch);have HR5:AO (((w4.alloc (aa CI 38)).setRow w4.heap.size #[aO ai 0,aO aZ fk,aO ai (a:Int),aO ai (b:Int)]).heap[w4.heap.size]?=aR (aa #[aO ai 0,aO aZ fk,aO ai (a:Int),aO ai (b:Int)] 38 (0,0))):=AB HN.o;have HX5:=CY <| HX4.o.call HB5.o
 go_upto_region 4 with (first
  |(refine AE 38 (ah 8) (ah 36) w4.heap.size #[aO ai 0,aO aZ fk,aO ai (a:Int),aO ai (b:Int)] 38 HN.o HFZ.o rfl (by simp[Value.oneCell']) ?_)
  |fail)
 clear HN HB5 HX4;generalize ((w4.alloc (aa CI 38)).setRow w4.heap.size #[aO ai 0,aO aZ fk,aO ai (a:Int),aO ai (b:Int)])=w5 at *;have f1:w5.cell? ⟨w4.heap.size,1,aS⟩=aR (aO aZ fk):=by rw[AA HR5.o 1];rfl
 by_cases hfk:fk=0
 ·have HR:AO (IA D U k T nT ks kind tk now N=⟨c,D,U,k,T,nT⟩):=by show _=_;rw[HSO.o];exact HDO.o.1 hfk
  subst hfk;clear HDO HSO HR5
  go_upto_region 5 with fail
  go_wp2_with (first
   |(refine AZ rfl 26 (ah 3) rfl w.heap.size rfl 26 _ (0,0) _ HX5.o.sb underlying26 rfl HSZ.o ?_)
   |fail)
  refine(L4 aD aU aT nD cD nU cU nT cT D U k T w5 HLN.o.1 HLN.o.2.1 HLN.o.2.2 mD mU mT (HA.o w5 HX5.o.below).1 (HA.o w5 HX5.o.below).2.1 (HA.o w5 HX5.o.below).2.2.1).mono ?_;rintro e w9 ⟨cs,rfl,hcp,hb9⟩;have HX9:=CY <| HX5.o.call hb9
  have HL9:=CY <| HX5.o.lt
  have HCP:=CY <| hcp
  obtain⟨bD,mD',dD,bU,mU',dU,bT,dT,rfl,-⟩:=hcp;have HRB:=CY <| HX9.o.rb
  have HF:AO (WC w.heap.size (w9.setRow (w.heap.size+2) #[aO aZ c,aM bD mD' dD,aM bU mU' dU,aO aZ k,aM bT nT dT]) (af #[aO aZ c,aM bD mD' dD,aM bU mU' dU,aO aZ k,aM bT nT dT]) (IA D U k T nT ks kind tk now N)/\Below w.heap.size w (w9.setRow (w.heap.size+2) #[aO aZ c,aM bD mD' dD,aM bU mU' dU,aO aZ k,aM bT nT dT])):=⟨by rw[HR.o];exact(Po HCP.o HL9.o (Wr.setRow _ _ _)).mono (AH HX9.o.below.size HL9.o),HX9.o.below.trans ((Wr.setRow _ _ _).below AJ)⟩
  clear hb9 HCP HL9 HX5;go_wp2_with (first
   |(refine AE 32 (ah 6) (ah 43) (w.heap.size+2) #[aO aZ c,aM bD mD' dD,aM bU mU' dU,aO aZ k,aM bT nT dT] 32 HRB.o HRZ.o rfl (by simp[Value.oneCell']) ?_)
   |fail)
  exact AU (v:=af #[aO aZ c,aM bD mD' dD,aM bU mU' dU,aO aZ k,aM bT nT dT]) (AY rfl _ _ (w.heap.size+2) 32 _ (0,0) _ rfl (AB HRB.o) underlying32 rfl HRZ.o) rfl ⟨_,rfl,HF.o.1,HF.o.2⟩
 obtain⟨o,ho,hoc,hap,ha,hb⟩:=HDO.o.2 hfk;have HSO2:AO (IA D U k T nT ks kind tk now N=o):=by show _=_;rw[HSO.o];exact ho
 have HOC:=CY <| hoc
 have HAP:=CY <| hap
 clear HDO HSO ho hoc hap HQ
 go_upto_region 6 with fail
 clear f1 hfk;go_wp2_with (first
  |(refine AZ rfl 26 (ah 3) rfl w.heap.size rfl 26 _ (0,0) _ HX5.o.sb underlying26 rfl HSZ.o ?_)
  |(refine AZ rfl 38 (ah 8) rfl w4.heap.size rfl 38 _ (0,0) _ HR5.o underlying38 rfl HFZ.o ?_)
  |fail)
 have HAP2:=HAP;refine(Pf aD aU aT nD cD nU cU nT cT D U k T 0 fk a b w5 HLN.o.1 HLN.o.2.1 HLN.o.2.2 mD mU mT (HA.o w5 HX5.o.below).1 (HA.o w5 HX5.o.below).2.1 (HA.o w5 HX5.o.below).2.2.1 hcT hcm hk0 hk1 ha hb).mono ?_;rintro e w9 ⟨v,rfl,hv,hb9⟩;have HX9:AO (Oh w #[aM aD nD cD,aM aU nU cU,aO aZ k,aM aT nT cT] #[aO aZ kind,aM ta tn tc,aO aZ now,aO aZ N] w9):=HX5.o.call hb9;have HL9:AO (w.heap.size+2<w5.heap.size):=HX5.o.lt;rw[HAP.o] at hv;obtain⟨bD,mD',dD,bU,mU',dU,bT,mT',dT,rfl,hv⟩:=hv;have HV:AO (At aZ w9 bD o.D/\At aZ w9 bU o.U/\At aZ w9 bT o.T/\o.D.length=mD'/\o.U.length=mU'/\o.T.length=mT'*2/\GC w5.heap.size w9 bD/\GC w5.heap.size w9 bU/\GC w5.heap.size w9 bT/\mT'<=dT/\dT<=9223372036854775807):=hv;have HRB:AO (w9.heap[w.heap.size+2]?=aR (aa CT 32 (0,0))):=HX9.o.rb;have HF:AO (WC w.heap.size (w9.setRow (w.heap.size+2) #[aO aZ c,aM bD mD' dD,aM bU mU' dU,aO aZ o.k,aM bT mT' dT]) (af #[aO aZ c,aM bD mD' dD,aM bU mU' dU,aO aZ o.k,aM bT mT' dT]) (IA D U k T nT ks kind tk now N)/\Below w.heap.size w (w9.setRow (w.heap.size+2) #[aO aZ c,aM bD mD' dD,aM bU mU' dU,aO aZ o.k,aM bT mT' dT])):=by
  refine⟨?_,HX9.o.below.trans ((Wr.setRow _ _ _).below AJ)⟩;rw[HSO2.o];obtain⟨v1,v2,v3,v4,v5,v6,l1,l2,l3,v7,v8⟩:=HV.o;have hl:=HL9.o;have hw:Wr (w.heap.size+2) w9 (w9.setRow (w.heap.size+2) #[aO aZ c,aM bD mD' dD,aM bU mU' dU,aO aZ o.k,aM bT mT' dT]):=Wr.setRow _ _ _;have K:∀ {x:Option Addr} {xs:List Int},At aZ w9 x xs->GC w5.heap.size w9 x->At aZ (w9.setRow (w.heap.size+2) #[aO aZ c,aM bD mD' dD,aM bU mU' dU,aO aZ o.k,aM bT mT' dT]) x xs/\GC w.heap.size (w9.setRow (w.heap.size+2) #[aO aZ c,aM bD mD' dD,aM bU mU' dU,aO aZ o.k,aM bT mT' dT]) x:=λh l=>by
   refine⟨h.keepT (by rw[hw.size];exact Aa _) (λad e _=>hw.block _ (AG (l ad e).1)),λad e=>?_⟩;have:=l ad e;rw[hw.size];omega
  exact⟨_,_,_,_,_,_,_,_,_,by rw[HOC.o],(K v1 l1).1,(K v2 l2).1,(K v3 l3).1,v4,v5,v6,(K v1 l1).2,(K v2 l2).2,(K v3 l3).2,v7,v8⟩
 have hfd:=XS w9 true bD bU bT mD' dD mU' dU mT' dT o.k;clear hb9 HV HL9 HX5 hv;go_wp2_with (first
  |(refine AE 32 (ah 6) (ah 49) (w.heap.size+2) #[aO aZ c,aM bD mD' dD,aM bU mU' dU,aO aZ o.k,aM bT mT' dT] 32 HRB.o HRZ.o rfl (by simp[Value.oneCell']) ?_)
  |fail)
 exact AU (v:=af #[aO aZ c,aM bD mD' dD,aM bU mU' dU,aO aZ o.k,aM bT mT' dT]) (AY rfl _ _ (w.heap.size+2) 32 _ (0,0) _ rfl (AB HRB.o) underlying32 rfl HRZ.o) rfl ⟨_,rfl,HF.o.1,HF.o.2⟩
open Go.Extern.Stop Go.Stop Go.Extern
theorem Th (t:Addr) (w:aV):(ReflectliteValue.unpack (.iface 130 (aY (aR t)))).run tP w
  =.ok (af #[aY (aR ⟨2,130,aS⟩),aY (aR ⟨w.heap.size,0,aS⟩),aO .u64 150]) (w.alloc (aa #[aY (aR t)] 130)):=AM
theorem Yk (a : Addr) (w : aV) : (ReflectliteValue.methodAny (ReflectliteValue.valueError "reflectlite.Value.Type" 0) (fun t _ _ _ => ReflectliteType.toType t) #[af #[aY (aR ⟨2, 130, aS⟩), aY (aR a), aO .u64 150]]).run tP w
  =.ok (.iface 185 (af #[aY (aR ⟨2,130,aS⟩)])) w:=AM
theorem NK (h : aX) (w : aV) : (Go.method 349 185 (af #[h]) "Kind").run tP w = .ok (188, h) w := by kernel_rfl
theorem Yl (w:aV):((ReflectliteType.abiMethod λt=>(λa:Nat=>aO aP (a:Int)) <$> Rtype.kind t) #[aY (aR ⟨2,130,aS⟩)]).run tP w=.ok (aO aP 22) w:=AM
theorem Ym (w:aV):((ReflectliteType.abiMethod λt=>(λa:Nat=>aO aP (a:Int)) <$> Rtype.kind t) #[aY (aR ⟨2,128,aS⟩)]).run tP w=.ok (aO aP 6) w:=AM
def Yn (z:Sem aX) (f:TypeId->Addr->Nat->Nat->Sem aX) (v:aX):{k//ReflectliteValue.method z f #[v]=ReflectliteValue.parts v>>=k}:=⟨_,rfl⟩
theorem Ti (a:Addr) (w:aV):(ReflectliteValue.parts (af #[aY (aR ⟨2,130,aS⟩),aY (aR a),aO .u64 150])).run tP w=.ok (aR (130,a,150)) w:=AM
theorem XT (a p:Addr) (W:aV) (ha:W.cell? a=aR (aY (aR p))) :
  (ReflectliteValue.method (ReflectliteValue.valueError "reflectlite.Value.IsNil" 0) ReflectliteValue.isNil #[af #[aY (aR ⟨2, 130, aS⟩), aY (aR a), aO .u64 150]]).run tP W = .ok (ae false) W := by
 rw[(Yn _ _ _).2];dsimp only[Yn];simp only[Sem.run_bind,Ti,Result.andThen];simp[ReflectliteValue.isNil,loadVar,isAgg,underlying,underlying130,ha,Result.andThen]
theorem NL (h : aX) (w : aV) : (Go.method 349 185 (af #[h]) "Elem").run tP w = .ok (198, af #[h]) w := by kernel_rfl
theorem NM (h : aX) (w : aV) : (Go.method 349 185 (af #[h]) "Implements").run tP w = .ok (199, af #[h]) w := by kernel_rfl
theorem Oi (h : aX) (w : aV) : (Go.method 349 185 (af #[h]) "AssignableTo").run tP w = .ok (196, af #[h]) w := by kernel_rfl
theorem Yo (w:aV):(ReflectliteType.method ReflectliteType.elem #[af #[aY (aR ⟨2,130,aS⟩)]]).run tP w=.ok (.iface 185 (af #[aY (aR ⟨2,128,aS⟩)])) w:=AM
theorem Yp (w : aV) : (ReflectliteType.relation "Implements" ReflectliteType.implements_ #[af #[aY (aR ⟨2, 128, aS⟩)], .iface 185 (af #[aY (aR ⟨2, 113, aS⟩)])]).run tP w = .ok (ae true) w := by kernel_rfl
theorem VY (v:aX) (w:aV):(ReflectliteType.typeOf #[.iface 128 v]).run tP w=.ok (.iface 185 (af #[aY (aR ⟨2,128,aS⟩)])) w:=AM
theorem Zm (w : aV) : (ReflectliteType.relation "AssignableTo" ReflectliteType.assignableTo #[af #[aY (aR ⟨2, 128, aS⟩)], .iface 185 (af #[aY (aR ⟨2, 128, aS⟩)])]).run tP w = .ok (ae true) w := by kernel_rfl
theorem Tj (c:Int) (w:aV):(ReflectliteValue.unpack (.iface 128 (aO aZ c))).run tP w
  =.ok (af #[aY (aR ⟨2,128,aS⟩),aY (aR ⟨w.heap.size,0,aS⟩),aO .u64 134]) (w.alloc (aa #[aO aZ c] 128)):=AM
theorem VZ (w:aV):(Rtype.elem? 130).run tP w=.ok (aR 128) w:=AM
theorem aL (p:Addr) (w:aV):(ReflectliteValue.mk 128 p ReflectliteValue.flagAddr).run tP w=.ok (af #[aY (aR ⟨2,128,aS⟩),aY (aR p),aO .u64 390]) w:=AM
theorem XU (a p:Addr) (W:aV) (ha:W.cell? a=aR (aY (aR p))) :
  (ReflectliteValue.method (ReflectliteValue.valueError "reflectlite.Value.Elem" 0) ReflectliteValue.elem #[af #[aY (aR ⟨2, 130, aS⟩), aY (aR a), aO .u64 150]]).run tP W
   =.ok (af #[aY (aR ⟨2,128,aS⟩),aY (aR p),aO .u64 390]) W:=by
 rw[(Yn _ _ _).2];dsimp only[Yn];simp only[Sem.run_bind,Ti,Result.andThen];simp[ReflectliteValue.elem,loadVar,isAgg,underlying,underlying130,ha,Result.andThen,VZ,aL]
def Zn (v x:aX):{k:_->_->Sem aX//ReflectliteValue.set #[v,x]=ReflectliteValue.parts v>>=λp=>ReflectliteValue.parts x>>=k p}:=⟨_,rfl⟩
theorem Va (a:Addr) (w:aV):(ReflectliteValue.parts (af #[aY (aR ⟨2,128,aS⟩),aY (aR a),aO .u64 390])).run tP w=.ok (aR (128,a,390)) w:=AM
theorem XV (a:Addr) (w:aV):(ReflectliteValue.parts (af #[aY (aR ⟨2,128,aS⟩),aY (aR a),aO .u64 134])).run tP w=.ok (aR (128,a,134)) w:=AM
theorem Vb (w:aV):(Rtype.directlyAssignable 128 128).run tP w=.ok true w:=AM
theorem Zo (ta b:Addr) (c:Int) (old:aX) (W:aV) (hb:W.cell? b=aR (aO aZ c)) (ht:W.cell? ta=aR old) (hf:W.frozen? ta=false) :
  (ReflectliteValue.set #[af #[aY (aR ⟨2,128,aS⟩),aY (aR ta),aO .u64 390],af #[aY (aR ⟨2,128,aS⟩),aY (aR b),aO .u64 134]]).run tP W
   =.ok (.tuple #[]) (W.setCell ta (aO aZ c)):=by
 rw[(Zn _ _).2];dsimp only[Zn];simp only[Sem.run_bind,Va,XV,Result.andThen];simp[ReflectliteValue.flagAddr,loadVar,isAgg,underlying,underlying128,hb,Result.andThen,Vb,storeVar,Value.cells,storeCells,Addr.add];rw[run_store tP W ta _ _ AN];simp[ht,hf]
def FM (w:aV):Prop:=w.cell? ⟨0,0,aS⟩=aR (.iface 185 (af #[aY (aR ⟨2,113,aS⟩)]))
theorem XW (c:Int) (t:Addr) (old:aX) (w:aV) (hg:FM w) (ht0:w.cell? t=aR old) (hf0:w.frozen? t=false) :
  Calls tP 93 #[.iface 128 (aO aZ c),.iface 130 (aY (aR t))] w λev w'=>ev=.returned (ae true)/\w'=((((w.alloc (aa #[aY (aR t)] 130)).alloc (aa #[aY (aR ⟨2,130,aS⟩),aY (aR ⟨w.heap.size,0,aS⟩),aO .u64 150] 155)).alloc (aa #[aY (aR ⟨2,130,aS⟩),aY (aR ⟨w.heap.size,0,aS⟩),aO .u64 150] 155)).alloc (aa #[aO aZ c] 128)).setCell t (aO aZ c):=by
 unfold FM at hg;have h6:=@run_callFunc_extern tP 112 _ (λargs=>ReflectliteValue.unpack (args.getD 0 (.tuple #[]))) func112 AM AM AM AM
 have h7 := @run_callFunc_extern tP 113 _ (ReflectliteValue.methodAny (ReflectliteValue.valueError "reflectlite.Value.Type" 0) (fun t _ _ _ => ReflectliteType.toType t)) func113 AM AM AM AM
 have h8 := @run_callFunc_extern tP 114 _ (ReflectliteValue.method (ReflectliteValue.valueError "reflectlite.Value.IsNil" 0) ReflectliteValue.isNil) func114 AM AM AM AM
 have h27:=@run_callFunc_extern tP 188 _ (ReflectliteType.abiMethod λt=>do pure (aO aP (<-Rtype.kind t))) func188 AM AM AM AM;have h37:=@run_callFunc_extern tP 198 _ (ReflectliteType.method ReflectliteType.elem) func198 AM AM AM AM
 have h38 := @run_callFunc_extern tP 199 _ (ReflectliteType.relation "Implements" ReflectliteType.implements_) func199 AM AM AM AM
 have h10:=@run_callFunc_extern tP 142 _ ReflectliteType.typeOf func142 AM AM AM AM
 have h35 := @run_callFunc_extern tP 196 _ (ReflectliteType.relation "AssignableTo" ReflectliteType.assignableTo) func196 AM AM AM AM
 have h11 := @run_callFunc_extern tP 143 _ (ReflectliteValue.method (ReflectliteValue.valueError "reflectlite.Value.Elem" 0) ReflectliteValue.elem) func143 AM AM AM AM
 have h12:=@run_callFunc_extern tP 144 _ ReflectliteValue.set func144 AM AM AM AM;have tO:=VY;have mA:=Oi;have a25:=Zm;have v25:=Tj;have f6:=Th;have f7:=Yk;have mK:=NK;have mE:=NL;have mI:=NM;have k27:=Yl;have k25:=Ym;have e27:=Yo;have i25:=Yp;have n8:=XT ⟨w.heap.size,0,aS⟩ t ((w.alloc (aa #[aY (aR t)] 130)).alloc (aa #[aY (aR ⟨2,130,aS⟩),aY (aR ⟨w.heap.size,0,aS⟩),aO .u64 150] 155)) AL;have hlt:=block_lt_of_cell (a:=⟨0,0,aS⟩) hg;have hg2:((w.alloc (aa #[aY (aR t)] 130)).alloc (aa #[aY (aR ⟨2,130,aS⟩),aY (aR ⟨w.heap.size,0,aS⟩),aO .u64 150] 155)).cell? ⟨0,0,aS⟩=aR (.iface 185 (af #[aY (aR ⟨2,113,aS⟩)])):=by
  rw[World.cell?_alloc_lt _ _ ⟨0,0,aS⟩ AL,World.cell?_alloc_lt _ _ ⟨0,0,aS⟩ hlt];exact hg
 have htl:=block_lt_of_cell ht0;have el:=XU ⟨w.heap.size,0,aS⟩ t (((w.alloc (aa #[aY (aR t)] 130)).alloc (aa #[aY (aR ⟨2,130,aS⟩),aY (aR ⟨w.heap.size,0,aS⟩),aO .u64 150] 155)).alloc (aa #[aY (aR ⟨2,130,aS⟩),aY (aR ⟨w.heap.size,0,aS⟩),aO .u64 150] 155)) (by rw[World.cell?_alloc_lt _ _ ⟨w.heap.size,0,aS⟩ (by simp;omega),World.cell?_alloc_lt _ _ ⟨w.heap.size,0,aS⟩ AL];simp);have st:=Zo t ⟨w.heap.size+1+1+1,0,aS⟩ c old ((((w.alloc (aa #[aY (aR t)] 130)).alloc (aa #[aY (aR ⟨2,130,aS⟩),aY (aR ⟨w.heap.size,0,aS⟩),aO .u64 150] 155)).alloc (aa #[aY (aR ⟨2,130,aS⟩),aY (aR ⟨w.heap.size,0,aS⟩),aO .u64 150] 155)).alloc (aa #[aO aZ c] 128))
  (by rw[World.cell?_alloc_at _ _ _ _ AL];rfl)
  (by rw[World.cell?_alloc_lt _ _ t (by simp;omega),World.cell?_alloc_lt _ _ t (by simp;omega),World.cell?_alloc_lt _ _ t (by simp;omega),World.cell?_alloc_lt _ _ t htl];exact ht0)
  (by rw[World.frozen?_alloc_old _ _ t (by simp;omega),World.frozen?_alloc_old _ _ t (by simp;omega),World.frozen?_alloc_old _ _ t (by simp;omega),World.frozen?_alloc_old _ _ t (Nat.ne_of_lt htl)];exact hf0)
 go_enter func93,ntmps93;go_wp2;refine wp_loop_rounds 1 ?_;rw[rounds_succ];go_wp2
 go_ret
 exact⟨rfl,rfl⟩
theorem Vc (c:Int) (w:aV) (hg:FM w) :
  Calls tP 75 #[.iface 128 (aO aZ c)] w λe w'=>e=.returned (aO aZ c)/\Below w.heap.size w w':=by
 have hg1:FM (w.alloc (aa #[aO aZ 0] 128)):=by
  have hlt:=block_lt_of_cell (a:=⟨0,0,aS⟩) hg;unfold FM at hg |-;rw[World.cell?_alloc_lt _ _ ⟨0,0,aS⟩ hlt];exact hg
 have HA:=XW c ⟨w.heap.size,0,aS⟩ (aO aZ 0) (w.alloc (aa #[aO aZ 0] 128)) hg1 AL AL;obtain⟨t,ht⟩:∃ t:Addr,t=⟨w.heap.size,0,aS⟩:=⟨_,rfl⟩
 have HB0:AO (Below w.heap.size w (w.alloc (aa #[aO aZ 0] 128))):=Cf.alloc Ch _;have HZ:AO ((w.alloc (aa #[aO aZ 0] 128)).heap.size=w.heap.size+1):=by show _=_;simp
 have HC0:AO ((w.alloc (aa #[aO aZ 0] 128)).cell? ⟨w.heap.size,0,aS⟩=aR (aO aZ 0)):=by show _=_;simp
 clear hg hg1 ht t;go_enter func75,ntmps75;go_wp2_with fail;generalize w.alloc (aa #[aO aZ 0] 128)=w0 at *;refine HA.mono ?_;rintro e w1 ⟨rfl,hw1⟩;have HBA:Below w0.heap.size w0 ((((w0.alloc (aa #[aY (aR ⟨w.heap.size,0,aS⟩)] 130)).alloc (aa #[aY (aR ⟨2,130,aS⟩),aY (aR ⟨w0.heap.size,0,aS⟩),aO .u64 150] 155)).alloc (aa #[aY (aR ⟨2,130,aS⟩),aY (aR ⟨w0.heap.size,0,aS⟩),aO .u64 150] 155)).alloc (aa #[aO aZ c] 128)):=(((Cf.alloc Ch _).alloc AL _).alloc (by simp;omega) _).alloc (by simp;omega) _;have HCA:((((w0.alloc (aa #[aY (aR ⟨w.heap.size,0,aS⟩)] 130)).alloc (aa #[aY (aR ⟨2,130,aS⟩),aY (aR ⟨w0.heap.size,0,aS⟩),aO .u64 150] 155)).alloc (aa #[aY (aR ⟨2,130,aS⟩),aY (aR ⟨w0.heap.size,0,aS⟩),aO .u64 150] 155)).alloc (aa #[aO aZ c] 128)).cell? ⟨w.heap.size,0,aS⟩=aR (aO aZ 0):=by rw[HBA.cell (p:=⟨w.heap.size,0,aS⟩) (by rw[HZ.o];exact Nat.lt_succ_self _)];exact HC0.o
 have hc1:w1.cell? ⟨w.heap.size,0,aS⟩=aR (aO aZ c):=by rw[hw1];exact World.cell?_setCell_same' _ _ _ (by rw[HCA];rfl)
 have HB1:AO (Below w.heap.size w w1):=by
  show Below _ _ _
  rw[hw1];exact(HB0.o.trans (HBA.mono (by rw[HZ.o];omega))).trans (((Wr.refl w.heap.size _).setCell 0 _).below Ch)
 clear HBA HCA hw1 HA;go_wp2
 go_ret
 exact⟨rfl,HB1.o⟩
end Go.Proofs.YtncomnkdlpoelaaGreatDoor
