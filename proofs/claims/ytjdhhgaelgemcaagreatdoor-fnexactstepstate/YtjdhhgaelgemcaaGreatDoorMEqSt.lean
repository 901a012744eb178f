import Derived.Test.YtjdhhgaelgemcaaGreatDoorMEqB
open Go.Proofs.Tryz renaming prog->tP
open Go.Proofs.Tryz
open Go.Value renaming slice->Z7,int->Z8,pointer->aF,agg->aH
open Go.IntKind renaming i64->aI,u8->Z9
open Go.Obj renaming cells->aJ
open Go.Ending renaming returned->aK
open Go.Ground renaming data->aL
open Go.Operand renaming tmp->aM
open Option renaming some->aE,none->aA
open Go renaming World->aC,Value->aB
set_option maxHeartbeats 4000000
set_option maxRecDepth 100000
namespace Go.Proofs.YtjdhhgaelgemcaaGreatDoor
open Go.ChangeShapes Go.WideShapes Go.ChangeAt Go.RowKit
set_option linter.unusedVariables false
theorem Mx (aD bD aU bU aT bT:Option Addr) (nD cD dD nU cU dU nT cT dT:Nat) (D U T:List Int) (k:Int) (w:aC) (hD:D.length=nD) (hU:U.length=nU) (hT:T.length=nT*2) (mD:nD<=1048576) (mU:nU<=1048576) (mT:nT<=1048576) (AD:At aI w aD D) (BD:At aI w bD D) (AU:At aI w aU U) (BU:At aI w bU U) (AT:At aI w aT T) (BT:At aI w bT T) :
  Calls tP 12 #[aH #[Z7 aD nD cD,Z7 aU nU cU,Z8 aI k,Z7 aT nT cT],aH #[Z7 bD nD dD,Z7 bU nU dU,Z8 aI k,Z7 bT nT dT]] w λe w'=>e=aK (.bool true)/\Below w.heap.size w w':=by
 have HE0:AO (BE w 33 #[Z7 aD nD cD,Z7 aU nU cU,Z8 aI k,Z7 aT nT cT] #[Z7 bD nD dD,Z7 bU nU dU,Z8 aI k,Z7 bT nT dT] ((w.alloc (aJ #[Z7 aD nD cD,Z7 aU nU cU,Z8 aI k,Z7 aT nT cT] 33)).alloc (aJ #[Z7 bD nD dD,Z7 bU nU dU,Z8 aI k,Z7 bT nT dT] 33))):=BE.start _ _ _ _;have HAD:AO (At aI w aD D/\At aI w bD D):=⟨AD,BD⟩
 have HLD:AO (D.length=nD):=hD;have HAU:AO (At aI w aU U/\At aI w bU U):=⟨AU,BU⟩
 have HLU:AO (U.length=nU):=hU;have HAT:AO (At aI w aT T/\At aI w bT T):=⟨AT,BT⟩
 have HLT:AO (T.length=nT*2):=hT;clear AD BD hD AU BU hU AT BT hT;have nek:(k != k)=false:=AL
 go_enter func12,ntmps12;go_wp2_with fail;generalize ((w.alloc (aJ #[Z7 aD nD cD,Z7 aU nU cU,Z8 aI k,Z7 aT nT cT] 33)).alloc (aJ #[Z7 bD nD dD,Z7 bU nU dU,Z8 aI k,Z7 bT nT dT] 33))=w0 at *;refine(Og _ _ nD _ _ D _ HLD.o mD (HAD.o.1.below HE0.o.below) (HAD.o.2.below HE0.o.below)).mono ?_;rintro e w1 ⟨rfl,q0,hq⟩;have hb:Below w0.heap.size w0 w1:=by rw[hq];exact EG Cg _
 clear hq;have HE1:AO (BE w 33 #[Z7 aD nD cD,Z7 aU nU cU,Z8 aI k,Z7 aT nT cT] #[Z7 bD nD dD,Z7 bU nU dU,Z8 aI k,Z7 bT nT dT] w1):=HE0.o.call hb;clear hb HE0;have x1:w1.cell? ⟨w.heap.size,1,aA⟩=aE (Z7 aU nU cU):=by rw[AA HE1.o.b0 1];rfl
 have y1:w1.cell? ⟨w.heap.size+1,1,aA⟩=aE (Z7 bU nU dU):=by rw[AA HE1.o.b1 1];rfl
 go_wp2_with fail;clear x1 y1;refine(Og _ _ nU _ _ U _ HLU.o mU (HAU.o.1.below HE1.o.below) (HAU.o.2.below HE1.o.below)).mono ?_;rintro e w2 ⟨rfl,q1,hq⟩;have hb:Below w1.heap.size w1 w2:=by rw[hq];exact EG Cg _
 clear hq;have HE2:AO (BE w 33 #[Z7 aD nD cD,Z7 aU nU cU,Z8 aI k,Z7 aT nT cT] #[Z7 bD nD dD,Z7 bU nU dU,Z8 aI k,Z7 bT nT dT] w2):=HE1.o.call hb;clear hb HE1;have x2:w2.cell? ⟨w.heap.size,2,aA⟩=aE (Z8 aI k):=by rw[AA HE2.o.b0 2];rfl
 have y2:w2.cell? ⟨w.heap.size+1,2,aA⟩=aE (Z8 aI k):=by rw[AA HE2.o.b1 2];rfl
 have x3:w2.cell? ⟨w.heap.size,3,aA⟩=aE (Z7 aT nT cT):=by rw[AA HE2.o.b0 3];rfl
 have y3:w2.cell? ⟨w.heap.size+1,3,aA⟩=aE (Z7 bT nT dT):=by rw[AA HE2.o.b1 3];rfl
 go_wp2_with fail;clear x2 y2 x3 y3;refine(RL _ _ nT _ _ T _ HLT.o mT (HAT.o.1.below HE2.o.below) (HAT.o.2.below HE2.o.below)).mono ?_;rintro e w3 ⟨rfl,hb⟩;have HE3:AO (BE w 33 #[Z7 aD nD cD,Z7 aU nU cU,Z8 aI k,Z7 aT nT cT] #[Z7 bD nD dD,Z7 bU nU dU,Z8 aI k,Z7 bT nT dT] w3):=HE2.o.call hb;clear hb HE2;have HF:AO (Below w.heap.size w w3):=HE3.o.below;clear HE3;go_wp2
 go_ret
 exact⟨rfl,HF.o⟩
theorem Sm (aD aU aT:Option Addr) (nD cD nU cU nT cT:Nat) (D U T:List Int) (k:Int) (w:aC) (hD:D.length=nD) (hU:U.length=nU) (hT:T.length=nT*2) (mD:nD<=1048576) (mU:nU<=1048576) (mT:nT<=1048576) (AD:At aI w aD D) (AU:At aI w aU U) (AT:At aI w aT T) :
  Calls tP 7 #[aH #[Z7 aD nD cD,Z7 aU nU cU,Z8 aI k,Z7 aT nT cT]] w λe w'=>∃ gD gU gT,e=aK (aH #[Z7 (aE ⟨gD,0,aA⟩) nD nD,Z7 (aE ⟨gU,0,aA⟩) nU nU,Z8 aI k,Z7 (aE ⟨gT,0,aA⟩) nT nT])/\w.heap.size<=gD/\gD<gU/\gU<gT/\DZ w' gD 2 (iC D)/\DZ w' gU 2 (iC U)/\DZ w' gT 77 (iC T)/\Below w.heap.size w w':=by
 have HE0:AO (CE w 25 33 #[Z7 aD nD cD,Z7 aU nU cU,Z8 aI k,Z7 aT nT cT] CU CU (((w.alloc (aJ #[Z7 aD nD cD,Z7 aU nU cU,Z8 aI k,Z7 aT nT cT] 25)).alloc (aJ CU 33)).alloc (aJ CU 33))):=CE.start _ _ _ _ _ _;have HAD:AO (At aI w aD D):=AD;have HLD:AO (D.length=nD):=hD;have HAU:AO (At aI w aU U):=AU;have HLU:AO (U.length=nU):=hU;have HAT:AO (At aI w aT T):=AT;have HLT:AO (T.length=nT*2):=hT;clear AD hD AU hU AT hT;go_enter func7,ntmps7;go_wp2_with fail;generalize (((w.alloc (aJ #[Z7 aD nD cD,Z7 aU nU cU,Z8 aI k,Z7 aT nT cT] 25)).alloc (aJ CU 33)).alloc (aJ CU 33))=w0 at *;refine(Md aD nD cD D _ HLD.o mD (HAD.o.below HE0.o.below)).mono ?_;rintro e u0 ⟨rfl,hRD,hb⟩;have HF0:AO (CE w 25 33 #[Z7 aD nD cD,Z7 aU nU cU,Z8 aI k,Z7 aT nT cT] CU CU u0):=HE0.o.call hb;have lt0:w.heap.size+1+1<w0.heap.size:=HE0.o.lt;clear hb;have oD:w.heap.size<=w0.heap.size:=AJ
 have VD:w.heap.size+1+1<w0.heap.size:=lt0;clear HE0;generalize w0.heap.size=gD at *;have hw:Wr (w.heap.size+1+1) u0 (u0.setCell ⟨w.heap.size+1+1,0,aA⟩ (Z7 (aE ⟨gD,0,aA⟩) nD nD)):=((Wr.refl _ _).setCell _ _)
 have HE1:AO (CE w 25 33 #[Z7 aD nD cD,Z7 aU nU cU,Z8 aI k,Z7 aT nT cT] CU #[Z7 (aE ⟨gD,0,aA⟩) nD nD,Z7 aA 0 0,Z8 aI 0,Z7 aA 0 0] (u0.setCell ⟨w.heap.size+1+1,0,aA⟩ (Z7 (aE ⟨gD,0,aA⟩) nD nD))):=(HF0.o.put 0 _)
 have HRD:AO (DZ (u0.setCell ⟨w.heap.size+1+1,0,aA⟩ (Z7 (aE ⟨gD,0,aA⟩) nD nD)) gD 2 (iC D)):=hRD.wr hw VD;have lgD:gD<(u0.setCell ⟨w.heap.size+1+1,0,aA⟩ (Z7 (aE ⟨gD,0,aA⟩) nD nD)).heap.size:=HRD.o.lt;have v0:u0.cell? ⟨w.heap.size+1+1,0,aA⟩=aE (Z7 aA 0 0):=by rw[AA HF0.o.var 0];rfl
 have f0:=Ar u0 (w.heap.size+1+1) 0 _ _ HF0.o.var;have x1:u0.cell? ⟨w.heap.size,1,aA⟩=aE (Z7 aU nU cU):=by rw[AA HF0.o.box 1];rfl
 clear hw HF0 hRD;go_wp2_with fail;generalize (u0.setCell ⟨w.heap.size+1+1,0,aA⟩ (Z7 (aE ⟨gD,0,aA⟩) nD nD))=w1 at *;clear v0 f0 x1;refine(Md aU nU cU U _ HLU.o mU (HAU.o.below HE1.o.below)).mono ?_;rintro e u1 ⟨rfl,hRU,hb⟩;have HF1:AO (CE w 25 33 #[Z7 aD nD cD,Z7 aU nU cU,Z8 aI k,Z7 aT nT cT] CU #[Z7 (aE ⟨gD,0,aA⟩) nD nD,Z7 aA 0 0,Z8 aI 0,Z7 aA 0 0] u1):=HE1.o.call hb;have lt1:w.heap.size+1+1<w1.heap.size:=HE1.o.lt;have hRD:DZ u1 gD 2 (iC D):=HRD.o.below hb;clear hb HRD;have oU:gD<w1.heap.size:=lgD;clear lgD;have VU:w.heap.size+1+1<w1.heap.size:=lt1;clear HE1;generalize w1.heap.size=gU at *;have hw:Wr (w.heap.size+1+1) u1 ((u1.setCell ⟨w.heap.size+1+1,1,aA⟩ (Z7 (aE ⟨gU,0,aA⟩) nU nU)).setCell ⟨w.heap.size+1+1,2,aA⟩ (Z8 aI k)):=(((Wr.refl _ _).setCell _ _).setCell _ _)
 have HE2:AO (CE w 25 33 #[Z7 aD nD cD,Z7 aU nU cU,Z8 aI k,Z7 aT nT cT] CU #[Z7 (aE ⟨gD,0,aA⟩) nD nD,Z7 (aE ⟨gU,0,aA⟩) nU nU,Z8 aI k,Z7 aA 0 0] ((u1.setCell ⟨w.heap.size+1+1,1,aA⟩ (Z7 (aE ⟨gU,0,aA⟩) nU nU)).setCell ⟨w.heap.size+1+1,2,aA⟩ (Z8 aI k))):=((HF1.o.put 1 _).put 2 _)
 have HRD:AO (DZ ((u1.setCell ⟨w.heap.size+1+1,1,aA⟩ (Z7 (aE ⟨gU,0,aA⟩) nU nU)).setCell ⟨w.heap.size+1+1,2,aA⟩ (Z8 aI k)) gD 2 (iC D)):=hRD.wr hw VD;have HRU:AO (DZ ((u1.setCell ⟨w.heap.size+1+1,1,aA⟩ (Z7 (aE ⟨gU,0,aA⟩) nU nU)).setCell ⟨w.heap.size+1+1,2,aA⟩ (Z8 aI k)) gU 2 (iC U)):=hRU.wr hw VU;have lgU:gU<((u1.setCell ⟨w.heap.size+1+1,1,aA⟩ (Z7 (aE ⟨gU,0,aA⟩) nU nU)).setCell ⟨w.heap.size+1+1,2,aA⟩ (Z8 aI k)).heap.size:=HRU.o.lt;have v1:u1.cell? ⟨w.heap.size+1+1,1,aA⟩=aE (Z7 aA 0 0):=by rw[AA HF1.o.var 1];rfl
 have f1:=Ar u1 (w.heap.size+1+1) 1 _ _ HF1.o.var;have v2:u1.cell? ⟨w.heap.size+1+1,2,aA⟩=aE (Z8 aI 0):=by rw[AA HF1.o.var 2];rfl
 have f2:=Ar u1 (w.heap.size+1+1) 2 _ _ HF1.o.var;have x2:u1.cell? ⟨w.heap.size,2,aA⟩=aE (Z8 aI k):=by rw[AA HF1.o.box 2];rfl
 have x3:u1.cell? ⟨w.heap.size,3,aA⟩=aE (Z7 aT nT cT):=by rw[AA HF1.o.box 3];rfl
 clear hw HF1 hRD hRU;go_wp2_with fail;generalize ((u1.setCell ⟨w.heap.size+1+1,1,aA⟩ (Z7 (aE ⟨gU,0,aA⟩) nU nU)).setCell ⟨w.heap.size+1+1,2,aA⟩ (Z8 aI k))=w2 at *;clear v1 f1 v2 f2 x2 x3;refine(R8 aT nT cT T _ HLT.o mT (HAT.o.below HE2.o.below)).mono ?_;rintro e u2 ⟨rfl,hRT,hb⟩;have HF2:AO (CE w 25 33 #[Z7 aD nD cD,Z7 aU nU cU,Z8 aI k,Z7 aT nT cT] CU #[Z7 (aE ⟨gD,0,aA⟩) nD nD,Z7 (aE ⟨gU,0,aA⟩) nU nU,Z8 aI k,Z7 aA 0 0] u2):=HE2.o.call hb;have lt2:w.heap.size+1+1<w2.heap.size:=HE2.o.lt;have hRD:DZ u2 gD 2 (iC D):=HRD.o.below hb;have hRU:DZ u2 gU 2 (iC U):=HRU.o.below hb;clear hb HRD HRU;have oT:gU<w2.heap.size:=lgU;clear lgU;have VT:w.heap.size+1+1<w2.heap.size:=lt2;clear HE2;generalize w2.heap.size=gT at *;have hw:Wr (w.heap.size+1+1) u2 (u2.setCell ⟨w.heap.size+1+1,3,aA⟩ (Z7 (aE ⟨gT,0,aA⟩) nT nT)):=((Wr.refl _ _).setCell _ _)
 have HE3:AO (CE w 25 33 #[Z7 aD nD cD,Z7 aU nU cU,Z8 aI k,Z7 aT nT cT] CU #[Z7 (aE ⟨gD,0,aA⟩) nD nD,Z7 (aE ⟨gU,0,aA⟩) nU nU,Z8 aI k,Z7 (aE ⟨gT,0,aA⟩) nT nT] (u2.setCell ⟨w.heap.size+1+1,3,aA⟩ (Z7 (aE ⟨gT,0,aA⟩) nT nT))):=(HF2.o.put 3 _)
 have HRD:AO (DZ (u2.setCell ⟨w.heap.size+1+1,3,aA⟩ (Z7 (aE ⟨gT,0,aA⟩) nT nT)) gD 2 (iC D)):=hRD.wr hw VD;have HRU:AO (DZ (u2.setCell ⟨w.heap.size+1+1,3,aA⟩ (Z7 (aE ⟨gT,0,aA⟩) nT nT)) gU 2 (iC U)):=hRU.wr hw VU;have HRT:AO (DZ (u2.setCell ⟨w.heap.size+1+1,3,aA⟩ (Z7 (aE ⟨gT,0,aA⟩) nT nT)) gT 77 (iC T)):=hRT.wr hw VT;have v3:u2.cell? ⟨w.heap.size+1+1,3,aA⟩=aE (Z7 aA 0 0):=by rw[AA HF2.o.var 3];rfl
 have f3:=Ar u2 (w.heap.size+1+1) 3 _ _ HF2.o.var;clear hw HF2 hRD hRU hRT;have HSZ:AO ((tP.info? 33).map (·.size)=aE 4):=by show _=_;kernel_rfl
 have HVR:AO ((u2.setCell ⟨w.heap.size+1+1,3,aA⟩ (Z7 (aE ⟨gT,0,aA⟩) nT nT)).heap[w.heap.size+1+1]?=aE (aJ #[Z7 (aE ⟨gD,0,aA⟩) nD nD,Z7 (aE ⟨gU,0,aA⟩) nU nU,Z8 aI k,Z7 (aE ⟨gT,0,aA⟩) nT nT] 33 (0,0))):=HE3.o.var;have HRR:AO ((u2.setCell ⟨w.heap.size+1+1,3,aA⟩ (Z7 (aE ⟨gT,0,aA⟩) nT nT)).heap[w.heap.size+1]?=aE (aJ CU 33 (0,0))):=HE3.o.res
 go_upto_region 6 with fail
 generalize (u2.setCell ⟨w.heap.size+1+1,3,aA⟩ (Z7 (aE ⟨gT,0,aA⟩) nT nT))=wz at *;clear v3 f3;go_wp2_with (first
  |(refine Ae rfl 33 (aM 3) rfl (w.heap.size+1+1) rfl 33 _ (0,0) _ HVR.o underlying33 rfl HSZ.o ?_)
  |(refine AE 33 (aM 2) (aM 19) (w.heap.size+1) #[Z7 (aE ⟨gD,0,aA⟩) nD nD,Z7 (aE ⟨gU,0,aA⟩) nU nU,Z8 aI k,Z7 (aE ⟨gT,0,aA⟩) nT nT] 33 HRR.o HSZ.o rfl (by simp[Value.oneCell']) ?_)
  |fail)
 refine Ab (v:=aH #[Z7 (aE ⟨gD,0,aA⟩) nD nD,Z7 (aE ⟨gU,0,aA⟩) nU nU,Z8 aI k,Z7 (aE ⟨gT,0,aA⟩) nT nT]) (Ah rfl _ _ (w.heap.size+1) 33 _ (0,0) _ rfl (AB HRR.o) underlying33 rfl HSZ.o) rfl ?_;have hwz:Wr (w.heap.size+1) wz (wz.setRow (w.heap.size+1) #[Z7 (aE ⟨gD,0,aA⟩) nD nD,Z7 (aE ⟨gU,0,aA⟩) nU nU,Z8 aI k,Z7 (aE ⟨gT,0,aA⟩) nT nT]):=Wr.setRow _ _ _;exact⟨gD,gU,gT,rfl,AJ,oU,oT,HRD.o.wr hwz AJ,HRU.o.wr hwz AJ,HRT.o.wr hwz AJ,HE3.o.below.trans (hwz.below AJ)⟩
theorem Lb (xs:List Int):(iC xs).size=xs.length:=by simp[iC]
theorem DZ.opn {w:aC} {g n:Nat} {t:TypeId} {cs:Array aB} (h:DZ w g t cs) (hn:cs.size=n):FK w (aE ⟨g,0,aA⟩) n:=
 .inr ⟨g,0,rfl,h.lt,λi hi=>⟨by rw[Aq,AA h i];simp[hn,hi],h.fz _⟩⟩
structure YP (w:aC) (xs:List Int) (a k:Nat) (v:aB) (wr:aC):Prop where
 own:Iow w.heap.size wr v (Dl (xs.take k) a)
 below:Below w.heap.size w wr
theorem Sn {xs:List Int} {a k:Nat} (h:k<xs.length) (hne:¬ xs.getD k 0=(a:Int)):Dl (xs.take (k+1)) a=Dl (xs.take k) a++[xs.getD k 0]:=by
 unfold Dl;rw[Gz xs k h,List.filter_append];simp;simpa[List.getD] using hne
theorem Ur {xs:List Int} {a k:Nat} (h:k<xs.length) (he:xs.getD k 0=(a:Int)):Dl (xs.take (k+1)) a=Dl (xs.take k) a:=by
 unfold Dl;rw[Gz xs k h,List.filter_append];simp;simpa[List.getD] using he
theorem So (xs:List Int) (a k:Nat):(Dl (xs.take k) a).length<=k:=by
 unfold Dl;exact BG (List.length_filter_le _ _) (by rw[Ap];omega)
theorem Sp (ad:Option Addr) (n cap:Nat) (xs:List Int) (a:Nat) (w:aC) (hn:xs.length=n) (hm:n<=1048576) (ha:At aI w ad xs) :
  Calls tP 43 #[Z7 ad n cap,Z8 aI a] w λe w'=>∃ v,e=aK v/\Iow w.heap.size w' v (Dl xs a)/\Below w.heap.size w w':=by
 have HA:AO (At aI w ad xs):=ha;have HNX:AO (xs.length=n):=hn;have H0:AO (YP w xs a 0 (Z7 (aE ⟨w.heap.size,0,aA⟩) 0 0) (w.alloc (aJ #[] 2))):=
  ⟨⟨by simp[Dl],.inr ⟨w.heap.size,0,#[],rfl,Ac _,AX w _,Ac _,by simp[maxLen],rfl,rfl⟩⟩,Cg.alloc Cl _⟩
 clear ha hn;go_enter func43,ntmps43;go_wp2_with fail
 go_loopw [5,6] (λl i wr=>∃(k:Nat) (v:aB),k<=n/\i=Z8 aI k/\v=l/\YP w xs a k v wr) (λ_ i _=>n-(intOf i).toNat)
 case atStart=>exact⟨0,_,AJ,rfl,rfl,H0.o⟩
 case round=>
  clear H0;obtain⟨k,l,hk,rfl,rfl,hst⟩:=hrel;by_cases hlt:k<n
  ·have hlt':(k:Int)<n:=AJ
   have HST:AO (YP w xs a k l wr):=hst;obtain⟨b,off,ea,hb,hc⟩:=(HA.o.below hst.below).get (AG HNX.o);have hck:=hc k (AG HNX.o);subst ea;clear hst hc hb;have HLT:AO (k<xs.length):=by show _<_;have:=HNX.o;omega
   by_cases hne:xs.getD k 0=(a:Int)
   ·have HF:AO (YP w xs a (k+1) l wr):=⟨by rw[Ur HLT.o hne];exact HST.o.own,HST.o.below⟩
    rw[hne] at hck;clear hne;go_wp2;go_roundw
    case rel=>exact⟨k+1,_,AJ,by go_num,rfl,HF.o⟩
    case measure=>simp[intOf];omega
   ·have HN:AO (Dl (xs.take (k+1)) a=Dl (xs.take k) a++[xs.getD k 0]):=Sn HLT.o hne;have HL:AO ((Dl (xs.take k) a).length<=1048576):=BG (So xs a k) AJ;generalize xs.getD k 0=z at *;have HO:AO (Iow w.heap.size (wr.alloc (aJ #[Z8 aI z] 2)) l (Dl (xs.take k) a)):=HST.o.own.alloc _;have HZ:AO (w.heap.size<=(wr.alloc (aJ #[Z8 aI z] 2)).heap.size):=by
     show _<=_
     have:=HST.o.below.size;simp;omega
    go_wp2_with (first
     |(refine Fk _ rfl (aM 20) (aM 25) rfl w.heap.size _ (Dl (xs.take k) a) rfl HO.o wr z rfl rfl HL.o HZ.o ?_)
     |fail)
    intro v' w3 h1 h2;have HF:AO (YP w xs a (k+1) v' w3):=⟨by rw[HN.o];exact h1,(HST.o.below.alloc HST.o.below.size _).trans h2⟩
    clear h1 h2 HO HZ HL hck;go_wp2;go_roundw
    case rel=>exact⟨k+1,_,AJ,by go_num,rfl,HF.o⟩
    case measure=>simp[intOf];omega
  ·have hke:k=n:=AJ
   have hlt':¬ ((k:Int)<n):=AJ
   have HF:AO (∃ v,aK l=aK v/\Iow w.heap.size wr v (Dl xs a)/\Below w.heap.size w wr):=⟨l,rfl,by
    have:=hst.own
    rwa [Ad (AG HNX.o)] at this,hst.below⟩
   clear hst hke;go_wp2
   go_ret
   exact HF.o
def GU (k:Int) (n:Nat):List Int:=(List.range n).map (λi:Nat=>k+(i:Int))
theorem GM (k:Int) (n:Nat):(GU k n).length=n:=by simp[GU]
theorem JM (k:Int) (n i:Nat) (h:i<n):(GU k n).getD i 0=k+i:=by simp[GU,h]
theorem Ko (a:Option Addr) (n cap:Nat) (k:Int) (w:aC) (ho:FK w a n) (hk:0<=k) (hk':k+n<=1099511627776) :
  Calls tP 35 #[Z7 a n cap,Z8 aI k] w λe w'=>e=aK (Z8 aI (k+n))/\At aI w' a (GU k n)/\J3 a w w':=by
 go_enter func35,ntmps35;go_wp2
 go_loopw [1,5] (λq i wr=>∃ j:Nat,j<=n/\i=Z8 aI j/\q=Z8 aI (k+j)/\J3 a w wr/\
   (n=0\/∃ g o,a=aE ⟨g,o,aA⟩/\g<w.heap.size/\(∀ t,t<n->(wr.cell? ⟨g,o+t,aA⟩).isSome=true/\wr.frozen? ⟨g,o+t,aA⟩=false)/\∀ t,t<j->wr.cell? ⟨g,o+t,aA⟩=aE (Z8 aI (k+(t:Int))))) (λ_ i _=>n-(intOf i).toNat)
 case atStart=>
  refine⟨0,Au _,rfl,AL,J3.refl _ _,?_⟩;rcases ho with h|⟨g,o,h1,h2,h3⟩
  ·exact .inl h
  ·exact .inr ⟨g,o,h1,h2,h3,λt ht=>AJ⟩
 case round=>
  obtain⟨j,hj,rfl,rfl,hwr,hs⟩:=hrel;by_cases hlt:j<n
  ·rcases hs with h|⟨g,o,rfl,hg,hc,hd⟩
   ·omega
   ·obtain⟨hc1,hf1⟩:=hc j hlt;obtain⟨v0,hv0⟩:=Bi.1 hc1;have HW:AO (J3 (aE ⟨g,o,aA⟩) w (wr.setCell ⟨g,o+j,aA⟩ (Z8 aI (k+(j:Int))))):=hwr.setCell _ rfl _ _;have HC:AO (∀ t,t<n->((wr.setCell ⟨g,o+j,aA⟩ (Z8 aI (k+(j:Int)))).cell? ⟨g,o+t,aA⟩).isSome=true/\(wr.setCell ⟨g,o+j,aA⟩ (Z8 aI (k+(j:Int)))).frozen? ⟨g,o+t,aA⟩=false):=by
     intro t ht;obtain⟨u,hu⟩:=Bi.1 (hc t ht).1;obtain⟨u',hu'⟩:=cell?_setCell_some (w:=wr) (p:=⟨g,o+j,aA⟩) (x:=Z8 aI (k+(j:Int))) (q:=⟨g,o+t,aA⟩) (v:=u) hu;refine⟨by rw[hu'];rfl,?_⟩;rw[World.frozen?_setCell];exact(hc t ht).2
    have HD:AO (∀ t,t<j+1->(wr.setCell ⟨g,o+j,aA⟩ (Z8 aI (k+(j:Int)))).cell? ⟨g,o+t,aA⟩=aE (Z8 aI (k+(t:Int)))):=by
     intro t ht;by_cases e:t=j
     ·subst e;exact World.cell?_setCell_same _ _ _ hv0
     ·rw[Bo _ _ _ _ (by simp;try omega)];exact hd t AJ
    clear hc hd hwr ho hc1;go_wp2;go_roundw
    case rel=>exact⟨j+1,AJ,by go_num,by go_num,HW.o,.inr ⟨g,o,rfl,hg,HC.o,HD.o⟩⟩
    case measure=>simp[intOf];omega
  ·have hjn:j=n:=AJ
   subst hjn;have HA:AO (At aI wr a (GU k j)):=by
    rcases hs with h|⟨g,o,rfl,hg,hc,hd⟩
    ·subst h;exact .inl rfl
    ·exact .inr ⟨g,o,rfl,by rw[hwr.size];exact hg,λi hi=>by rw[GM] at hi;rw[hd i hi,JM k j i hi]⟩
   clear hs ho;go_wp2
   go_ret
   exact⟨rfl,HA.o,hwr⟩
theorem Kp (a:Option Addr) (n cap:Nat) (k:Int) (w:aC) (ha:At aI w a (GU k n)) (hk:0<=k) (hk':k+n<=1099511627776) :
  Calls tP 55 #[Z7 a n cap,Z8 aI k] w λe w'=>e=aK (Z8 aI (k+n))/\w'=w:=by
 go_enter func55,ntmps55;go_wp2
 go_loop [1,5] (λq i=>∃ j:Nat,j<=n/\i=Z8 aI j/\q=Z8 aI (k+j)) (λ_ i=>n-(intOf i).toNat)
 case atStart=>exact⟨0,Au _,rfl,AL⟩
 case round=>
  obtain⟨j,hj,rfl,rfl⟩:=hrel;by_cases hlt:j<n
  ·obtain⟨b,off,rfl,hb,hc⟩:=ha.get (by rw[GM];omega);have hcj:=hc j (by rw[GM];omega);rw[JM k n j hlt] at hcj;have hne:((k+(j:Int)) != (k+(j:Int)))=false:=AL
   clear hc ha;go_wp2
   go_round
   case rel=>exact⟨j+1,AJ,by go_num,by go_num⟩
   case measure=>simp[intOf];omega
  ·have hjn:j=n:=AJ
   subst hjn;go_wp2
   go_ret
   exact⟨rfl,rfl⟩
theorem QY (a:Option Addr) (n cap:Nat) (k:Int) (w:aC) (ho:FK w a (n*2)) (hk:0<=k) (hk':k+n*2<=1099511627776) :
  Calls tP 36 #[Z7 a n cap,Z8 aI k] w λe w'=>e=aK (Z8 aI (k+n*2))/\At aI w' a (GU k (n*2))/\J3 a w w':=by
 go_enter func36,ntmps36;go_wp2
 go_loopw [1,5] (λq i wr=>∃ j:Nat,j<=n/\i=Z8 aI j/\q=Z8 aI (k+j*2)/\J3 a w wr/\
   (n=0\/∃ g o,a=aE ⟨g,o,aA⟩/\g<w.heap.size/\(∀ t,t<n*2->(wr.cell? ⟨g,o+t,aA⟩).isSome=true/\wr.frozen? ⟨g,o+t,aA⟩=false)/\∀ t,t<j*2->wr.cell? ⟨g,o+t,aA⟩=aE (Z8 aI (k+(t:Int))))) (λ_ i _=>n-(intOf i).toNat)
 case atStart=>
  refine⟨0,Au _,rfl,AL,J3.refl _ _,?_⟩;rcases ho with h|⟨g,o,h1,h2,h3⟩
  ·exact .inl AJ
  ·exact .inr ⟨g,o,h1,h2,h3,λt ht=>AJ⟩
 case round=>
  obtain⟨j,hj,rfl,rfl,hwr,hs⟩:=hrel;by_cases hlt:j<n
  ·rcases hs with h|⟨g,o,rfl,hg,hc,hd⟩
   ·omega
   ·have hlt':(j:Int)<n:=AJ
    have hst:∀(W:aC) (p:Nat) (x:Int),(∀ t,t<n*2->(W.cell? ⟨g,o+t,aA⟩).isSome=true/\W.frozen? ⟨g,o+t,aA⟩=false)->∀ t,t<n*2->((W.setCell ⟨g,p,aA⟩ (Z8 aI x)).cell? ⟨g,o+t,aA⟩).isSome=true/\(W.setCell ⟨g,p,aA⟩ (Z8 aI x)).frozen? ⟨g,o+t,aA⟩=false:=by
     intro W p x hW t ht;obtain⟨u,hu⟩:=Bi.1 (hW t ht).1;obtain⟨u',hu'⟩:=cell?_setCell_some (w:=W) (p:=⟨g,p,aA⟩) (x:=Z8 aI x) (q:=⟨g,o+t,aA⟩) (v:=u) hu;refine⟨by rw[hu'];rfl,?_⟩;rw[World.frozen?_setCell];exact(hW t ht).2
    obtain⟨hc1,f0⟩:=hc (j*2) AJ;obtain⟨v0,c0⟩:=Bi.1 hc1;have hc':=hst wr (o+j*2) (k+j*2) hc;obtain⟨hc2,f1⟩:=hc' (j*2+1) AJ;obtain⟨v1,c1⟩:=Bi.1 hc2;have HC:AO (∀ t,t<n*2->(((wr.setCell ⟨g,o+j*2,aA⟩ (Z8 aI (k+j*2))).setCell ⟨g,o+j*2+1,aA⟩ (Z8 aI (k+j*2+1))).cell? ⟨g,o+t,aA⟩).isSome=true/\((wr.setCell ⟨g,o+j*2,aA⟩ (Z8 aI (k+j*2))).setCell ⟨g,o+j*2+1,aA⟩ (Z8 aI (k+j*2+1))).frozen? ⟨g,o+t,aA⟩=false):=hst _ _ _ hc';have HW:AO (J3 (aE ⟨g,o,aA⟩) w ((wr.setCell ⟨g,o+j*2,aA⟩ (Z8 aI (k+j*2))).setCell ⟨g,o+j*2+1,aA⟩ (Z8 aI (k+j*2+1)))):=(hwr.setCell _ rfl _ _).setCell _ rfl _ _;rw[<-Ax] at c1 f1;have HD:AO (∀ t,t<(j+1)*2->((wr.setCell ⟨g,o+j*2,aA⟩ (Z8 aI (k+j*2))).setCell ⟨g,o+j*2+1,aA⟩ (Z8 aI (k+j*2+1))).cell? ⟨g,o+t,aA⟩=aE (Z8 aI (k+(t:Int)))):=by
     intro t ht;by_cases e:t=j*2+1
     ·subst e;rw[<-Ax,World.cell?_setCell_same _ _ _ c1];rw[show k+(((j*2+1:Nat)):Int)=k+j*2+1 by omega]
     ·rw[Bo _ _ _ _ (by simp;try omega)];by_cases e2:t=j*2
      ·subst e2;rw[World.cell?_setCell_same _ _ _ c0];rw[show k+(((j*2:Nat)):Int)=k+j*2 by omega]
      ·rw[Bo _ _ _ _ (by simp;try omega)];exact hd t AJ
    clear hc hd hwr ho hc1 hc2 hc' hst;go_wp2;go_roundw
    case rel=>exact⟨j+1,AJ,by go_num,by go_num,HW.o,.inr ⟨g,o,rfl,hg,HC.o,HD.o⟩⟩
    case measure=>simp[intOf];omega
  ·have hjn:j=n:=AJ
   subst hjn;have HA:AO (At aI wr a (GU k (j*2))):=by
    rcases hs with h|⟨g,o,rfl,hg,hc,hd⟩
    ·subst h;exact .inl rfl
    ·exact .inr ⟨g,o,rfl,by rw[hwr.size];exact hg,λi hi=>by rw[GM] at hi;rw[hd i hi,JM k _ i hi]⟩
   clear hs ho;go_wp2
   go_ret
   exact⟨rfl,HA.o,hwr⟩
def NG (w:aC) (a:Option Addr) (zs:List Int):Prop:=
 zs=[]\/∃ b off,a=aE ⟨b,off,aA⟩/\b<w.heap.size/\∀ i,i<zs.length->w.cell? ⟨b,off+i,aA⟩=aE (Z8 aI (zs.getD i 0))/\w.frozen? ⟨b,off+i,aA⟩=false
theorem NG.at_ {w:aC} {a:Option Addr} {zs:List Int} (h:NG w a zs):At aI w a zs:=by
 rcases h with h|⟨b,off,e,hl,hc⟩
 ·exact .inl h
 ·exact .inr ⟨b,off,e,hl,λi hi=>(hc i hi).1⟩
theorem NG.open_ {w:aC} {a:Option Addr} {zs:List Int} (h:NG w a zs) {n:Nat} (hn:zs.length=n):FK w a n:=by
 rcases h with h|⟨b,off,e,hl,hc⟩
 ·subst h;exact .inl (by simpa using hn.symm)
 ·exact .inr ⟨b,off,e,hl,λi hi=>⟨by rw[(hc i AJ).1];rfl,(hc i AJ).2⟩⟩
def EY (lo:Nat) (w:aC) (a:Option Addr):Prop:=∀ ad,a=aE ad->lo<=ad.block/\ad.block<w.heap.size
def Gq (a b:Option Addr):Prop:=∀ x y,a=aE x->b=aE y->x.block≠y.block
theorem EY.mono {lo lo':Nat} {w w':aC} {a:Option Addr} (h:EY lo w a) (hl:lo'<=lo) (hs:w.heap.size<=w'.heap.size):EY lo' w' a:=λad e=>AG (h ad e)
theorem NG.keep {w w':aC} {a:Option Addr} {zs:List Int} (h:NG w a zs) (hs:w.heap.size<=w'.heap.size) (hb:∀ ad,a=aE ad->ad.block<w.heap.size->w'.heap[ad.block]?=w.heap[ad.block]?):NG w' a zs:=by
 rcases h with h|⟨b,off,e,hl,hc⟩
 ·exact .inl h
 ·have hk:=hb _ e hl;refine .inr ⟨b,off,e,AJ,λi hi=>?_⟩;rw[Ai (a:=⟨b,off+i,aA⟩) (w:=w) hk,World.frozen?_of_block (a:=⟨b,off+i,aA⟩) (w:=w) hk];exact hc i hi
theorem At.keepT {w w':aC} {a:Option Addr} {zs:List Int} (h:At aI w a zs) (hs:w.heap.size<=w'.heap.size) (hb:∀ ad,a=aE ad->ad.block<w.heap.size->w'.heap[ad.block]?=w.heap[ad.block]?):At aI w' a zs:=by
 rcases h with h|⟨b,off,e,hl,hc⟩
 ·exact .inl h
 ·have hk:=hb _ e hl;refine .inr ⟨b,off,e,AJ,λi hi=>?_⟩;rw[Ai (a:=⟨b,off+i,aA⟩) (w:=w) hk];exact hc i hi
theorem FK.keepT {w w':aC} {a:Option Addr} {n:Nat} (h:FK w a n) (hs:w.heap.size<=w'.heap.size) (hb:∀ ad,a=aE ad->ad.block<w.heap.size->w'.heap[ad.block]?=w.heap[ad.block]?):FK w' a n:=by
 rcases h with h|⟨b,off,e,hl,hc⟩
 ·exact .inl h
 ·have hk:=hb _ e hl;refine .inr ⟨b,off,e,AJ,λi hi=>?_⟩;rw[Ai (a:=⟨b,off+i,aA⟩) (w:=w) hk,World.frozen?_of_block (a:=⟨b,off+i,aA⟩) (w:=w) hk];exact hc i hi
theorem NG.below {w w':aC} {a:Option Addr} {zs:List Int} (h:NG w a zs) (b:Below w.heap.size w w'):NG w' a zs:=h.keep b.size (λad _ hl=>b.block _ hl)
theorem J3.kept {a c:Option Addr} {w w':aC} (h:J3 a w w') (hap:Gq a c):∀ ad,c=aE ad->ad.block<w.heap.size->w'.heap[ad.block]?=w.heap[ad.block]?:=
 λad e _=>h.block _ (λx hx=>(hap x ad hx e).symm)
structure S3 (lo:Nat) (w:aC) (aD aU aT:Option Addr) (nD nU nT:Nat) (D U T:List Int):Prop where
 d:NG w aD D
 u:NG w aU U
 t:NG w aT T
 nd:D.length=nD
 nu:U.length=nU
 nt:T.length=nT*2
 ld:EY lo w aD
 lu:EY lo w aU
 lt:EY lo w aT
 du:Gq aD aU
 dt:Gq aD aT
 ut:Gq aU aT
theorem S3.keep {lo:Nat} {w w':aC} {aD aU aT:Option Addr} {nD nU nT:Nat} {D U T:List Int} (h:S3 lo w aD aU aT nD nU nT D U T) (hs:w.heap.size<=w'.heap.size) (hb:∀ k,lo<=k->k<w.heap.size->w'.heap[k]?=w.heap[k]?):S3 lo w' aD aU aT nD nU nT D U T:=
 ⟨h.d.keep hs (λad e hl=>hb _ (h.ld ad e).1 hl),h.u.keep hs (λad e hl=>hb _ (h.lu ad e).1 hl),h.t.keep hs (λad e hl=>hb _ (h.lt ad e).1 hl),h.nd,h.nu,h.nt,h.ld.mono Cl hs,h.lu.mono Cl hs,h.lt.mono Cl hs,h.du,h.dt,h.ut⟩
theorem S3.below {lo:Nat} {w w':aC} {aD aU aT:Option Addr} {nD nU nT:Nat} {D U T:List Int} (h:S3 lo w aD aU aT nD nU nT D U T) (b:Below w.heap.size w w'):S3 lo w' aD aU aT nD nU nT D U T:=h.keep b.size (λk _ hk=>b.block k hk)
theorem QZ (a:Option Addr) (n cap:Nat) (k:Int) (w:aC) (ha:At aI w a (GU k (n*2))) (hk:0<=k) (hk':k+n*2<=1099511627776) :
  Calls tP 56 #[Z7 a n cap,Z8 aI k] w λe w'=>e=aK (Z8 aI (k+n*2))/\w'=w:=by
 go_enter func56,ntmps56;go_wp2
 go_loop [1,5] (λq i=>∃ j:Nat,j<=n/\i=Z8 aI j/\q=Z8 aI (k+j*2)) (λ_ i=>n-(intOf i).toNat)
 case atStart=>exact⟨0,Au _,rfl,AL⟩
 case round=>
  obtain⟨j,hj,rfl,rfl⟩:=hrel;by_cases hlt:j<n
  ·obtain⟨b,off,rfl,hb,hc⟩:=ha.get (by rw[GM];omega);have hc0:=hc (j*2) (by rw[GM];omega);have hc1:=hc (j*2+1) (by rw[GM];omega);rw[JM k _ _ AJ] at hc0 hc1;rw[show k+((j*2:Nat):Int)=k+j*2 by omega] at hc0;rw[show k+((j*2+1:Nat):Int)=k+j*2+1 by omega,<-Ax] at hc1;have hlt':(j:Int)<n:=AJ
   have hne:((k+(j:Int)*2) != (k+(j:Int)*2))=false:=AL
   have hne1:((k+(j:Int)*2+1) != (k+(j:Int)*2+1))=false:=AL
   clear hc ha;go_wp2
   go_round
   case rel=>exact⟨j+1,AJ,by go_num,by go_num⟩
   case measure=>simp[intOf];omega
  ·have hjn:j=n:=AJ
   subst hjn;go_wp2
   go_ret
   exact⟨rfl,rfl⟩
def E8 (k:Nat) (a:Option Addr):Prop:=∀ ad,a=aE ad->k≠ad.block
structure MB (lo:Nat) (w:aC) (sc:Array aB) (wr:aC):Prop where
 below:Below lo w wr
 box:wr.heap[w.heap.size]?=aE (aJ sc 33 (0,0))
theorem MB.wro {lo:Nat} {w wr w':aC} {sc:Array aB} (h:MB lo w sc wr) {a:Option Addr} (hl:EY lo w a) (hw:J3 a wr w'):MB lo w sc w':=
 ⟨h.below.trans (hw.below lo (λad e=>(hl ad e).1)),by rw[hw.block _ (λad e=>AG (hl ad e))];exact h.box⟩
theorem Kq (aD aU aT:Option Addr) (nD cD nU cU nT cT:Nat) (k0 k:Int) (w:aC) (lo:Nat) (hlo:lo<=w.heap.size)
  (oD:FK w aD nD) (oU:FK w aU nU) (oT:FK w aT (nT*2)) (lD:EY lo w aD) (lU:EY lo w aU) (lT:EY lo w aT) (dU:Gq aD aU) (dT:Gq aD aT) (uT:Gq aU aT) (hk:0<=k) (hk':k+nD+nU+nT*2<=1099511627776) :
  Calls tP 15 #[aH #[Z7 aD nD cD,Z7 aU nU cU,Z8 aI k0,Z7 aT nT cT],Z8 aI k] w λe w'=>e=aK (Z8 aI (k+nD+nU+nT*2))/\At aI w' aD (GU k nD)/\At aI w' aU (GU (k+nD) nU)/\At aI w' aT (GU (k+nD+nU) (nT*2))/\Below lo w w'/\∀ j,j<w.heap.size->E8 j aD->E8 j aU->E8 j aT->w'.heap[j]?=w.heap[j]?:=by
 have b1:Below w.heap.size w (w.alloc (aJ #[Z7 aD nD cD,Z7 aU nU cU,Z8 aI k0,Z7 aT nT cT] 33)):=Cg.alloc Cl _;have HM1:AO (MB lo w #[Z7 aD nD cD,Z7 aU nU cU,Z8 aI k0,Z7 aT nT cT] (w.alloc (aJ #[Z7 aD nD cD,Z7 aU nU cU,Z8 aI k0,Z7 aT nT cT] 33))):=⟨b1.mono hlo,AX w _⟩
 have HO:AO (FK (w.alloc (aJ #[Z7 aD nD cD,Z7 aU nU cU,Z8 aI k0,Z7 aT nT cT] 33)) aD nD/\FK (w.alloc (aJ #[Z7 aD nD cD,Z7 aU nU cU,Z8 aI k0,Z7 aT nT cT] 33)) aU nU/\FK (w.alloc (aJ #[Z7 aD nD cD,Z7 aU nU cU,Z8 aI k0,Z7 aT nT cT] 33)) aT (nT*2)):=⟨oD.below b1,oU.below b1,oT.below b1⟩
 have HL:AO (EY lo w aD/\EY lo w aU/\EY lo w aT):=⟨lD,lU,lT⟩
 have HP:AO (Gq aD aU/\Gq aD aT/\Gq aU aT):=⟨dU,dT,uT⟩
 have HN1:AO (∀ j,j<w.heap.size->(w.alloc (aJ #[Z7 aD nD cD,Z7 aU nU cU,Z8 aI k0,Z7 aT nT cT] 33)).heap[j]?=w.heap[j]?):=λj hj=>b1.block j hj
 clear oD oU oT lD lU lT dU dT uT b1;go_enter func15,ntmps15;go_wp2_with fail;refine(Ko aD nD cD k _ HO.o.1 hk AJ).mono ?_;rintro e w2 ⟨rfl,hA,hw⟩;generalize w.alloc (aJ #[Z7 aD nD cD,Z7 aU nU cU,Z8 aI k0,Z7 aT nT cT] 33)=w1 at *;have HM2:AO (MB lo w #[Z7 aD nD cD,Z7 aU nU cU,Z8 aI k0,Z7 aT nT cT] w2):=HM1.o.wro HL.o.1 hw;have HO2:AO (FK w2 aU nU/\FK w2 aT (nT*2)):=⟨HO.o.2.1.keepT (by rw[hw.size];exact Ac _) (hw.kept HP.o.1),HO.o.2.2.keepT (by rw[hw.size];exact Ac _) (hw.kept HP.o.2.1)⟩
 have HA2:AO (At aI w2 aD (GU k nD)):=hA;have HN2:AO (∀ j,j<w.heap.size->E8 j aD->w2.heap[j]?=w.heap[j]?):=λj hj h1=>(hw.block j (λad e=>h1 ad e)).trans (HN1.o j hj)
 have x1:w2.cell? ⟨w.heap.size,1,aA⟩=aE (Z7 aU nU cU):=by rw[AA HM2.o.box 1];rfl
 clear hA hw HM1 HO;go_wp2_with fail;refine(Ko aU nU cU (k+nD) _ HO2.o.1 AJ AJ).mono ?_;rintro e w3 ⟨rfl,hA,hw⟩;have HM3:AO (MB lo w #[Z7 aD nD cD,Z7 aU nU cU,Z8 aI k0,Z7 aT nT cT] w3):=HM2.o.wro HL.o.2.1 hw;have HO3:AO (FK w3 aT (nT*2)):=HO2.o.2.keepT (by rw[hw.size];exact Ac _) (hw.kept HP.o.2.2);have HA3:AO (At aI w3 aD (GU k nD)/\At aI w3 aU (GU (k+nD) nU)):=⟨HA2.o.keepT (by rw[hw.size];exact Ac _) (hw.kept (λx y hx hy=>(HP.o.1 y x hy hx).symm)),hA⟩
 have HN3:AO (∀ j,j<w.heap.size->E8 j aD->E8 j aU->w3.heap[j]?=w.heap[j]?):=λj hj h1 h2=>(hw.block j (λad e=>h2 ad e)).trans (HN2.o j hj h1)
 have x3:w3.cell? ⟨w.heap.size,3,aA⟩=aE (Z7 aT nT cT):=by rw[AA HM3.o.box 3];rfl
 clear hA hw HM2 HO2 HA2 x1;go_wp2_with fail;refine(QY aT nT cT (k+nD+nU) _ HO3.o AJ AJ).mono ?_;rintro e w4 ⟨rfl,hA,hw⟩;have HM4:AO (Below lo w w4):=(HM3.o.wro HL.o.2.2 hw).below;have HN4:AO (∀ j,j<w.heap.size->E8 j aD->E8 j aU->E8 j aT->w4.heap[j]?=w.heap[j]?):=λj hj h1 h2 h3=>(hw.block j (λad e=>h3 ad e)).trans (HN3.o j hj h1 h2)
 have HA4:AO (At aI w4 aD (GU k nD)/\At aI w4 aU (GU (k+nD) nU)/\At aI w4 aT (GU (k+nD+nU) (nT*2))):=⟨HA3.o.1.keepT (by rw[hw.size];exact Ac _) (hw.kept (λx y hx hy=>(HP.o.2.1 y x hy hx).symm)),HA3.o.2.keepT (by rw[hw.size];exact Ac _) (hw.kept (λx y hx hy=>(HP.o.2.2 y x hy hx).symm)),hA⟩
 clear hA hw HM3 HO3 HA3 x3;go_wp2
 go_ret
 exact⟨rfl,HA4.o.1,HA4.o.2.1,HA4.o.2.2,HM4.o,HN4.o⟩
theorem Qa (aD aU aT:Option Addr) (nD cD nU cU nT cT:Nat) (k0 k:Int) (w:aC)
  (hD:At aI w aD (GU k nD)) (hU:At aI w aU (GU (k+nD) nU)) (hT:At aI w aT (GU (k+nD+nU) (nT*2))) (hk:0<=k) (hk':k+nD+nU+nT*2<=1099511627776) :
  Calls tP 37 #[aH #[Z7 aD nD cD,Z7 aU nU cU,Z8 aI k0,Z7 aT nT cT],Z8 aI k] w λe w'=>e=aK (Z8 aI (k+nD+nU+nT*2))/\Below w.heap.size w w':=by
 have b1:Below w.heap.size w (w.alloc (aJ #[Z7 aD nD cD,Z7 aU nU cU,Z8 aI k0,Z7 aT nT cT] 33)):=Cg.alloc Cl _;have HB:AO (Below w.heap.size w (w.alloc (aJ #[Z7 aD nD cD,Z7 aU nU cU,Z8 aI k0,Z7 aT nT cT] 33))):=b1;have HA:AO (At aI (w.alloc (aJ #[Z7 aD nD cD,Z7 aU nU cU,Z8 aI k0,Z7 aT nT cT] 33)) aD (GU k nD)/\At aI (w.alloc (aJ #[Z7 aD nD cD,Z7 aU nU cU,Z8 aI k0,Z7 aT nT cT] 33)) aU (GU (k+nD) nU)/\At aI (w.alloc (aJ #[Z7 aD nD cD,Z7 aU nU cU,Z8 aI k0,Z7 aT nT cT] 33)) aT (GU (k+nD+nU) (nT*2))):=⟨hD.below b1,hU.below b1,hT.below b1⟩
 have g1:¬ (k+(nD:Int)<0):=AJ
 have g2:¬ (k+(nD:Int)+nU<0):=AJ
 have g3:¬ (k+(nD:Int)+nU+nT*2<0):=AJ
 clear hD hU hT b1;go_enter func37,ntmps37;go_wp2_with fail;refine(Kp aD nD cD k _ HA.o.1 hk AJ).mono ?_;rintro e w2 ⟨rfl,rfl⟩;go_wp2_with fail;refine(Kp aU nU cU (k+nD) _ HA.o.2.1 AJ AJ).mono ?_;rintro e w3 ⟨rfl,rfl⟩;go_wp2_with fail;refine(QZ aT nT cT (k+nD+nU) _ HA.o.2.2 AJ AJ).mono ?_;rintro e w4 ⟨rfl,rfl⟩;go_wp2
 go_ret
 exact⟨rfl,HB.o⟩
def uC (zs:List Int):Array aB:=(zs.map (Value.int Z9)).toArray
theorem PG (xs:List Int):(uC xs).size=xs.length:=by simp[uC]
theorem DZ.u8 {w:aC} {g:Nat} {t:TypeId} {xs:List Int} (h:DZ w g t (uC xs)):At Z9 w (aE ⟨g,0,aA⟩) xs:=
 .inr ⟨g,0,rfl,h.lt,λi hi=>by rw[Aq,AA h i];simp[uC,hi,List.getD]⟩
theorem My (a:Option Addr) (n cap:Nat) (zs:List Int) (w:aC) (hn:zs.length=n) (hm:n<=1048576) (ha:At Z9 w a zs) :
  Calls tP 8 #[Z7 a n cap] w λe w'=>e=aK (Z7 (aE ⟨w.heap.size,0,aA⟩) n n)/\DZ w' w.heap.size 5 (uC zs)/\Below w.heap.size w w':=
 (Tu a n cap zs w hn hm ha).mono (λe w' ⟨h1,h2,h3⟩=>⟨h1,Q0 h2,h3⟩)
theorem Sq (a:Option Addr) (n cap:Nat) (left:Int) (w:aC) (h0:0<=left) (h1:left<=1048576) (hn:n<=9223372036854775807) :
  Calls tP 22 #[Z7 a n cap,Z8 aI left] w λe w'=>e=aK (Z8 aI (Hd left n))/\w'=w:=Tv a n cap left w h0 h1 hn
theorem Sr (aY:Option Addr) (nY cY:Nat) (Y:List Int) (kind now N:Int) (w:aC) (hY:Y.length=nY) (mY:nY<=1048576) (AY:At Z9 w aY Y) :
  Calls tP 9 #[aH #[Z8 aI kind,Z7 aY nY cY,Z8 aI now,Z8 aI N]] w λe w'=>∃ gY,e=aK (aH #[Z8 aI kind,Z7 (aE ⟨gY,0,aA⟩) nY nY,Z8 aI now,Z8 aI N])/\w.heap.size<=gY/\DZ w' gY 5 (uC Y)/\Below w.heap.size w w':=by
 have HE0:AO (CE w 28 39 #[Z8 aI kind,Z7 aY nY cY,Z8 aI now,Z8 aI N] CY #[Z8 aI kind,Z7 aA 0 0,Z8 aI 0,Z8 aI 0] (((w.alloc (aJ #[Z8 aI kind,Z7 aY nY cY,Z8 aI now,Z8 aI N] 28)).alloc (aJ CY 39)).alloc (aJ #[Z8 aI kind,Z7 aA 0 0,Z8 aI 0,Z8 aI 0] 39))):=CE.start _ _ _ _ _ _;have HAY:AO (At Z9 w aY Y):=AY;have HLY:AO (Y.length=nY):=hY;clear AY hY;go_enter func9,ntmps9;go_wp2_with fail;generalize (((w.alloc (aJ #[Z8 aI kind,Z7 aY nY cY,Z8 aI now,Z8 aI N] 28)).alloc (aJ CY 39)).alloc (aJ #[Z8 aI kind,Z7 aA 0 0,Z8 aI 0,Z8 aI 0] 39))=w0 at *;refine(My aY nY cY Y _ HLY.o mY (HAY.o.below HE0.o.below)).mono ?_;rintro e u0 ⟨rfl,hRY,hb⟩;have HF0:AO (CE w 28 39 #[Z8 aI kind,Z7 aY nY cY,Z8 aI now,Z8 aI N] CY #[Z8 aI kind,Z7 aA 0 0,Z8 aI 0,Z8 aI 0] u0):=HE0.o.call hb;have lt0:w.heap.size+1+1<w0.heap.size:=HE0.o.lt;clear hb;have oY:w.heap.size<=w0.heap.size:=AJ
 have VY:w.heap.size+1+1<w0.heap.size:=lt0;clear HE0;generalize w0.heap.size=gY at *;have hw:Wr (w.heap.size+1+1) u0 (((u0.setCell ⟨w.heap.size+1+1,1,aA⟩ (Z7 (aE ⟨gY,0,aA⟩) nY nY)).setCell ⟨w.heap.size+1+1,2,aA⟩ (Z8 aI now)).setCell ⟨w.heap.size+1+1,3,aA⟩ (Z8 aI N)):=((((Wr.refl _ _).setCell _ _).setCell _ _).setCell _ _)
 have HE1:AO (CE w 28 39 #[Z8 aI kind,Z7 aY nY cY,Z8 aI now,Z8 aI N] CY #[Z8 aI kind,Z7 (aE ⟨gY,0,aA⟩) nY nY,Z8 aI now,Z8 aI N] (((u0.setCell ⟨w.heap.size+1+1,1,aA⟩ (Z7 (aE ⟨gY,0,aA⟩) nY nY)).setCell ⟨w.heap.size+1+1,2,aA⟩ (Z8 aI now)).setCell ⟨w.heap.size+1+1,3,aA⟩ (Z8 aI N))):=(((HF0.o.put 1 _).put 2 _).put 3 _)
 have HRY:AO (DZ (((u0.setCell ⟨w.heap.size+1+1,1,aA⟩ (Z7 (aE ⟨gY,0,aA⟩) nY nY)).setCell ⟨w.heap.size+1+1,2,aA⟩ (Z8 aI now)).setCell ⟨w.heap.size+1+1,3,aA⟩ (Z8 aI N)) gY 5 (uC Y)):=hRY.wr hw VY;have v1:u0.cell? ⟨w.heap.size+1+1,1,aA⟩=aE (Z7 aA 0 0):=by rw[AA HF0.o.var 1];rfl
 have f1:=Ar u0 (w.heap.size+1+1) 1 _ _ HF0.o.var;have v2:u0.cell? ⟨w.heap.size+1+1,2,aA⟩=aE (Z8 aI 0):=by rw[AA HF0.o.var 2];rfl
 have f2:=Ar u0 (w.heap.size+1+1) 2 _ _ HF0.o.var;have v3:u0.cell? ⟨w.heap.size+1+1,3,aA⟩=aE (Z8 aI 0):=by rw[AA HF0.o.var 3];rfl
 have f3:=Ar u0 (w.heap.size+1+1) 3 _ _ HF0.o.var;have x2:u0.cell? ⟨w.heap.size,2,aA⟩=aE (Z8 aI now):=by rw[AA HF0.o.box 2];rfl
 have x3:u0.cell? ⟨w.heap.size,3,aA⟩=aE (Z8 aI N):=by rw[AA HF0.o.box 3];rfl
 clear hw HF0 hRY;have HSZ:AO ((tP.info? 39).map (·.size)=aE 4):=by show _=_;kernel_rfl
 have HVR:AO ((((u0.setCell ⟨w.heap.size+1+1,1,aA⟩ (Z7 (aE ⟨gY,0,aA⟩) nY nY)).setCell ⟨w.heap.size+1+1,2,aA⟩ (Z8 aI now)).setCell ⟨w.heap.size+1+1,3,aA⟩ (Z8 aI N)).heap[w.heap.size+1+1]?=aE (aJ #[Z8 aI kind,Z7 (aE ⟨gY,0,aA⟩) nY nY,Z8 aI now,Z8 aI N] 39 (0,0))):=HE1.o.var;have HRR:AO ((((u0.setCell ⟨w.heap.size+1+1,1,aA⟩ (Z7 (aE ⟨gY,0,aA⟩) nY nY)).setCell ⟨w.heap.size+1+1,2,aA⟩ (Z8 aI now)).setCell ⟨w.heap.size+1+1,3,aA⟩ (Z8 aI N)).heap[w.heap.size+1]?=aE (aJ CY 39 (0,0))):=HE1.o.res
 go_upto_region 6 with fail
 generalize (((u0.setCell ⟨w.heap.size+1+1,1,aA⟩ (Z7 (aE ⟨gY,0,aA⟩) nY nY)).setCell ⟨w.heap.size+1+1,2,aA⟩ (Z8 aI now)).setCell ⟨w.heap.size+1+1,3,aA⟩ (Z8 aI N))=wz at *;clear v1 f1 v2 f2 v3 f3 x2 x3;go_wp2_with (first
  |(refine Ae rfl 39 (aM 3) rfl (w.heap.size+1+1) rfl 39 _ (0,0) _ HVR.o underlying39 rfl HSZ.o ?_)
  |(refine AE 39 (aM 2) (aM 17) (w.heap.size+1) #[Z8 aI kind,Z7 (aE ⟨gY,0,aA⟩) nY nY,Z8 aI now,Z8 aI N] 39 HRR.o HSZ.o rfl (by simp[Value.oneCell']) ?_)
  |fail)
 refine Ab (v:=aH #[Z8 aI kind,Z7 (aE ⟨gY,0,aA⟩) nY nY,Z8 aI now,Z8 aI N]) (Ah rfl _ _ (w.heap.size+1) 39 _ (0,0) _ rfl (AB HRR.o) underlying39 rfl HSZ.o) rfl ?_;have hwz:Wr (w.heap.size+1) wz (wz.setRow (w.heap.size+1) #[Z8 aI kind,Z7 (aE ⟨gY,0,aA⟩) nY nY,Z8 aI now,Z8 aI N]):=Wr.setRow _ _ _;exact⟨gY,rfl,AJ,HRY.o.wr hwz AJ,HE1.o.below.trans (hwz.below AJ)⟩
theorem Ss (aY bY:Option Addr) (nY cY dY:Nat) (Y:List Int) (kind now N:Int) (w:aC) (hY:Y.length=nY) (mY:nY<=1048576) (AY:At Z9 w aY Y) (BY:At Z9 w bY Y) :
  Calls tP 14 #[aH #[Z8 aI kind,Z7 aY nY cY,Z8 aI now,Z8 aI N],aH #[Z8 aI kind,Z7 bY nY dY,Z8 aI now,Z8 aI N]] w λe w'=>e=aK (.bool true)/\Below w.heap.size w w':=by
 have HE0:AO (BE w 39 #[Z8 aI kind,Z7 aY nY cY,Z8 aI now,Z8 aI N] #[Z8 aI kind,Z7 bY nY dY,Z8 aI now,Z8 aI N] ((w.alloc (aJ #[Z8 aI kind,Z7 aY nY cY,Z8 aI now,Z8 aI N] 39)).alloc (aJ #[Z8 aI kind,Z7 bY nY dY,Z8 aI now,Z8 aI N] 39))):=BE.start _ _ _ _;have HAY:AO (At Z9 w aY Y/\At Z9 w bY Y):=⟨AY,BY⟩
 have HLY:AO (Y.length=nY):=hY;clear AY BY hY;have nekind:(kind != kind)=false:=AL
 have nenow:(now != now)=false:=AL
 have neN:(N != N)=false:=AL
 go_enter func14,ntmps14;go_wp2_with fail;generalize ((w.alloc (aJ #[Z8 aI kind,Z7 aY nY cY,Z8 aI now,Z8 aI N] 39)).alloc (aJ #[Z8 aI kind,Z7 bY nY dY,Z8 aI now,Z8 aI N] 39))=w0 at *;refine(OU _ _ nY _ _ Y _ HLY.o mY (HAY.o.1.below HE0.o.below) (HAY.o.2.below HE0.o.below)).mono ?_;rintro e w1 ⟨rfl,q0,hq⟩;have hb:Below w0.heap.size w0 w1:=by rw[hq];exact EG Cg _
 clear hq;have HE1:AO (BE w 39 #[Z8 aI kind,Z7 aY nY cY,Z8 aI now,Z8 aI N] #[Z8 aI kind,Z7 bY nY dY,Z8 aI now,Z8 aI N] w1):=HE0.o.call hb;clear hb HE0;have x2:w1.cell? ⟨w.heap.size,2,aA⟩=aE (Z8 aI now):=by rw[AA HE1.o.b0 2];rfl
 have y2:w1.cell? ⟨w.heap.size+1,2,aA⟩=aE (Z8 aI now):=by rw[AA HE1.o.b1 2];rfl
 have x3:w1.cell? ⟨w.heap.size,3,aA⟩=aE (Z8 aI N):=by rw[AA HE1.o.b0 3];rfl
 have y3:w1.cell? ⟨w.heap.size+1,3,aA⟩=aE (Z8 aI N):=by rw[AA HE1.o.b1 3];rfl
 have HF:AO (Below w.heap.size w w1):=HE1.o.below;clear HE1;go_wp2
 go_ret
 exact⟨rfl,HF.o⟩
theorem St (aY:Option Addr) (nY cY:Nat) (kind now N:Int) (left:Int) (w:aC) (h0:0<=left) (h1:left<=1048576) (mY:nY<=9223372036854775807) :
  Calls tP 5 #[aH #[Z8 aI kind,Z7 aY nY cY,Z8 aI now,Z8 aI N],Z8 aI left] w λe w'=>e=aK (Z8 aI (Hd left (nY)))/\Below w.heap.size w w':=by
 have HZ:AO (∀ left n,Hd left n=if left<n then -1 else left-n):=λ_ _=>rfl
 have HE0:AO (OE w 28 #[Z8 aI kind,Z7 aY nY cY,Z8 aI now,Z8 aI N] (w.alloc (aJ #[Z8 aI kind,Z7 aY nY cY,Z8 aI now,Z8 aI N] 28))):=OE.start _ _ _;go_enter func5,ntmps5;go_wp2_with fail;generalize (w.alloc (aJ #[Z8 aI kind,Z7 aY nY cY,Z8 aI now,Z8 aI N] 28))=w0 at *;refine(Sq _ _ _ _ _ h0 h1 mY).mono ?_;rintro e w1 ⟨rfl,rfl⟩;have HE1:AO (OE w 28 #[Z8 aI kind,Z7 aY nY cY,Z8 aI now,Z8 aI N] w1):=HE0.o;clear HE0;by_cases k0:left<((nY:Nat):Int)
 ·have r:Hd (left) (nY)=-1:=by rw[HZ.o,AP k0]
  have HR:AO (Hd left (nY)=-1):=by show _=_;rw[HZ.o,AP AJ]
  have HF:AO (Below w.heap.size w w1):=HE1.o.below;rw[r];clear r k0 HE1;go_wp2
  go_ret
  exact⟨DS HR.o.symm,HF.o⟩
 have r:Hd (left) (nY)=left-((nY:Nat):Int):=by rw[HZ.o,AQ k0]
 rw[r];clear r;have q0:¬ (left-((nY:Nat):Int)<0):=AJ
 have z0:0<=left-((nY:Nat):Int):=AJ
 have zz0:left-((nY:Nat):Int)<=1048576:=AJ
 generalize el0:left-((nY:Nat):Int)=l0 at *;have HQ0:AO (left-((nY:Nat):Int)=l0):=el0;clear el0;have HR:AO (Hd left (nY)=l0):=by show _=_;rw[HZ.o];have:=HQ0.o;rw[AQ AJ];omega
 have HF:AO (Below w.heap.size w w1):=HE1.o.below;clear HE1;go_wp2
 go_ret
 exact⟨DS HR.o.symm,HF.o⟩
theorem Su (a:Option Addr) (n c:Nat) (kind now N k:Int) (w:aC) (ho:FK w a n) (hk:0<=k) (hk':k+n<=1099511627776) :
  Calls tP 17 #[aH #[Z8 aI kind,Z7 a n c,Z8 aI now,Z8 aI N],Z8 aI k] w λe w'=>e=aK (Z8 aI (k+n))/\w.heap.size<=w'.heap.size/\w'.os=w.os/\w'.tape=w.tape/\w'.output=w.output/\∀ j,j<w.heap.size->E8 j a->w'.heap[j]?=w.heap[j]?:=by
 have b1:Below w.heap.size w (w.alloc (aJ #[Z8 aI kind,Z7 a n c,Z8 aI now,Z8 aI N] 39)):=Cg.alloc Cl _;have HC:=Kl a n c k _ (ho.below b1) hk hk';have HB1:AO (Below w.heap.size w (w.alloc (aJ #[Z8 aI kind,Z7 a n c,Z8 aI now,Z8 aI N] 39))):=b1;clear ho b1;go_enter func17,ntmps17;go_wp2_with fail;refine HC.mono ?_;rintro e w2 ⟨rfl,-,hw⟩;have HF:AO (w.heap.size<=w2.heap.size/\w2.os=w.os/\w2.tape=w.tape/\w2.output=w.output/\∀ j,j<w.heap.size->E8 j a->w2.heap[j]?=w.heap[j]?):=
  ⟨by rw[hw.size];exact HB1.o.size,hw.os.trans HB1.o.os,hw.tape.trans HB1.o.tape,hw.output.trans HB1.o.output,λj hj hn=>(hw.block j (λad e=>hn ad e)).trans (HB1.o.block j hj)⟩
 clear hw HC HB1;go_wp2
 go_ret
 exact⟨rfl,HF.o⟩
theorem Kr (xs:List Int) (a:Nat):Dk (Df xs a):=Q7 _
open Classical in
noncomputable def I8 (D U:List Int) (k:Int) (T:List Int) (n:Nat) (kind:Int) (a b:Nat):Yt:=if FL D U k T n=true then Km D U k T n kind a b else IB
theorem Lc {D U:List Int} {k:Int} {T:List Int} {n:Nat} (h:FL D U k T n=true):WI D U k T n:=by
 unfold FL at h;simpa using h
theorem Iow.sat {B:Nat} {w:aC} {a:Option Addr} {n c:Nat} {xs:List Int} (h:Iow B w (Z7 a n c) xs):NG w a xs/\xs.length=n/\EY B w a:=by
 rcases h.2 with⟨h',h0⟩|⟨g,cap,cur,h',hb,hh,hc,hm,hs,ht⟩
 ·cases h';have:xs=[]:=BP h0;exact⟨.inl this,h0,λ_ e=>(by cases e)⟩
 ·cases h';have hlt:=(AR.1 hh).1;refine⟨.inr ⟨g,0,rfl,hlt,λi hi=>?_⟩,rfl,λad e=>(by cases e;exact⟨hb,hlt⟩)⟩;rw[Aq];refine⟨?_,Ar _ _ _ _ _ hh⟩;have:=World.ownsRow.cellAt h i AJ;rw[this];simp[hi]
theorem Du.sat {B:Nat} {w:aC} {a:Option Addr} {n c:Nat} {T:List Int} (h:Du B w (Z7 a n c) T n):NG w a T/\T.length=n*2/\EY B w a:=by
 obtain⟨hl,⟨h1,h2⟩|⟨t,o,c',h1,hB,ht,hc,hm,hx⟩⟩:=h
 ·cases h1;exact⟨.inl (BP AJ),hl,λ_ e=>(by cases e)⟩
 ·cases h1;exact⟨.inr ⟨t,o,rfl,ht,λi hi=>hx.1 i AJ⟩,hl,λad e=>(by cases e;exact⟨hB,ht⟩)⟩
structure IX (w:aC) (fr:Array aB) (wr:aC):Prop where
 below:Below w.heap.size w wr
 fb:wr.heap[w.heap.size+1]?=aE (aJ fr 56 (0,0))
 rb:wr.heap[w.heap.size+2]?=aE (aJ CZ 60 (0,0))
theorem IX.start (w:aC) (sc fr:Array aB):IX w fr (((w.alloc (aJ sc 33)).alloc (aJ fr 56)).alloc (aJ CZ 60)):=by
 refine⟨((Cg.alloc Cl _).alloc AL _).alloc (by simp;omega) _,?_,?_⟩
 ·rw[A5 _ _ (w.heap.size+1) AL];have:=AX (w.alloc (aJ sc 33)) (aJ fr 56)
  rwa [show(w.alloc (aJ sc 33)).heap.size=w.heap.size+1 by simp] at this
 ·have:=AX ((w.alloc (aJ sc 33)).alloc (aJ fr 56)) (aJ CZ 60)
  rwa [show((w.alloc (aJ sc 33)).alloc (aJ fr 56)).heap.size=w.heap.size+2 by simp] at this
theorem Qb (tS tE:TypeId) (z:aB) (size bytes:Nat) (hinfo:(tP.info? tE).map (λi=>(i.zero,i.size,i.bytes))=aE (aE z,size,bytes)) (hu:tP.underlying tS=aE (.slice tE))
  (w:aC) (ty:TypeId) (v:Addr) (x:Option Addr) (c:Nat):(Builtin.append_ #[tS,tS] ty #[Z7 (aE v) 0 0,Z7 x 0 c]).run tP w=.ok (Z7 (aE v) 0 0) w:=by
 obtain⟨i0,hi,hz0,hz1,hz2⟩:=Bh hinfo;have hf:=λad=>run_firstCells_some (P:=tP) w i0.size 0 ad 0 c [] AL (λj v hv=>by simp at hv)
 have hs:∀ p,(storeCells p []).run tP w=.ok () w:=λ_=>rfl
 cases x with
 |none=>simp[Builtin.append_,run_underlying hu,sizeOf,typeInfo,zeroValue,hi,hz0,Builtin.lenOf,run_firstCells_none,hs]
 |some ad=>simp[Builtin.append_,run_underlying hu,sizeOf,typeInfo,zeroValue,hi,hz0,Builtin.lenOf,hf,hs]
def Ip (lo:Nat) (tE:TypeId) (w:aC) (v:aB):Prop:=∃ g,v=Z7 (aE ⟨g,0,aA⟩) 0 0/\lo<=g/\w.heap[g]?=aE (aJ #[] tE (0,0))
theorem Ip.below {lo:Nat} {tE:TypeId} {w w':aC} {v:aB} (h:Ip lo tE w v) (b:Below w.heap.size w w'):Ip lo tE w' v:=by
 obtain⟨g,e,h1,h2⟩:=h;exact⟨g,e,h1,by rw[b.block g (AR.1 h2).1];exact h2⟩
theorem Ip.wr {lo R:Nat} {tE:TypeId} {w w':aC} {v:aB} (h:Ip lo tE w v) (hw:Wr R w w') (hR:R<lo):Ip lo tE w' v:=by
 obtain⟨g,e,h1,h2⟩:=h;exact⟨g,e,h1,by rw[hw.block g AJ];exact h2⟩
theorem Ip.new {lo:Nat} (tE:TypeId) (w:aC) (h:lo<=w.heap.size):Ip lo tE (w.alloc (aJ #[] tE)) (Z7 (aE ⟨w.heap.size,0,aA⟩) 0 0):=⟨_,rfl,h,AX w _⟩
theorem Ip.owns {lo:Nat} {tE:TypeId} {w:aC} {g:Nat} (size:Nat) (h1:lo<=g) (h2:w.heap[g]?=aE (aJ #[] tE (0,0))):w.ownsRow lo tE size (Z7 (aE ⟨g,0,aA⟩) 0 0) 0 []:=
 ⟨AL,.inr ⟨g,0,#[],rfl,h1,h2,Ac _,by simp[maxLen],AL,AL⟩⟩
theorem Hi (tS tE:TypeId) (z:aB) (size bytes:Nat) (hinfo:(tP.info? tE).map (λi=>(i.zero,i.size,i.bytes))=aE (aE z,size,bytes)) (hu:tP.underlying tS=aE (.slice tE)) (hzs:z.cells.size=size) (hsz:0<size) (hby:bytes<=64)
  (w:aC) {o:Oper} {a:Act} {K:Act->aC->Prop} {Q:Exit->Act->aC->Prop} (s x:Operand) (hop:o.op=Op.call { callee:=Callee.builtin Builtin.append,args:=#[s,x],argTypes:=#[tS,tS] })
  (S:Nat) (v:aB) (hs:a.eval s=v) (hem:Ip S tE w v) (xa:Option Addr) (n c:Nat) (zs:List Int) (hx:a.eval x=Z7 xa n c) (hl:zs.length=n*size) (hA:At aI w xa zs) (hb:n<=1048576) (hSw:S<=w.heap.size)
  (h:∀ v' w',w'.ownsRow S tE size v' n (zs.map (Value.int aI))->Below w.heap.size w w'->K (a.put o.dst v') w'):o.wp tP a w K Q:=by
 obtain⟨B,rfl,hB,hrow⟩:=hem;have hown:=Ip.owns size hB hrow;by_cases h0:n=0
 ·subst h0;have hz:zs=[]:=BP AJ;have hk:=h (Z7 (aE ⟨B,0,aA⟩) 0 0) w (by rw[hz];exact hown) Cg;have hr:=Qb tS tE z size bytes hinfo hu w o.type ⟨B,0,aA⟩ xa c;unfold Oper.wp execOp;simp only[hop,resolve,invoke,builtin,Sem.run_bind,Sem.run_pure,Result.andThen_ok,List.map_toArray,List.map_cons,List.map_nil,hs,hx,hr];exact hk
 ·have hz0':0<zs.length:=by rw[hl];exact Nat.mul_pos AJ hsz
  obtain⟨b,off,rfl,hbl,hc⟩:=hA.get hz0';obtain⟨i0,hi,hz0,hz1,hz2⟩:=Bh hinfo;have hnews:∀ j u,(zs.map (Value.int aI))[j]?=aE u->w.cell? ((⟨b,off,aA⟩:Addr).add j)=aE u:=by
   intro j u hu;have hj:j<zs.length:=by have:=(Ao.1 hu).1;simpa using this
   rw[Az,hc j hj];simp[hj] at hu;simp[hj,hu]
  have hle:n*bytes<=1048576*64:=Nat.mul_le_mul hb hby;have hfit:Builtin.nextslicecap (0+n) 0*i0.bytes<=281474976710656:=by rw[Aq,nextslicecap_zero AJ,hz2];omega
  have hg:=run_append_grow (P:=tP) w tS o.type tE i0 z hu hi hz0 ⟨B,0,aA⟩ 0 0 [] AL (λj v hv=>by simp at hv) ⟨b,off,aA⟩ n c (zs.map (Value.int aI)) (by simp[hz1,hl]) hnews AJ AJ hfit;obtain⟨v',w',hr,h2,h3,h4⟩:=run_append_own (P:=tP) w S tS o.type tE i0 z size bytes hu hi hz0 hz1 hz2 hzs hsz _ 0 [] hown ⟨b,off,aA⟩ n c (zs.map (Value.int aI)) (by simp[hl]) hnews (Aw _ _) (by unfold maxLen;omega) (by rw[Aq];omega) hSw;have he:=hr.symm.trans hg;injection he with e1 e2
  have hBl:Below w.heap.size w w':=by rw[e2];exact Cg.drew.alloc Cl _
  have hk:=h v' w' (by simpa using h2) hBl;unfold Oper.wp execOp;simp only[hop,resolve,invoke,builtin,Sem.run_bind,Sem.run_pure,Result.andThen_ok,List.map_toArray,List.map_cons,List.map_nil,hs,hx,hr];exact hk
theorem Mz (tS tE:TypeId) (z:aB) (size bytes:Nat) (hinfo:(tP.info? tE).map (λi=>(i.zero,i.size,i.bytes))=aE (aE z,size,bytes)) (hu:tP.underlying tS=aE (.slice tE)) (hzs:z.cells.size=size) (hsz:0<size) (hby:bytes<=64)
  (w:aC) {ops:Array Oper} {rest:List Oper} {o:Oper} {a:Act} {Q:Exit->Act->aC->Prop} (hgd:o.guard=aA) (s x:Operand) (hop:o.op=Op.call { callee:=Callee.builtin Builtin.append,args:=#[s,x],argTypes:=#[tS,tS] })
  (S:Nat) (v:aB) (hs:a.eval s=v) (hem:Ip S tE w v) (xa:Option Addr) (n c:Nat) (zs:List Int) (hx:a.eval x=Z7 xa n c) (hl:zs.length=n*size) (hA:At aI w xa zs) (hb:n<=1048576) (hSw:S<=w.heap.size)
  (h:∀ v' w',w'.ownsRow S tE size v' n (zs.map (Value.int aI))->Below w.heap.size w w'->wpList tP ops Q rest (a.put o.dst v') w'):wpList tP ops Q (o::rest) a w:=
 wpList_plain hgd λ_ hK=>Hi tS tE z size bytes hinfo hu hzs hsz hby w s x hop S v hs hem xa n c zs hx hl hA hb hSw λv' w' h1 h2=>hK _ _ (h v' w' h1 h2)
theorem C7.keep {B:Nat} {w w':aC} {v:aB} {T:List Int} {n:Nat} (h:C7 B w v T n) (hb:∀ k,B<=k->k<w.heap.size->w'.heap[k]?=w.heap[k]?):C7 B w' v T n:=by
 refine⟨h.1,?_⟩;rcases h.2 with h'|⟨g,c,cur,h1,h2,h3,h4⟩
 ·exact .inl h'
 ·exact .inr ⟨g,c,cur,h1,h2,by rw[hb g h2 (AR.1 h3).1];exact h3,h4⟩
theorem C7.below {B:Nat} {w w':aC} {v:aB} {T:List Int} {n:Nat} (h:C7 B w v T n) (b:Below w.heap.size w w'):C7 B w' v T n:=h.keep (λk _ hk=>b.block k hk)
theorem C7.wrk {B R:Nat} {w w':aC} {v:aB} {T:List Int} {n:Nat} (h:C7 B w v T n) (hw:Wr R w w') (hR:R<B):C7 B w' v T n:=h.keep (λk hk _=>hw.block k AJ)
theorem C7.wr {B R:Nat} {w w':aC} {v:aB} {T:List Int} {n:Nat} (h:C7 B w v T n) (hw:Wr R w w') (hR:R<B):C7 B w' v T n:=h.wrk hw hR
def F3 (lo:Nat) (k:Int) (D U T:List Int) (nT:Nat) (w:aC) (cs:Array aB):Prop:=
 ∃ aD nD cD aU nU cU aT cT,cs=#[Z7 aD nD cD,Z7 aU nU cU,Z8 aI k,Z7 aT nT cT]/\Iow lo w (Z7 aD nD cD) D/\Iow lo w (Z7 aU nU cU) U/\C7 lo w (Z7 aT nT cT) T nT
section
variable {lo lo' R:Nat} {k:Int} {D U T:List Int} {nT:Nat} {w w':aC} {cs:Array aB} {v:aB}
theorem F3.below (h:F3 lo k D U T nT w cs) (b:Below w.heap.size w w'):F3 lo k D U T nT w' cs:=by
 obtain⟨aD,nD,cD,aU,nU,cU,aT,cT,e,h1,h2,h3⟩:=h;exact⟨aD,nD,cD,aU,nU,cU,aT,cT,e,h1.below b,h2.below b,h3.below b⟩
theorem F3.mono (h:F3 lo k D U T nT w cs) (hl:lo'<=lo):F3 lo' k D U T nT w cs:=by
 obtain⟨aD,nD,cD,aU,nU,cU,aT,cT,e,h1,h2,h3⟩:=h;exact⟨aD,nD,cD,aU,nU,cU,aT,cT,e,h1.mono hl,h2.mono hl,C7.mono h3 hl⟩
def M0 (lo:Nat) (k:Int) (D U T:List Int) (nT:Nat) (w:aC) (v:aB):Prop:=∃ cs,v=aH cs/\F3 lo k D U T nT w cs
theorem M0.below (h:M0 lo k D U T nT w v) (b:Below w.heap.size w w'):M0 lo k D U T nT w' v:=by obtain⟨cs,e,h⟩:=h;exact⟨cs,e,h.below b⟩
theorem M0.wr (h:M0 lo k D U T nT w v) (hw:Wr R w w') (hR:R<lo):M0 lo k D U T nT w' v:=by
 obtain⟨cs,e,aD,nD,cD,aU,nU,cU,aT,cT,e2,h1,h2,h3⟩:=h;exact⟨cs,e,aD,nD,cD,aU,nU,cU,aT,cT,e2,h1.wr hw hR,h2.wr hw hR,h3.wr hw hR⟩
end
structure Zw (w wb:aC) (sc:Array aB):Prop where
 p1:w.heap.size<wb.heap.size
 p2:wb.heap[w.heap.size]?=aE (aJ sc 33 (0,0))
 p3:w.heap.size<=wb.heap.size
 p4:wb.heap.size<=w.heap.size+1
theorem Ld (aD aU aT:Option Addr) (nD cD nU cU nT cT:Nat) (D U:List Int) (k:Int) (T:List Int) (w:aC) (hD:D.length=nD) (hU:U.length=nU) (hT:T.length=nT*2) (mD:nD<=1048576) (mU:nU<=1048576) (mT:nT<=1048576)
  (haD:At aI w aD D) (haU:At aI w aU U) (haT:At aI w aT T) :
  Calls tP 24 #[aH #[Z7 aD nD cD,Z7 aU nU cU,Z8 aI k,Z7 aT nT cT]] w λe w'=>∃ cs,e=aK (aH cs)/\F3 w.heap.size k D U T nT w' cs/\Below w.heap.size w w':=by
 obtain⟨wb,hwb⟩:∃ wb,wb=w.alloc (aJ #[Z7 aD nD cD,Z7 aU nU cU,Z8 aI k,Z7 aT nT cT] 33):=⟨_,rfl⟩
 have HWB:AO (Zw w wb #[Z7 aD nD cD,Z7 aU nU cU,Z8 aI k,Z7 aT nT cT]):=⟨by rw[hwb];simp,by rw[hwb];exact AX w _,by rw[hwb];simp,by rw[hwb];simp⟩
 have HBW:AO (Below w.heap.size w wb):=by show Below _ _ _;rw[hwb];exact Cg.alloc Cl _
 have HAD:AO (At aI w aD D):=haD;have HAU:AO (At aI w aU U):=haU;have HAT:AO (At aI w aT T):=haT;have HLN:AO (D.length=nD/\U.length=nU/\T.length=nT*2):=⟨hD,hU,hT⟩
 have HSZ:AO ((tP.info? 33).map (·.size)=aE 4):=by show _=_;kernel_rfl
 have HW0:AO (Below wb.heap.size wb ((w.alloc (aJ #[Z7 aD nD cD,Z7 aU nU cU,Z8 aI k,Z7 aT nT cT] 33)).alloc (aJ CU 33)).drew):=by
  have h1:Below wb.heap.size wb (wb.alloc (aJ CU 33)):=Cg.alloc Cl _;rw[hwb] at h1 |-;exact⟨h1.os,h1.tape,h1.output,h1.size,h1.block⟩
 have HR0:AO (((w.alloc (aJ #[Z7 aD nD cD,Z7 aU nU cU,Z8 aI k,Z7 aT nT cT] 33)).alloc (aJ CU 33)).drew.heap[w.heap.size+1]?=aE (aJ CU 33 (0,0))):=by
  have:=AX (w.alloc (aJ #[Z7 aD nD cD,Z7 aU nU cU,Z8 aI k,Z7 aT nT cT] 33)) (aJ CU 33)
  rwa [show(w.alloc (aJ #[Z7 aD nD cD,Z7 aU nU cU,Z8 aI k,Z7 aT nT cT] 33)).heap.size=w.heap.size+1 by simp] at this
 clear haD haU haT hD hU hT hwb;go_enter func24,ntmps24;go_wp2_with fail;refine Ag AM ?_;refine Cn (λi a b=>if i=15 then Wr (w.heap.size+1) a b else Below a.heap.size a b) (frame:=(λ(a b c:aB)=>λ(t:Nat->aB)=>({ tmps:=List.toArray [a,b,c,t 0,t 1,t 2,t 3,t 4,t 5,t 6,t 7,t 8,t 9,t 10,t 11,t 12,t 13,t 14],defers:=[] }:Act)) _ _ _)
  (Ext:=λL u w'=>NE wb (w.heap.size+1) 15 33 CU (F3 (w.heap.size+2) k D U T nT) [] L u w') (Good:=λi L w' v=>if i=0 then Ip (w.heap.size+2) 2 w' v else if i=1 then v=aF (aE ⟨w.heap.size,0,aA⟩) else if i=2 then v=Z7 aD nD cD else if i=3 then Iow (w.heap.size+2) w' v D else if i=4 then Ip (w.heap.size+2) 2 w' v else if i=5 then v=aF (aE ⟨w.heap.size,1,aA⟩) else if i=6 then v=Z7 aU nU cU else if i=7 then Iow (w.heap.size+2) w' v U else if i=8 then v=aF (aE ⟨w.heap.size,2,aA⟩) else if i=9 then v=Z8 aI k else if i=10 then Ip (w.heap.size+2) 77 w' v else if i=11 then v=aF (aE ⟨w.heap.size,3,aA⟩) else if i=12 then v=Z7 aT nT cT else if i=13 then C7 (w.heap.size+2) w' v T nT else if i=14 then M0 (w.heap.size+2) k D U T nT w' v else if i=15 then L 15=true else True) ?hstab AM ?hop ?hdone _ _ ((λ(x0 x1 x2 x3 x4 x5 x6 x7 x8 x9 x10 x11 x12 x13 x14:aB)=>λ(i:Nat)=>if i=0 then x0 else if i=1 then x1 else if i=2 then x2 else if i=3 then x3 else if i=4 then x4 else if i=5 then x5 else if i=6 then x6 else if i=7 then x7 else if i=8 then x8 else if i=9 then x9 else if i=10 then x10 else if i=11 then x11 else if i=12 then x12 else if i=13 then x13 else if i=14 then x14 else undef) _ _ _ _ _ _ _ _ _ _ _ _ _ _ _) _ AL ?ext ?start AL
 case start=>intro i hi h;exact absurd h Et
 case ext=>exact NE.start ⟨HW0.o,λp _ hp=>absurd hp Et,λp _ q _ _ hp=>absurd hp Et⟩ (λ_=>J6) HR0.o
 case hstab=>
  intro j L w9 w' i v hM hij hLi h;by_cases h0:j=0
  ·subst h0;by_cases hl:i=15
   ·subst hl;simp at h hM |-;exact h.wr hM AJ
   ·rw[AQ hl] at hM;simp at h |-;exact h.below hM
  by_cases h3:j=3
  ·subst h3;by_cases hl:i=15
   ·subst hl;simp at h hM |-;exact h.wr hM AJ
   ·rw[AQ hl] at hM;simp at h |-;exact h.below hM
  by_cases h4:j=4
  ·subst h4;by_cases hl:i=15
   ·subst hl;simp at h hM |-;exact h.wr hM AJ
   ·rw[AQ hl] at hM;simp at h |-;exact h.below hM
  by_cases h7:j=7
  ·subst h7;by_cases hl:i=15
   ·subst hl;simp at h hM |-;exact h.wr hM AJ
   ·rw[AQ hl] at hM;simp at h |-;exact h.below hM
  by_cases h10:j=10
  ·subst h10;by_cases hl:i=15
   ·subst hl;simp at h hM |-;exact h.wr hM AJ
   ·rw[AQ hl] at hM;simp at h |-;exact h.below hM
  by_cases h13:j=13
  ·subst h13;by_cases hl:i=15
   ·subst hl;simp at h hM |-;exact h.wr hM AJ
   ·rw[AQ hl] at hM;simp at h |-;exact h.below hM
  by_cases h14:j=14
  ·subst h14;by_cases hl:i=15
   ·subst hl;simp at h hM |-;exact h.wr hM AJ
   ·rw[AQ hl] at hM;simp at h |-;exact h.below hM
  by_cases hl:j=15
  ·subst hl;simp at h |-;unfold Cf;simp[h]
  simp only[if_neg h0,if_neg h3,if_neg h4,if_neg h7,if_neg h10,if_neg h13,if_neg h14,if_neg hl] at h |-;exact h
 case hop=>
  intro i o L t w' ho hLi hx hdep K hK;have hi:i<16:=(AR.1 ho).1;obtain rfl|rfl|rfl|rfl|rfl|rfl|rfl|rfl|rfl|rfl|rfl|rfl|rfl|rfl|rfl|rfl:i=0\/i=1\/i=2\/i=3\/i=4\/i=5\/i=6\/i=7\/i=8\/i=9\/i=10\/i=11\/i=12\/i=13\/i=14\/i=15:=AJ
  all_goals(simp at ho;subst ho)
  ·clear hdep;have hsz:w.heap.size+2<=w'.heap.size:=AG hx.lt
   have bb:Below w'.heap.size w' (w'.alloc (aJ #[] 2)):=Cg.alloc Cl _;have hK':=hK (w'.alloc (aJ #[] 2)) (Z7 (aE ⟨w'.heap.size,0,aA⟩) 0 0) (by simpa using Ip.new 2 w' hsz) (hx.step (λ_ _ _ b h=>h.below b) 0 AK _ bb DY) (by rw[AQ AK];exact bb);clear hK bb;rw[AP AN];go_simp;simpa[Ce] using hK'
  ·clear hdep;have hK':=hK w' (aF (aE ⟨w.heap.size,0,aA⟩)) AL (hx.step (λ_ _ _ b h=>h.below b) 1 AK _ Cg DY) (by rw[AQ AK];exact Cg);clear hK;rw[AP AN];go_simp;simpa[Ce] using hK'
  ·have d1:t 1=aF (aE ⟨w.heap.size,0,aA⟩):=by simpa using(hdep ⟨1,aL⟩ AL rfl).2
   clear hdep;have cc:w'.cell? ⟨w.heap.size,0,aA⟩=aE (Z7 aD nD cD):=by rw[Ai (a:=⟨w.heap.size,0,aA⟩) (w:=wb) (hx.ax.below.block _ HWB.o.p1),AA HWB.o.p2 0];rfl
   have hK':=hK w' (Z7 aD nD cD) AL (hx.step (λ_ _ _ b h=>h.below b) 2 AK _ Cg DY) (by rw[AQ AK];exact Cg);clear hK;rw[AP AN];go_simp;simpa[Ce,d1] using hK'
  ·have f0:Ip (w.heap.size+2) 2 w' (t 0):=by simpa using(hdep ⟨0,aL⟩ AL rfl).2
   have d2:t 2=Z7 aD nD cD:=by simpa using(hdep ⟨2,aL⟩ AL rfl).2
   clear hdep;have hsz:w.heap.size+2<=w'.heap.size:=AG hx.lt
   have bw:Below w.heap.size w w':=HBW.o.trans (hx.ax.below.mono HWB.o.p3);have hK':∀ ww v,Iow (w.heap.size+2) ww v D->Below w'.heap.size w' ww->K _ ww:=λww v hv hb=>hK ww v (by simpa using hv) (hx.step (λ_ _ _ b h=>h.below b) 3 AK _ hb DY) (by rw[AQ AK];exact hb)
   clear hK;rw[AP AN];refine Hi 22 2 (Z8 aI 0) 1 8 Tryz.infoI64 underlying22 rfl AK AK w' (aM 3) (aM 5) rfl (w.heap.size+2) (t 0) rfl f0 aD nD cD D d2 (by rw[HLN.o.1,Bx]) (HAD.o.below bw) mD hsz ?_;intro v' ww h1 h2;have hK2:=hK' ww v' (by unfold Iow;rw[HLN.o.1];exact h1) h2;clear hK' h1 h2;simpa[Ce,Act.put] using hK2
  ·clear hdep;have hsz:w.heap.size+2<=w'.heap.size:=AG hx.lt
   have bb:Below w'.heap.size w' (w'.alloc (aJ #[] 2)):=Cg.alloc Cl _;have hK':=hK (w'.alloc (aJ #[] 2)) (Z7 (aE ⟨w'.heap.size,0,aA⟩) 0 0) (by simpa using Ip.new 2 w' hsz) (hx.step (λ_ _ _ b h=>h.below b) 4 AK _ bb DY) (by rw[AQ AK];exact bb);clear hK bb;rw[AP AN];go_simp;simpa[Ce] using hK'
  ·clear hdep;have hK':=hK w' (aF (aE ⟨w.heap.size,1,aA⟩)) AL (hx.step (λ_ _ _ b h=>h.below b) 5 AK _ Cg DY) (by rw[AQ AK];exact Cg);clear hK;rw[AP AN];go_simp;simpa[Ce] using hK'
  ·have d5:t 5=aF (aE ⟨w.heap.size,1,aA⟩):=by simpa using(hdep ⟨5,aL⟩ AL rfl).2
   clear hdep;have cc:w'.cell? ⟨w.heap.size,1,aA⟩=aE (Z7 aU nU cU):=by rw[Ai (a:=⟨w.heap.size,1,aA⟩) (w:=wb) (hx.ax.below.block _ HWB.o.p1),AA HWB.o.p2 1];rfl
   have hK':=hK w' (Z7 aU nU cU) AL (hx.step (λ_ _ _ b h=>h.below b) 6 AK _ Cg DY) (by rw[AQ AK];exact Cg);clear hK;rw[AP AN];go_simp;simpa[Ce,d5] using hK'
  ·have f4:Ip (w.heap.size+2) 2 w' (t 4):=by simpa using(hdep ⟨4,aL⟩ AL rfl).2
   have d6:t 6=Z7 aU nU cU:=by simpa using(hdep ⟨6,aL⟩ AL rfl).2
   clear hdep;have hsz:w.heap.size+2<=w'.heap.size:=AG hx.lt
   have bw:Below w.heap.size w w':=HBW.o.trans (hx.ax.below.mono HWB.o.p3);have hK':∀ ww v,Iow (w.heap.size+2) ww v U->Below w'.heap.size w' ww->K _ ww:=λww v hv hb=>hK ww v (by simpa using hv) (hx.step (λ_ _ _ b h=>h.below b) 7 AK _ hb DY) (by rw[AQ AK];exact hb)
   clear hK;rw[AP AN];refine Hi 22 2 (Z8 aI 0) 1 8 Tryz.infoI64 underlying22 rfl AK AK w' (aM 7) (aM 9) rfl (w.heap.size+2) (t 4) rfl f4 aU nU cU U d6 (by rw[HLN.o.2.1,Bx]) (HAU.o.below bw) mU hsz ?_;intro v' ww h1 h2;have hK2:=hK' ww v' (by unfold Iow;rw[HLN.o.2.1];exact h1) h2;clear hK' h1 h2;simpa[Ce,Act.put] using hK2
  ·clear hdep;have hK':=hK w' (aF (aE ⟨w.heap.size,2,aA⟩)) AL (hx.step (λ_ _ _ b h=>h.below b) 8 AK _ Cg DY) (by rw[AQ AK];exact Cg);clear hK;rw[AP AN];go_simp;simpa[Ce] using hK'
  ·have d8:t 8=aF (aE ⟨w.heap.size,2,aA⟩):=by simpa using(hdep ⟨8,aL⟩ AL rfl).2
   clear hdep;have cc:w'.cell? ⟨w.heap.size,2,aA⟩=aE (Z8 aI k):=by rw[Ai (a:=⟨w.heap.size,2,aA⟩) (w:=wb) (hx.ax.below.block _ HWB.o.p1),AA HWB.o.p2 2];rfl
   have hK':=hK w' (Z8 aI k) AL (hx.step (λ_ _ _ b h=>h.below b) 9 AK _ Cg DY) (by rw[AQ AK];exact Cg);clear hK;rw[AP AN];go_simp;simpa[Ce,d8] using hK'
  ·clear hdep;have hsz:w.heap.size+2<=w'.heap.size:=AG hx.lt
   have bb:Below w'.heap.size w' (w'.alloc (aJ #[] 77)):=Cg.alloc Cl _;have hK':=hK (w'.alloc (aJ #[] 77)) (Z7 (aE ⟨w'.heap.size,0,aA⟩) 0 0) (by simpa using Ip.new 77 w' hsz) (hx.step (λ_ _ _ b h=>h.below b) 10 AK _ bb DY) (by rw[AQ AK];exact bb);clear hK bb;rw[AP AN];go_simp;simpa[Ce] using hK'
  ·clear hdep;have hK':=hK w' (aF (aE ⟨w.heap.size,3,aA⟩)) AL (hx.step (λ_ _ _ b h=>h.below b) 11 AK _ Cg DY) (by rw[AQ AK];exact Cg);clear hK;rw[AP AN];go_simp;simpa[Ce] using hK'
  ·have d11:t 11=aF (aE ⟨w.heap.size,3,aA⟩):=by simpa using(hdep ⟨11,aL⟩ AL rfl).2
   clear hdep;have cc:w'.cell? ⟨w.heap.size,3,aA⟩=aE (Z7 aT nT cT):=by rw[Ai (a:=⟨w.heap.size,3,aA⟩) (w:=wb) (hx.ax.below.block _ HWB.o.p1),AA HWB.o.p2 3];rfl
   have hK':=hK w' (Z7 aT nT cT) AL (hx.step (λ_ _ _ b h=>h.below b) 12 AK _ Cg DY) (by rw[AQ AK];exact Cg);clear hK;rw[AP AN];go_simp;simpa[Ce,d11] using hK'
  ·have f10:Ip (w.heap.size+2) 77 w' (t 10):=by simpa using(hdep ⟨10,aL⟩ AL rfl).2
   have d12:t 12=Z7 aT nT cT:=by simpa using(hdep ⟨12,aL⟩ AL rfl).2
   clear hdep;have hsz:w.heap.size+2<=w'.heap.size:=AG hx.lt
   have bw:Below w.heap.size w w':=HBW.o.trans (hx.ax.below.mono HWB.o.p3);have hK':∀ ww v,C7 (w.heap.size+2) ww v T nT->Below w'.heap.size w' ww->K _ ww:=λww v hv hb=>hK ww v (by simpa using hv) (hx.step (λ_ _ _ b h=>h.below b) 13 AK _ hb DY) (by rw[AQ AK];exact hb)
   clear hK;rw[AP AN];refine Hi 31 77 (aH #[Z8 aI 0,Z8 aI 0]) 2 16 Tryz.infoTap underlying31 rfl AK AK w' (aM 13) (aM 15) rfl (w.heap.size+2) (t 10) rfl f10 aT nT cT T d12 HLN.o.2.2 (HAT.o.below bw) mT hsz ?_;intro v' ww h1 h2;have hK2:=hK' ww v' h1 h2;clear hK' h1 h2;simpa[Ce,Act.put] using hK2
  ·have f3:Iow (w.heap.size+2) w' (t 3) D:=by simpa using(hdep ⟨3,aL⟩ AL rfl).2
   have f7:Iow (w.heap.size+2) w' (t 7) U:=by simpa using(hdep ⟨7,aL⟩ AL rfl).2
   have d9:t 9=Z8 aI k:=by simpa using(hdep ⟨9,aL⟩ AL rfl).2
   have f13:C7 (w.heap.size+2) w' (t 13) T nT:=by simpa using(hdep ⟨13,aL⟩ AL rfl).2
   clear hdep;obtain⟨aD',nD',cD',d3⟩:=f3.form;obtain⟨aU',nU',cU',d7⟩:=f7.form;obtain⟨aT',cT',d13⟩:=f13.tapV.slice;rw[d3] at f3;rw[d7] at f7;rw[d13] at f13;have hK':=hK w' (aH #[Z7 aD' nD' cD',Z7 aU' nU' cU',Z8 aI k,Z7 aT' nT cT']) (by simpa using⟨_,rfl,aD',nD',cD',aU',nU',cU',aT',cT',rfl,f3,f7,f13⟩) (hx.step (λ_ _ _ b h=>h.below b) 14 AK _ Cg DY) (by rw[AQ AK];exact Cg);clear hK f3 f7 f13;rw[AP AN];go_simp;simpa[Ce,d3,d7,d9,d13] using hK'
  ·have f14:M0 (w.heap.size+2) k D U T nT w' (t 14):=by simpa using(hdep ⟨14,aL⟩ AL rfl).2
   clear hdep;obtain⟨cs,e9,aD',nD',cD',aU',nU',cU',aT',cT',rfl,f3,f7,f13⟩:=f14;have hrs:=hx.pre hLi;have hK':∀ ww,Wr (w.heap.size+1) w' ww->ww.heap[w.heap.size+1]?=aE (aJ #[Z7 aD' nD' cD',Z7 aU' nU' cU',Z8 aI k,Z7 aT' nT cT'] 33 (0,0))->K _ ww:=λww hw hr=>hK ww undef (by simp[Cf]) (hx.put HWB.o.p4 AK _ hw hr ⟨aD',nD',cD',aU',nU',cU',aT',cT',rfl,f3.wr hw AJ,f7.wr hw AJ,f13.wrk hw AJ⟩) (by rw[AP rfl];exact hw)
   clear hK f3 f7 f13;rw[AP AN];refine Bt 33 (aM 2) (aM 17) rfl (w.heap.size+1) _ rfl e9 33 _ hrs HSZ.o rfl (by simp[Value.oneCell']) ?_;have hK2:=hK' _ (Wr.setRow _ _ _) (AB hrs);clear hK';simpa[Ce,Act.put] using hK2
 case hdone=>
  intro L t w' hx hg;have l15:L 15=true:=by simpa using hg 15 AK
  clear hg;obtain⟨cs,hr,hfin⟩:=hx.fin l15;have HR9:AO (w'.heap[w.heap.size+1]?=aE (aJ cs 33 (0,0))):=hr;have HF:AO (F3 w.heap.size k D U T nT w' cs/\Below w.heap.size w w'):=⟨hfin.mono AJ,HBW.o.trans (hx.ax.below.mono HWB.o.p3)⟩
  have HS4:AO ((tP.info? 33).map (·.size)=aE cs.size):=by
   obtain⟨aD',nD',cD',aU',nU',cU',aT',cT',e,_⟩:=hfin;rw[e];exact HSZ.o
  clear hx hr hfin;go_wp2_with fail;exact Ab (v:=aH cs) (Ah rfl _ _ (w.heap.size+1) 33 _ (0,0) _ rfl HR9.o underlying33 rfl HS4.o) rfl ⟨cs,rfl,HF.o.1,HF.o.2⟩
def Wy (lo:Nat) (w:aC) (v:aB) (r:Yt):Prop:=
 ∃ aD nD cD aU nU cU aT nT cT,v=aH #[.bool r.ok,Z7 aD nD cD,Z7 aU nU cU,Z8 aI r.k,Z7 aT nT cT]/\At aI w aD r.D/\At aI w aU r.U/\At aI w aT r.T/\r.D.length=nD/\r.U.length=nU/\r.T.length=nT*2/\EY lo w aD/\EY lo w aU/\EY lo w aT/\nT<=cT/\cT<=9223372036854775807
theorem C7.cap {B:Nat} {w:aC} {a:Option Addr} {n c n':Nat} {T:List Int} (h:C7 B w (Z7 a n c) T n'):n<=c/\c<=9223372036854775807:=by
 rcases h.2 with⟨h1,h2⟩|⟨g,c',cur,h1,_,_,h4,h5,_⟩
 ·cases h1;exact⟨Ac _,AK⟩
 ·cases h1;exact⟨h4,by unfold maxLen at h5;omega⟩
structure SX (w:aC) (sc fr:Array aB) (wr:aC):Prop where
 below:Below w.heap.size w wr
 sb:wr.heap[w.heap.size]?=aE (aJ sc 33 (0,0))
 fb:wr.heap[w.heap.size+1]?=aE (aJ fr 56 (0,0))
 rb:wr.heap[w.heap.size+2]?=aE (aJ CZ 60 (0,0))
theorem SX.keep {w wr w':aC} {sc fr:Array aB} (h:SX w sc fr wr) (b:Below (w.heap.size+3) wr w'):SX w sc fr w':=
 ⟨h.below.trans (b.mono AJ),by rw[b.block _ AJ];exact h.sb,by rw[b.block _ AJ];exact h.fb,by rw[b.block _ AJ];exact h.rb⟩
theorem SX.lt {w wr:aC} {sc fr:Array aB} (h:SX w sc fr wr):w.heap.size+3<=wr.heap.size:=(AR.1 h.rb).1
theorem SX.call {w wr w':aC} {sc fr:Array aB} (h:SX w sc fr wr) (b:Below wr.heap.size wr w'):SX w sc fr w':=h.keep (b.mono h.lt)
theorem SX.start (w:aC) (sc fr:Array aB):SX w sc fr (((w.alloc (aJ sc 33)).alloc (aJ fr 56)).alloc (aJ CZ 60)):=by
 have h:=IX.start w sc fr;refine⟨h.below,?_,h.fb,h.rb⟩;rw[A5 _ _ w.heap.size (by simp;omega),A5 _ _ w.heap.size AL];exact AX w _
structure OX (w:aC) (sc fr:Array aB) (O:Nat) (cs:Array aB) (wr:aC):Prop where
 sx:SX w sc fr wr
 o:wr.heap[O]?=aE (aJ cs 33 (0,0))
 hO:w.heap.size+3<=O
theorem OX.lt {w wr:aC} {sc fr cs:Array aB} {O:Nat} (h:OX w sc fr O cs wr):O<wr.heap.size:=(AR.1 h.o).1
theorem OX.call {w wr w':aC} {sc fr cs:Array aB} {O:Nat} (h:OX w sc fr O cs wr) (b:Below wr.heap.size wr w'):OX w sc fr O cs w':=⟨h.sx.call b,by rw[b.block _ h.lt];exact h.o,h.hO⟩
theorem OX.put {w wr:aC} {sc fr cs:Array aB} {O:Nat} (h:OX w sc fr O cs wr) (i:Nat) (v:aB):OX w sc fr O (cs.setIfInBounds i v) (wr.setCell ⟨O,i,aA⟩ v):=by
 have hw:Wr O wr (wr.setCell ⟨O,i,aA⟩ v):=(Wr.refl _ _).setCell _ _;exact⟨h.sx.keep (hw.below h.hO),A8 _ _ _ _ _ _ h.o,h.hO⟩
def LK (lo O:Nat) (w:aC) (a:Option Addr) (xs:List Int):Prop:=At aI w a xs/\∀ ad,a=aE ad->lo<=ad.block/\ad.block≠O/\ad.block<w.heap.size
theorem LK.below {lo O:Nat} {w w':aC} {a:Option Addr} {xs:List Int} (h:LK lo O w a xs) (b:Below w.heap.size w w'):LK lo O w' a xs:=⟨h.1.below b,λad e=>AH (h.2 ad e) b.size⟩
theorem LK.wr {lo O:Nat} {w w':aC} {a:Option Addr} {xs:List Int} (h:LK lo O w a xs) (hw:Wr O w w'):LK lo O w' a xs:=
 ⟨h.1.keepT (by rw[hw.size];exact Ac _) (λad e _=>hw.block _ (h.2 ad e).2.1),λad e=>by rw[hw.size];exact h.2 ad e⟩
theorem LK.grown {lo O:Nat} {w w':aC} {a:Option Addr} {xs:List Int} {row:Option Nat} (h:LK lo O w a xs) (hg:w.grownBy w' row) (hne:∀ ad,a=aE ad->aE ad.block≠row):LK lo O w' a xs:=
 ⟨h.1.keepT hg.size (λad e hl=>hg.block _ hl (hne ad e)),λad e=>AH (h.2 ad e) hg.size⟩
theorem At.wrR {lo O R:Nat} {w w':aC} {a:Option Addr} {xs:List Int} (h:At aI w a xs) (hw:Wr R w w') (h2:∀ ad,a=aE ad->lo<=ad.block/\ad.block≠O/\ad.block<w.heap.size) (hR:R<lo:=by omega):At aI w' a xs:=
 h.keepT (by rw[hw.size];exact Ac _) (λad e _=>hw.block _ (AG (h2 ad e).1))
theorem Iow.lk {lo O B:Nat} {w:aC} {a:Option Addr} {n c:Nat} {xs:List Int} (h:Iow B w (Z7 a n c) xs) (hB:lo<=B) (hO:O<B\/w.heap.size<=O):LK lo O w a xs:=by
 obtain⟨h1,h2,h3⟩:=h.sat;exact⟨h1.at_,λad e=>AG (h3 ad e)⟩
theorem C7.lk {lo O B:Nat} {w:aC} {a:Option Addr} {n c:Nat} {T:List Int} (h:C7 B w (Z7 a n c) T n) (hB:lo<=B) (hO:O<B\/w.heap.size<=O):LK lo O w a T:=by
 obtain⟨h1,h2,h3⟩:=h.tapV.sat;exact⟨h1.at_,λad e=>AG (h3 ad e)⟩
theorem Sv {B B':Nat} {w:aC} {a a':Option Addr} {n c n' c':Nat} {xs T:List Int} (h:Iow B w (Z7 a n c) xs) (h':C7 B' w (Z7 a' n' c') T n'):∀ ad,a=aE ad->aE ad.block≠(Z7 a' n' c').ownBlock:=by
 intro ad e he;rcases h.2 with⟨h1,_⟩|⟨g,cap,cur,h1,_,hh,_⟩
 ·cases h1;cases e
 ·cases h1;cases e;rcases h'.2 with⟨h2,_⟩|⟨g',cap',cur',h2,_,hh',_⟩
  ·cases h2;simp[Value.ownBlock] at he
  ·cases h2;simp[Value.ownBlock] at he;subst he;rw[hh] at hh';injection hh' with e1
   injection e1 with _ e2 _
   exact absurd e2 AK
theorem PH {D U:List Int} {k:Int} {T:List Int} {n a b:Nat} (h:a<256/\¬ (a:Int)∈U/\¬ (a:Int)∈D):Km D U k T n 1 a b=⟨true,D,Df U a,k,T++[(a:Int),(b:Int)],n+1⟩:=by unfold Km;rw[AP rfl,AP h]
theorem Qc {D U:List Int} {k:Int} {T:List Int} {n a b:Nat} (h:¬ (a<256/\¬ (a:Int)∈U/\¬ (a:Int)∈D)):Km D U k T n 1 a b=IB:=by unfold Km;rw[AP rfl,AQ h]
theorem PI {D U:List Int} {k:Int} {T:List Int} {n a:Nat} (h:a<256/\¬ (a:Int)∈D/\¬ D.length=16):Km D U k T n 2 a 1=⟨true,Df D a,U,k,T,n⟩:=by unfold Km;rw[AQ AK,AP rfl,AP ⟨rfl,h⟩]
theorem PJ {D U:List Int} {k:Int} {T:List Int} {n a:Nat} (h:a<256/\(a:Int)∈D):Km D U k T n 2 a 0=⟨true,Dl D a,U,k,T,n⟩:=by unfold Km;rw[AQ AK,AP rfl,AQ (λh=>by cases h.1),AP ⟨rfl,h⟩]
theorem OF {D U:List Int} {k:Int} {T:List Int} {n a b:Nat} (h:¬ (b=1/\a<256/\¬ (a:Int)∈D/\¬ D.length=16)) (h':¬ (b=0/\a<256/\(a:Int)∈D)):Km D U k T n 2 a b=IB:=by unfold Km;rw[AQ AK,AP rfl,AQ h,AQ h']
theorem PK {D U:List Int} {k:Int} {T:List Int} {n a:Nat} (h:(a:Int)<=k+n):Km D U k T n 3 a 0=⟨true,D,U,max a k,T.drop (I4 k a*2),n-I4 k a⟩:=by unfold Km;rw[AQ AK,AQ AK,AP rfl,AP ⟨rfl,h⟩]
theorem Qd {D U:List Int} {k:Int} {T:List Int} {n a b:Nat} (h:¬ (b=0/\(a:Int)<=k+n)):Km D U k T n 3 a b=IB:=by unfold Km;rw[AQ AK,AQ AK,AP rfl,AQ h]
theorem Qe {D U:List Int} {k:Int} {T:List Int} {n a b:Nat} {kind:Int} (h1:¬ kind=1) (h2:¬ kind=2) (h3:¬ kind=3):Km D U k T n kind a b=IB:=by unfold Km;rw[AQ h1,AQ h2,AQ h3]
def ZV (w:aC) (g C:Nat):Prop:=∃ cur:Array aB,w.heap[g]?=aE (aJ cur 5 (0,0))/\cur.size=C
theorem M1 (w:aC) {ops:Array Oper} {rest:List Oper} {o:Oper} {a:Act} {Q:Exit->Act->aC->Prop} (hg:o.guard=aA) (s x:Operand)
  (hop:o.op=Op.call { callee:=Callee.builtin Builtin.append,args:=#[s,x],argTypes:=#[26,3] }) (hs:a.eval s=Z7 aA 0 0) (n:Nat) (hx:a.eval x=Z8 aI n) (hn:0<n) (hb:n<=2097152)
  (hK:∀ C w',n<=C->C<=maxLen->ZV w' w.heap.size C->Below w.heap.size w w'->wpList tP ops Q rest (a.put o.dst (Z7 (aE ⟨w.heap.size,0,aA⟩) n C)) w') :
  wpList tP ops Q (o::rest) a w:=by
 obtain⟨i0,hi,hz0,hz1,hz2⟩:=Bh Tryz.infoU8';have hfit:Builtin.nextslicecap (0+n) 0*i0.bytes<=281474976710656:=by rw[Aq,nextslicecap_zero AJ,hz2];omega
 have hr:=Go.Lib.run_append_grow_zeros (P:=tP) w 26 3 o.type 5 i0 (Z8 Z9 0) aI aI underlying26 underlying3 hi hz0 aA 0 0 [] AN n hn AJ AJ AJ (by rw[hz2];omega) hfit;have hge:=grownCap_ge w (0+n) 0 5;have hle:=grownCap_le_maxLen w (0+n) 0 5 (by unfold maxLen;omega);rw[Aq] at hr hge hle;generalize grownCap w n 0 5=C at hr hge hle;refine wpList_plain hg λK hK'=>?_
 have hk:=hK' _ _ (hK C _ hge hle ⟨_,AX w.drew (aJ ((([]:List aB).toArray++Builtin.zeroCells (Z8 Z9 0).cells n)++Builtin.zeroCells (Z8 Z9 0).cells (C-n)) 5),by simp[Builtin.zeroCells,Value.cells];omega⟩ (Cg.drew.alloc Cl _));unfold Oper.wp execOp;simp only[hop,resolve,invoke,builtin,Sem.run_bind,Sem.run_pure,Result.andThen_ok,List.map_toArray,List.map_cons,List.map_nil,hs,hx,hr];exact hk
theorem Sw (n:Nat) (w:aC) (hn:0<n) (hb:n<=2097152) :
  Calls tP 137 #[Z7 aA 0 0,Z8 aI n] w λe w'=>∃ v,e=aK v/\DM w' w.heap.size v []/\Below w.heap.size w w':=by
 have h0:¬ ((n:Int)<0):=AJ
 have h1:(n:Int)>0:=AJ
 go_enter func137,ntmps137;go_wp2_with (first
  |(refine M1 _ rfl (aM 20) (aM 21) rfl rfl n rfl hn hb ?_)
  |fail)
 intro C w1 hC hm hrow hb1;have HF:AO (DM w1 w.heap.size (Z7 (aE ⟨w.heap.size,0,aA⟩) 0 C) []):=by
  obtain⟨cur,h1,h2⟩:=hrow;exact⟨⟨AL,.inr ⟨w.heap.size,C,cur,rfl,Ac _,h1,AL,hm,by rw[h2,Bx],AL⟩⟩,_,_,rfl⟩
 have HB:AO (Below w.heap.size w w1):=hb1;have hC':(0:Int)<=C:=AJ
 have hm':C<=9223372036854775807:=by unfold maxLen at hm;omega
 clear hrow hb1 hm;go_wp2
 go_ret
 exact⟨_,rfl,HF.o,HB.o⟩
def Sx (zss:List (List Int)) (k:Nat):Nat:=(zss.take k).flatten.length
theorem Sy (zss:List (List Int)) (k:Nat) (h:k<zss.length):Sx zss (k+1)=Sx zss k+(zss.getD k []).length:=by
 unfold Sx;rw[Il zss k h,Ak]
theorem Sz (p m cap:Nat) (vs:List aB) (zss:List (List Int)) (w:aC) (hm:zss.length=m) (hp:p<w.heap.size) (hc:∀ i,i<m->w.cell? ⟨p,i,aA⟩=aE (vs.getD i undef))
  (hz:∀ i,i<m->Qv w (vs.getD i undef) (zss.getD i [])) (ht:zss.flatten.length<=2097152) (h0:0<zss.flatten.length) (hm':m<=2097152) :
  Calls tP 108 #[Z7 (aE ⟨p,0,aA⟩) m cap] w λe w'=>∃ v,e=aK v/\DM w' w.heap.size v zss.flatten/\Below w.heap.size w w':=by
 have HM:AO (zss.length=m):=hm;have HC:AO (∀ i,i<m->w.cell? ⟨p,i,aA⟩=aE (vs.getD i undef)):=hc;have HZ:AO (∀ i,i<m->Qv w (vs.getD i undef) (zss.getD i [])):=hz;have HT:AO (zss.flatten.length<=2097152/\0<zss.flatten.length):=⟨ht,h0⟩
 have HTA:AO (Sx zss m=zss.flatten.length):=by show _=_;unfold Sx;rw[Ad AJ]
 clear hc hz ht h0 hm;go_enter func108,ntmps108;go_wp2_with fail
 go_loop [3,11] (λq i=>∃ k:Nat,k<=m/\i=Z8 aI k/\q=Z8 aI (Sx zss k)) (λ_ i=>m-(intOf i).toNat)
 case atStart=>exact⟨0,Au _,rfl,rfl⟩
 case round=>
  obtain⟨k,hk,rfl,rfl⟩:=hrel;by_cases hlt:k<m
  ·have hlt':(k:Int)<m:=AJ
   obtain⟨b,o,c,hv,hb,hcell⟩:=HZ.o k hlt;have hck:w.cell? ⟨p,k,aA⟩=aE (Z7 (aE ⟨b,o,aA⟩) (zss.getD k []).length c):=by rw[HC.o k hlt,hv]
   have HS:AO (Sx zss (k+1)=Sx zss k+(zss.getD k []).length):=Sy zss k (AG HM.o);have hle:Sx zss (k+1)<=2097152:=BG (LN zss (k+1)) HT.o.1;rw[HS.o] at hle;clear hcell hv hb;generalize (zss.getD k []).length=z at *;generalize Sx zss k=y at *;have hn0:¬ ((y:Int)+z<0):=AJ
   go_wp2
   go_round
   case rel=>exact⟨k+1,AJ,by go_num,by rw[HS.o];go_num⟩
   case measure=>simp[intOf];omega
  ·have hke:k=m:=AJ
   subst hke;obtain⟨N,hN⟩:∃ N,Sx zss k=N:=⟨_,rfl⟩
   have CG:=Sw N w (by rw[<-hN,HTA.o];exact HT.o.2) (by rw[<-hN,HTA.o];exact HT.o.1);have hNb:N<=2097152:=by rw[<-hN,HTA.o];exact HT.o.1
   rw[hN];clear hN HTA;have hlt':¬ ((k:Int)<k):=AJ
   go_wp2_with fail;refine CG.mono ?_;rintro e w1 ⟨v1,rfl,ho1,hb1⟩;have HO1:AO (DM w1 w.heap.size v1 []):=ho1;have HB1:AO (Below w.heap.size w w1):=hb1;clear ho1 hb1 hlt' CG;go_wp2_with fail
   go_loopw [6,27] (λv i wr=>∃(j:Nat) (l:aB),j<=k/\i=Z8 aI j/\l=v/\DM wr w.heap.size l (zss.take j).flatten/\Below w.heap.size w wr) (λ_ i _=>k-(intOf i).toNat)
   case atStart=>exact⟨0,_,Au _,rfl,rfl,HO1.o,HB1.o⟩
   case round=>
    clear HO1 HB1;obtain⟨j,l,hj,rfl,rfl,hown,hbel⟩:=hrel;by_cases hlt:j<k
    ·have hsz:=hbel.size;obtain⟨b,o,c,hv,hb,hcell⟩:=HZ.o j hlt;have hck:wr.cell? ⟨p,j,aA⟩=aE (Z7 (aE ⟨b,o,aA⟩) (zss.getD j []).length c):=by rw[hbel.cell (p:=⟨p,j,aA⟩) hp,HC.o j hlt,hv]
     have HNW:AO (∀ i,i<(zss.getD j []).length->wr.cell? ((⟨b,o,aA⟩:Addr).add i)=aE (Z8 Z9 ((zss.getD j []).getD i 0))):=by
      intro i hi;rw[Az,hbel.cell (p:=⟨b,o+i,aA⟩) hb];exact hcell i hi
     have hfl:=Il zss j (AG HM.o);have hle:=LN zss (j+1);have HL:AO ((zss.take j).flatten.length+(zss.getD j []).length<=1099511627776):=by show _<=_;rw[hfl,Ak] at hle;have:=HT.o.1;omega
     have HFL:AO ((zss.take (j+1)).flatten=(zss.take j).flatten++zss.getD j []):=hfl;have HOW:AO (DM wr w.heap.size l (zss.take j).flatten):=hown;have HBE:AO (Below w.heap.size w wr):=hbel;clear hcell hv hb hfl hle hown hbel;go_wp2_with (first
      |(at_builtin;refine DI _ rfl (aM 31) (aM 32) rfl w.heap.size _ _ rfl HOW.o ⟨b,o,aA⟩ _ c (zss.getD j []) rfl rfl HNW.o HL.o hsz ?_)
      |fail)
     intro v' w2 hown' hbel' _;have HO2:AO (DM w2 w.heap.size v' (zss.take (j+1)).flatten):=by show DM _ _ _ _;rw[HFL.o];exact hown'
     have HB2:AO (Below w.heap.size w w2):=HBE.o.trans hbel';clear hown' hbel' HOW HBE HNW;go_wp2;go_roundw
     case rel=>exact⟨j+1,_,AJ,by go_num,rfl,HO2.o,HB2.o⟩
     case measure=>simp[intOf];omega
    ·have hje:j=k:=AJ
     have hlt':¬ ((j:Int)<k):=AJ
     have HO2:AO (DM wr w.heap.size l zss.flatten):=by
      have:zss.take j=zss:=Ad (AG HM.o);rw[this] at hown;exact hown
     clear hown;go_wp2
     go_ret
     exact⟨_,rfl,HO2.o,hbel⟩
end Go.Proofs.YtjdhhgaelgemcaaGreatDoor
namespace Go.Proofs.YtjdhhgaelgemcaaGreatDoor
open Go.ChangeShapes Go.WideShapes Go.ChangeAt Go.RowKit Go.Joins
set_option linter.unusedVariables false
def bW:List Int:=[7378697629483820632,7378697629483820646,7378697629483820646,7378697629483820646]
theorem Wz:val 18446744073709551616 bW=GZ:=AK
theorem XA:G4 bW:=by unfold G4 bW;decide
theorem S5 (w:aC):Calls tP 103 #[] w (LG w GZ):=by
 have HR:AO (Ch (w.alloc (aJ CV 143)) w.heap.size 143 [0,0,0,0]):=AX w _;have HSZ:AO ((tP.info? 143).map (·.size)=aE ((bW.map (Value.int .u64)).toArray).size):=sizeNum rfl;go_enter func103,ntmps103;go_wp2_with (first
  |(refine AE 143 (aM 1) (aM 2) w.heap.size ((bW.map (Value.int .u64)).toArray) 143 HR.o HSZ.o rfl (all_oneCell_toArray (Aw _ _)) ?_)
  |fail)
 have R1:Ch ((w.alloc (aJ CV 143)).setRow w.heap.size (bW.map (Value.int .u64)).toArray) w.heap.size 143 bW:=HR.o.setRow bW;have B2:Below w.heap.size w ((w.alloc (aJ CV 143)).setRow w.heap.size (bW.map (Value.int .u64)).toArray):=(Cx _ _).trans ((Wr.setRow _ _ _).below Cl);clear HR HSZ;generalize (w.alloc (aJ CV 143)).setRow w.heap.size (bW.map (Value.int .u64)).toArray=w2 at *;refine(Q6 _ bW _ rfl R1 XA).mono ?_;rintro e w3 ⟨bs,hbl,hbb,hbv,rfl,O3,B3⟩;rw[Wz] at hbv;have HP:AO (LG w GZ (aK (Z7 (aE ⟨w2.heap.size,0,aA⟩) 32 32)) w3):=⟨_,bs,rfl,O3.lower3b B2.size,hbb,hbl,hbv,B2.trans (B3.mono B2.size)⟩
 clear hbv O3 B2 B3 R1;go_wp2
 go_ret
 exact HP.o
end Go.Proofs.YtjdhhgaelgemcaaGreatDoor
