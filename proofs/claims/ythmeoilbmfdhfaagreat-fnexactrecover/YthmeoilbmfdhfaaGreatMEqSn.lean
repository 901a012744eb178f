import Derived.Test.YthmeoilbmfdhfaaGreatMLdH
import Derived.Test.YthmeoilbmfdhfaaGreatDkS
import Derived.Test.YthmeoilbmfdhfaaGreatMLdW
open Go.Value renaming slice->UD,int->UE,pointer->UM,bool->UF,agg->UN
open Go.IntKind renaming i64->UO,u32->UG,u8->UH
open Go.Obj renaming cells->UP
open Go.Ending renaming returned->UQ
open Go.Ground renaming data->UR
open Go.Operand renaming tmp->UT
open Option renaming some->UI,none->UJ
open Go renaming World->UK,Value->UL
namespace Go.Proofs.YthmeoilbmfdhfaaGreat
set_option maxHeartbeats 4000000
set_option maxRecDepth 100000
open Go.ChangeShapes Go.WideShapes Go.ChangeAt Go.RowKit
set_option linter.unusedVariables false
theorem PR (aD bD aU bU:Option Addr) (nD cD dD nU cU dU:Nat) (D U:List Int) (gn tl:Int) (w:UK) (hD:D.length=nD) (hU:U.length=nU) (mD:nD<=1048576) (mU:nU<=1048576) (AD:At UO w aD D) (BD:At UO w bD D) (AU:At UO w aU U) (BU:At UO w bU U) :
  Calls Tryz.prog 41 #[UN #[UE UG gn,UE UG tl,UD aD nD cD,UD aU nU cU],UN #[UE UG gn,UE UG tl,UD bD nD dD,UD bU nU dU]] w λe w'=>e=UQ (UF true)/\Below w.heap.size w w':=by
 have HE0:AP (BE w 30 #[UE UG gn,UE UG tl,UD aD nD cD,UD aU nU cU] #[UE UG gn,UE UG tl,UD bD nD dD,UD bU nU dU] ((w.alloc (UP #[UE UG gn,UE UG tl,UD aD nD cD,UD aU nU cU] 30)).alloc (UP #[UE UG gn,UE UG tl,UD bD nD dD,UD bU nU dU] 30))):=BE.start _ _ _ _;have HAD:AP (At UO w aD D/\At UO w bD D):=⟨AD,BD⟩
 have HLD:AP (D.length=nD):=hD;have HAU:AP (At UO w aU U/\At UO w bU U):=⟨AU,BU⟩
 have HLU:AP (U.length=nU):=hU;clear AD BD hD AU BU hU;have negn:(gn != gn)=false:=AM
 have netl:(tl != tl)=false:=AM
 go_enter Tryz.func41,Tryz.ntmps41;go_wp2_with fail;generalize ((w.alloc (UP #[UE UG gn,UE UG tl,UD aD nD cD,UD aU nU cU] 30)).alloc (UP #[UE UG gn,UE UG tl,UD bD nD dD,UD bU nU dU] 30))=w0 at *;refine(Id _ _ nD _ _ D _ HLD.o mD (HAD.o.1.below HE0.o.below) (HAD.o.2.below HE0.o.below)).mono ?_;rintro e w1 ⟨rfl,q0,hq⟩;have hb:Below w0.heap.size w0 w1:=by rw[hq];exact ET Cs _
 clear hq;have HE1:AP (BE w 30 #[UE UG gn,UE UG tl,UD aD nD cD,UD aU nU cU] #[UE UG gn,UE UG tl,UD bD nD dD,UD bU nU dU] w1):=HE0.o.call hb;clear hb HE0;have x3:w1.cell? ⟨w.heap.size,3,UJ⟩=UI (UD aU nU cU):=by rw[AA HE1.o.b0 3];rfl
 have y3:w1.cell? ⟨w.heap.size+1,3,UJ⟩=UI (UD bU nU dU):=by rw[AA HE1.o.b1 3];rfl
 go_wp2_with fail;clear x3 y3;refine(Id _ _ nU _ _ U _ HLU.o mU (HAU.o.1.below HE1.o.below) (HAU.o.2.below HE1.o.below)).mono ?_;rintro e w2 ⟨rfl,q1,hq⟩;have hb:Below w1.heap.size w1 w2:=by rw[hq];exact ET Cs _
 clear hq;have HE2:AP (BE w 30 #[UE UG gn,UE UG tl,UD aD nD cD,UD aU nU cU] #[UE UG gn,UE UG tl,UD bD nD dD,UD bU nU dU] w2):=HE1.o.call hb;clear hb HE1;have HF:AP (Below w.heap.size w w2):=HE2.o.below;clear HE2;go_wp2
 go_ret
 exact⟨rfl,HF.o⟩
theorem PS (aD bD aU bU aT bT:Option Addr) (nD cD dD nU cU dU nT cT dT:Nat) (D U T:List Int) (k:Int) (w:UK) (hD:D.length=nD) (hU:U.length=nU) (hT:T.length=nT*2) (mD:nD<=1048576) (mU:nU<=1048576) (mT:nT<=1048576) (AD:At UO w aD D) (BD:At UO w bD D) (AU:At UO w aU U) (BU:At UO w bU U) (AT:At UO w aT T) (BT:At UO w bT T) :
  Calls Tryz.prog 43 #[UN #[UD aD nD cD,UD aU nU cU,UE UO k,UD aT nT cT],UN #[UD bD nD dD,UD bU nU dU,UE UO k,UD bT nT dT]] w λe w'=>e=UQ (UF true)/\Below w.heap.size w w':=by
 have HE0:AP (BE w 34 #[UD aD nD cD,UD aU nU cU,UE UO k,UD aT nT cT] #[UD bD nD dD,UD bU nU dU,UE UO k,UD bT nT dT] ((w.alloc (UP #[UD aD nD cD,UD aU nU cU,UE UO k,UD aT nT cT] 34)).alloc (UP #[UD bD nD dD,UD bU nU dU,UE UO k,UD bT nT dT] 34))):=BE.start _ _ _ _;have HAD:AP (At UO w aD D/\At UO w bD D):=⟨AD,BD⟩
 have HLD:AP (D.length=nD):=hD;have HAU:AP (At UO w aU U/\At UO w bU U):=⟨AU,BU⟩
 have HLU:AP (U.length=nU):=hU;have HAT:AP (At UO w aT T/\At UO w bT T):=⟨AT,BT⟩
 have HLT:AP (T.length=nT*2):=hT;clear AD BD hD AU BU hU AT BT hT;have nek:(k != k)=false:=AM
 go_enter Tryz.func43,Tryz.ntmps43;go_wp2_with fail;generalize ((w.alloc (UP #[UD aD nD cD,UD aU nU cU,UE UO k,UD aT nT cT] 34)).alloc (UP #[UD bD nD dD,UD bU nU dU,UE UO k,UD bT nT dT] 34))=w0 at *;refine(Id _ _ nD _ _ D _ HLD.o mD (HAD.o.1.below HE0.o.below) (HAD.o.2.below HE0.o.below)).mono ?_;rintro e w1 ⟨rfl,q0,hq⟩;have hb:Below w0.heap.size w0 w1:=by rw[hq];exact ET Cs _
 clear hq;have HE1:AP (BE w 34 #[UD aD nD cD,UD aU nU cU,UE UO k,UD aT nT cT] #[UD bD nD dD,UD bU nU dU,UE UO k,UD bT nT dT] w1):=HE0.o.call hb;clear hb HE0;have x1:w1.cell? ⟨w.heap.size,1,UJ⟩=UI (UD aU nU cU):=by rw[AA HE1.o.b0 1];rfl
 have y1:w1.cell? ⟨w.heap.size+1,1,UJ⟩=UI (UD bU nU dU):=by rw[AA HE1.o.b1 1];rfl
 go_wp2_with fail;clear x1 y1;refine(Id _ _ nU _ _ U _ HLU.o mU (HAU.o.1.below HE1.o.below) (HAU.o.2.below HE1.o.below)).mono ?_;rintro e w2 ⟨rfl,q1,hq⟩;have hb:Below w1.heap.size w1 w2:=by rw[hq];exact ET Cs _
 clear hq;have HE2:AP (BE w 34 #[UD aD nD cD,UD aU nU cU,UE UO k,UD aT nT cT] #[UD bD nD dD,UD bU nU dU,UE UO k,UD bT nT dT] w2):=HE1.o.call hb;clear hb HE1;have x2:w2.cell? ⟨w.heap.size,2,UJ⟩=UI (UE UO k):=by rw[AA HE2.o.b0 2];rfl
 have y2:w2.cell? ⟨w.heap.size+1,2,UJ⟩=UI (UE UO k):=by rw[AA HE2.o.b1 2];rfl
 have x3:w2.cell? ⟨w.heap.size,3,UJ⟩=UI (UD aT nT cT):=by rw[AA HE2.o.b0 3];rfl
 have y3:w2.cell? ⟨w.heap.size+1,3,UJ⟩=UI (UD bT nT dT):=by rw[AA HE2.o.b1 3];rfl
 go_wp2_with fail;clear x2 y2 x3 y3;refine(ON _ _ nT _ _ T _ HLT.o mT (HAT.o.1.below HE2.o.below) (HAT.o.2.below HE2.o.below)).mono ?_;rintro e w3 ⟨rfl,hb⟩;have HE3:AP (BE w 34 #[UD aD nD cD,UD aU nU cU,UE UO k,UD aT nT cT] #[UD bD nD dD,UD bU nU dU,UE UO k,UD bT nT dT] w3):=HE2.o.call hb;clear hb HE2;have HF:AP (Below w.heap.size w w3):=HE3.o.below;clear HE3;go_wp2
 go_ret
 exact⟨rfl,HF.o⟩
theorem PT (asD bsD asU bsU aF bF azD bzD azU bzU azT bzT:Option Addr) (nsD csD dsD nsU csU dsU nF cF dF nzD czD dzD nzU czU dzU nzT czT dzT:Nat) (sD sU F zD zU zT:List Int) (sgn stl zk nx:Int) (ok:Bool) (w:UK) (hsD:sD.length=nsD) (hsU:sU.length=nsU) (hF:F.length=nF*4) (hzD:zD.length=nzD) (hzU:zU.length=nzU) (hzT:zT.length=nzT*2) (msD:nsD<=1048576) (msU:nsU<=1048576) (mF:nF<=1048576) (mzD:nzD<=1048576) (mzU:nzU<=1048576) (mzT:nzT<=1048576) (AsD:At UO w asD sD) (BsD:At UO w bsD sD) (AsU:At UO w asU sU) (BsU:At UO w bsU sU) (AF:FC w aF F) (BF:FC w bF F) (AzD:At UO w azD zD) (BzD:At UO w bzD zD) (AzU:At UO w azU zU) (BzU:At UO w bzU zU) (AzT:At UO w azT zT) (BzT:At UO w bzT zT) :
  Calls Tryz.prog 10 #[UN #[UF ok,UE UG sgn,UE UG stl,UD asD nsD csD,UD asU nsU csU,UD aF nF cF,UD azD nzD czD,UD azU nzU czU,UE UO zk,UD azT nzT czT,UE UG nx],UN #[UF ok,UE UG sgn,UE UG stl,UD bsD nsD dsD,UD bsU nsU dsU,UD bF nF dF,UD bzD nzD dzD,UD bzU nzU dzU,UE UO zk,UD bzT nzT dzT,UE UG nx]] w λe w'=>e=UQ (UF true)/\Below w.heap.size w w':=by
 have HE0:AP (BE w 36 #[UF ok,UE UG sgn,UE UG stl,UD asD nsD csD,UD asU nsU csU,UD aF nF cF,UD azD nzD czD,UD azU nzU czU,UE UO zk,UD azT nzT czT,UE UG nx] #[UF ok,UE UG sgn,UE UG stl,UD bsD nsD dsD,UD bsU nsU dsU,UD bF nF dF,UD bzD nzD dzD,UD bzU nzU dzU,UE UO zk,UD bzT nzT dzT,UE UG nx] ((w.alloc (UP #[UF ok,UE UG sgn,UE UG stl,UD asD nsD csD,UD asU nsU csU,UD aF nF cF,UD azD nzD czD,UD azU nzU czU,UE UO zk,UD azT nzT czT,UE UG nx] 36)).alloc (UP #[UF ok,UE UG sgn,UE UG stl,UD bsD nsD dsD,UD bsU nsU dsU,UD bF nF dF,UD bzD nzD dzD,UD bzU nzU dzU,UE UO zk,UD bzT nzT dzT,UE UG nx] 36))):=BE.start _ _ _ _;have HAsD:AP (At UO w asD sD/\At UO w bsD sD):=⟨AsD,BsD⟩
 have HLsD:AP (sD.length=nsD):=hsD;have HAsU:AP (At UO w asU sU/\At UO w bsU sU):=⟨AsU,BsU⟩
 have HLsU:AP (sU.length=nsU):=hsU;have HAF:AP (FC w aF F/\FC w bF F):=⟨AF,BF⟩
 have HLF:AP (F.length=nF*4):=hF;have HAzD:AP (At UO w azD zD/\At UO w bzD zD):=⟨AzD,BzD⟩
 have HLzD:AP (zD.length=nzD):=hzD;have HAzU:AP (At UO w azU zU/\At UO w bzU zU):=⟨AzU,BzU⟩
 have HLzU:AP (zU.length=nzU):=hzU;have HAzT:AP (At UO w azT zT/\At UO w bzT zT):=⟨AzT,BzT⟩
 have HLzT:AP (zT.length=nzT*2):=hzT;clear AsD BsD hsD AsU BsU hsU AF BF hF AzD BzD hzD AzU BzU hzU AzT BzT hzT;have neok:(ok != ok)=false:=AM
 have nesgn:(sgn != sgn)=false:=AM
 have nestl:(stl != stl)=false:=AM
 have nezk:(zk != zk)=false:=AM
 have nenx:(nx != nx)=false:=AM
 go_enter Tryz.func10,Tryz.ntmps10;go_wp2_with fail;generalize ((w.alloc (UP #[UF ok,UE UG sgn,UE UG stl,UD asD nsD csD,UD asU nsU csU,UD aF nF cF,UD azD nzD czD,UD azU nzU czU,UE UO zk,UD azT nzT czT,UE UG nx] 36)).alloc (UP #[UF ok,UE UG sgn,UE UG stl,UD bsD nsD dsD,UD bsU nsU dsU,UD bF nF dF,UD bzD nzD dzD,UD bzU nzU dzU,UE UO zk,UD bzT nzT dzT,UE UG nx] 36))=w0 at *;refine(PR asD bsD asU bsU nsD csD dsD nsU csU dsU sD sU sgn stl _ HLsD.o HLsU.o msD msU (HAsD.o.1.below HE0.o.below) (HAsD.o.2.below HE0.o.below) (HAsU.o.1.below HE0.o.below) (HAsU.o.2.below HE0.o.below)).mono ?_;rintro e w1 ⟨rfl,hb⟩;have HE1:AP (BE w 36 #[UF ok,UE UG sgn,UE UG stl,UD asD nsD csD,UD asU nsU csU,UD aF nF cF,UD azD nzD czD,UD azU nzU czU,UE UO zk,UD azT nzT czT,UE UG nx] #[UF ok,UE UG sgn,UE UG stl,UD bsD nsD dsD,UD bsU nsU dsU,UD bF nF dF,UD bzD nzD dzD,UD bzU nzU dzU,UE UO zk,UD bzT nzT dzT,UE UG nx] w1):=HE0.o.call hb;clear hb HE0;have x5:w1.cell? ⟨w.heap.size,5,UJ⟩=UI (UD aF nF cF):=by rw[AA HE1.o.b0 5];rfl
 have y5:w1.cell? ⟨w.heap.size+1,5,UJ⟩=UI (UD bF nF dF):=by rw[AA HE1.o.b1 5];rfl
 go_wp2_with fail;clear x5 y5;refine(Ob _ _ nF _ _ F _ HLF.o mF (HAF.o.1.below HE1.o.below) (HAF.o.2.below HE1.o.below)).mono ?_;rintro e w2 ⟨rfl,hb⟩;have HE2:AP (BE w 36 #[UF ok,UE UG sgn,UE UG stl,UD asD nsD csD,UD asU nsU csU,UD aF nF cF,UD azD nzD czD,UD azU nzU czU,UE UO zk,UD azT nzT czT,UE UG nx] #[UF ok,UE UG sgn,UE UG stl,UD bsD nsD dsD,UD bsU nsU dsU,UD bF nF dF,UD bzD nzD dzD,UD bzU nzU dzU,UE UO zk,UD bzT nzT dzT,UE UG nx] w2):=HE1.o.call hb;clear hb HE1;have x6:w2.cell? ⟨w.heap.size,6,UJ⟩=UI (UD azD nzD czD):=by rw[AA HE2.o.b0 6];rfl
 have y6:w2.cell? ⟨w.heap.size+1,6,UJ⟩=UI (UD bzD nzD dzD):=by rw[AA HE2.o.b1 6];rfl
 have x7:w2.cell? ⟨w.heap.size,7,UJ⟩=UI (UD azU nzU czU):=by rw[AA HE2.o.b0 7];rfl
 have y7:w2.cell? ⟨w.heap.size+1,7,UJ⟩=UI (UD bzU nzU dzU):=by rw[AA HE2.o.b1 7];rfl
 have x8:w2.cell? ⟨w.heap.size,8,UJ⟩=UI (UE UO zk):=by rw[AA HE2.o.b0 8];rfl
 have y8:w2.cell? ⟨w.heap.size+1,8,UJ⟩=UI (UE UO zk):=by rw[AA HE2.o.b1 8];rfl
 have x9:w2.cell? ⟨w.heap.size,9,UJ⟩=UI (UD azT nzT czT):=by rw[AA HE2.o.b0 9];rfl
 have y9:w2.cell? ⟨w.heap.size+1,9,UJ⟩=UI (UD bzT nzT dzT):=by rw[AA HE2.o.b1 9];rfl
 go_wp2_with fail;clear x6 y6 x7 y7 x8 y8 x9 y9;refine(PS azD bzD azU bzU azT bzT nzD czD dzD nzU czU dzU nzT czT dzT zD zU zT zk _ HLzD.o HLzU.o HLzT.o mzD mzU mzT (HAzD.o.1.below HE2.o.below) (HAzD.o.2.below HE2.o.below) (HAzU.o.1.below HE2.o.below) (HAzU.o.2.below HE2.o.below) (HAzT.o.1.below HE2.o.below) (HAzT.o.2.below HE2.o.below)).mono ?_;rintro e w3 ⟨rfl,hb⟩;have HE3:AP (BE w 36 #[UF ok,UE UG sgn,UE UG stl,UD asD nsD csD,UD asU nsU csU,UD aF nF cF,UD azD nzD czD,UD azU nzU czU,UE UO zk,UD azT nzT czT,UE UG nx] #[UF ok,UE UG sgn,UE UG stl,UD bsD nsD dsD,UD bsU nsU dsU,UD bF nF dF,UD bzD nzD dzD,UD bzU nzU dzU,UE UO zk,UD bzT nzT dzT,UE UG nx] w3):=HE2.o.call hb;clear hb HE2;have x10:w3.cell? ⟨w.heap.size,10,UJ⟩=UI (UE UG nx):=by rw[AA HE3.o.b0 10];rfl
 have y10:w3.cell? ⟨w.heap.size+1,10,UJ⟩=UI (UE UG nx):=by rw[AA HE3.o.b1 10];rfl
 have HF:AP (Below w.heap.size w w3):=HE3.o.below;clear HE3;go_wp2
 go_ret
 exact⟨rfl,HF.o⟩
open Classical in
theorem Dj.le {U:List Int} (h:Dj U):U.length<=256:=by
 have e:=Dj.eq_upTo h (λv=>decide ((v:Int)∈U)) (λv _=>AM);rw[<-e];exact Fu _ _
theorem JE.bd {D U:List Int} {k:Int} {T:List Int} {n:Nat} (h:JE D U k T n):0<=k/\k<=256/\n<=256:=by
 have:=h.2.2.1.le;have h4:=h.2.2.2.1;have h5:=h.2.2.2.2.1;omega
structure AX (w:UK) (H B g:Nat) (r:GN) (wr:UK):Prop where
 bel:Below H w wr
 bk:∃ d u v,Bk wr g d u r.k v/\DV d (λx=>(x:Int)∈r.D)/\DV u (λx=>(x:Int)∈r.U)/\Ds B wr v r.T r.n/\Iy g v
theorem Hw (ad:Option Addr) (n c:Nat) (F:List Int) (w:UK) (g H B:Nat) (r0:GN) (ho:r0.ok=true) (hF:FC w ad F) (hl:F.length=n*4) (hn:n<=1000) (hFB:QB F) (hlo:∀ x,ad=UI x->x.block<H)
  (hX:AX w H B g r0 w) (hst:JE r0.D r0.U r0.k r0.T r0.n) (hT:r0.T.length=r0.n*2) (hH:H<=g) (hHB:H<=B) (hBw:B<=w.heap.size) (hHw:H<=w.heap.size) :
  Calls Tryz.prog 39 #[UM (UI ⟨g,0,UJ⟩),UD ad n c] w (λe w'=>e=UQ (UF (EE r0 F n).ok)/\Below H w w'/\((EE r0 F n).ok=true->AX w H B g (EE r0 F n) w')):=by
 have HX0:=Cp hX;have HSF:AP ((Tryz.prog.info? 112).map (·.size)=UI 4):=by show _=_;kernel_rfl
 have HST:=Cp (λi hi=>Gj hFB hst hT i hi);have HFB:=Cp hFB;have HFA:=Cp hF;have HLO:=Cp hlo;have HL:=Cp hl;clear hX hFB hst hT hF hlo hl;go_enter Tryz.func39,Tryz.ntmps39;go_wp2
 go_loopw [9] (λi wr=>∃ q:Nat,q<=n/\i=UE UO q/\(EE r0 F q).ok=true/\AX w H B g (EE r0 F q) wr) (λi _=>n-(intOf i).toNat)
 case atStart=>exact⟨0,Aj _,rfl,ho,HX0.o⟩
 case round=>
  clear HX0;obtain⟨q,hq,rfl,hok,hx⟩:=hrel;have HX:=Cp hx;have HOK:=Cp hok;clear hx hok;by_cases hlt:q<n
  ·have hlt':(q:Int)<(n:Int):=AK
   obtain⟨b,off,rfl,hb,hc⟩:=HFA.o.get (by rw[HL.o];omega);obtain⟨f0,f1,f2,f3⟩:=FC.four hc q (by rw[HL.o];omega);obtain⟨⟨p0,p1⟩,y0,y1⟩:=HFB.o q (by rw[HL.o];omega);have hblt:=HLO.o _ rfl;have hbl:b<H:=hblt;have hcl:∀ j,wr.cell? ⟨b,j,UJ⟩=w.cell? ⟨b,j,UJ⟩:=λj=>HX.o.bel.cell (p:=⟨b,j,UJ⟩) hbl
   have s0:wr.cell? ⟨b,off+q*4,UJ⟩=_:=(hcl _).trans f0;have s1:wr.cell? ⟨b,off+q*4+1,UJ⟩=_:=(hcl _).trans f1;have s2:wr.cell? ⟨b,off+q*4+2,UJ⟩=_:=(hcl _).trans f2;have s3:wr.cell? ⟨b,off+q*4+3,UJ⟩=_:=(hcl _).trans f3;obtain⟨hstq,hTq⟩:=HST.o q (by rw[HL.o];omega) HOK.o;have HGO:=Cp (J4 HOK.o);clear f0 f1 f2 f3 hc hcl hblt;generalize F.getD (q*4) 0=s at *;generalize F.getD (q*4+1) 0=kd at *;generalize F.getD (q*4+2) 0=p at *;generalize F.getD (q*4+3) 0=y at *;have HSTQ:=Cp hstq;clear hstq hTq;have hsz:=HX.o.bel.size;have hb1:Below wr.heap.size wr (wr.alloc (UP #[UE UG s,UE UO kd,UE UG p,UE UG y] 112)):=Cs.alloc Cw _;have HR1:AP ((wr.alloc (UP #[UE UG s,UE UO kd,UE UG p,UE UG y] 112)).heap[wr.heap.size]?=UI (UP #[UE UG s,UE UO kd,UE UG p,UE UG y] 112 (0,0))):=AV wr _;have A:AP (Calls Tryz.prog 86 #[UM (UI ⟨g,0,UJ⟩),UN #[UE UG s,UE UO kd,UE UG p,UE UG y]] (wr.alloc (UP #[UE UG s,UE UO kd,UE UG p,UE UG y] 112)) (D7 H B g (wr.alloc (UP #[UE UG s,UE UO kd,UE UG p,UE UG y] 112)) (EE r0 F (q+1)))):=by
    obtain⟨d,u,v,k1,k2,k3,k4,k5⟩:=HX.o.bk;obtain⟨z0,z1,z2⟩:=HSTQ.o.bd;rw[HGO.o];have:=NP s kd p.toNat y.toNat AK AK (k1.below hb1 k1.lt) k2 k3 (k4.alloc (UP #[UE UG s,UE UO kd,UE UG p,UE UG y] 112)) HSTQ.o.1 z0 AK AK hH hHB k5 (by rw[Bl];omega);rw[Bm p0,Bm y0] at this;exact this
   have HB1:AP (Below H w (wr.alloc (UP #[UE UG s,UE UO kd,UE UG p,UE UG y] 112))):=HX.o.bel.trans (hb1.mono AK);clear hb1 HX HGO HSTQ
   go_upto_region 4 with (first
    |(refine AC 112 (UT 6) (UT 12) wr.heap.size #[UE UG s,UE UO kd,UE UG p,UE UG y] 112 (AV wr _) HSF.o rfl (SH _ _ _ _) ?_)
    |fail)
   rw[World.setRow_alloc_new];generalize wr.alloc (UP #[UE UG s,UE UO kd,UE UG p,UE UG y] 112)=w1 at *;generalize wr.heap.size=Q at *;clear s0 s1 s2 s3;go_wp2_with (first
    |(refine Ab rfl 112 (UT 6) rfl Q rfl 112 _ (0,0) _ HR1.o Tryz.underlying112 rfl HSF.o ?_)
    |fail)
   refine A.o.mono ?_;rintro e w2 ⟨rfl,b2,hok2⟩;clear A HR1;cases hk:(EE r0 F (q+1)).ok with
   |false=>
    have HE:AP ((EE r0 F n).ok=false):=by
     show _=_
     by_cases e:q+1=n
     ·rw[<-e];exact hk
     ·have:=J5 hk (n-(q+2));rw[show q+1+1+(n-(q+2))=n by omega] at this;rw[this];rfl
    have HF:=Cp (HB1.o.trans b2);clear b2 hok2 HB1;go_wp2
    go_ret
    exact⟨by rw[HE.o];rfl,HF.o,λh=>by rw[HE.o] at h;cases h⟩
   |true=>
    have HF:AP (AX w H B g (EE r0 F (q+1)) w2):=⟨HB1.o.trans b2,hok2 hk⟩
    have HK:=Cp hk;clear b2 hok2 HB1 hk;go_wp2;go_roundw
    case rel=>exact⟨q+1,AK,by go_num,HK.o,HF.o⟩
    case measure=>simp[intOf];omega
  ·obtain rfl:q=n:=AK
   go_wp2
   go_ret
   exact⟨by rw[HOK.o];rfl,HX.o.bel,λ_=>HX.o⟩
theorem PU {zs:List Int} (h:zs.length≠64):GO zs=Nb:=Gv (by unfold Gy;simp[h])
theorem PV (a:Option Addr) (n cap:Nat) (zs:List Int) (w:UK) (hn:zs.length=n) (hm:n<=1048576) (hz:Cu zs) (ha:At UH w a zs) :
  Calls Tryz.prog 72 #[UD a n cap] w λe w'=>e=UQ (GO zs)/\Below w.heap.size w w':=by
 by_cases h64:n=64
 ·subst h64;obtain⟨b,off,rfl,hb,hc⟩:=ha.get AK;exact Q5 b off cap zs w hn hz hb hc
 ·rw[PU AK];have ht:((n:Int) != 64)=true:=by rw[bne_iff_ne];omega
  have hsF:(Tryz.prog.info? 114).map (·.size)=UI 5:=AN
  have HSF:AP _:=hsF;clear hsF;go_enter Tryz.func72,Tryz.ntmps72;go_wp2_with (refine AC 114 (UT 2) (UT 7) w.heap.size Cl 114 (AV w _) HSF.o rfl (J7 _ _ _ _ _) ?_)
  (try simp only[Exit.inBlock,Exit.then])
  refine AZ (v:=Nb) (AW rfl _ _ w.heap.size 114 _ (0,0) _ rfl (AB (AV w _)) Tryz.underlying114 rfl HSF.o) rfl ⟨rfl,?_⟩;exact(Cv w _).trans ((Wr.setRow _ _ _).below Cw)
theorem Q7 (a:Option Addr) (n cap:Nat) (zs:List Int) (w:UK) (hn:zs.length=n) (hm:n<=1048576) (ha:At UH w a zs) (hz:Cu zs) :
  Calls Tryz.prog 69 #[UD a n cap] w λe w'=>∃ v,e=UQ v/\I0 w.heap.size w' v (Fh zs)/\Below w.heap.size w w':=by
 have HBX:AP (Gk w (w.alloc (UP Ce 63))):=Gk.start w;have HSR:AP ((Tryz.prog.info? 63).map (·.size)=UI 5):=by show _=_;kernel_rfl
 by_cases h128:n=128
 ·subst h128;obtain⟨b,off,rfl,hb,hc⟩:=ha.get AK;by_cases h16:zs.getD 6 0<=16
  ·exact Q6 b off cap zs w hn hz hb hc h16
  ·have HF:AP (Fh zs=Fg):=Mb h16;have c6:(w.alloc (UP Ce 63)).cell? ⟨b,off+6,UJ⟩=UI (UE UH (zs.getD 6 0)):=((Cv w _).cell (p:=⟨b,off+6,UJ⟩) hb).trans (hc 6 AK);have b6:=hz.get 6;have hc6:zs.getD 6 0>16:=AK
   clear hn ha hz hc h16;generalize zs.getD 6 0=z6 at c6 hc6 b6;obtain⟨b60,b61⟩:=b6;go_enter Tryz.func69,Tryz.ntmps69;go_wp2_with (first
    |(refine AC 63 (UT 2) (UT 17) w.heap.size Ce 63 HBX.o.box HSR.o rfl (Er _ _ _ _ _ _ _ _ _) ?_)
    |fail)
   (try simp only[Exit.inBlock,Exit.then])
   refine AZ (v:=UN Ce) (AW rfl _ _ w.heap.size 63 _ (0,0) _ rfl (AB HBX.o.box) Tryz.underlying63 rfl HSR.o) rfl ⟨_,rfl,?_,HBX.o.below.trans ((Wr.setRow _ _ _).below Cw)⟩;rw[HF.o];exact I0.no _ _
 ·have HF:AP (Fh zs=Fg):=Qr AK;have hne:((n:Int) != 128)=true:=by simp;omega
  clear hn ha hz;go_enter Tryz.func69,Tryz.ntmps69;go_wp2_with (first
   |(refine AC 63 (UT 2) (UT 17) w.heap.size Ce 63 HBX.o.box HSR.o rfl (Er _ _ _ _ _ _ _ _ _) ?_)
   |fail)
  (try simp only[Exit.inBlock,Exit.then])
  refine AZ (v:=UN Ce) (AW rfl _ _ w.heap.size 63 _ (0,0) _ rfl (AB HBX.o.box) Tryz.underlying63 rfl HSR.o) rfl ⟨_,rfl,?_,HBX.o.below.trans ((Wr.setRow _ _ _).below Cw)⟩;rw[HF.o];exact I0.no _ _
structure I6 (lo b1 b2:Nat) (w:UK) (aSD aSU aF aD aU aT:Option Addr) (nSD nSU mF nD nU nT:Nat):Prop where
 oSD:Df w aSD nSD
 oSU:Df w aSU nSU
 oF:Df w aF (mF*4)
 oD:Df w aD nD
 oU:Df w aU nU
 oT:Df w aT (nT*2)
 lSD:∀ ad,aSD=UI ad->lo<=ad.block/\ad.block<w.heap.size
 lSU:∀ ad,aSU=UI ad->lo<=ad.block/\ad.block<w.heap.size
 lF:∀ ad,aF=UI ad->lo<=ad.block/\ad.block<w.heap.size
 lD:∀ ad,aD=UI ad->lo<=ad.block/\ad.block<w.heap.size
 lU:∀ ad,aU=UI ad->lo<=ad.block/\ad.block<w.heap.size
 lT:∀ ad,aT=UI ad->lo<=ad.block/\ad.block<w.heap.size
 sDU:Ej aSD aSU
 dU:Ej aD aU
 dT:Ej aD aT
 uT:Ej aU aT
 xS:∀ ad,aSD=UI ad\/aSU=UI ad->DG ad.block aF/\DG ad.block aD/\DG ad.block aU/\DG ad.block aT
 xF:∀ ad,aF=UI ad->DG ad.block aD/\DG ad.block aU/\DG ad.block aT
section
variable (ok:Bool) (gn tl:Int) (aSD aSU aF aD aU aT:Option Addr) (nSD cSD nSU cSU mF cF nD cD nU cU nT cT:Nat) (k0 nx k:Int) (w:UK)
theorem I6.below {lo b1 b2:Nat} {w w':UK} {aSD aSU aF aD aU aT:Option Addr} {nSD nSU mF nD nU nT:Nat} (h:I6 lo b1 b2 w aSD aSU aF aD aU aT nSD nSU mF nD nU nT) (b:Below w.heap.size w w'):I6 lo b1 b2 w' aSD aSU aF aD aU aT nSD nSU mF nD nU nT:=
 ⟨h.oSD.below b,h.oSU.below b,h.oF.below b,h.oD.below b,h.oU.below b,h.oT.below b,λad e=>AI (h.lSD ad e) b.size,λad e=>AI (h.lSU ad e) b.size,λad e=>AI (h.lF ad e) b.size,λad e=>AI (h.lD ad e) b.size,λad e=>AI (h.lU ad e) b.size,λad e=>AI (h.lT ad e) b.size,h.sDU,h.dU,h.dT,h.uT,h.xS,h.xF⟩
theorem FC.keepT {w w':UK} {a:Option Addr} {F:List Int} (h:FC w a F) (hs:w.heap.size<=w'.heap.size) (hb:∀ ad,a=UI ad->ad.block<w.heap.size->w'.heap[ad.block]?=w.heap[ad.block]?):FC w' a F:=by
 rcases h with h|⟨b,off,e,hl,hc⟩
 ·exact .inl h
 ·have hk:=hb _ e hl;exact .inr ⟨b,off,e,AK,λi hi=>by rw[Aa (a:=⟨b,off+i,UJ⟩) (w:=w) hk];exact hc i hi⟩
def TW (w:UK) (aSD aSU aF aD aU aT:Option Addr) (nSD nSU mF nD nU nT:Nat) (k:Int):Prop:=
 At UO w aSD (Fd k nSD)/\At UO w aSU (Fd (k+nSD) nSU)/\FC w aF (Fd (k+nSD+nSU) (mF*4))/\At UO w aD (Fd (k+nSD+nSU+mF*4) nD)/\At UO w aU (Fd (k+nSD+nSU+mF*4+nD) nU)/\At UO w aT (Fd (k+nSD+nSU+mF*4+nD+nU) (nT*2))
theorem Nn {lo b1 b2:Nat} (h:I6 lo b1 b2 w aSD aSU aF aD aU aT nSD nSU mF nD nU nT) (hlo:lo<=w.heap.size) (hk:0<=k) (hk':k+nSD+nSU+mF*4+nD+nU+nT*2<=1000000) :
  Calls Tryz.prog 13 #[UN #[UF ok,UE UG gn,UE UG tl,UD aSD nSD cSD,UD aSU nSU cSU,UD aF mF cF,UD aD nD cD,UD aU nU cU,UE UO k0,UD aT nT cT,UE UG nx],UE UO k] w λe w'=>e=UQ (UE UO (k+nSD+nSU+mF*4+nD+nU+nT*2))/\TW w' aSD aSU aF aD aU aT nSD nSU mF nD nU nT k/\Below lo w w'/\∀ j,j<w.heap.size->DG j aSD->DG j aSU->DG j aF->DG j aD->DG j aU->DG j aT->w'.heap[j]?=w.heap[j]?:=by
 have bb:Below w.heap.size w (w.alloc (UP #[UF ok,UE UG gn,UE UG tl,UD aSD nSD cSD,UD aSU nSU cSU,UD aF mF cF,UD aD nD cD,UD aU nU cU,UE UO k0,UD aT nT cT,UE UG nx] 36)):=Cs.alloc Cw _;have hbx:(w.alloc (UP #[UF ok,UE UG gn,UE UG tl,UD aSD nSD cSD,UD aSU nSU cSU,UD aF mF cF,UD aD nD cD,UD aU nU cU,UE UO k0,UD aT nT cT,UE UG nx] 36)).heap[w.heap.size]?=UI (UP #[UF ok,UE UG gn,UE UG tl,UD aSD nSD cSD,UD aSU nSU cSU,UD aF mF cF,UD aD nD cD,UD aU nU cU,UE UO k0,UD aT nT cT,UE UG nx] 36 (0,0)):=AV w _;have HI:=Cp (h.below bb);have HB1:=Cp (bb.mono hlo);have HX1:=Cp hbx;have HL:=Cp h;have HSN:AP ((Tryz.prog.info? 30).map (·.size)=UI 4):=by show _=_;kernel_rfl
 have HSS:AP ((Tryz.prog.info? 34).map (·.size)=UI 4):=by show _=_;kernel_rfl
 have hs1:(w.alloc (UP #[UF ok,UE UG gn,UE UG tl,UD aSD nSD cSD,UD aSU nSU cSU,UD aF mF cF,UD aD nD cD,UD aU nU cU,UE UO k0,UD aT nT cT,UE UG nx] 36)).heap.size=w.heap.size+1:=AM
 have HM1:AP ((w.alloc (UP #[UF ok,UE UG gn,UE UG tl,UD aSD nSD cSD,UD aSU nSU cSU,UD aF mF cF,UD aD nD cD,UD aU nU cU,UE UO k0,UD aT nT cT,UE UG nx] 36)).rangeAt w.heap.size 1 [UE UG gn,UE UG tl,UD aSD nSD cSD,UD aSU nSU cSU]):=λj v hj=>by
  have hj4:j<4:=by have:=(Af.1 hj).1;simpa using this
  rw[AA hbx (1+j)];obtain rfl|rfl|rfl|rfl:j=0\/j=1\/j=2\/j=3:=AK
  all_goals(simp at hj;subst hj;rfl)
 have HN1:=Cp (λj (hj:j<w.heap.size)=>bb.block j hj);clear h bb hbx;go_enter Tryz.func13,Tryz.ntmps13
 go_upto_region 1 with fail
 generalize w.alloc (UP #[UF ok,UE UG gn,UE UG tl,UD aSD nSD cSD,UD aSU nSU cSU,UD aF mF cF,UD aD nD cD,UD aU nU cU,UE UO k0,UD aT nT cT,UE UG nx] 36)=w1 at *;go_wp2_with (first
  |(refine wpList_load_mid rfl 30 (UT 5) rfl w.heap.size 1 rfl [UE UG gn,UE UG tl,UD aSD nSD cSD,UD aSU nSU cSU] _ HM1.o Tryz.underlying30 rfl HSN.o ?_)
  |fail)
 refine(Nh gn tl aSD aSU nSD cSD nSU cSU k w1 lo AK HI.o.oSD HI.o.oSU HI.o.lSD HI.o.lSU HI.o.sDU hk AK).mono ?_;rintro e w2 ⟨rfl,p1,p2,bl,un⟩;have s12:=bl.size;have HX2:AP (w2.heap[w.heap.size]?=UI (UP #[UF ok,UE UG gn,UE UG tl,UD aSD nSD cSD,UD aSU nSU cSU,UD aF mF cF,UD aD nD cD,UD aU nU cU,UE UO k0,UD aT nT cT,UE UG nx] 36 (0,0))):=by
  show _=_
  rw[un _ AK (λad e=>AG (HL.o.lSD ad e)) (λad e=>AG (HL.o.lSU ad e))];exact HX1.o
 have kp:∀ c:Option Addr,(∀ ad,c=UI ad->DG ad.block aSD/\DG ad.block aSU)->∀ ad,c=UI ad->ad.block<w1.heap.size->w2.heap[ad.block]?=w1.heap[ad.block]?:=λc hc ad e hl=>un _ hl (hc ad e).1 (hc ad e).2
 have HO2:AP (Df w2 aF (mF*4)/\Df w2 aD nD/\Df w2 aU nU/\Df w2 aT (nT*2)):=⟨HI.o.oF.keepT s12 (kp _ (λad e=>⟨λx hx h=>(HI.o.xS x (.inl hx)).1 ad e h.symm,λx hx h=>(HI.o.xS x (.inr hx)).1 ad e h.symm⟩)),HI.o.oD.keepT s12 (kp _ (λad e=>⟨λx hx h=>(HI.o.xS x (.inl hx)).2.1 ad e h.symm,λx hx h=>(HI.o.xS x (.inr hx)).2.1 ad e h.symm⟩)),HI.o.oU.keepT s12 (kp _ (λad e=>⟨λx hx h=>(HI.o.xS x (.inl hx)).2.2.1 ad e h.symm,λx hx h=>(HI.o.xS x (.inr hx)).2.2.1 ad e h.symm⟩)),HI.o.oT.keepT s12 (kp _ (λad e=>⟨λx hx h=>(HI.o.xS x (.inl hx)).2.2.2 ad e h.symm,λx hx h=>(HI.o.xS x (.inr hx)).2.2.2 ad e h.symm⟩))⟩
 have HP2:=Cp (Ac p1 p2);have HB2:=Cp (HB1.o.trans bl);have x5:w2.cell? ⟨w.heap.size,5,UJ⟩=UI (UD aF mF cF):=by rw[AA HX2.o 5];rfl
 have HN2:AP (∀ j,j<w.heap.size->DG j aSD->DG j aSU->w2.heap[j]?=w.heap[j]?):=λj hj a b=>(un j AK a b).trans (HN1.o j hj)
 clear p1 p2 bl un kp HX1 HM1 HB1 HN1;go_wp2_with fail;refine(Nl aF mF cF (k+nSD+nSU) w2 HO2.o.1 AK AK).mono ?_;rintro e w3 ⟨rfl,p3,hw⟩;have s23:=hw.size;have kq:∀ c:Option Addr,(∀ ad,c=UI ad->DG ad.block aF)->∀ ad,c=UI ad->ad.block<w2.heap.size->w3.heap[ad.block]?=w2.heap[ad.block]?:=λc hc ad e hl=>hw.block _ (hc ad e)
 have HX3:AP (w3.heap[w.heap.size]?=UI (UP #[UF ok,UE UG gn,UE UG tl,UD aSD nSD cSD,UD aSU nSU cSU,UD aF mF cF,UD aD nD cD,UD aU nU cU,UE UO k0,UD aT nT cT,UE UG nx] 36 (0,0))):=by
  show _=_
  rw[hw.block _ (λad e=>AG (HL.o.lF ad e))];exact HX2.o
 have HO3:AP (Df w3 aD nD/\Df w3 aU nU/\Df w3 aT (nT*2)):=⟨HO2.o.2.1.keepT AK (kq _ (λad e x hx h=>(HI.o.xF x hx).1 ad e h.symm)),HO2.o.2.2.1.keepT AK (kq _ (λad e x hx h=>(HI.o.xF x hx).2.1 ad e h.symm)),HO2.o.2.2.2.keepT AK (kq _ (λad e x hx h=>(HI.o.xF x hx).2.2 ad e h.symm))⟩
 have HP3:AP (At UO w3 aSD (Fd k nSD)/\At UO w3 aSU (Fd (k+nSD) nSU)/\FC w3 aF (Fd (k+nSD+nSU) (mF*4))):=⟨HP2.o.1.keepT AK (kq _ (λad e=>(HI.o.xS ad (.inl e)).1)),HP2.o.2.keepT AK (kq _ (λad e=>(HI.o.xS ad (.inr e)).1)),p3⟩
 have HB3:=Cp (HB2.o.trans (hw.below lo (λad e=>AG (HI.o.lF ad e))));have HM3:AP (w3.rangeAt w.heap.size 6 [UD aD nD cD,UD aU nU cU,UE UO k0,UD aT nT cT]):=λj v hj=>by
  have hj4:j<4:=by have:=(Af.1 hj).1;simpa using this
  rw[AA HX3.o (6+j)];obtain rfl|rfl|rfl|rfl:j=0\/j=1\/j=2\/j=3:=AK
  all_goals(simp at hj;subst hj;rfl)
 have HN3:AP (∀ j,j<w.heap.size->DG j aSD->DG j aSU->DG j aF->w3.heap[j]?=w.heap[j]?):=λj hj a b c=>(hw.block j (λad e=>c ad e)).trans (HN2.o j hj a b)
 clear p3 hw kq HX2 HO2 HP2 HB2 HN2 x5;go_wp2_with (first
  |(refine wpList_load_mid rfl 34 (UT 13) rfl w.heap.size 6 rfl [UD aD nD cD,UD aU nU cU,UE UO k0,UD aT nT cT] _ HM3.o Tryz.underlying34 rfl HSS.o ?_)
  |fail)
 refine(NV aD aU aT nD cD nU cU nT cT k0 (k+nSD+nSU+mF*4) w3 lo AK HO3.o.1 HO3.o.2.1 HO3.o.2.2 (λad e=>AG (HI.o.lD ad e)) (λad e=>AG (HI.o.lU ad e)) (λad e=>AG (HI.o.lT ad e)) HI.o.dU HI.o.dT HI.o.uT AK AK).mono ?_;rintro e w4 ⟨rfl,p4,p5,p6,bl,un⟩;have s34:=bl.size;have kp:∀ c:Option Addr,(∀ ad,c=UI ad->DG ad.block aD/\DG ad.block aU/\DG ad.block aT)->∀ ad,c=UI ad->ad.block<w3.heap.size->w4.heap[ad.block]?=w3.heap[ad.block]?:=λc hc ad e hl=>un _ hl (hc ad e).1 (hc ad e).2.1 (hc ad e).2.2
 have HF:AP (TW w4 aSD aSU aF aD aU aT nSD nSU mF nD nU nT k/\Below lo w w4/\∀ j,j<w.heap.size->DG j aSD->DG j aSU->DG j aF->DG j aD->DG j aU->DG j aT->w4.heap[j]?=w.heap[j]?):=⟨⟨HP3.o.1.keepT s34 (kp _ (λad e=>(HI.o.xS ad (.inl e)).2)),HP3.o.2.1.keepT s34 (kp _ (λad e=>(HI.o.xS ad (.inr e)).2)),HP3.o.2.2.keepT s34 (kp _ HI.o.xF),p4,p5,p6⟩,HB3.o.trans bl,λj hj a b c d e g=>(un j AK d e g).trans (HN3.o j hj a b c)⟩
 clear p4 p5 p6 bl un kp HP3 HB3 HM3 HX3 HO3 HN3;go_wp2
 go_ret
 exact⟨rfl,HF.o⟩
theorem No (h:TW w aSD aSU aF aD aU aT nSD nSU mF nD nU nT k) (hk:0<=k) (hk':k+nSD+nSU+mF*4+nD+nU+nT*2<=1000000) :
  Calls Tryz.prog 14 #[UN #[UF ok,UE UG gn,UE UG tl,UD aSD nSD cSD,UD aSU nSU cSU,UD aF mF cF,UD aD nD cD,UD aU nU cU,UE UO k0,UD aT nT cT,UE UG nx],UE UO k] w λe w'=>e=UQ (UE UO (k+nSD+nSU+mF*4+nD+nU+nT*2))/\Below w.heap.size w w':=by
 obtain⟨h1,h2,h3,h4,h5,h6⟩:=h;have bb:Below w.heap.size w (w.alloc (UP #[UF ok,UE UG gn,UE UG tl,UD aSD nSD cSD,UD aSU nSU cSU,UD aF mF cF,UD aD nD cD,UD aU nU cU,UE UO k0,UD aT nT cT,UE UG nx] 36)):=Cs.alloc Cw _;have hbx:(w.alloc (UP #[UF ok,UE UG gn,UE UG tl,UD aSD nSD cSD,UD aSU nSU cSU,UD aF mF cF,UD aD nD cD,UD aU nU cU,UE UO k0,UD aT nT cT,UE UG nx] 36)).heap[w.heap.size]?=UI (UP #[UF ok,UE UG gn,UE UG tl,UD aSD nSD cSD,UD aSU nSU cSU,UD aF mF cF,UD aD nD cD,UD aU nU cU,UE UO k0,UD aT nT cT,UE UG nx] 36 (0,0)):=AV w _;have HH:=Cp (Ac (h1.below bb) (Ac (h2.below bb) (Ac (h3.below bb) (Ac (h4.below bb) (Ac (h5.below bb) (h6.below bb))))));have HB1:=Cp bb;have HX1:=Cp hbx;have HSN:AP ((Tryz.prog.info? 30).map (·.size)=UI 4):=by show _=_;kernel_rfl
 have HSS:AP ((Tryz.prog.info? 34).map (·.size)=UI 4):=by show _=_;kernel_rfl
 have hs1:w.heap.size<(w.alloc (UP #[UF ok,UE UG gn,UE UG tl,UD aSD nSD cSD,UD aSU nSU cSU,UD aF mF cF,UD aD nD cD,UD aU nU cU,UE UO k0,UD aT nT cT,UE UG nx] 36)).heap.size:=AM
 have HM1:AP ((w.alloc (UP #[UF ok,UE UG gn,UE UG tl,UD aSD nSD cSD,UD aSU nSU cSU,UD aF mF cF,UD aD nD cD,UD aU nU cU,UE UO k0,UD aT nT cT,UE UG nx] 36)).rangeAt w.heap.size 1 [UE UG gn,UE UG tl,UD aSD nSD cSD,UD aSU nSU cSU]):=λj v hj=>by
  have hj4:j<4:=by have:=(Af.1 hj).1;simpa using this
  rw[AA hbx (1+j)];obtain rfl|rfl|rfl|rfl:j=0\/j=1\/j=2\/j=3:=AK
  all_goals(simp at hj;subst hj;rfl)
 have g1:¬ (k+(nSD:Int)+nSU<0):=AK
 have g2:¬ (k+(nSD:Int)+nSU+mF*4<0):=AK
 have g3:¬ (k+(nSD:Int)+nSU+mF*4+nD+nU+nT*2<0):=AK
 clear h1 h2 h3 h4 h5 h6 bb hbx;go_enter Tryz.func14,Tryz.ntmps14
 go_upto_region 1 with fail
 generalize w.alloc (UP #[UF ok,UE UG gn,UE UG tl,UD aSD nSD cSD,UD aSU nSU cSU,UD aF mF cF,UD aD nD cD,UD aU nU cU,UE UO k0,UD aT nT cT,UE UG nx] 36)=w1 at *;go_wp2_with (first
  |(refine wpList_load_mid rfl 30 (UT 5) rfl w.heap.size 1 rfl [UE UG gn,UE UG tl,UD aSD nSD cSD,UD aSU nSU cSU] _ HM1.o Tryz.underlying30 rfl HSN.o ?_)
  |fail)
 refine(Ni gn tl aSD aSU nSD cSD nSU cSU k w1 HH.o.1 HH.o.2.1 hk AK).mono ?_;rintro e w2 ⟨rfl,b2⟩;have HX2:AP (w2.heap[w.heap.size]?=UI (UP #[UF ok,UE UG gn,UE UG tl,UD aSD nSD cSD,UD aSU nSU cSU,UD aF mF cF,UD aD nD cD,UD aU nU cU,UE UO k0,UD aT nT cT,UE UG nx] 36 (0,0))):=by show _=_;rw[b2.block _ hs1];exact HX1.o
 have HH2:=Cp (Ac (HH.o.2.2.1.below b2) (Ac (HH.o.2.2.2.1.below b2) (Ac (HH.o.2.2.2.2.1.below b2) (HH.o.2.2.2.2.2.below b2))));have HB2:=Cp (HB1.o.trans (b2.mono HB1.o.size));have x5:w2.cell? ⟨w.heap.size,5,UJ⟩=UI (UD aF mF cF):=by rw[AA HX2.o 5];rfl
 have HM3:AP (w2.rangeAt w.heap.size 6 [UD aD nD cD,UD aU nU cU,UE UO k0,UD aT nT cT]):=λj v hj=>by
  have hj4:j<4:=by have:=(Af.1 hj).1;simpa using this
  rw[AA HX2.o (6+j)];obtain rfl|rfl|rfl|rfl:j=0\/j=1\/j=2\/j=3:=AK
  all_goals(simp at hj;subst hj;rfl)
 clear b2 HH HB1 HX1 HM1;go_wp2_with fail;refine(Nm aF mF cF (k+nSD+nSU) w2 HH2.o.1 AK AK).mono ?_;rintro e w9 ⟨rfl,h9⟩;obtain rfl:w2=w9:=h9.symm;go_wp2_with (first
  |(refine wpList_load_mid rfl 34 (UT 17) rfl w.heap.size 6 rfl [UD aD nD cD,UD aU nU cU,UE UO k0,UD aT nT cT] _ HM3.o Tryz.underlying34 rfl HSS.o ?_)
  |fail)
 refine(NW aD aU aT nD cD nU cU nT cT k0 (k+nSD+nSU+mF*4) w2 HH2.o.2.1 HH2.o.2.2.1 HH2.o.2.2.2 AK AK).mono ?_;rintro e w4 ⟨rfl,b4⟩;have HB4:=Cp (HB2.o.trans (b4.mono HB2.o.size));clear b4 HB2 HM3 HH2 x5 HX2;go_wp2
 go_ret
 exact⟨rfl,HB4.o⟩
end
theorem Np (w:UK) (ty:TypeId) (v:Addr) (x:Option Addr) (c:Nat):(Builtin.append_ #[22,22] ty #[UD (UI v) 0 0,UD x 0 c]).run Tryz.prog w=.ok (UD (UI v) 0 0) w:=by
 obtain⟨i0,hi,hz0,hz1,hz2⟩:=Be Tryz.infoU8';have hf:=λad=>run_firstCells_some (P:=Tryz.prog) w i0.size 0 ad 0 c [] AM (λj v hv=>by simp at hv)
 have hs:∀ p,(storeCells p []).run Tryz.prog w=.ok () w:=λ_=>rfl
 cases x with
 |none=>simp[Builtin.append_,run_underlying Tryz.underlying22,sizeOf,typeInfo,zeroValue,hi,hz0,Builtin.lenOf,run_firstCells_none,hs]
 |some ad=>simp[Builtin.append_,run_underlying Tryz.underlying22,sizeOf,typeInfo,zeroValue,hi,hz0,Builtin.lenOf,hf,hs]
theorem Ik (w:UK) {o:Oper} {a:Act} {K:Act->UK->Prop} {Q:Exit->Act->UK->Prop} (s x:Operand) (hop:o.op=Op.call { callee:=Callee.builtin Builtin.append,args:=#[s,x],argTypes:=#[22,22] })
  (S B:Nat) (hs:a.eval s=UD (UI ⟨B,0,UJ⟩) 0 0) (hown:DT w S (UD (UI ⟨B,0,UJ⟩) 0 0) []) (xa:Option Addr) (n c:Nat) (zs:List Int) (hx:a.eval x=UD xa n c) (hl:zs.length=n) (hA:At UH w xa zs) (hb:n<=1048576) (hSw:S<=w.heap.size)
  (h:∀ v' w',DT w' S v' zs->Below w.heap.size w w'->K (a.put o.dst v') w'):o.wp Tryz.prog a w K Q:=by
 by_cases h0:n=0
 ·subst h0;have hz:zs=[]:=Aq hl;have hk:=h (UD (UI ⟨B,0,UJ⟩) 0 0) w (by rw[hz];exact hown) Cs;have hr:=Np w o.type ⟨B,0,UJ⟩ xa c;unfold Oper.wp execOp;simp only[hop,resolve,invoke,builtin,Sem.run_bind,Sem.run_pure,Result.andThen_ok,List.map_toArray,List.map_cons,List.map_nil,hs,hx,hr];exact hk
 ·obtain⟨b,off,rfl,hbl,hc⟩:=hA.get AK;obtain⟨i0,hi,hz0,hz1,hz2⟩:=Be Tryz.infoU8';have hnews:∀ j u,(zs.map (Value.int UH))[j]?=UI u->w.cell? ((⟨b,off,UJ⟩:Addr).add j)=UI u:=by
   intro j u hu;have hj:j<zs.length:=by have:=(Af.1 hu).1;simpa using this
   rw[Ay,hc j hj];simp[hj] at hu;simp[hj,hu]
  have hfit:Builtin.nextslicecap (0+n) 0*i0.bytes<=281474976710656:=by rw[Ak,nextslicecap_zero AK,hz2];omega
  have hg:=run_append_grow (P:=Tryz.prog) w 22 o.type 5 i0 (UE UH 0) Tryz.underlying22 hi hz0 ⟨B,0,UJ⟩ 0 0 [] AM (λj v hv=>by simp at hv) ⟨b,off,UJ⟩ n c (zs.map (Value.int UH)) (by simp[hz1,hl]) hnews AK AK hfit;obtain⟨v',w',hr,h2,h3,h4⟩:=run_append_own (P:=Tryz.prog) w S 22 o.type 5 i0 (UE UH 0) 1 1 Tryz.underlying22 hi hz0 hz1 hz2 rfl AL _ 0 [] hown.1 ⟨b,off,UJ⟩ n c (zs.map (Value.int UH)) (by simp[hl]) hnews (Bb _ _) (by unfold maxLen;omega) AK hSw;have he:=hr.symm.trans hg;injection he with e1 e2
  have hB:Below w.heap.size w w':=by rw[e2];exact Cs.drew.alloc Cw _
  have hO:DT w' S v' zs:=by
   refine⟨?_,w.heap.size,grownCap w (0+n) 0 5,by rw[e1,hl,Ak]⟩;rw[hl];simpa using h2
  have hk:=h v' w' hO hB;unfold Oper.wp execOp;simp only[hop,resolve,invoke,builtin,Sem.run_bind,Sem.run_pure,Result.andThen_ok,List.map_toArray,List.map_cons,List.map_nil,hs,hx,hr];exact hk
def TY (S D L cap:Nat) (a:Option Addr) (zs:List Int) (f:Int) (d:Bool):Nat->UK->UL->Prop
 |0,w,v=>∃ B,v=UD (UI ⟨B,0,UJ⟩) 0 0/\DT w S (UD (UI ⟨B,0,UJ⟩) 0 0) []
 |1,_,v=>v=UM (UI ⟨D,0,UJ⟩)
 |2,_,v=>v=UD a L cap
 |3,w,v=>Dd w S v zs
 |4,_,v=>v=UM (UI ⟨D,2,UJ⟩)
 |5,_,v=>v=UE UO f
 |6,_,v=>v=UM (UI ⟨D,3,UJ⟩)
 |7,_,v=>v=UF d
 |8,w,v=>∃ dv,v=UN #[dv,UD UJ 0 0,UE UO f,UF d]/\Dd w S dv zs
 |_,w,v=>∃ A,v=UM (UI ⟨A,0,UJ⟩)/\S<=A/\w.heap[A]?=UI (UP Cd 40 (0,0))
theorem PW (S D L cap:Nat) (a:Option Addr) (zs:List Int) (f:Int) (d:Bool) (i:Nat) (w w':UK) (v:UL) (hm:Below w.heap.size w w') (h:TY S D L cap a zs f d i w v):TY S D L cap a zs f d i w' v:=by
 unfold TY at *;split at h;all_goals first
  |exact h
  |exact h.grow hm
  |(obtain⟨dv,e,h⟩:=h;exact⟨dv,e,h.grow hm⟩)
  |(obtain⟨W,e,h1,h2⟩:=h;exact⟨W,e,h1,by rw[hm.block _ (AQ.1 h2).1];exact h2⟩)
def TZ (D A S E b5 o5 m cx k:Nat) (cv:UL) (qs:List Q1) (s:Int) (xa:Option Addr) (c:Nat) (z:List Int):Nat->(Nat->Bool)->UK->UL->Prop
 |0,_,_,v=>v=UM (UI ⟨A,1,UJ⟩)
 |1,_,_,v=>v=cv
 |2,_,_,v=>v=UM (UI ⟨D,1,UJ⟩)
 |3,_,_,v=>v=UD (UI ⟨b5,o5,UJ⟩) m cx
 |4,_,_,v=>v=UE UO k
 |5,_,_,v=>v=UM (UI ⟨b5,o5+k*2,UJ⟩)
 |6,_,_,v=>v=UM (UI ⟨b5,o5+k*2,UJ⟩)
 |7,_,_,v=>v=UE UO s
 |8,_,w,v=>∃ B,v=UD (UI ⟨B,0,UJ⟩) 0 0/\DT w S (UD (UI ⟨B,0,UJ⟩) 0 0) []
 |9,_,_,v=>v=UM (UI ⟨D,1,UJ⟩)
 |10,_,_,v=>v=UD (UI ⟨b5,o5,UJ⟩) m cx
 |11,_,_,v=>v=UE UO k
 |12,_,_,v=>v=UM (UI ⟨b5,o5+k*2,UJ⟩)
 |13,_,_,v=>v=UM (UI ⟨b5,o5+k*2+1,UJ⟩)
 |14,_,_,v=>v=UD xa z.length c
 |15,_,w,v=>Dd w S v z
 |16,_,w,v=>∃ a c',v=UN #[UE UO s,UD a z.length c']/\Dd w S (UD a z.length c') z
 |17,_,w,v=>∃ K a c',v=UD (UI ⟨K,0,UJ⟩) 1 1/\S<=K/\w.heap[K]?=UI (UP #[UE UO s,UD a z.length c'] 106 (0,0))/\Dd w S (UD a z.length c') z
 |18,_,w,v=>∃ q:Q1,q.s=s/\q.z=z/\Dk w E v (qs++[q])
 |_,_,_,v=>v=UM (UI ⟨A,1,UJ⟩)
theorem DT.grown {w w':UK} {S:Nat} {v:UL} {z:List Int} {r:Option Nat} (h:DT w S v z) (hg:w.grownBy w' r) (hr:∀ k,r=UI k->k<S):DT w' S v z:=
 h.keep (λk e=>hg.block k (DI h.1 k e).2.1 (λer=>AI (hr k er.symm) (DI h.1 k e).1))
theorem PX (D A S E b5 o5 m cx k:Nat) (cv:UL) (qs:List Q1) (s:Int) (xa:Option Addr) (c:Nat) (z:List Int) (hr:∀ k,cv.ownBlock=UI k->k<S) (j:Nat) (L:Nat->Bool) (w w':UK) (i:Nat) (v:UL)
  (hM:(i≠18->Below w.heap.size w w')/\w.grownBy w' cv.ownBlock) (hij:i≠j) (hL:L i=false) (h:TZ D A S E b5 o5 m cx k cv qs s xa c z j L w v):TZ D A S E b5 o5 m cx k cv qs s xa c z j (Ct L i) w' v:=by
 have hg:=hM.2;unfold TZ at *;split at h;all_goals first
  |exact h
  |exact Dd.grown h hg hr
  |(obtain⟨B,e,h⟩:=h;exact⟨B,e,DT.grown h hg hr⟩)
  |(obtain⟨a,c',e,h⟩:=h;exact⟨a,c',e,Dd.grown h hg hr⟩)
  |(obtain⟨K,a,c',e,h1,h2,h⟩:=h;exact⟨K,a,c',e,h1,by rw[hg.block _ (AQ.1 h2).1 (λer=>AG (hr K er.symm))];exact h2,Dd.grown h hg hr⟩)
  |(obtain⟨q,e1,e2,h⟩:=h;exact⟨q,e1,e2,h.below (hM.1 hij)⟩)
theorem Il (v:UL) (zs:List Int) (ps:List PD) (f:Int) (d:Bool) (w:UK) (h:Ei w v zs ps f d) (hz:zs.length<=1048576) (hn:ps.length<=1048576) (hps:∀ i,(ps.getD i (0,[])).2.length<=1048576) :
  Calls Tryz.prog 102 #[v] w λe w'=>∃ r,e=UQ r/\DR w' w.heap.size r zs ps f d/\Below w.heap.size w w':=by
 have HSD:AP _:=Tryz.sizeDv;obtain⟨a,cap,x,cx,rfl,hA,hP,hcap⟩:=h;have HA:AP (At UH w a zs):=hA;have HP:AP (FY w x ps):=hP;have HPS:AP (∀ i,(ps.getD i (0,[])).2.length<=1048576):=hps;obtain⟨L,hL⟩:∃ L,zs.length=L:=⟨_,rfl⟩
 obtain⟨m,hm⟩:∃ m,ps.length=m:=⟨_,rfl⟩
 rw[hL] at hz |-;rw[hm] at hn |-;have HHM:AP (ps.length=m):=hm;have HHL:AP (zs.length=L):=hL;clear hL hm hA hP hcap hps;have HS0:AP (B2 w _ #[UD a L cap,UD x m cx,UE UO f,UF d]):=B2.start w #[UD a L cap,UD x m cx,UE UO f,UF d];go_enter Tryz.func102,Tryz.ntmps102;go_wp2_with fail;have st1:=HS0.o;clear HS0;generalize ((w.alloc (UP #[UD a L cap,UD x m cx,UE UO f,UF d] 40)).alloc (UP Cd 40))=w1 at *;have HS1:AP (B2 w w1 #[UD a L cap,UD x m cx,UE UO f,UF d]):=st1;have hs1:w.heap.size+1<w1.heap.size:=(AQ.1 st1.b1).1;clear st1;refine Ae AN ?_;refine F2 10 (λw w'=>Below w.heap.size w w') (frame:=(λ(a b c d e f g h i j k l m n o p q r s u v w x y z A B C D E F G:UL)=>λ(t:Nat->UL)=>({ tmps:=List.toArray [a,b,c,t 9,d,t 0,t 1,t 2,t 3,t 4,t 5,t 6,t 7,t 8,e,f,g,h,i,j,k,l,m,n,o,p,q,r,s,u,v,w,x,y,z,A,B,C,D,E,F,G],defers:=[] }:Act)) _ _ _ _ _ _ _ _ _ _ _ _ _ _ _ _ _ _ _ _ _ _ _ _ _ _ _ _ _ _ _ _)
  (Ext:=λw'=>B2 w w' #[UD a L cap,UD x m cx,UE UO f,UF d]/\Below w1.heap.size w1 w') (Good:=TY w1.heap.size w.heap.size L cap a zs f d) AO AN (PW _ _ _ _ _ _ _ _) AN AN ?hop ?hend _ _ ((λ(x0 x1 x2 x3 x4 x5 x6 x7 x8 x9:UL)=>λ(i:Nat)=>if i=0 then x0 else if i=1 then x1 else if i=2 then x2 else if i=3 then x3 else if i=4 then x4 else if i=5 then x5 else if i=6 then x6 else if i=7 then x7 else if i=8 then x8 else if i=9 then x9 else undef) _ _ _ _ _ _ _ _ _ _) _ AM AM ?ext ?start AM
 case start=>intro i hi h;exact absurd h E0
 case ext=>exact⟨B2.grow HS1.o Cs.drew,Cs.drew⟩
 case hop=>
  intro i o t w' hil ho hx hdep K hK;obtain⟨hx,hxb⟩:=hx;obtain⟨c0,c1,c2,c3⟩:=Ek hx.b0;obtain rfl|rfl|rfl|rfl|rfl|rfl|rfl|rfl|rfl|rfl:i=0\/i=1\/i=2\/i=3\/i=4\/i=5\/i=6\/i=7\/i=8\/i=9:=AK
  all_goals(simp at ho;subst ho)
  ·clear hdep;have hb9:=(Ad w'.heap.size w').alloc Cw (UP #[] 5);have hK':=hK (w'.alloc (UP #[] 5)) (UD (UI ⟨w'.heap.size,0,UJ⟩) 0 0) ⟨w'.heap.size,rfl,DT.empty w' _ hxb.size⟩ ⟨hx.grow hb9,hxb.trans (hb9.mono hxb.size)⟩ hb9;clear hK;go_simp;simpa[Cr] using hK'
  ·clear hdep;go_simp;exact hK w' (UM (UI ⟨w.heap.size,0,UJ⟩)) rfl ⟨hx,hxb⟩ Cs
  ·have d1:t 1=_:=hdep ⟨1,UR⟩ AM rfl;clear hdep;go_simp;simpa[Cr,d1] using hK w' (UD a L cap) rfl ⟨hx,hxb⟩ Cs
  ·obtain⟨B,d0,O0⟩:=hdep ⟨0,UR⟩ AM rfl;have d2:t 2=_:=hdep ⟨2,UR⟩ AM rfl;clear hdep;refine Ik w' (UT 5) (UT 7) rfl w1.heap.size B d0 O0 a L cap zs d2 HHL.o (At.below HA.o hx.below) hz hxb.size ?_;intro v9 w9 O9 hb9;exact hK w9 v9 (.inr O9) ⟨hx.grow hb9,hxb.trans (hb9.mono hxb.size)⟩ hb9
  ·clear hdep;go_simp;exact hK w' (UM (UI ⟨w.heap.size,2,UJ⟩)) rfl ⟨hx,hxb⟩ Cs
  ·have d4:t 4=_:=hdep ⟨4,UR⟩ AM rfl;clear hdep;go_simp;simpa[Cr,d4] using hK w' (UE UO f) rfl ⟨hx,hxb⟩ Cs
  ·clear hdep;go_simp;exact hK w' (UM (UI ⟨w.heap.size,3,UJ⟩)) rfl ⟨hx,hxb⟩ Cs
  ·have d6:t 6=_:=hdep ⟨6,UR⟩ AM rfl;clear hdep;go_simp;simpa[Cr,d6] using hK w' (UF d) rfl ⟨hx,hxb⟩ Cs
  ·have d3:Dd w' w1.heap.size (t 3) zs:=hdep ⟨3,UR⟩ AM rfl;have d5:t 5=_:=hdep ⟨5,UR⟩ AM rfl;have d7:t 7=_:=hdep ⟨7,UR⟩ AM rfl;clear hdep;obtain⟨da,dc,e2⟩:=d3.sl';rw[e2] at d3;have hK':=hK w' (UN #[UD da zs.length dc,UD UJ 0 0,UE UO f,UF d]) ⟨_,rfl,d3⟩ ⟨hx,hxb⟩ Cs;clear d3 hK;go_simp;simpa[Cr,e2,d5,d7] using hK'
  ·clear hdep;have hb9:=(Ad w'.heap.size w').alloc Cw (UP Cd 40);have hK':=hK (w'.alloc (UP Cd 40)) (UM (UI ⟨w'.heap.size,0,UJ⟩)) ⟨w'.heap.size,rfl,hxb.size,AV w' _⟩ ⟨hx.grow hb9,hxb.trans (hb9.mono hxb.size)⟩ hb9;clear hK;go_simp;simpa[Cr] using hK'
 case hend=>
  intro o t w' ho hx hg K hK;simp at ho;subst ho;obtain⟨hx,hxb⟩:=hx;obtain⟨dv,h7,O7⟩:=hg 8 AL;obtain⟨A,h8,hA1,hbA⟩:=hg 9 AL;clear hg;obtain⟨da,dc,rfl⟩:=O7.sl';have hAl:=(AQ.1 hbA).1;refine A8 40 (UT 3) (UT 13) rfl A #[UD da zs.length dc,UD UJ 0 0,UE UO f,UF d] h8 h7 40 _ hbA HSD.o rfl (EM _ _ _ _ _ _ _ _) ?_;apply hK;have hwr:=Wr.setRow A w' #[UD da zs.length dc,UD UJ 0 0,UE UO f,UF d];have hrow:(w'.setRow A #[UD da zs.length dc,UD UJ 0 0,UE UO f,UF d]).heap[A]?=UI (UP #[UD da zs.length dc,UD UJ 0 0,UE UO f,UF d] 40 (0,0)):=AB hbA;have hne:∀ k,(UD da zs.length dc).ownBlock=UI k->k≠A:=λk e ek=>by
   obtain⟨_,_,cur,h3⟩:=O7.lt k e;rw[ek,hbA] at h3;simp at h3
  have hsx:=hxb.size;have st3:CS w (w'.setRow A #[UD da zs.length dc,UD UJ 0 0,UE UO f,UF d]) #[UD a L cap,UD x m cx,UE UO f,UF d] A w'.heap.size (UD da zs.length dc) (UD UJ 0 0) zs f d []:=
   ⟨hx.below.trans (hwr.below AK),by rw[hwr.block _ AK];exact hx.b0,by rw[hwr.block _ AK];exact hx.b1,hrow,(O7.keep (λk e=>hwr.block k (hne k e))).mono AK,Dk.nil _ _,⟨AK,hAl,by rw[hwr.size];exact AY _⟩,λk e=>⟨(O7.lt k e).2.1,hne k e⟩⟩
  clear hwr hrow O7 hx hxb hbA h7 hK hne hsx hA1 hAl;generalize (w'.setRow A #[UD da zs.length dc,UD UJ 0 0,UE UO f,UF d])=w3 at *;generalize w'.heap.size=E at *;obtain⟨c0,c1,c2,c3⟩:=Ek st3.b0;have HS3:AP (CS w w3 #[UD a L cap,UD x m cx,UE UO f,UF d] A E (UD da zs.length dc) (UD UJ 0 0) zs f d []):=st3;clear st3 HS1;go_wp2;clear h8;have st3:=HS3.o;clear HS3 c0 c1 c2 c3
  go_loopw [4] (λi wr=>∃(k:Nat) (cv:UL) (qs:List Q1),k<=m/\i=UE UO k/\Fr qs=ps.take k/\CS w wr #[UD a L cap,UD x m cx,UE UO f,UF d] A E (UD da zs.length dc) cv zs f d qs) (λi _=>m-(intOf i).toNat)
  case atStart=>exact⟨0,_,[],Aj _,rfl,rfl,st3⟩
  case round=>
   obtain⟨k,cv,qs,hk,rfl,hqs,st⟩:=hrel;clear st3;obtain⟨y0,y1,y2,y3⟩:=Ek st.b0;by_cases hlt:k<m
   ·obtain⟨b5,o5,rfl,hb5,hc5⟩:=FY.get HP.o (by rw[HHM.o];omega);obtain⟨xa,xc,q1,q2,q4⟩:=hc5 k (by rw[HHM.o];exact hlt);have hzl:=HPS.o k;have hnew:ps.take (k+1)=ps.take k++[((ps.getD k (0,[])).1,(ps.getD k (0,[])).2)]:=by
     have hk':k<ps.length:=by rw[HHM.o];exact hlt
     have e:ps.getD k (0,[])=ps[k]:=by simp[List.getD,hk']
     rw[e];exact BO hk'
    have hql:qs.length=k:=by
     have h1:(Fr qs).length=(ps.take k).length:=by rw[hqs]
     have h2:ps.length=m:=HHM.o;simp[Fr] at h1;omega
    rw[<-hqs] at hnew;have HNEW:AP (ps.take (k+1)=Fr qs++[((ps.getD k (0,[])).1,(ps.getD k (0,[])).2)]):=hnew;clear hnew hqs hc5;generalize (ps.getD k (0,[])).1=s at *;generalize (ps.getD k (0,[])).2=z at *;have hlt':(k:Int)<m:=AK
    have HS3:AP (CS w wr #[UD a L cap,UD (UI ⟨b5,o5,UJ⟩) m cx,UE UO f,UF d] A E (UD da zs.length dc) cv zs f d qs):=st;have HQ4:AP (At UH w xa z):=q4;have HCB:AP (∀ j,cv.ownBlock=UI j->E<=j/\j<wr.heap.size):=λj e=>⟨(DI st.pow.row j e).1,(DI st.pow.row j e).2.1⟩
    have hEw:=st.hE;have HQ12:AP _:=Ac q1 q2;clear st q4 q1 q2;have HLT:AP (∀(i:Nat) (p:Q1) (k:Nat),qs[i]?=UI p->p.v.ownBlock=UI k->k<wr.heap.size):=λi p k hp e=>((CS.pow HS3.o).each i p hp).lt k e |>.2.1
    have hcS:∀ k,cv.ownBlock=UI k->k<wr.heap.size:=λj e=>(HCB.o j e).2
    go_wp2_with fail;clear y0 y1 y2 y3;refine Ae AN ?_;refine F3 20 (λi w w'=>(i≠18->Below w.heap.size w w')/\w.grownBy w' cv.ownBlock) (frame:=(λ(a b c d e f g h i j k l m n o p q r s u v w:UL)=>λ(t:Nat->UL)=>({ tmps:=List.toArray [a,b,c,d,e,f,g,h,i,j,k,l,m,n,o,p,q,r,s,u,v,t 0,t 1,t 2,t 3,t 4,t 5,t 6,t 7,t 8,t 9,t 10,t 11,t 12,t 13,t 14,t 15,t 16,t 17,t 18,t 19,w],defers:=[] }:Act)) _ _ _ _ _ _ _ _ _ _ _ _ _ _ _ _ _ _ _ _ _ _)
     (Ext:=λLs w'=>wr.grownBy w' cv.ownBlock/\(Ls 18=false->Below wr.heap.size wr w')) (Good:=TZ w.heap.size A wr.heap.size E b5 o5 m cx k cv qs s xa xc z) AO AN (PX _ _ _ _ _ _ _ _ _ _ _ _ _ _ _ hcS) AN AN ?hop ?hend _ _ ((λ(x0 x1 x2 x3 x4 x5 x6 x7 x8 x9 x10 x11 x12 x13 x14 x15 x16 x17 x18 x19:UL)=>λ(i:Nat)=>if i=0 then x0 else if i=1 then x1 else if i=2 then x2 else if i=3 then x3 else if i=4 then x4 else if i=5 then x5 else if i=6 then x6 else if i=7 then x7 else if i=8 then x8 else if i=9 then x9 else if i=10 then x10 else if i=11 then x11 else if i=12 then x12 else if i=13 then x13 else if i=14 then x14 else if i=15 then x15 else if i=16 then x16 else if i=17 then x17 else if i=18 then x18 else if i=19 then x19 else undef) _ _ _ _ _ _ _ _ _ _ _ _ _ _ _ _ _ _ _ _) _ AM AM ?ext ?start AM
    case start=>intro i hi h;exact absurd h E0
    case ext=>exact⟨Cx Cs.drew,λ_=>Cs.drew⟩
    case hop=>
     intro i o Ls t w' hil ho hLi hx hdep K hK;obtain⟨hxg,hx9⟩:=hx;have hgr:∀ ww:UK,Below w'.heap.size w' ww->wr.grownBy ww cv.ownBlock:=λww hb=>Dr hxg (Cx hb)
     have h9:∀(j:Nat) (ww:UK),j≠18->Below w'.heap.size w' ww->Ct Ls j 18=false->Below wr.heap.size wr ww:=λj ww hj hb hL=>by
      have hL':Ls 18=false:=by simpa[Ct,Ne.symm hj] using hL
      exact(hx9 hL').trans (hb.mono hxg.size)
     have haf:w'.heap[A]?=UI (UP #[UD da zs.length dc,cv,UE UO f,UF d] 40 (0,0)):=by
      rw[hxg.block A AK (λe=>AG (HCB.o A e.symm))];exact CS.aft HS3.o
     have hbb:w'.heap[w.heap.size]?=UI (UP #[UD a L cap,UD (UI ⟨b5,o5,UJ⟩) m cx,UE UO f,UF d] 40 (0,0)):=by
      rw[hxg.block _ AK (λe=>AG (HCB.o _ e.symm))];exact CS.b0 HS3.o
     obtain⟨a0,a1,a2,a3⟩:=Ek haf;obtain⟨y0,y1,y2,y3⟩:=Ek hbb;have hbw:Below w.heap.size w w':=by
      have hb0:=CS.below HS3.o;have hsz:=hb0.size;exact hb0.trans ⟨hxg.os,hxg.tape,hxg.output,hxg.size,λk hk=>hxg.block k AK (λe=>AG (HCB.o k e.symm))⟩
     have q1':w'.cell? ⟨b5,o5+k*2,UJ⟩=UI (UE UO s):=by rw[hbw.cell (p:=⟨b5,o5+k*2,UJ⟩) hb5];exact HQ12.o.1
     have q2':w'.cell? ⟨b5,o5+k*2+1,UJ⟩=UI (UD xa z.length xc):=by rw[hbw.cell (p:=⟨b5,o5+k*2+1,UJ⟩) hb5];exact HQ12.o.2
     have REF:AP (∀ j,j≠18->(wr.grownBy w' cv.ownBlock/\(Ct Ls j 18=false->Below wr.heap.size wr w'))):=λj hj=>⟨hxg,h9 j w' hj Cs⟩
     have RM:AP (∀ j,(j≠18->Below w'.heap.size w' w')/\w'.grownBy w' cv.ownBlock):=λj=>⟨λ_=>Ad _ _,Cx Cs⟩
     have hs9:=hxg.size;have H9:AP _:=h9;have HGR:AP _:=hgr;have HX9:AP _:=hx9;have HXG:AP _:=hxg;clear h9 hgr hx9 hxg haf hbb;obtain rfl|rfl|rfl|rfl|rfl|rfl|rfl|rfl|rfl|rfl|rfl|rfl|rfl|rfl|rfl|rfl|rfl|rfl|rfl|rfl:i=0\/i=1\/i=2\/i=3\/i=4\/i=5\/i=6\/i=7\/i=8\/i=9\/i=10\/i=11\/i=12\/i=13\/i=14\/i=15\/i=16\/i=17\/i=18\/i=19:=AK
     all_goals(simp at ho;subst ho)
     ·clear hdep;go_simp;exact hK w' (UM (UI ⟨A,1,UJ⟩)) rfl (REF.o 0 AL) (RM.o 0)
     ·have d0:t 0=_:=hdep ⟨0,UR⟩ AM rfl;clear hdep;go_simp;simpa[Cr,d0] using hK w' (cv) rfl (REF.o 1 AL) (RM.o 1)
     ·clear hdep;go_simp;exact hK w' (UM (UI ⟨w.heap.size,1,UJ⟩)) rfl (REF.o 2 AL) (RM.o 2)
     ·have d2:t 2=_:=hdep ⟨2,UR⟩ AM rfl;clear hdep;go_simp;simpa[Cr,d2] using hK w' (UD (UI ⟨b5,o5,UJ⟩) m cx) rfl (REF.o 3 AL) (RM.o 3)
     ·clear hdep;go_simp;exact hK w' (UE UO k) rfl (REF.o 4 AL) (RM.o 4)
     ·have d3:t 3=_:=hdep ⟨3,UR⟩ AM rfl;have d4:t 4=_:=hdep ⟨4,UR⟩ AM rfl;clear hdep;go_simp;simpa[Cr,d3,d4] using hK w' (UM (UI ⟨b5,o5+k*2,UJ⟩)) rfl (REF.o 5 AL) (RM.o 5)
     ·have d5:t 5=_:=hdep ⟨5,UR⟩ AM rfl;clear hdep;go_simp;simpa[Cr,d5] using hK w' (UM (UI ⟨b5,o5+k*2,UJ⟩)) rfl (REF.o 6 AL) (RM.o 6)
     ·have d6:t 6=_:=hdep ⟨6,UR⟩ AM rfl;clear hdep;go_simp;simpa[Cr,d6] using hK w' (UE UO s) rfl (REF.o 7 AL) (RM.o 7)
     ·clear hdep;have hb9:=(Ad w'.heap.size w').alloc Cw (UP #[] 5);have hK':=hK (w'.alloc (UP #[] 5)) (UD (UI ⟨w'.heap.size,0,UJ⟩) 0 0) ⟨w'.heap.size,rfl,DT.empty w' _ hs9⟩ ⟨HGR.o _ hb9,H9.o 8 _ AL hb9⟩ ⟨λ_=>hb9,Cx hb9⟩;clear hK;go_simp;simpa[Cr] using hK'
     ·clear hdep;go_simp;exact hK w' (UM (UI ⟨w.heap.size,1,UJ⟩)) rfl (REF.o 9 AL) (RM.o 9)
     ·have d9:t 9=_:=hdep ⟨9,UR⟩ AM rfl;clear hdep;go_simp;simpa[Cr,d9] using hK w' (UD (UI ⟨b5,o5,UJ⟩) m cx) rfl (REF.o 10 AL) (RM.o 10)
     ·clear hdep;go_simp;exact hK w' (UE UO k) rfl (REF.o 11 AL) (RM.o 11)
     ·have d10:t 10=_:=hdep ⟨10,UR⟩ AM rfl;have d11:t 11=_:=hdep ⟨11,UR⟩ AM rfl;clear hdep;go_simp;simpa[Cr,d10,d11] using hK w' (UM (UI ⟨b5,o5+k*2,UJ⟩)) rfl (REF.o 12 AL) (RM.o 12)
     ·have d12:t 12=_:=hdep ⟨12,UR⟩ AM rfl;clear hdep;go_simp;simpa[Cr,d12] using hK w' (UM (UI ⟨b5,o5+k*2+1,UJ⟩)) rfl (REF.o 13 AL) (RM.o 13)
     ·have d13:t 13=_:=hdep ⟨13,UR⟩ AM rfl;clear hdep;go_simp;simpa[Cr,d13] using hK w' (UD xa z.length xc) rfl (REF.o 14 AL) (RM.o 14)
     ·obtain⟨B,d8,O8⟩:=hdep ⟨8,UR⟩ AM rfl;have d14:t 14=_:=hdep ⟨14,UR⟩ AM rfl;clear hdep;refine Ik w' (UT 29) (UT 35) rfl wr.heap.size B d8 O8 xa z.length xc z d14 rfl (At.below HQ4.o hbw) hzl hs9 ?_;intro v9 w9 O9 hb9;exact hK w9 v9 (.inr O9) ⟨HGR.o w9 hb9,H9.o 15 w9 AL hb9⟩ ⟨λ_=>hb9,Cx hb9⟩
     ·have d7:t 7=_:=hdep ⟨7,UR⟩ AM rfl;have d6:Dd w' wr.heap.size (t 15) z:=hdep ⟨15,UR⟩ AM rfl;clear hdep;obtain⟨ea,ec,e6⟩:=d6.sl';rw[e6] at d6;have hK':=hK w' (UN #[UE UO s,UD ea z.length ec]) ⟨ea,ec,rfl,d6⟩ (REF.o 16 AL) (RM.o 16);clear d6 hK;go_simp;simpa[Cr,e6,d7] using hK'
     ·obtain⟨ea,ec,e7,O7⟩:=hdep ⟨16,UR⟩ AM rfl;clear hdep;have hb9:=(Ad w'.heap.size w').alloc Cw (UP #[UE UO s,UD ea z.length ec] 106);have hK':=hK (w'.alloc (UP #[UE UO s,UD ea z.length ec] 106)) (UD (UI ⟨w'.heap.size,0,UJ⟩) 1 1) ⟨w'.heap.size,ea,ec,rfl,hs9,AV w' _,O7.grow hb9⟩ ⟨HGR.o _ hb9,H9.o 17 _ AL hb9⟩ ⟨λ_=>hb9,Cx hb9⟩;clear hK O7 hb9;go_simp;simpa[Cr,e7] using hK'
     ·have d1:t 1=_:=hdep ⟨1,UR⟩ AM rfl;obtain⟨B,ea,ec,e8,hB,hbB,O8⟩:=hdep ⟨17,UR⟩ AM rfl;clear hdep;have hP9:=(CS.pow HS3.o).below (HX9.o hLi);refine Ij w' (UT 22) (UT 38) rfl E wr.heap.size cv qs ⟨s,ea,ec,z⟩ d1 hP9 HLT.o B e8 hbB (.inl O8) AK AK AK ?_;intro v9 w9 hP9' hg9;exact hK w9 v9 ⟨_,rfl,rfl,hP9'⟩ ⟨Dr HXG.o hg9,λh=>by simp[Ct] at h⟩ ⟨λh=>absurd rfl h,hg9⟩
     ·clear hdep;go_simp;exact hK w' (UM (UI ⟨A,1,UJ⟩)) rfl (REF.o 19 AL) (RM.o 19)
    case hend=>
     intro o Ls t w' ho hx hg K hK;simp at ho;subst ho;obtain⟨hxg,_⟩:=hx;obtain⟨q',hq1,hq2,hP9⟩:=hg 18 AL;have h10:t 19=_:=hg 19 AL;clear hg;obtain⟨na,nc,e9,_⟩:=hP9.mine;obtain⟨n9,hn9⟩:∃ n9,(qs++[q']).length=n9:=⟨_,rfl⟩
     rw[hn9] at e9;clear hn9;rw[e9] at hP9;have haf:w'.heap[A]?=UI (UP #[UD da zs.length dc,cv,UE UO f,UF d] 40 (0,0)):=by
      rw[hxg.block A AK (λe=>AG (HCB.o A e.symm))];exact CS.aft HS3.o
     obtain⟨a0,a1,a2,a3⟩:=Ek haf;have f1:=Ag w' A 1 _ _ haf;have hA9:=Du (i:=1) (UD na n9 nc) haf rfl;have hoth:∀ j,j≠A->(w'.setCell ⟨A,1,UJ⟩ (UD na n9 nc)).heap[j]?=w'.heap[j]?:=λj hj=>Ah w' ⟨A,1,UJ⟩ j (UD na n9 nc) (by simpa using hj)
     have hsz:(w'.setCell ⟨A,1,UJ⟩ (UD na n9 nc)).heap.size=w'.heap.size:=by simp[World.setCell]
     have hPn:Dk (w'.setCell ⟨A,1,UJ⟩ (UD na n9 nc)) E (UD na n9 nc) (qs++[q']):=hP9.keep (λj hj _=>hoth j AK);have st':CS w (w'.setCell ⟨A,1,UJ⟩ (UD na n9 nc)) #[UD a L cap,UD (UI ⟨b5,o5,UJ⟩) m cx,UE UO f,UF d] A E (UD da zs.length dc) (UD na n9 nc) zs f d (qs++[q']):=
      CS.turn HS3.o hxg.os hxg.tape hxg.output (by rw[hsz];exact hxg.size) (λj hj hjA=>(hoth j hjA).trans (hxg.block j AK (λe=>AG (HCB.o j e.symm)))) hA9 hPn
     have hqn:Fr (qs++[q'])=ps.take (k+1):=by rw[HNEW.o];simp[Fr,hq1,hq2]
     have HS':AP (CS w (w'.setCell ⟨A,1,UJ⟩ (UD na n9 nc)) #[UD a L cap,UD (UI ⟨b5,o5,UJ⟩) m cx,UE UO f,UF d] A E (UD da zs.length dc) (UD na n9 nc) zs f d (qs++[q'])):=st';have HQN:AP (Fr (qs++[q'])=ps.take (k+1)):=hqn;clear st' hqn hPn hsz hoth hA9 haf hP9 hxg a0 a2 a3;go_simp;apply hK;clear e9 h10;go_wp2;go_roundw
     case rel=>exact⟨k+1,UD na n9 nc,qs++[q'],AK,by go_num,HQN.o,HS'.o⟩
     case measure=>simp[intOf];omega
   ·have hkm:k=m:=AK
    subst hkm;have hall:Fr qs=ps:=by rw[hqs,<-HHM.o,List.take_length]
    have hlt':¬ (k:Int)<k:=AK
    obtain⟨a0,a1,a2,a3⟩:=Ek st.aft;obtain⟨ca,cc,rfl,_⟩:=st.pow.mine;have hM:=st.typed;have hE:=st.hE;have HM:AP (DR wr (w.heap.size+2) (UN #[UD da zs.length dc,UD ca qs.length cc,UE UO f,UF d]) zs (Fr qs) f d):=hM;have HB1:AP (wr.heap[w.heap.size+1]?=UI (UP Cd 40 (0,0))):=st.b1;have HBL:AP (Below w.heap.size w wr):=st.below;have HALL:AP (Fr qs=ps):=hall;clear st hM hall hqs;generalize qs.length=n9 at *;go_wp2_with (refine AC 40 (UT 2) (UT 41) (w.heap.size+1) #[UD da zs.length dc,UD ca n9 cc,UE UO f,UF d] 40 HB1.o HSD.o rfl (EM _ _ _ _ _ _ _ _) ?_)
    (try simp only[Exit.inBlock,Exit.then])
    refine AZ (v:=UN #[UD da zs.length dc,UD ca n9 cc,UE UO f,UF d]) (AW rfl _ _ (w.heap.size+1) 40 _ (0,0) _ rfl (AB HB1.o) Tryz.underlying40 rfl HSD.o) rfl ⟨_,rfl,?_,?_⟩
    ·have hM:=HM.o;rw[HALL.o] at hM;exact(hM.keep (λj _ _ hj _ _=>(Wr.setRow _ _ _).block j AK) (by rw[BP];exact AY _)).mono AK
    ·exact HBL.o.trans ((Wr.setRow _ _ _).below AK)
def EG (f:Int):Int:=if f>0 then f-1 else f
def Hx (f:Int) (d:Bool):Bool:=if f=0 then true else d
theorem Mh (v:UL) (zs:List Int) (ps:List PD) (f:Int) (d:Bool) (w:UK) (h:Ei w v zs ps f d) (hz:zs.length<=1048576) (hn:ps.length<=1048576) (hps:∀ i,(ps.getD i (0,[])).2.length<=1048576) (hf:f<=9223372036854775807) :
  Calls Tryz.prog 103 #[v] w λe w'=>∃ r,e=UQ r/\DR w' w.heap.size r zs ps (EG f) (Hx f d)/\Below w.heap.size w w':=by
 have HSD:AP _:=Tryz.sizeDv;have HCP:=Il v zs ps f d;have hD:=h;obtain⟨a,cap,x,cx,rfl,hA,hP,hcap⟩:=h;obtain⟨L,hL⟩:∃ L,zs.length=L:=⟨_,rfl⟩
 obtain⟨m,hm⟩:∃ m,ps.length=m:=⟨_,rfl⟩
 have HHL:AP (zs.length=L/\ps.length=m):=⟨hL,hm⟩
 rw[hL] at hz HCP hD |-;rw[hm] at hn HCP hD |-;clear hL hm hA hP hcap;have HCP':AP (∀ ww:UK,Ei ww (UN #[UD a L cap,UD x m cx,UE UO f,UF d]) zs ps f d->Calls Tryz.prog 102 #[UN #[UD a L cap,UD x m cx,UE UO f,UF d]] ww λe w'=>∃ r,e=UQ r/\DR w' ww.heap.size r zs ps f d/\Below ww.heap.size ww w'):=λww hh=>HCP ww hh hz hn hps
 clear HCP hps hz hn;have HS0:AP (B2 w _ #[UD a L cap,UD x m cx,UE UO f,UF d]):=B2.start w #[UD a L cap,UD x m cx,UE UO f,UF d];have HDD:AP (Ei w (UN #[UD a L cap,UD x m cx,UE UO f,UF d]) zs ps f d):=hD;clear hD;go_enter Tryz.func103,Tryz.ntmps103;go_wp2_with fail;have st1:=HS0.o;clear HS0;generalize ((w.alloc (UP #[UD a L cap,UD x m cx,UE UO f,UF d] 40)).alloc (UP Cd 40))=w1 at *;refine(HCP'.o w1 (Ei.below HDD.o st1.below)).mono ?_;rintro e w2 ⟨r,rfl,D2,hb2⟩;have hs1:w.heap.size+1<w1.heap.size:=(AQ.1 st1.b1).1;have hs2:=hb2.size;have st2:=st1.grow hb2;have D2':=D2;obtain⟨da,dc,ca,cc,B1,hr2,_⟩:=D2'.mine;subst hr2;rw[HHL.o.1,HHL.o.2] at D2 |-;have HD2:AP (DR w2 w1.heap.size (UN #[UD da L dc,UD ca m cc,UE UO f,UF d]) zs ps f d):=D2;have HS2:AP (B2 w w2 #[UD a L cap,UD x m cx,UE UO f,UF d]):=st2;clear st1 st2 D2 hb2 HCP' HDD;go_wp2_with (refine EJ rfl 40 (UT 3) (UT 5) rfl w2.heap.size #[UD da L dc,UD ca m cc,UE UO f,UF d] rfl rfl 40 _ (AV w2 _) HSD.o rfl (EM _ _ _ _ _ _ _ _) ?_);intro w3 hr3 hw3;have hb3:Below w2.heap.size w2 w3:=(Cs.alloc Cw _).trans (hw3.below Cw);have st3:=B2.grow HS2.o hb3;have D3:=DR.grow HD2.o hb3;have hAl:w2.heap.size<w3.heap.size:=(AQ.1 hr3).1;obtain⟨a0,a1,a2,a3⟩:=Ek hr3;have f2:=Ag w3 w2.heap.size 2 _ _ hr3;have f3:=Ag w3 w2.heap.size 3 _ _ hr3;have HD3:AP (DR w3 w1.heap.size (UN #[UD da L dc,UD ca m cc,UE UO f,UF d]) zs ps f d):=D3;have HR3:AP (w3.heap[w2.heap.size]?=UI (UP #[UD da L dc,UD ca m cc,UE UO f,UF d] 40 (0,0))):=hr3;have HS3:AP (B2 w w3 #[UD a L cap,UD x m cx,UE UO f,UF d]):=st3;clear st3 D3 hr3 hw3 hb3 HS2 HD2;generalize w2.heap.size=A at *;have key:∀(w4:UK) (f':Int) (d':Bool),w4.heap.size=w3.heap.size->w4.os=w3.os->w4.tape=w3.tape->w4.output=w3.output->(∀ j,j≠A->w4.heap[j]?=w3.heap[j]?)->
   w4.heap[w.heap.size+1]?=UI (UP Cd 40 (0,0))/\DR (w4.setRow (w.heap.size+1) #[UD da L dc,UD ca m cc,UE UO f',UF d']) w.heap.size (UN #[UD da L dc,UD ca m cc,UE UO f',UF d']) zs ps f' d'/\Below w.heap.size w (w4.setRow (w.heap.size+1) #[UD da L dc,UD ca m cc,UE UO f',UF d']):=by
  intro w4 f' d' hsz ho ht hu hoth;have hwr:=Wr.setRow (w.heap.size+1) w4 #[UD da L dc,UD ca m cc,UE UO f',UF d'];refine⟨by rw[hoth _ AK];exact B2.b1 HS3.o,?_,?_⟩
  ·have h1:DR (w4.setRow (w.heap.size+1) #[UD da L dc,UD ca m cc,UE UO f',UF d']) w1.heap.size (UN #[UD da L dc,UD ca m cc,UE UO f,UF d]) zs ps f d:=
    DR.keep HD3.o (λj cur t hj hh ht=>(hwr.block j AK).trans (hoth j (λe=>by rw[e,HR3.o] at hh;simp at hh;exact ht hh.2.symm))) (by rw[hwr.size,hsz];exact AY _)
   exact(h1.refit f' d').mono AK
  ·have hb4:Below w.heap.size w3 w4:=⟨ho,ht,hu,AK,λj hj=>hoth j AK⟩
   exact((B2.below HS3.o).trans hb4).trans (hwr.below AK)
 have KEY:AP _:=key;clear key;obtain hf0|hf1|hf2:f=0\/0<f\/f<0:=AK
 ·subst hf0;have E12:AP (EG 0=0/\Hx 0 d=true):=⟨rfl,rfl⟩
  obtain⟨k1,k2,k3⟩:=KEY.o (w3.setCell ⟨A,3,UJ⟩ (UF true)) 0 true (by simp[World.setCell]) rfl rfl rfl (λj hj=>Ah w3 ⟨A,3,UJ⟩ j (UF true) (by simpa using hj));have K1:AP _:=k1;have K2:AP _:=Ac k2 k3;clear k1 k2 k3;go_wp2_with (refine AC 40 (UT 2) (UT 17) (w.heap.size+1) #[UD da L dc,UD ca m cc,UE UO 0,UF true] 40 K1.o HSD.o rfl (EM _ _ _ _ _ _ _ _) ?_)
  (try simp only[Exit.inBlock,Exit.then])
  refine AZ (v:=UN #[UD da L dc,UD ca m cc,UE UO 0,UF true]) (AW rfl _ _ (w.heap.size+1) 40 _ (0,0) _ rfl (AB K1.o) Tryz.underlying40 rfl HSD.o) rfl ⟨_,rfl,?_,K2.o.2⟩;rw[E12.o.1,E12.o.2];exact K2.o.1
 ·have E12:AP (EG f=f-1/\Hx f d=d):=⟨by unfold EG;rw[AR hf1],by unfold Hx;rw[AS AK]⟩
  obtain⟨k1,k2,k3⟩:=KEY.o (w3.setCell ⟨A,2,UJ⟩ (UE UO (f-1))) (f-1) d (by simp[World.setCell]) rfl rfl rfl (λj hj=>Ah w3 ⟨A,2,UJ⟩ j (UE UO (f-1)) (by simpa using hj));have K1:AP _:=k1;have K2:AP _:=Ac k2 k3;have hne:(f == 0)=false:=by simp;omega
  have hwr:IntKind.i64.wrap (f-1)=f-1:=by rw[As];omega
  clear k1 k2 k3;go_wp2_with (refine AC 40 (UT 2) (UT 17) (w.heap.size+1) #[UD da L dc,UD ca m cc,UE UO (f-1),UF d] 40 K1.o HSD.o rfl (EM _ _ _ _ _ _ _ _) ?_)
  (try simp only[Exit.inBlock,Exit.then])
  refine AZ (v:=UN #[UD da L dc,UD ca m cc,UE UO (f-1),UF d]) (AW rfl _ _ (w.heap.size+1) 40 _ (0,0) _ rfl (AB K1.o) Tryz.underlying40 rfl HSD.o) rfl ⟨_,rfl,?_,K2.o.2⟩;rw[E12.o.1,E12.o.2];exact K2.o.1
 ·have E12:AP (EG f=f/\Hx f d=d):=⟨by unfold EG;rw[AS AK],by unfold Hx;rw[AS AK]⟩
  obtain⟨k1,k2,k3⟩:=KEY.o w3 f d rfl rfl rfl rfl (λj hj=>rfl);have K1:AP _:=k1;have K2:AP _:=Ac k2 k3;have hne:(f == 0)=false:=by simp;omega
  have hng:¬ f>0:=AK
  clear k1 k2 k3;go_wp2_with (refine AC 40 (UT 2) (UT 17) (w.heap.size+1) #[UD da L dc,UD ca m cc,UE UO f,UF d] 40 K1.o HSD.o rfl (EM _ _ _ _ _ _ _ _) ?_)
  (try simp only[Exit.inBlock,Exit.then])
  refine AZ (v:=UN #[UD da L dc,UD ca m cc,UE UO f,UF d]) (AW rfl _ _ (w.heap.size+1) 40 _ (0,0) _ rfl (AB K1.o) Tryz.underlying40 rfl HSD.o) rfl ⟨_,rfl,?_,K2.o.2⟩;rw[E12.o.1,E12.o.2];exact K2.o.1
def Hy:UL:=.iface 190 (UN #[])
abbrev DC (a b:UL) (f:Int) (d:Bool) (X:List UL):Array UL:=List.toArray (a::b::UE UO f::UF d::X)
theorem Ji {w:UK} {g:Nat} {t:TypeId} {a b:UL} {f:Int} {d:Bool} {X:List UL} (h:w.heap[g]?=UI (UP (DC a b f d X) t (0,0))) :
  w.cell? ⟨g,0,UJ⟩=UI a/\w.cell? ⟨g,1,UJ⟩=UI b/\w.cell? ⟨g,2,UJ⟩=UI (UE UO f)/\w.cell? ⟨g,3,UJ⟩=UI (UF d):=
 ⟨by rw[AA h _];rfl,by rw[AA h _];rfl,by rw[AA h _];rfl,by rw[AA h _];rfl⟩
theorem DC.s1 {a b b':UL} {f:Int} {d:Bool} {X:List UL}:(DC a b f d X).setIfInBounds 1 b'=DC a b' f d X:=AM
theorem DC.s2 {a b:UL} {f f':Int} {d:Bool} {X:List UL}:(DC a b f d X).setIfInBounds 2 (UE UO f')=DC a b f' d X:=AM
theorem DC.s3 {a b:UL} {f:Int} {d d':Bool} {X:List UL}:(DC a b f d X).setIfInBounds 3 (UF d')=DC a b f d' X:=AM
theorem LJ (D:Nat) (a b:UL) (f:Int) (d:Bool) (w:UK) {X:List UL} {T:TypeId} (h:w.heap[D]?=UI (UP (DC a b f d X) T (0,0))) (hf:f=-1\/0<f) (hf2:f<=9223372036854775807) :
  Calls Tryz.prog 149 #[UM (UI ⟨D,0,UJ⟩)] w λe w'=>e=UQ (.tuple #[])/\w'.heap[D]?=UI (UP (DC a b (EG f) d X) T (0,0))/\Wr D w w':=by
 obtain⟨c0,c1,c2,c3⟩:=Ji h;have f2:=Ag w D 2 _ _ h;rcases hf with rfl|hf
 ·have HH:AP _:=h;clear h;go_enter Tryz.func149,Tryz.ntmps149;go_wp2
  first|go_end0|go_ret
  exact⟨rfl,HH.o,Wr.refl _ _⟩
 ·have e1:EG f=f-1:=by unfold EG;rw[AR hf]
  have hne:(f == 0)=false:=by simp;omega
  have hne1:(f != -1)=true:=by simp;omega
  have hwr:IntKind.i64.wrap (f-1)=f-1:=by rw[As];omega
  have HH:AP ((w.setCell ⟨D,2,UJ⟩ (UE UO (f-1))).heap[D]?=UI (UP (DC a b (EG f) d X) T (0,0))):=by
   unfold AP;rw[e1];exact Du (i:=2) _ h DC.s2
  have HW:AP (Wr D w (w.setCell ⟨D,2,UJ⟩ (UE UO (f-1)))):=(Wr.refl D w).setCell 2 _;clear h e1;go_enter Tryz.func149,Tryz.ntmps149;go_wp2
  first|go_end0|go_ret
  exact⟨rfl,HH.o,HW.o⟩
theorem Mi (D:Nat) (a b:UL) (d:Bool) (w:UK) {X:List UL} {T:TypeId} (h:w.heap[D]?=UI (UP (DC a b 0 d X) T (0,0))) :
  Calls Tryz.prog 149 #[UM (UI ⟨D,0,UJ⟩)] w λe w'=>e=.panicked [{ v:=Hy,recovered:=false }]/\w'.heap[D]?=UI (UP (DC a b 0 true X) T (0,0))/\Wr D w w':=by
 obtain⟨c0,c1,c2,c3⟩:=Ji h;have f3:=Ag w D 3 _ _ h;have HH:AP ((w.setCell ⟨D,3,UJ⟩ (UF true)).heap[D]?=UI (UP (DC a b 0 true X) T (0,0))):=Du (i:=3) _ h DC.s3;have HW:AP (Wr D w (w.setCell ⟨D,3,UJ⟩ (UF true))):=(Wr.refl D w).setCell 3 _;clear h;go_enter Tryz.func149,Tryz.ntmps149;go_wp2;exact⟨rfl,rfl,HH.o,HW.o⟩
def Fj (B:Nat) (w:UK) (v:UL) (zs:List Int) (ps:List PD) (f:Int) (d:Bool):Prop:=
 ∃ da dc ca cc E,v=UN #[UD da zs.length dc,UD ca ps.length cc,UE UO f,UF d]/\At UH w da zs/\Df w da zs.length/\(∀ ad,da=UI ad->B<=ad.block/\ad.block<E)/\B<=E/\E<=w.heap.size/\(∃ qs,Dk w E (UD ca ps.length cc) qs/\Fr qs=ps)/\zs.length<=dc
section
variable {B B':Nat} {w w':UK} {v:UL} {zs:List Int} {ps:List PD} {f:Int} {d:Bool}
theorem Fj.mine (h:Fj B w v zs ps f d):FH B w.heap.size w v zs ps f d:=by
 obtain⟨da,dc,ca,cc,E,e,h1,h2,h3,h4,h5,⟨qs,hP,hq⟩,h7⟩:=h;obtain⟨ca',cc',e',hPm⟩:=hP.mine;simp at e';obtain⟨rfl,_,rfl⟩:=e';rw[hq] at hPm;exact⟨da,dc,ca,cc,E,e,h1,h2,h3,h4,h5,AY _,hPm,h7⟩
theorem Fj.at_ (h:Fj B w v zs ps f d):Ei w v zs ps f d:=h.mine.at_
theorem Fj.keep (h:Fj B w v zs ps f d) (hk:∀ j,B<=j->j<w.heap.size->w'.heap[j]?=w.heap[j]?) (hs:w.heap.size<=w'.heap.size):Fj B w' v zs ps f d:=by
 obtain⟨da,dc,ca,cc,E,e,h1,h2,h3,h4,h5,⟨qs,hP,hq⟩,h7⟩:=h;exact⟨da,dc,ca,cc,E,e,h1.keep (λad ea=>hk ad.block (h3 ad ea).1 (AG (h3 ad ea).2)) hs,h2.keep (λad ea=>hk ad.block (h3 ad ea).1 (AG (h3 ad ea).2)) hs,h3,h4,AK,⟨qs,hP.keep (λk hk1 hk2=>hk k AK hk2),hq⟩,h7⟩
theorem Fj.below (h:Fj B w v zs ps f d) (hb:Below w.heap.size w w'):Fj B w' v zs ps f d:=h.keep (λj _ hj=>hb.block j hj) hb.size
theorem Fj.mono (h:Fj B w v zs ps f d) (hB:B'<=B):Fj B' w v zs ps f d:=by
 obtain⟨da,dc,ca,cc,E,e,h1,h2,h3,h4,h5,h6,h7⟩:=h;exact⟨da,dc,ca,cc,E,e,h1,h2,λad ea=>⟨AG (h3 ad ea).1,(h3 ad ea).2⟩,AK,h5,h6,h7⟩
theorem DR.dx (h:DR w B v zs ps f d):Fj B w v zs ps f d:=by
 obtain⟨dv,cv,qs,E,rfl,hO,hP,rfl,hBE,hEw,hdv⟩:=h;obtain⟨ca,cc,rfl,hPm⟩:=hP.mine;have hq:(Fr qs).length=qs.length:=by simp[Fr]
 rcases hO with⟨rfl,rfl⟩|hO
 ·exact⟨UJ,0,ca,cc,E,by rw[hq];rfl,.inl rfl,.inl rfl,(λad e=>by cases e),hBE,hEw,⟨qs,by rw[hq];exact hP,rfl⟩,AY _⟩
 ·obtain⟨g,c,rfl,hb,hg,hc,hA,hOp⟩:=hO.at_;exact⟨_,c,ca,cc,E,by rw[hq],hA,hOp,λad e=>by cases e;exact⟨hb,hdv g rfl⟩,hBE,hEw,⟨qs,by rw[hq];exact hP,rfl⟩,hc⟩
end
section
variable {P:Program} {ops:Array Oper} {Q:Exit->Act->UK->Prop} {md:Region.Mode}
end
structure WR (D:Nat) (r:Option Nat) (w w':UK):Prop where
 os:w'.os=w.os
 tape:w'.tape=w.tape
 output:w'.output=w.output
 size:w.heap.size<=w'.heap.size
 block:∀ k,k<w.heap.size->k≠D->UI k≠r->w'.heap[k]?=w.heap[k]?
theorem WR.trans {D:Nat} {r:Option Nat} {a b c:UK} (h:WR D r a b) (k:WR D r b c):WR D r a c:=
 ⟨k.os.trans h.os,k.tape.trans h.tape,k.output.trans h.output,BC h.size k.size,λi hi h1 h2=>(k.block i (AG h.size) h1 h2).trans (h.block i hi h1 h2)⟩
theorem WR.of_wr {D:Nat} {r:Option Nat} {a b:UK} (h:Wr D a b):WR D r a b:=⟨h.os,h.tape,h.output,by rw[h.size];exact AY _,λk _ h1 _=>h.block k h1⟩
theorem WR.of_below {D:Nat} {r:Option Nat} {a b:UK} (h:Below a.heap.size a b):WR D r a b:=⟨h.os,h.tape,h.output,h.size,λk hk _ _=>h.block k hk⟩
theorem WR.of_grown {D:Nat} {r:Option Nat} {a b:UK} (h:a.grownBy b r):WR D r a b:=⟨h.os,h.tape,h.output,h.size,λk hk _ hr=>h.block k hk hr⟩
theorem L7.ty {w:UK} {B:Nat} {q:Q1} (h:L7 w B q):∀ k,q.v.ownBlock=UI k->∃ cur t,w.heap[k]?=UI (UP cur t (0,0))/\(t=5\/t=122):=by
 intro k e;rcases h with h|⟨k',hv,hb,hl,hr⟩
 ·obtain⟨h1,h2,cur,h3⟩:=h.lt k e;exact⟨cur,_,h3,.inl rfl⟩
 ·rw[hv] at e;cases e;exact⟨_,_,hr,.inr rfl⟩
theorem Dk.keepD {T:TypeId} {w w':UK} {B:Nat} {v:UL} {qs:List Q1} (h:Dk w B v qs) (hk:∀(k:Nat) (cur:Array UL) (t:TypeId),w.heap[k]?=UI (UP cur t (0,0))->t≠T->w'.heap[k]?=w.heap[k]?) (hT:T=40\/T=48):Dk w' B v qs:=by
 refine⟨Ep h.row (λk e=>?_),λi q hi=>(h.each i q hi).keep (λk e=>?_),h.ord⟩
 ·obtain⟨_,_,cur,h2⟩:=DI h.row k e;exact hk k cur _ h2 (by rcases hT with rfl|rfl<;>decide)
 ·obtain⟨cur,t,h2,h3⟩:=(h.each i q hi).ty k e;exact hk k cur t h2 (by rcases hT with rfl|rfl<;>rcases h3 with rfl|rfl<;>decide)
theorem PY (D:Nat) (a b:UL) (s:Int) (z:List Int) (w:UK) {X:List UL} {T:TypeId} (h:w.heap[D]?=UI (UP (DC a b 0 false X) T (0,0))) :
  Calls Tryz.prog 107 #[UM (UI ⟨D,0,UJ⟩),UE UO s,IZ z] w λe w'=>e=.panicked [{ v:=Hy,recovered:=false }]/\w'.heap[D]?=UI (UP (DC a b 0 true X) T (0,0))/\WR D UJ w w':=by
 unfold IZ;have hb:=(Ad w.heap.size w).alloc Cw (UP (z.map (Value.int UH)).toArray 122);have hD:=(AQ.1 h).1;have HB:AP _:=Mi D a b false (w.alloc (UP (z.map (Value.int UH)).toArray 122)) (by rw[hb.block _ hD];exact h);have HBB:AP (Below w.heap.size w (w.alloc (UP (z.map (Value.int UH)).toArray 122))):=hb;clear hb h;go_enter Tryz.func107,Tryz.ntmps107;go_wp2_with fail;refine(show Calls _ _ _ _ _ from HB.o).mono ?_;rintro e w1 ⟨rfl,h1,h2⟩;exact⟨rfl,rfl,h1,(WR.of_below HBB.o).trans (WR.of_wr h2)⟩
def GV (D S E bx:Nat) (cv:UL) (qs:List Q1) (s:Int) (z:List Int):Nat->(Nat->Bool)->UK->UL->Prop
 |0,_,_,v=>v=UM (UI ⟨D,0,UJ⟩)
 |1,_,_,v=>v=UM (UI ⟨D,0,UJ⟩)
 |2,_,_,v=>v=UM (UI ⟨D,0,UJ⟩)
 |3,_,_,v=>v=UM (UI ⟨D,1,UJ⟩)
 |4,_,_,v=>v=cv
 |5,_,_,v=>v=UE UO s
 |6,_,_,v=>v=UD (UI ⟨bx,0,UJ⟩) 64 64
 |7,_,_,v=>v=UN #[UE UO s,UD (UI ⟨bx,0,UJ⟩) 64 64]
 |8,_,w,v=>∃ K,v=UD (UI ⟨K,0,UJ⟩) 1 1/\S<=K/\w.heap[K]?=UI (UP #[UE UO s,UD (UI ⟨bx,0,UJ⟩) 64 64] 106 (0,0))
 |9,_,w,v=>∃ q:Q1,q.s=s/\q.z=z/\Dk w E v (qs++[q])
 |10,_,_,v=>v=UM (UI ⟨D,0,UJ⟩)
 |_,_,_,v=>v=UM (UI ⟨D,1,UJ⟩)
theorem Q8 (D S E bx:Nat) (cv:UL) (qs:List Q1) (s:Int) (z:List Int) (hr:∀ k,cv.ownBlock=UI k->k<S) (j:Nat) (L:Nat->Bool) (w w':UK) (i:Nat) (v:UL)
  (hM:(i≠9->Below w.heap.size w w')/\w.grownBy w' cv.ownBlock) (hij:i≠j) (hL:L i=false) (h:GV D S E bx cv qs s z j L w v):GV D S E bx cv qs s z j (Ct L i) w' v:=by
 have hg:=hM.2;unfold GV at *;split at h;all_goals first
  |exact h
  |(obtain⟨K,e,h1,h2⟩:=h;exact⟨K,e,h1,by rw[hg.block _ (AQ.1 h2).1 (λer=>AG (hr K er.symm))];exact h2⟩)
  |(obtain⟨q,e1,e2,h⟩:=h;exact⟨q,e1,e2,h.below (hM.1 hij)⟩)
def PZ (X:List UL) (T:TypeId) (w w':UK) (D E:Nat) (dv cv:UL) (qs:List Q1) (f s:Int) (z:List Int):Prop:=
 ∃ cv' q,q.s=s/\q.z=z/\w'.heap[D]?=UI (UP (DC dv cv' (EG f) false X) T (0,0))/\Dk w' E cv' (qs++[q])/\WR D cv.ownBlock w w'
theorem Nq (D E:Nat) (dv cv:UL) (qs:List Q1) (f s:Int) (z:List Int) (w:UK) {X:List UL} {T:TypeId} (h:w.heap[D]?=UI (UP (DC dv cv f false X) T (0,0))) (hP:Dk w E cv qs) (hE:E<=w.heap.size) (hz:z.length=64) (hf:f=-1\/0<f) (hf2:f<=9223372036854775807) (hql:qs.length<=1048576) (hT:T=40\/T=48:=by decide) :
  Calls Tryz.prog 107 #[UM (UI ⟨D,0,UJ⟩),UE UO s,IZ z] w λe w'=>e=UQ (.tuple #[])/\PZ X T w w' D E dv cv qs f s z:=by
 unfold IZ;have hb:=(Ad w.heap.size w).alloc Cw (UP (z.map (Value.int UH)).toArray 122);have hD:=(AQ.1 h).1;have HB:AP _:=LJ D dv cv f false (w.alloc (UP (z.map (Value.int UH)).toArray 122)) (by rw[hb.block _ hD];exact h) hf hf2;have hrow:DP (w.alloc (UP (z.map (Value.int UH)).toArray 122)) w.heap.size 122 z:=AV w _;have HROW:AP (DP (w.alloc (UP (z.map (Value.int UH)).toArray 122)) w.heap.size 122 z):=hrow;have HP1:AP (Dk (w.alloc (UP (z.map (Value.int UH)).toArray 122)) E cv qs):=hP.below hb;have HD1:AP ((w.alloc (UP (z.map (Value.int UH)).toArray 122)).heap[D]?=UI (UP (DC dv cv f false X) T (0,0))):=by unfold AP;rw[hb.block _ hD];exact h
 have HLT:AP (∀(i:Nat) (p:Q1) (k:Nat),qs[i]?=UI p->p.v.ownBlock=UI k->k<w.heap.size):=λi p k hp e=>((hP.each i p hp).lt k e).2.1
 have hcS:∀ k,cv.ownBlock=UI k->k<w.heap.size:=λk e=>(DI hP.row k e).2.1
 have HCS:AP _:=hcS;have HBB:AP (Below w.heap.size w (w.alloc (UP (z.map (Value.int UH)).toArray 122))):=hb;have HZ:AP (z.length=64):=hz;clear hb h hP hz hrow hcS;go_enter Tryz.func107,Tryz.ntmps107;go_wp2_with fail;refine(show Calls _ _ _ _ _ from HB.o).mono ?_;clear HB;rintro e w1 ⟨rfl,hr1,hw1⟩;obtain⟨F,hF⟩:∃ F,EG f=F:=⟨_,rfl⟩
 rw[hF] at hr1;have HF:AP (EG f=F):=hF;clear hF;have hsz1:w.heap.size<w1.heap.size:=by rw[hw1.size];exact HROW.o.lt
 have HR1:AP (w1.heap[D]?=UI (UP (DC dv cv F false X) T (0,0))):=hr1;have HROW1:AP (DP w1 w.heap.size 122 z):=by unfold AP DP;rw[hw1.block _ AK];exact HROW.o
 have HP2:AP (Dk w1 E cv qs):=Dk.keepD HP1.o (λk cur t hh ht=>hw1.block k (λe=>by rw[e,HD1.o] at hh;simp at hh;exact ht hh.2.symm)) hT;have HW1:AP (WR D cv.ownBlock w w1):=(WR.of_below HBB.o).trans (WR.of_wr hw1);clear hr1 hw1 HROW HP1 HD1 HBB;have hDc:∀ k,cv.ownBlock=UI k->k≠D:=λk e ek=>by
  obtain⟨_,_,cur,h3⟩:=DI (Dk.row HP2.o) k e;rw[ek,HR1.o] at h3;simp at h3;rcases hT with rfl|rfl<;>exact absurd h3.2 AL
 have HDC:AP _:=hDc;clear hDc;have hD1:D<w1.heap.size:=AK
 go_wp2_with fail;refine Ae AN ?_;refine Jo 12 (λi w w'=>(i≠9->Below w.heap.size w w')/\w.grownBy w' cv.ownBlock) (frame:=(λ(a b c d e f g h:UL)=>λ(t:Nat->UL)=>({ tmps:=List.toArray [a,b,c,d,e,f,g,h,t 0,t 1,t 2,t 3,t 4,t 5,t 6,t 7,t 8,t 9,t 10,t 11],defers:=[] }:Act)) _ _ _ _ _ _ _ _)
  (Ext:=λLs w'=>w1.grownBy w' cv.ownBlock/\(Ls 9=false->Below w1.heap.size w1 w')) (Good:=GV D w.heap.size E w.heap.size cv qs s z) AO AN (Q8 _ _ _ _ _ _ _ _ HCS.o) AN AN ?hop ?hend _ _ ((λ(x0 x1 x2 x3 x4 x5 x6 x7 x8 x9 x10 x11:UL)=>λ(i:Nat)=>if i=0 then x0 else if i=1 then x1 else if i=2 then x2 else if i=3 then x3 else if i=4 then x4 else if i=5 then x5 else if i=6 then x6 else if i=7 then x7 else if i=8 then x8 else if i=9 then x9 else if i=10 then x10 else if i=11 then x11 else undef) _ _ _ _ _ _ _ _ _ _ _ _) _ AM AM ?ext ?start ?clo AM
 case clo=>intro i o ho h;exact absurd h E0
 case start=>intro i hi h;exact absurd h E0
 case ext=>exact⟨Cx Cs.drew,λ_=>Cs.drew⟩
 case hop=>
  intro i o Ls t w' hil ho hLi hx hdep K hK;obtain⟨hxg,hx9⟩:=hx;have h9:∀(j:Nat) (ww:UK),j≠9->Below w'.heap.size w' ww->Ct Ls j 9=false->Below w1.heap.size w1 ww:=λj ww hj hb hL=>by
   have hL':Ls 9=false:=by simpa[Ct,Ne.symm hj] using hL
   exact(hx9 hL').trans (hb.mono hxg.size)
  have haf:w'.heap[D]?=UI (UP (DC dv cv F false X) T (0,0)):=by
   rw[hxg.block D hD1 (λe=>HDC.o D e.symm rfl)];exact HR1.o
  obtain⟨a0,a1,a2,a3⟩:=Ji haf;have REF:AP (∀ j,j≠9->(w1.grownBy w' cv.ownBlock/\(Ct Ls j 9=false->Below w1.heap.size w1 w'))):=λj hj=>⟨hxg,h9 j w' hj Cs⟩
  have RM:AP (∀ j,(j≠9->Below w'.heap.size w' w')/\w'.grownBy w' cv.ownBlock):=λj=>⟨λ_=>Ad _ _,Cx Cs⟩
  have hs9:=hxg.size;have H9:AP _:=h9;have HX9:AP _:=hx9;have HXG:AP _:=hxg;clear h9 hx9 hxg haf;obtain rfl|rfl|rfl|rfl|rfl|rfl|rfl|rfl|rfl|rfl|rfl|rfl:i=0\/i=1\/i=2\/i=3\/i=4\/i=5\/i=6\/i=7\/i=8\/i=9\/i=10\/i=11:=AK
  all_goals(simp at ho;subst ho)
  ·clear hdep;go_simp;exact hK w' (UM (UI ⟨D,0,UJ⟩)) rfl (REF.o 0 AL) (RM.o 0)
  ·clear hdep;go_simp;exact hK w' (UM (UI ⟨D,0,UJ⟩)) rfl (REF.o 1 AL) (RM.o 1)
  ·have d1:t 1=_:=hdep ⟨1,UR⟩ AM rfl;clear hdep;go_simp;simpa[Cr,d1] using hK w' (UM (UI ⟨D,0,UJ⟩)) rfl (REF.o 2 AL) (RM.o 2)
  ·have d2:t 2=_:=hdep ⟨2,UR⟩ AM rfl;clear hdep;go_simp;simpa[Cr,d2] using hK w' (UM (UI ⟨D,1,UJ⟩)) rfl (REF.o 3 AL) (RM.o 3)
  ·have d3:t 3=_:=hdep ⟨3,UR⟩ AM rfl;clear hdep;go_simp;simpa[Cr,d3] using hK w' (cv) rfl (REF.o 4 AL) (RM.o 4)
  ·clear hdep;go_simp;exact hK w' (UE UO s) rfl (REF.o 5 AL) (RM.o 5)
  ·clear hdep;go_simp;exact hK w' (UD (UI ⟨w.heap.size,0,UJ⟩) 64 64) rfl (REF.o 6 AL) (RM.o 6)
  ·have d5:t 5=_:=hdep ⟨5,UR⟩ AM rfl;have d6:t 6=_:=hdep ⟨6,UR⟩ AM rfl;clear hdep;go_simp;simpa[Cr,d5,d6] using hK w' (UN #[UE UO s,UD (UI ⟨w.heap.size,0,UJ⟩) 64 64]) rfl (REF.o 7 AL) (RM.o 7)
  ·have d7:t 7=_:=hdep ⟨7,UR⟩ AM rfl;clear hdep;have hb9:=(Ad w'.heap.size w').alloc Cw (UP #[UE UO s,UD (UI ⟨w.heap.size,0,UJ⟩) 64 64] 106);have hK':=hK (w'.alloc (UP #[UE UO s,UD (UI ⟨w.heap.size,0,UJ⟩) 64 64] 106)) (UD (UI ⟨w'.heap.size,0,UJ⟩) 1 1) ⟨w'.heap.size,rfl,AK,AV w' _⟩ ⟨Dr HXG.o (Cx hb9),H9.o 8 _ AL hb9⟩ ⟨λ_=>hb9,Cx hb9⟩;clear hK hb9;go_simp;simpa[Cr,d7] using hK'
  ·have d4:t 4=_:=hdep ⟨4,UR⟩ AM rfl;obtain⟨B,e8,hB,hbB⟩:=hdep ⟨8,UR⟩ AM rfl;clear hdep;have hbl:=HX9.o hLi;have hP9:=Dk.below HP2.o hbl;have e64:(UD (UI ⟨w.heap.size,0,UJ⟩) 64 64)=UD (UI ⟨w.heap.size,0,UJ⟩) z.length 64:=by rw[HZ.o]
   rw[e64] at hbB;have hRw:DP w' w.heap.size 122 z:=by unfold DP;rw[hbl.block _ AK];exact HROW1.o
   refine Ij w' (UT 12) (UT 16) rfl E w.heap.size cv qs ⟨s,UI ⟨w.heap.size,0,UJ⟩,64,z⟩ d4 hP9 HLT.o B e8 hbB (.inr ⟨w.heap.size,by unfold Q1.v;rw[HZ.o],AY _,HZ.o,hRw⟩) hE AK hql ?_;intro v9 w9 hP9' hg9;exact hK w9 v9 ⟨_,rfl,rfl,hP9'⟩ ⟨Dr HXG.o hg9,λh=>by simp[Ct] at h⟩ ⟨λh=>absurd rfl h,hg9⟩
  ·have d0:t 0=_:=hdep ⟨0,UR⟩ AM rfl;clear hdep;go_simp;simpa[Cr,d0] using hK w' (UM (UI ⟨D,0,UJ⟩)) rfl (REF.o 10 AL) (RM.o 10)
  ·have d10:t 10=_:=hdep ⟨10,UR⟩ AM rfl;clear hdep;go_simp;simpa[Cr,d10] using hK w' (UM (UI ⟨D,1,UJ⟩)) rfl (REF.o 11 AL) (RM.o 11)
 case hend=>
  intro o Ls t w' ho hx hg K hK;simp at ho;subst ho;obtain⟨hxg,_⟩:=hx;obtain⟨q',hq1,hq2,hP9⟩:=hg 9 AL;have h11:t 11=_:=hg 11 AL;clear hg;obtain⟨na,nc,e9,_⟩:=hP9.mine;obtain⟨n9,hn9⟩:∃ n9,(qs++[q']).length=n9:=⟨_,rfl⟩
  rw[hn9] at e9;clear hn9;rw[e9] at hP9;have haf:w'.heap[D]?=UI (UP (DC dv cv F false X) T (0,0)):=by
   rw[hxg.block D hD1 (λe=>HDC.o D e.symm rfl)];exact HR1.o
  obtain⟨a0,a1,a2,a3⟩:=Ji haf;have f1:=Ag w' D 1 _ _ haf;have hA9:=Du (i:=1) (UD na n9 nc) haf DC.s1;have hwr:Wr D w' (w'.setCell ⟨D,1,UJ⟩ (UD na n9 nc)):=(Wr.refl D w').setCell 1 _;have hPn:Dk (w'.setCell ⟨D,1,UJ⟩ (UD na n9 nc)) E (UD na n9 nc) (qs++[q']):=hP9.keepD (λk cur t hh ht=>hwr.block k (λe=>by rw[e,haf] at hh;simp at hh;exact ht hh.2.symm)) hT;have HFIN:AP (PZ X T w (w'.setCell ⟨D,1,UJ⟩ (UD na n9 nc)) D E dv cv qs f s z):=by
   refine⟨UD na n9 nc,q',hq1,hq2,by rw[HF.o];exact hA9,hPn,?_⟩;exact((show WR D cv.ownBlock w w1 from HW1.o).trans (WR.of_grown hxg)).trans (WR.of_wr hwr)
  clear hPn hA9 haf hP9 hxg hwr a0 a2 a3 hq1 hq2;go_simp;apply hK;clear e9 h11;go_wp2
  first|go_end0|go_ret
  exact⟨rfl,HFIN.o⟩
end Go.Proofs.YthmeoilbmfdhfaaGreat
