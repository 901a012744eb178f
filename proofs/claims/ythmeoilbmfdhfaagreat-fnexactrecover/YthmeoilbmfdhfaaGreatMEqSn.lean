import Derived.Test.YthmeoilbmfdhfaaGreatMSwJa
import Derived.Deep.Cut
import Derived.Test.YthmeoilbmfdhfaaGreatMFrE
import Derived.Test.YthmeoilbmfdhfaaGreatMApV
import Derived.Test.YthmeoilbmfdhfaaGreatLdZ
import Derived.Test.YthmeoilbmfdhfaaGreatMRowB
import Derived.Lib.SmallJoins
import Derived.Deep.SlicePairs
import Derived.Test.YthmeoilbmfdhfaaGreatMReg
namespace Go.Proofs.YthmeoilbmfdhfaaGreat
open Go.ChangeShapes Go.WideShapes Go.ChangeAt Go.RowKit
set_option linter.unusedVariables false
set_option maxRecDepth 100000 in
set_option maxHeartbeats 4000000 in
theorem eqSn_any (aD bD aU bU:Option Addr) (nD cD dD nU cU dU:Nat) (D U:List Int) (gn tl:Int) (w:World) (hD:D.length=nD) (hU:U.length=nU) (mD:nD≤1048576) (mU:nU≤1048576) (AD:At .i64 w aD D) (BD:At .i64 w bD D) (AU:At .i64 w aU U) (BU:At .i64 w bU U) :
  Calls Tryz.prog 41 #[.agg #[.int .u32 gn,.int .u32 tl,.slice aD nD cD,.slice aU nU cU],.agg #[.int .u32 gn,.int .u32 tl,.slice bD nD dD,.slice bU nU dU]] w fun e w'=>e=.returned (.bool true)∧Below w.heap.size w w':=by
 have HE0:Hid (BE w 30 #[.int .u32 gn,.int .u32 tl,.slice aD nD cD,.slice aU nU cU] #[.int .u32 gn,.int .u32 tl,.slice bD nD dD,.slice bU nU dU] ((w.alloc (.cells #[.int .u32 gn,.int .u32 tl,.slice aD nD cD,.slice aU nU cU] 30)).alloc (.cells #[.int .u32 gn,.int .u32 tl,.slice bD nD dD,.slice bU nU dU] 30))):=BE.start _ _ _ _;have HAD:Hid (At .i64 w aD D∧At .i64 w bD D):=⟨AD,BD⟩
 have HLD:Hid (D.length=nD):=hD;have HAU:Hid (At .i64 w aU U∧At .i64 w bU U):=⟨AU,BU⟩
 have HLU:Hid (U.length=nU):=hU;clear AD BD hD AU BU hU;have negn:(gn != gn)=false:=by simp
 have netl:(tl != tl)=false:=by simp
 go_enter Tryz.func41,Tryz.ntmps41;go_wp2_with fail;generalize ((w.alloc (.cells #[.int .u32 gn,.int .u32 tl,.slice aD nD cD,.slice aU nU cU] 30)).alloc (.cells #[.int .u32 gn,.int .u32 tl,.slice bD nD dD,.slice bU nU dU] 30))=w0 at *;refine(eqI_any _ _ nD _ _ D _ HLD.out mD (HAD.out.1.below HE0.out.below) (HAD.out.2.below HE0.out.below)).mono ?_;rintro e w1 ⟨rfl,q0,hq⟩;have hb:Below w0.heap.size w0 w1:=by rw[hq];exact below_dq (Below.refl _ _) _
 clear hq;have HE1:Hid (BE w 30 #[.int .u32 gn,.int .u32 tl,.slice aD nD cD,.slice aU nU cU] #[.int .u32 gn,.int .u32 tl,.slice bD nD dD,.slice bU nU dU] w1):=HE0.out.call hb;clear hb HE0;have x3:w1.cell? ⟨w.heap.size,3,none⟩=some (.slice aU nU cU):=by rw[cell_of_row w1 w.heap.size 3 _ _ _ HE1.out.b0];rfl
 have y3:w1.cell? ⟨w.heap.size+1,3,none⟩=some (.slice bU nU dU):=by rw[cell_of_row w1 (w.heap.size+1) 3 _ _ _ HE1.out.b1];rfl
 go_wp2_with fail;clear x3 y3;refine(eqI_any _ _ nU _ _ U _ HLU.out mU (HAU.out.1.below HE1.out.below) (HAU.out.2.below HE1.out.below)).mono ?_;rintro e w2 ⟨rfl,q1,hq⟩;have hb:Below w1.heap.size w1 w2:=by rw[hq];exact below_dq (Below.refl _ _) _
 clear hq;have HE2:Hid (BE w 30 #[.int .u32 gn,.int .u32 tl,.slice aD nD cD,.slice aU nU cU] #[.int .u32 gn,.int .u32 tl,.slice bD nD dD,.slice bU nU dU] w2):=HE1.out.call hb;clear hb HE1;have HF:Hid (Below w.heap.size w w2):=HE2.out.below;clear HE2;go_wp2
 go_ret
 exact⟨rfl,HF.out⟩
set_option maxRecDepth 100000 in
set_option maxHeartbeats 4000000 in
theorem eqSt_any (aD bD aU bU aT bT:Option Addr) (nD cD dD nU cU dU nT cT dT:Nat) (D U T:List Int) (k:Int) (w:World) (hD:D.length=nD) (hU:U.length=nU) (hT:T.length=nT*2) (mD:nD≤1048576) (mU:nU≤1048576) (mT:nT≤1048576) (AD:At .i64 w aD D) (BD:At .i64 w bD D) (AU:At .i64 w aU U) (BU:At .i64 w bU U) (AT:At .i64 w aT T) (BT:At .i64 w bT T) :
  Calls Tryz.prog 43 #[.agg #[.slice aD nD cD,.slice aU nU cU,.int .i64 k,.slice aT nT cT],.agg #[.slice bD nD dD,.slice bU nU dU,.int .i64 k,.slice bT nT dT]] w fun e w'=>e=.returned (.bool true)∧Below w.heap.size w w':=by
 have HE0:Hid (BE w 34 #[.slice aD nD cD,.slice aU nU cU,.int .i64 k,.slice aT nT cT] #[.slice bD nD dD,.slice bU nU dU,.int .i64 k,.slice bT nT dT] ((w.alloc (.cells #[.slice aD nD cD,.slice aU nU cU,.int .i64 k,.slice aT nT cT] 34)).alloc (.cells #[.slice bD nD dD,.slice bU nU dU,.int .i64 k,.slice bT nT dT] 34))):=BE.start _ _ _ _;have HAD:Hid (At .i64 w aD D∧At .i64 w bD D):=⟨AD,BD⟩
 have HLD:Hid (D.length=nD):=hD;have HAU:Hid (At .i64 w aU U∧At .i64 w bU U):=⟨AU,BU⟩
 have HLU:Hid (U.length=nU):=hU;have HAT:Hid (At .i64 w aT T∧At .i64 w bT T):=⟨AT,BT⟩
 have HLT:Hid (T.length=nT*2):=hT;clear AD BD hD AU BU hU AT BT hT;have nek:(k != k)=false:=by simp
 go_enter Tryz.func43,Tryz.ntmps43;go_wp2_with fail;generalize ((w.alloc (.cells #[.slice aD nD cD,.slice aU nU cU,.int .i64 k,.slice aT nT cT] 34)).alloc (.cells #[.slice bD nD dD,.slice bU nU dU,.int .i64 k,.slice bT nT dT] 34))=w0 at *;refine(eqI_any _ _ nD _ _ D _ HLD.out mD (HAD.out.1.below HE0.out.below) (HAD.out.2.below HE0.out.below)).mono ?_;rintro e w1 ⟨rfl,q0,hq⟩;have hb:Below w0.heap.size w0 w1:=by rw[hq];exact below_dq (Below.refl _ _) _
 clear hq;have HE1:Hid (BE w 34 #[.slice aD nD cD,.slice aU nU cU,.int .i64 k,.slice aT nT cT] #[.slice bD nD dD,.slice bU nU dU,.int .i64 k,.slice bT nT dT] w1):=HE0.out.call hb;clear hb HE0;have x1:w1.cell? ⟨w.heap.size,1,none⟩=some (.slice aU nU cU):=by rw[cell_of_row w1 w.heap.size 1 _ _ _ HE1.out.b0];rfl
 have y1:w1.cell? ⟨w.heap.size+1,1,none⟩=some (.slice bU nU dU):=by rw[cell_of_row w1 (w.heap.size+1) 1 _ _ _ HE1.out.b1];rfl
 go_wp2_with fail;clear x1 y1;refine(eqI_any _ _ nU _ _ U _ HLU.out mU (HAU.out.1.below HE1.out.below) (HAU.out.2.below HE1.out.below)).mono ?_;rintro e w2 ⟨rfl,q1,hq⟩;have hb:Below w1.heap.size w1 w2:=by rw[hq];exact below_dq (Below.refl _ _) _
 clear hq;have HE2:Hid (BE w 34 #[.slice aD nD cD,.slice aU nU cU,.int .i64 k,.slice aT nT cT] #[.slice bD nD dD,.slice bU nU dU,.int .i64 k,.slice bT nT dT] w2):=HE1.out.call hb;clear hb HE1;have x2:w2.cell? ⟨w.heap.size,2,none⟩=some (.int .i64 k):=by rw[cell_of_row w2 w.heap.size 2 _ _ _ HE2.out.b0];rfl
 have y2:w2.cell? ⟨w.heap.size+1,2,none⟩=some (.int .i64 k):=by rw[cell_of_row w2 (w.heap.size+1) 2 _ _ _ HE2.out.b1];rfl
 have x3:w2.cell? ⟨w.heap.size,3,none⟩=some (.slice aT nT cT):=by rw[cell_of_row w2 w.heap.size 3 _ _ _ HE2.out.b0];rfl
 have y3:w2.cell? ⟨w.heap.size+1,3,none⟩=some (.slice bT nT dT):=by rw[cell_of_row w2 (w.heap.size+1) 3 _ _ _ HE2.out.b1];rfl
 go_wp2_with fail;clear x2 y2 x3 y3;refine(eqTS_any _ _ nT _ _ T _ HLT.out mT (HAT.out.1.below HE2.out.below) (HAT.out.2.below HE2.out.below)).mono ?_;rintro e w3 ⟨rfl,hb⟩;have HE3:Hid (BE w 34 #[.slice aD nD cD,.slice aU nU cU,.int .i64 k,.slice aT nT cT] #[.slice bD nD dD,.slice bU nU dU,.int .i64 k,.slice bT nT dT] w3):=HE2.out.call hb;clear hb HE2;have HF:Hid (Below w.heap.size w w3):=HE3.out.below;clear HE3;go_wp2
 go_ret
 exact⟨rfl,HF.out⟩
set_option maxRecDepth 100000 in
set_option maxHeartbeats 4000000 in
theorem eqIm_any (asD bsD asU bsU aF bF azD bzD azU bzU azT bzT:Option Addr) (nsD csD dsD nsU csU dsU nF cF dF nzD czD dzD nzU czU dzU nzT czT dzT:Nat) (sD sU F zD zU zT:List Int) (sgn stl zk nx:Int) (ok:Bool) (w:World) (hsD:sD.length=nsD) (hsU:sU.length=nsU) (hF:F.length=nF*4) (hzD:zD.length=nzD) (hzU:zU.length=nzU) (hzT:zT.length=nzT*2) (msD:nsD≤1048576) (msU:nsU≤1048576) (mF:nF≤1048576) (mzD:nzD≤1048576) (mzU:nzU≤1048576) (mzT:nzT≤1048576) (AsD:At .i64 w asD sD) (BsD:At .i64 w bsD sD) (AsU:At .i64 w asU sU) (BsU:At .i64 w bsU sU) (AF:FAt w aF F) (BF:FAt w bF F) (AzD:At .i64 w azD zD) (BzD:At .i64 w bzD zD) (AzU:At .i64 w azU zU) (BzU:At .i64 w bzU zU) (AzT:At .i64 w azT zT) (BzT:At .i64 w bzT zT) :
  Calls Tryz.prog 10 #[.agg #[.bool ok,.int .u32 sgn,.int .u32 stl,.slice asD nsD csD,.slice asU nsU csU,.slice aF nF cF,.slice azD nzD czD,.slice azU nzU czU,.int .i64 zk,.slice azT nzT czT,.int .u32 nx],.agg #[.bool ok,.int .u32 sgn,.int .u32 stl,.slice bsD nsD dsD,.slice bsU nsU dsU,.slice bF nF dF,.slice bzD nzD dzD,.slice bzU nzU dzU,.int .i64 zk,.slice bzT nzT dzT,.int .u32 nx]] w fun e w'=>e=.returned (.bool true)∧Below w.heap.size w w':=by
 have HE0:Hid (BE w 36 #[.bool ok,.int .u32 sgn,.int .u32 stl,.slice asD nsD csD,.slice asU nsU csU,.slice aF nF cF,.slice azD nzD czD,.slice azU nzU czU,.int .i64 zk,.slice azT nzT czT,.int .u32 nx] #[.bool ok,.int .u32 sgn,.int .u32 stl,.slice bsD nsD dsD,.slice bsU nsU dsU,.slice bF nF dF,.slice bzD nzD dzD,.slice bzU nzU dzU,.int .i64 zk,.slice bzT nzT dzT,.int .u32 nx] ((w.alloc (.cells #[.bool ok,.int .u32 sgn,.int .u32 stl,.slice asD nsD csD,.slice asU nsU csU,.slice aF nF cF,.slice azD nzD czD,.slice azU nzU czU,.int .i64 zk,.slice azT nzT czT,.int .u32 nx] 36)).alloc (.cells #[.bool ok,.int .u32 sgn,.int .u32 stl,.slice bsD nsD dsD,.slice bsU nsU dsU,.slice bF nF dF,.slice bzD nzD dzD,.slice bzU nzU dzU,.int .i64 zk,.slice bzT nzT dzT,.int .u32 nx] 36))):=BE.start _ _ _ _;have HAsD:Hid (At .i64 w asD sD∧At .i64 w bsD sD):=⟨AsD,BsD⟩
 have HLsD:Hid (sD.length=nsD):=hsD;have HAsU:Hid (At .i64 w asU sU∧At .i64 w bsU sU):=⟨AsU,BsU⟩
 have HLsU:Hid (sU.length=nsU):=hsU;have HAF:Hid (FAt w aF F∧FAt w bF F):=⟨AF,BF⟩
 have HLF:Hid (F.length=nF*4):=hF;have HAzD:Hid (At .i64 w azD zD∧At .i64 w bzD zD):=⟨AzD,BzD⟩
 have HLzD:Hid (zD.length=nzD):=hzD;have HAzU:Hid (At .i64 w azU zU∧At .i64 w bzU zU):=⟨AzU,BzU⟩
 have HLzU:Hid (zU.length=nzU):=hzU;have HAzT:Hid (At .i64 w azT zT∧At .i64 w bzT zT):=⟨AzT,BzT⟩
 have HLzT:Hid (zT.length=nzT*2):=hzT;clear AsD BsD hsD AsU BsU hsU AF BF hF AzD BzD hzD AzU BzU hzU AzT BzT hzT;have neok:(ok != ok)=false:=by simp
 have nesgn:(sgn != sgn)=false:=by simp
 have nestl:(stl != stl)=false:=by simp
 have nezk:(zk != zk)=false:=by simp
 have nenx:(nx != nx)=false:=by simp
 go_enter Tryz.func10,Tryz.ntmps10;go_wp2_with fail;generalize ((w.alloc (.cells #[.bool ok,.int .u32 sgn,.int .u32 stl,.slice asD nsD csD,.slice asU nsU csU,.slice aF nF cF,.slice azD nzD czD,.slice azU nzU czU,.int .i64 zk,.slice azT nzT czT,.int .u32 nx] 36)).alloc (.cells #[.bool ok,.int .u32 sgn,.int .u32 stl,.slice bsD nsD dsD,.slice bsU nsU dsU,.slice bF nF dF,.slice bzD nzD dzD,.slice bzU nzU dzU,.int .i64 zk,.slice bzT nzT dzT,.int .u32 nx] 36))=w0 at *;refine(eqSn_any asD bsD asU bsU nsD csD dsD nsU csU dsU sD sU sgn stl _ HLsD.out HLsU.out msD msU (HAsD.out.1.below HE0.out.below) (HAsD.out.2.below HE0.out.below) (HAsU.out.1.below HE0.out.below) (HAsU.out.2.below HE0.out.below)).mono ?_;rintro e w1 ⟨rfl,hb⟩;have HE1:Hid (BE w 36 #[.bool ok,.int .u32 sgn,.int .u32 stl,.slice asD nsD csD,.slice asU nsU csU,.slice aF nF cF,.slice azD nzD czD,.slice azU nzU czU,.int .i64 zk,.slice azT nzT czT,.int .u32 nx] #[.bool ok,.int .u32 sgn,.int .u32 stl,.slice bsD nsD dsD,.slice bsU nsU dsU,.slice bF nF dF,.slice bzD nzD dzD,.slice bzU nzU dzU,.int .i64 zk,.slice bzT nzT dzT,.int .u32 nx] w1):=HE0.out.call hb;clear hb HE0;have x5:w1.cell? ⟨w.heap.size,5,none⟩=some (.slice aF nF cF):=by rw[cell_of_row w1 w.heap.size 5 _ _ _ HE1.out.b0];rfl
 have y5:w1.cell? ⟨w.heap.size+1,5,none⟩=some (.slice bF nF dF):=by rw[cell_of_row w1 (w.heap.size+1) 5 _ _ _ HE1.out.b1];rfl
 go_wp2_with fail;clear x5 y5;refine(eqFS_any _ _ nF _ _ F _ HLF.out mF (HAF.out.1.below HE1.out.below) (HAF.out.2.below HE1.out.below)).mono ?_;rintro e w2 ⟨rfl,hb⟩;have HE2:Hid (BE w 36 #[.bool ok,.int .u32 sgn,.int .u32 stl,.slice asD nsD csD,.slice asU nsU csU,.slice aF nF cF,.slice azD nzD czD,.slice azU nzU czU,.int .i64 zk,.slice azT nzT czT,.int .u32 nx] #[.bool ok,.int .u32 sgn,.int .u32 stl,.slice bsD nsD dsD,.slice bsU nsU dsU,.slice bF nF dF,.slice bzD nzD dzD,.slice bzU nzU dzU,.int .i64 zk,.slice bzT nzT dzT,.int .u32 nx] w2):=HE1.out.call hb;clear hb HE1;have x6:w2.cell? ⟨w.heap.size,6,none⟩=some (.slice azD nzD czD):=by rw[cell_of_row w2 w.heap.size 6 _ _ _ HE2.out.b0];rfl
 have y6:w2.cell? ⟨w.heap.size+1,6,none⟩=some (.slice bzD nzD dzD):=by rw[cell_of_row w2 (w.heap.size+1) 6 _ _ _ HE2.out.b1];rfl
 have x7:w2.cell? ⟨w.heap.size,7,none⟩=some (.slice azU nzU czU):=by rw[cell_of_row w2 w.heap.size 7 _ _ _ HE2.out.b0];rfl
 have y7:w2.cell? ⟨w.heap.size+1,7,none⟩=some (.slice bzU nzU dzU):=by rw[cell_of_row w2 (w.heap.size+1) 7 _ _ _ HE2.out.b1];rfl
 have x8:w2.cell? ⟨w.heap.size,8,none⟩=some (.int .i64 zk):=by rw[cell_of_row w2 w.heap.size 8 _ _ _ HE2.out.b0];rfl
 have y8:w2.cell? ⟨w.heap.size+1,8,none⟩=some (.int .i64 zk):=by rw[cell_of_row w2 (w.heap.size+1) 8 _ _ _ HE2.out.b1];rfl
 have x9:w2.cell? ⟨w.heap.size,9,none⟩=some (.slice azT nzT czT):=by rw[cell_of_row w2 w.heap.size 9 _ _ _ HE2.out.b0];rfl
 have y9:w2.cell? ⟨w.heap.size+1,9,none⟩=some (.slice bzT nzT dzT):=by rw[cell_of_row w2 (w.heap.size+1) 9 _ _ _ HE2.out.b1];rfl
 go_wp2_with fail;clear x6 y6 x7 y7 x8 y8 x9 y9;refine(eqSt_any azD bzD azU bzU azT bzT nzD czD dzD nzU czU dzU nzT czT dzT zD zU zT zk _ HLzD.out HLzU.out HLzT.out mzD mzU mzT (HAzD.out.1.below HE2.out.below) (HAzD.out.2.below HE2.out.below) (HAzU.out.1.below HE2.out.below) (HAzU.out.2.below HE2.out.below) (HAzT.out.1.below HE2.out.below) (HAzT.out.2.below HE2.out.below)).mono ?_;rintro e w3 ⟨rfl,hb⟩;have HE3:Hid (BE w 36 #[.bool ok,.int .u32 sgn,.int .u32 stl,.slice asD nsD csD,.slice asU nsU csU,.slice aF nF cF,.slice azD nzD czD,.slice azU nzU czU,.int .i64 zk,.slice azT nzT czT,.int .u32 nx] #[.bool ok,.int .u32 sgn,.int .u32 stl,.slice bsD nsD dsD,.slice bsU nsU dsU,.slice bF nF dF,.slice bzD nzD dzD,.slice bzU nzU dzU,.int .i64 zk,.slice bzT nzT dzT,.int .u32 nx] w3):=HE2.out.call hb;clear hb HE2;have x10:w3.cell? ⟨w.heap.size,10,none⟩=some (.int .u32 nx):=by rw[cell_of_row w3 w.heap.size 10 _ _ _ HE3.out.b0];rfl
 have y10:w3.cell? ⟨w.heap.size+1,10,none⟩=some (.int .u32 nx):=by rw[cell_of_row w3 (w.heap.size+1) 10 _ _ _ HE3.out.b1];rfl
 have HF:Hid (Below w.heap.size w w3):=HE3.out.below;clear HE3;go_wp2
 go_ret
 exact⟨rfl,HF.out⟩
def I6L (w:World) (aSD aSU aF aD aU aT:Option Addr) (nSD nSU mF nD nU:Nat) (r:ImR):Prop:=At .i64 w aSD r.sD∧At .i64 w aSU r.sU∧FAt w aF r.F∧At .i64 w aD r.D∧At .i64 w aU r.U∧At .i64 w aT r.T∧r.sD.length=nSD∧r.sU.length=nSU∧r.F.length=mF*4∧r.D.length=nD∧r.U.length=nU∧r.T.length=r.n*2
theorem I6L.below {w w':World} {aSD aSU aF aD aU aT:Option Addr} {nSD nSU mF nD nU:Nat} {r:ImR} (h:I6L w aSD aSU aF aD aU aT nSD nSU mF nD nU r) (b:Below w.heap.size w w'):I6L w' aSD aSU aF aD aU aT nSD nSU mF nD nU r:=
 ⟨h.1.below b,h.2.1.below b,h.2.2.1.below b,h.2.2.2.1.below b,h.2.2.2.2.1.below b,h.2.2.2.2.2.1.below b,h.2.2.2.2.2.2⟩
theorem imG_bd {zs:List Int} {ps:List PD} {f:Int} (bz:Byte zs) (bp:∀ i,Byte (ps.getD i (0,[])).2):(imG zs ps f).sD.length≤16∧(imG zs ps f).sU.length≤256∧(imG zs ps f).F.length≤1008∧(imG zs ps f).D.length≤16∧(imG zs ps f).U.length≤256∧(imG zs ps f).n≤256:=by
 have h0:imNo.sD.length≤16∧imNo.sU.length≤256∧imNo.F.length≤1008∧imNo.D.length≤16∧imNo.U.length≤256∧imNo.n≤256:=by decide
 by_cases hv:validB zs.length ps f=true
 ·rw[show imG zs ps f=imF zs ps (zs.length/64-4) from if_pos hv];have F0:DvF zs.length zs.length ps.length f zs ps:=⟨rfl,rfl,hv,Nat.le_refl _,bz,bp⟩
  have hJ:zs.length/64-4≤252:=by have:=F0.base;omega
  have HJR:=fun q=>(F0.jr q).2
  generalize zs.length/64-4=J at *;by_cases hn:(nwK zs ps 2).ok=true
  ·rw[show imF zs ps J=imR (nwK zs ps 2) (jrF zs ps J (nwK zs ps 2).t.toNat J) from if_pos hn];have hsn:=nwK_snp 2 hn;generalize nwK zs ps 2=s at *;have HFB:=jrF_frb zs ps J HJR J s.t.toNat;obtain⟨k,hk,hl⟩:=jrF_len zs ps J J s.t.toNat;generalize jrF zs ps J s.t.toNat J=F at *;by_cases ho:(imA s F).ok=true
   ·rw[show imR s F=⟨true,s.g,s.t,s.D,s.U,F,(imA s F).D,(imA s F).U,(imA s F).k,(imA s F).T,(imA s F).n,s.t+((F.length/4:Nat):Int)⟩ from if_pos ho];have hst:=(apK_st (r:=⟨true,s.D,s.U,(s.U.length:Int),[],0⟩) HFB hsn.st rfl (F.length/4) (by omega) ho).1;have q1:=hst.2.1;have q2:=hst.2.2.1.le;have q3:=hst.bd.2.2;have q4:=hsn.2.2.2.2.1;have q5:=hsn.2.2.2.2.2.le;exact⟨q4,q5,by show F.length≤1008;omega,q1,q2,q3⟩
   ·rw[show imR s F=imNo from if_neg ho];exact h0
  ·rw[show imF zs ps J=imNo from if_neg hn];exact h0
 ·rw[show imG zs ps f=imNo from if_neg hv];exact h0
def I64 (x:Int):Prop:=-9223372036854775808≤x∧x≤9223372036854775807
theorem I64.of_wf {x:Int} (h:(Lit.int .i64 x).wf=true):I64 x:=by
 simp[Lit.wf,IntKind.min,IntKind.max,IntKind.signed,IntKind.bits] at h;exact⟨by omega,by omega⟩
section
variable {H:Type} {enc:TypeId×Value→H} {W:World}
set_option maxRecDepth 100000 in
theorem bytes_of {fuel:Nat} {v:Value} {y:DataW H×List MemPlace} (h:DataW.trod enc Tryz.prog W 0 (fun _=>true) true fuel 22 [v]=some y) :
  ∃ a n cap zs,v=.slice a n cap∧zs.length=n∧n≤9223372036854775807∧Byte zs∧At .u8 W a zs:=by
 rcases open_ints Tryz.underlying22 Tryz.underlying5 (by kernel_rfl) h with⟨hcs,_⟩|⟨x,l,c,zs,hcs,_,hl,hm,hz,_,hcell,hwz⟩
 ·simp at hcs;exact⟨none,0,0,[],hcs,rfl,by omega,by simp[Byte],.inl rfl⟩
 ·simp at hcs;have hz':zs.length=c:=by simpa using hz
  refine⟨some x,l,c,zs.take l,hcs,by simp;omega,by unfold maxLen at hm;omega,fun n hn=>?_,?_⟩
  ·have:=hwz n (List.mem_of_mem_take hn);simp[Lit.wf,IntKind.min,IntKind.max,IntKind.signed,IntKind.bits] at this;omega
  ·by_cases h0:l=0
   ·left;simp[h0]
   ·right;obtain⟨b,off,spot⟩:=x;have hc0:=hcell 0 (by omega);have hs:spot=none:=by simpa[Addr.add] using World.cell?_spot hc0
    subst hs;refine⟨b,off,rfl,block_lt_of_cell (a:=(⟨b,off,none⟩:Addr).add 0) hc0,fun i hi=>?_⟩;have hi':i<l:=by simp at hi;omega
    have:=hcell i (by omega);rw[Addr.add_lit] at this;rw[this];simp[List.getD,hi']
def PInt (ps:List PD):Prop:=∀ i,I64 (ps.getD i (0,[])).1∧Byte (ps.getD i (0,[])).2
set_option maxRecDepth 100000 in
theorem pends_of {fuel:Nat} {v:Value} {y:DataW H×List MemPlace} (h:DataW.trod enc Tryz.prog W 0 (fun _=>true) true fuel 23 [v]=some y) :
  ∃ a n cap ps,v=.slice a n cap∧ps.length=n∧n≤9223372036854775807∧PAt W a ps∧(∀ i,(ps.getD i (0,[])).2.length≤9223372036854775807)∧PInt ps:=by
 rcases Go.Deep.open_slice_pairs Tryz.underlying23 Tryz.underlying105 (by kernel_rfl) rfl rfl (by kernel_rfl) (by kernel_rfl) h with⟨hcs,_⟩|⟨x,l,c,m,nn,V0,V1,D0,D1,P0,P1,hcs,_,hl,hm,hmm,_,hx⟩
 ·simp at hcs;refine⟨none,0,0,[],hcs,rfl,by omega,.inl rfl,fun i=>by simp,fun i=>⟨⟨by simp,by simp⟩,by simp[Byte]⟩⟩
 ·simp at hcs hmm;subst hmm;have each:∀ i,i<m→∃ q:PD×Option Addr×Nat,V0 i=.int .i64 q.1.1∧V1 i=.slice q.2.1 q.1.2.length q.2.2∧At .u8 W q.2.1 q.1.2∧q.1.2.length≤9223372036854775807∧I64 q.1.1∧Byte q.1.2:=by
   intro i hi;obtain⟨h1,h2,h3,h4⟩:=hx i hi;obtain⟨s,e1,_,hw⟩:=DataW.trod_int (k:=.i64) Tryz.underlying2 h3;obtain⟨a,n,cap,zs,e2,hn,hn2,hb,ha⟩:=bytes_of h4;simp at e1;exact⟨((s,zs),a,cap),e1,by rw[e2,hn],ha,by show zs.length≤_;omega,I64.of_wf hw,hb⟩
  obtain⟨q,hq⟩:=Go.Deep.choose_lt each;have hget:∀ i,i<l→(((List.range l).map fun i=>(q i).1).getD i (0,[]))=(q i).1:=fun i hi=>by simp[List.getD,hi]
  have hout:∀ i,¬ i<l→(((List.range l).map fun i=>(q i).1).getD i (0,[]))=(0,[]):=fun i hi=>by
   rw[List.getD_eq_getElem?_getD,List.getElem?_eq_none (by simp;omega)];rfl
  refine⟨some x,l,m,(List.range l).map fun i=>(q i).1,hcs,by simp,by unfold maxLen at hm;omega,?_,fun i=>?_,fun i=>?_⟩
  ·by_cases h0:l=0
   ·left;simp[h0]
   ·right;obtain⟨b,off,spot⟩:=x;have hc0:=(hx 0 (by omega)).1;have hs:spot=none:=by simpa[Addr.add] using World.cell?_spot hc0
    subst hs;refine⟨b,off,rfl,block_lt_of_cell (a:=(⟨b,off,none⟩:Addr).add (0*2)) hc0,fun i hi=>?_⟩;have hi':i<l:=by simpa using hi
    obtain⟨h1,h2,_,_⟩:=hx i (by omega);obtain⟨g1,g2,g3,_,_,_⟩:=hq i (by omega);rw[Addr.add_lit] at h1 h2;rw[hget i hi'];exact⟨(q i).2.1,(q i).2.2,by rw[h1,g1],by rw[Nat.add_assoc,h2,g2],g3⟩
  ·by_cases hi:i<l
   ·rw[hget i hi];exact(hq i (by omega)).2.2.2.1
   ·rw[hout i hi];simp
  ·by_cases hi:i<l
   ·rw[hget i hi];exact(hq i (by omega)).2.2.2.2
   ·rw[hout i hi];exact⟨⟨by simp,by simp⟩,by simp[Byte]⟩
def ArgD (W:World) (v:Value):Prop:=
 ∃(a:Option Addr) (n cap:Nat) (a':Option Addr) (n' cap':Nat) (zs:List Int) (ps:List PD) (f:Int) (d:Bool),v=.agg #[.slice a n cap,.slice a' n' cap',.int .i64 f,.bool d]∧zs.length=n∧ps.length=n'∧
  n≤9223372036854775807∧n'≤9223372036854775807∧At .u8 W a zs∧PAt W a' ps∧(∀ i,(ps.getD i (0,[])).2.length≤9223372036854775807)∧Byte zs∧PInt ps∧I64 f
set_option maxRecDepth 100000 in
theorem dev_of {r:Reach} {b0:Nat} {v:Value} {d:DataW H} {p:List MemPlace} (hv:Value.okWide Tryz.prog W r b0 25 v) (h:DataW.Trod enc Tryz.prog W 0 (fun _=>true) true 25 v d p):ArgD W v:=by
 obtain⟨v0,v1,v2,v3,y0,y1,y2,y3,n,rfl,_,_,h0,h1,h2,h3⟩:=Go.Joins.open_agg4 Tryz.underlying25 (by kernel_rfl) (by kernel_rfl) hv h;obtain⟨a,n,cap,zs,rfl,hn,hn2,hb,ha⟩:=bytes_of h0;obtain⟨a',n',cap',ps,rfl,hn',hn2',ha',hps,hpi⟩:=pends_of h1;obtain⟨f,e2,_,hf⟩:=DataW.trod_int (k:=.i64) Tryz.underlying2 h2;obtain⟨b,e3,_⟩:=DataW.trod_bool Tryz.underlying4 h3;simp at e2 e3;subst e2 e3;exact⟨a,n,cap,a',n',cap',zs,ps,f,b,rfl,hn,hn',hn2,hn2',ha,ha',hps,hb,hpi,I64.of_wf hf⟩
end
structure LV (w w':World) (C:Array Value):Prop where
 below:Below w.heap.size w w'
 box:w'.heap[w.heap.size]?=some (.cells C 25 (0,0))
theorem LV.grow {w w' w'':World} {C:Array Value} (h:LV w w' C) (hb:Below w'.heap.size w' w''):LV w w'' C:=
 ⟨h.below.trans (hb.mono h.below.size),by rw[hb.block _ (Array.getElem?_eq_some_iff.1 h.box).1];exact h.box⟩
theorem LV.cells {w w':World} {a0 a1 a2 a3:Value} (h:LV w w' #[a0,a1,a2,a3]) :
  w'.cell? ⟨w.heap.size,0,none⟩=some a0∧w'.cell? ⟨w.heap.size,1,none⟩=some a1∧w'.cell? ⟨w.heap.size,2,none⟩=some a2∧w'.cell? ⟨w.heap.size,3,none⟩=some a3:=
 ⟨cell_of_row _ _ _ _ _ _ h.box,cell_of_row _ _ _ _ _ _ h.box,cell_of_row _ _ _ _ _ _ h.box,cell_of_row _ _ _ _ _ _ h.box⟩
theorem row4 {w:World} {g:Nat} {t:TypeId} {a0 a1 a2 a3:Value} (h:w.heap[g]?=some (.cells #[a0,a1,a2,a3] t (0,0))) :
  w.cell? ⟨g,0,none⟩=some a0∧w.cell? ⟨g,1,none⟩=some a1∧w.cell? ⟨g,2,none⟩=some a2∧w.cell? ⟨g,3,none⟩=some a3:=
 ⟨cell_of_row _ _ _ _ _ _ h,cell_of_row _ _ _ _ _ _ h,cell_of_row _ _ _ _ _ _ h,cell_of_row _ _ _ _ _ _ h⟩
def G10 (zs:List Int) (ps:List PD) (f:Int) (d:Bool) (x arg:Value):Nat→World→Value→Prop
 |0,_,v=>v=x
 |1,_,v=>v=arg
 |2,w,v=>DAt w v zs ps f d
 |3,_,v=>v=.bool true
 |_,_,v=>v=.bool false
theorem DAt.mono {w w':World} {v:Value} {zs:List Int} {ps:List PD} {f:Int} {d:Bool} (h:DAt w v zs ps f d) (hm:Mono w w'):DAt w' v zs ps f d:=by
 obtain⟨da,dc,ca,cc,hv,h1,h2,h3⟩:=h;have kAt:∀ {x:Option Addr} {zs:List Int},At .u8 w x zs→At .u8 w' x zs:=fun {x zs} h=>by
  rcases h with h|⟨b,off,rfl,hl,hc⟩
  ·exact .inl h
  ·exact .inr ⟨b,off,rfl,by have:=hm.size;omega,fun i hi=>by rw[hm.cell ⟨b,off+i,none⟩ hl];exact hc i hi⟩
 refine⟨da,dc,ca,cc,hv,kAt h1,?_,h3⟩;rcases h2 with h|⟨b,off,rfl,hl,hc⟩
 ·exact .inl h
 ·exact .inr ⟨b,off,rfl,by have:=hm.size;omega,fun i hi=>by
   obtain⟨x,c,p1,p2,p3⟩:=hc i hi;exact⟨x,c,by rw[hm.cell ⟨b,off+i*2,none⟩ hl];exact p1,by rw[hm.cell ⟨b,off+i*2+1,none⟩ hl];exact p2,kAt p3⟩⟩
theorem G10_mono (zs:List Int) (ps:List PD) (f:Int) (d:Bool) (x arg:Value) (i:Nat) (w w':World) (v:Value) (hm:Mono w w') (h:G10 zs ps f d x arg i w v):G10 zs ps f d x arg i w' v:=by
 unfold G10 at *;split at h<;>first|exact h|exact DAt.mono h hm
def GAt (w:World) (v:Value) (zs:List Int) (ps:List PD) (f:Int) (d:Bool) (ks:List Int) (r:ImR):Prop:=∃ ada adc aca acc aka akc aSD nSD acSD aSU nSU acSU aF nF acF aD nD acD aU nU acU aT acT,v=.agg #[.slice ada zs.length adc,.slice aca ps.length acc,.int .i64 f,.bool d,.slice aka ks.length akc,.bool r.ok,.int .u32 r.g,.int .u32 r.t,.slice aSD nSD acSD,.slice aSU nSU acSU,.slice aF nF acF,.slice aD nD acD,.slice aU nU acU,.int .i64 r.k,.slice aT r.n acT,.int .u32 r.nx]∧At .u8 w ada zs∧PAt w aca ps∧zs.length≤adc∧At .u8 w aka ks∧I6L w aSD aSU aF aD aU aT nSD nSU nF nD nU r
theorem GAt.below {w w':World} {v:Value} {zs:List Int} {ps:List PD} {f:Int} {d:Bool} {ks:List Int} {r:ImR} (h:GAt w v zs ps f d ks r) (b:Below w.heap.size w w'):GAt w' v zs ps f d ks r:=by
 obtain⟨ada,adc,aca,acc,aka,akc,aSD,nSD,acSD,aSU,nSU,acSU,aF,nF,acF,aD,nD,acD,aU,nU,acU,aT,acT,rfl,h1,h2,h3,h4,h5⟩:=h;exact⟨ada,adc,aca,acc,aka,akc,aSD,nSD,acSD,aSU,nSU,acSU,aF,nF,acF,aD,nD,acD,aU,nU,acU,aT,acT,rfl,h1.below b,h2.below b,h3,h4.below b,h5.below b⟩
def GLe (zs:List Int) (ps:List PD) (ks:List Int) (r:ImR):Prop:=zs.length≤1048576∧ps.length≤1048576∧(∀ i,(ps.getD i (0,[])).2.length≤1048576)∧ks.length≤1048576∧r.sD.length≤1048576∧r.sU.length≤1048576∧r.F.length≤4194304∧r.D.length≤1048576∧r.U.length≤1048576∧r.n≤1048576
set_option maxRecDepth 100000 in
set_option maxHeartbeats 4000000 in
theorem eqG_any (v v':Value) (zs:List Int) (ps:List PD) (f:Int) (d:Bool) (ks:List Int) (r:ImR) (w:World) (h:GAt w v zs ps f d ks r) (h':GAt w v' zs ps f d ks r) (hb:GLe zs ps ks r) :
  Calls Tryz.prog 60 #[v,v'] w fun e w'=>e=.returned (.bool true)∧Below w.heap.size w w':=by
 obtain⟨ada,adc,aca,acc,aka,akc,aSD,nSD,acSD,aSU,nSU,acSU,aF,nF,acF,aD,nD,acD,aU,nU,acU,aT,acT,rfl,h1,h2,h3,h4,h5⟩:=h;obtain⟨bda,bdc,bca,bcc,bka,bkc,bSD,mSD,bcSD,bSU,mSU,bcSU,bF,mF,bcF,bD,mD,bcD,bU,mU,bcU,bT,bcT,rfl,g1,g2,g3,g4,g5⟩:=h';obtain rfl:nSD=mSD:=by have:=h5.2.2.2.2.2.2.1;have:=g5.2.2.2.2.2.2.1;omega
 obtain rfl:nSU=mSU:=by have:=h5.2.2.2.2.2.2.2.1;have:=g5.2.2.2.2.2.2.2.1;omega
 obtain rfl:nF=mF:=by have:=h5.2.2.2.2.2.2.2.2.1;have:=g5.2.2.2.2.2.2.2.2.1;omega
 obtain rfl:nD=mD:=by have:=h5.2.2.2.2.2.2.2.2.2.1;have:=g5.2.2.2.2.2.2.2.2.2.1;omega
 obtain rfl:nU=mU:=by have:=h5.2.2.2.2.2.2.2.2.2.2.1;have:=g5.2.2.2.2.2.2.2.2.2.2.1;omega
 obtain⟨l1,l2,l3,l4,l5,l6,l7,l8,l9,l10⟩:=hb;have HE0:Hid (BE w 48 #[.slice ada zs.length adc,.slice aca ps.length acc,.int .i64 f,.bool d,.slice aka ks.length akc,.bool r.ok,.int .u32 r.g,.int .u32 r.t,.slice aSD nSD acSD,.slice aSU nSU acSU,.slice aF nF acF,.slice aD nD acD,.slice aU nU acU,.int .i64 r.k,.slice aT r.n acT,.int .u32 r.nx] #[.slice bda zs.length bdc,.slice bca ps.length bcc,.int .i64 f,.bool d,.slice bka ks.length bkc,.bool r.ok,.int .u32 r.g,.int .u32 r.t,.slice bSD nSD bcSD,.slice bSU nSU bcSU,.slice bF nF bcF,.slice bD nD bcD,.slice bU nU bcU,.int .i64 r.k,.slice bT r.n bcT,.int .u32 r.nx] ((w.alloc (.cells #[.slice ada zs.length adc,.slice aca ps.length acc,.int .i64 f,.bool d,.slice aka ks.length akc,.bool r.ok,.int .u32 r.g,.int .u32 r.t,.slice aSD nSD acSD,.slice aSU nSU acSU,.slice aF nF acF,.slice aD nD acD,.slice aU nU acU,.int .i64 r.k,.slice aT r.n acT,.int .u32 r.nx] 48)).alloc (.cells #[.slice bda zs.length bdc,.slice bca ps.length bcc,.int .i64 f,.bool d,.slice bka ks.length bkc,.bool r.ok,.int .u32 r.g,.int .u32 r.t,.slice bSD nSD bcSD,.slice bSU nSU bcSU,.slice bF nF bcF,.slice bD nD bcD,.slice bU nU bcU,.int .i64 r.k,.slice bT r.n bcT,.int .u32 r.nx] 48))):=BE.start _ _ _ _;have HD:Hid (∀ ww,Below w.heap.size w ww→DAt ww (.agg #[.slice ada zs.length adc,.slice aca ps.length acc,.int .i64 f,.bool d]) zs ps f d∧DAt ww (.agg #[.slice bda zs.length bdc,.slice bca ps.length bcc,.int .i64 f,.bool d]) zs ps f d):=fun ww b=>⟨⟨ada,adc,aca,acc,rfl,h1.below b,h2.below b,h3⟩,⟨bda,bdc,bca,bcc,rfl,g1.below b,g2.below b,g3⟩⟩
 have HK:=hid_ofV (And.intro h4 g4);have HI:=hid_ofV (And.intro h5 g5);have HP:=hid_ofV l3;have HLe:Hid (nSD≤1048576∧nSU≤1048576∧nF≤1048576∧nD≤1048576∧nU≤1048576):=by
  obtain⟨_,_,_,_,_,_,e1,e2,e3,e4,e5,_⟩:=h5;exact⟨by omega,by omega,by omega,by omega,by omega⟩
 clear h1 h2 h3 h4 h5 g1 g2 g3 g4 g5 l3 l5 l6 l7 l8 l9;go_enter Tryz.func60,Tryz.ntmps60
 go_upto_region 1 with fail
 generalize (w.alloc (.cells #[.slice ada zs.length adc,.slice aca ps.length acc,.int .i64 f,.bool d,.slice aka ks.length akc,.bool r.ok,.int .u32 r.g,.int .u32 r.t,.slice aSD nSD acSD,.slice aSU nSU acSU,.slice aF nF acF,.slice aD nD acD,.slice aU nU acU,.int .i64 r.k,.slice aT r.n acT,.int .u32 r.nx] 48)).alloc (.cells #[.slice bda zs.length bdc,.slice bca ps.length bcc,.int .i64 f,.bool d,.slice bka ks.length bkc,.bool r.ok,.int .u32 r.g,.int .u32 r.t,.slice bSD nSD bcSD,.slice bSU nSU bcSU,.slice bF nF bcF,.slice bD nD bcD,.slice bU nU bcU,.int .i64 r.k,.slice bT r.n bcT,.int .u32 r.nx] 48)=w0 at *;have x0:=cell_of_row w0 w.heap.size 0 _ _ _ HE0.out.b0;have y0:=cell_of_row w0 (w.heap.size+1) 0 _ _ _ HE0.out.b1;have x1:=cell_of_row w0 w.heap.size 1 _ _ _ HE0.out.b0;have y1:=cell_of_row w0 (w.heap.size+1) 1 _ _ _ HE0.out.b1;have x2:=cell_of_row w0 w.heap.size 2 _ _ _ HE0.out.b0;have y2:=cell_of_row w0 (w.heap.size+1) 2 _ _ _ HE0.out.b1;have x3:=cell_of_row w0 w.heap.size 3 _ _ _ HE0.out.b0;have y3:=cell_of_row w0 (w.heap.size+1) 3 _ _ _ HE0.out.b1;simp at x0 y0 x1 y1 x2 y2 x3 y3;go_wp2_with fail;refine(eqD_any _ _ zs ps f d w0 (HD.out w0 HE0.out.below).1 (HD.out w0 HE0.out.below).2 l1 l2 HP.out).mono ?_;rintro e w1 ⟨rfl,b1⟩;have HE1:=hid_ofV (HE0.out.call b1);clear x0 y0 x1 y1 x2 y2 x3 y3;clear b1 HE0 HD;have x4:=cell_of_row w1 w.heap.size 4 _ _ _ HE1.out.b0;have y4:=cell_of_row w1 (w.heap.size+1) 4 _ _ _ HE1.out.b1;simp at x4 y4;go_wp2_with fail;refine(eqB_any aka bka ks.length akc bkc ks w1 rfl l4 (HK.out.1.below HE1.out.below) (HK.out.2.below HE1.out.below)).mono ?_;rintro e _ ⟨rfl,q,rfl⟩;have HE2:=hid_ofV (HE1.out.call (belD (Below.refl _ _) q));clear x4 y4;clear HE1 HK;generalize w1.drewN q=w2 at *;have x5:=cell_of_row w2 w.heap.size 5 _ _ _ HE2.out.b0;have y5:=cell_of_row w2 (w.heap.size+1) 5 _ _ _ HE2.out.b1;have x6:=cell_of_row w2 w.heap.size 6 _ _ _ HE2.out.b0;have y6:=cell_of_row w2 (w.heap.size+1) 6 _ _ _ HE2.out.b1;have x7:=cell_of_row w2 w.heap.size 7 _ _ _ HE2.out.b0;have y7:=cell_of_row w2 (w.heap.size+1) 7 _ _ _ HE2.out.b1;have x8:=cell_of_row w2 w.heap.size 8 _ _ _ HE2.out.b0;have y8:=cell_of_row w2 (w.heap.size+1) 8 _ _ _ HE2.out.b1;have x9:=cell_of_row w2 w.heap.size 9 _ _ _ HE2.out.b0;have y9:=cell_of_row w2 (w.heap.size+1) 9 _ _ _ HE2.out.b1;have x10:=cell_of_row w2 w.heap.size 10 _ _ _ HE2.out.b0;have y10:=cell_of_row w2 (w.heap.size+1) 10 _ _ _ HE2.out.b1;have x11:=cell_of_row w2 w.heap.size 11 _ _ _ HE2.out.b0;have y11:=cell_of_row w2 (w.heap.size+1) 11 _ _ _ HE2.out.b1;have x12:=cell_of_row w2 w.heap.size 12 _ _ _ HE2.out.b0;have y12:=cell_of_row w2 (w.heap.size+1) 12 _ _ _ HE2.out.b1;have x13:=cell_of_row w2 w.heap.size 13 _ _ _ HE2.out.b0;have y13:=cell_of_row w2 (w.heap.size+1) 13 _ _ _ HE2.out.b1;have x14:=cell_of_row w2 w.heap.size 14 _ _ _ HE2.out.b0;have y14:=cell_of_row w2 (w.heap.size+1) 14 _ _ _ HE2.out.b1;have x15:=cell_of_row w2 w.heap.size 15 _ _ _ HE2.out.b0;have y15:=cell_of_row w2 (w.heap.size+1) 15 _ _ _ HE2.out.b1;simp at x5 y5 x6 y6 x7 y7 x8 y8 x9 y9 x10 y10 x11 y11 x12 y12 x13 y13 x14 y14 x15 y15;go_wp2_with fail;refine(eqIm_any aSD bSD aSU bSU aF bF aD bD aU bU aT bT nSD acSD bcSD nSU acSU bcSU nF acF bcF nD acD bcD nU acU bcU r.n acT bcT r.sD r.sU r.F r.D r.U r.T r.g r.t r.k r.nx r.ok w2 ?e1 ?e2 ?e3 ?e4 ?e5 ?e6 HLe.out.1 HLe.out.2.1 HLe.out.2.2.1 HLe.out.2.2.2.1 HLe.out.2.2.2.2 l10 ?f1 ?f2 ?f3 ?f4 ?f5 ?f6 ?f7 ?f8 ?f9 ?f10 ?f11 ?f12).mono ?_
 case e1=>exact HI.out.1.2.2.2.2.2.2.1
 case e2=>exact HI.out.1.2.2.2.2.2.2.2.1
 case e3=>exact HI.out.1.2.2.2.2.2.2.2.2.1
 case e4=>exact HI.out.1.2.2.2.2.2.2.2.2.2.1
 case e5=>exact HI.out.1.2.2.2.2.2.2.2.2.2.2.1
 case e6=>exact HI.out.1.2.2.2.2.2.2.2.2.2.2.2
 case f1=>exact HI.out.1.1.below HE2.out.below
 case f2=>exact HI.out.2.1.below HE2.out.below
 case f3=>exact HI.out.1.2.1.below HE2.out.below
 case f4=>exact HI.out.2.2.1.below HE2.out.below
 case f5=>exact HI.out.1.2.2.1.below HE2.out.below
 case f6=>exact HI.out.2.2.2.1.below HE2.out.below
 case f7=>exact HI.out.1.2.2.2.1.below HE2.out.below
 case f8=>exact HI.out.2.2.2.2.1.below HE2.out.below
 case f9=>exact HI.out.1.2.2.2.2.1.below HE2.out.below
 case f10=>exact HI.out.2.2.2.2.2.1.below HE2.out.below
 case f11=>exact HI.out.1.2.2.2.2.2.1.below HE2.out.below
 case f12=>exact HI.out.2.2.2.2.2.2.1.below HE2.out.below
 rintro e w3 ⟨rfl,b3⟩;have HB3:=hid_ofV (HE2.out.below.trans (b3.mono HE2.out.below.size));clear x5 y5 x6 y6 x7 y7 x8 y8 x9 y9 x10 y10 x11 y11 x12 y12 x13 y13 x14 y14 x15 y15;clear b3 HE2 HI;go_wp2
 go_ret
 exact⟨rfl,HB3.out⟩
end Go.Proofs.YthmeoilbmfdhfaaGreat
