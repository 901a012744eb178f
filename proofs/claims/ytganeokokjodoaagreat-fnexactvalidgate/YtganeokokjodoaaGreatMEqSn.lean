import Derived.Test.YtganeokokjodoaaGreatMVgA
import Derived.Deep.Cut
import Derived.Test.YtganeokokjodoaaGreatMRegU
import Derived.Test.YtganeokokjodoaaGreatLdK
import Derived.Test.YtganeokokjodoaaGreatLdZ
import Derived.Test.YtganeokokjodoaaGreatMMkF
namespace Go.Proofs.YtganeokokjodoaaGreat
open Go.ChangeShapes Go.WideShapes Go.ChangeAt Go.RowKit
set_option linter.unusedVariables false
set_option maxRecDepth 100000 in
set_option maxHeartbeats 4000000 in
theorem eqSn_any (aD bD aU bU:Option Addr) (nD cD dD nU cU dU:Nat) (D U:List Int) (gn tl:Int) (w:World) (hD:D.length=nD) (hU:U.length=nU) (mD:nD≤1048576) (mU:nU≤1048576) (AD:At .i64 w aD D) (BD:At .i64 w bD D) (AU:At .i64 w aU U) (BU:At .i64 w bU U) :
  Calls Tryz.prog 36 #[.agg #[.int .u32 gn,.int .u32 tl,.slice aD nD cD,.slice aU nU cU],.agg #[.int .u32 gn,.int .u32 tl,.slice bD nD dD,.slice bU nU dU]] w fun e w'=>e=.returned (.bool true)∧Below w.heap.size w w':=by
 have HE0:Hid (BE w 30 #[.int .u32 gn,.int .u32 tl,.slice aD nD cD,.slice aU nU cU] #[.int .u32 gn,.int .u32 tl,.slice bD nD dD,.slice bU nU dU] ((w.alloc (.cells #[.int .u32 gn,.int .u32 tl,.slice aD nD cD,.slice aU nU cU] 30)).alloc (.cells #[.int .u32 gn,.int .u32 tl,.slice bD nD dD,.slice bU nU dU] 30))):=BE.start _ _ _ _
 have HAD:Hid (At .i64 w aD D∧At .i64 w bD D):=⟨AD,BD⟩
 have HLD:Hid (D.length=nD):=hD
 have HAU:Hid (At .i64 w aU U∧At .i64 w bU U):=⟨AU,BU⟩
 have HLU:Hid (U.length=nU):=hU
 clear AD BD hD AU BU hU
 have negn:(gn != gn)=false:=by simp
 have netl:(tl != tl)=false:=by simp
 go_enter Tryz.func36,Tryz.ntmps36
 go_wp2_with fail
 generalize ((w.alloc (.cells #[.int .u32 gn,.int .u32 tl,.slice aD nD cD,.slice aU nU cU] 30)).alloc (.cells #[.int .u32 gn,.int .u32 tl,.slice bD nD dD,.slice bU nU dU] 30))=w0 at *
 refine(eqI_any _ _ nD _ _ D _ HLD.out mD (HAD.out.1.below HE0.out.below) (HAD.out.2.below HE0.out.below)).mono ?_
 rintro e w1 ⟨rfl,q0,hq⟩
 have hb:Below w0.heap.size w0 w1:=by rw[hq];exact below_dq (Below.refl _ _) _
 clear hq
 have HE1:Hid (BE w 30 #[.int .u32 gn,.int .u32 tl,.slice aD nD cD,.slice aU nU cU] #[.int .u32 gn,.int .u32 tl,.slice bD nD dD,.slice bU nU dU] w1):=HE0.out.call hb
 clear hb HE0
 have x3:w1.cell? ⟨w.heap.size,3,none⟩=some (.slice aU nU cU):=by rw[cell_of_row w1 w.heap.size 3 _ _ _ HE1.out.b0];rfl
 have y3:w1.cell? ⟨w.heap.size+1,3,none⟩=some (.slice bU nU dU):=by rw[cell_of_row w1 (w.heap.size+1) 3 _ _ _ HE1.out.b1];rfl
 go_wp2_with fail
 clear x3 y3
 refine(eqI_any _ _ nU _ _ U _ HLU.out mU (HAU.out.1.below HE1.out.below) (HAU.out.2.below HE1.out.below)).mono ?_
 rintro e w2 ⟨rfl,q1,hq⟩
 have hb:Below w1.heap.size w1 w2:=by rw[hq];exact below_dq (Below.refl _ _) _
 clear hq
 have HE2:Hid (BE w 30 #[.int .u32 gn,.int .u32 tl,.slice aD nD cD,.slice aU nU cU] #[.int .u32 gn,.int .u32 tl,.slice bD nD dD,.slice bU nU dU] w2):=HE1.out.call hb
 clear hb HE1
 have HF:Hid (Below w.heap.size w w2):=HE2.out.below
 clear HE2
 go_wp2
 go_ret
 exact⟨rfl,HF.out⟩
end Go.Proofs.YtganeokokjodoaaGreat
namespace Go.Proofs.YtganeokokjodoaaGreat
open Go.ChangeShapes Go.WideShapes Go.ChangeAt Go.RowKit
set_option linter.unusedVariables false
set_option maxRecDepth 100000 in
set_option maxHeartbeats 4000000 in
theorem eqSt_any (aD bD aU bU aT bT:Option Addr) (nD cD dD nU cU dU nT cT dT:Nat) (D U T:List Int) (k:Int) (w:World) (hD:D.length=nD) (hU:U.length=nU) (hT:T.length=nT*2) (mD:nD≤1048576) (mU:nU≤1048576) (mT:nT≤1048576) (AD:At .i64 w aD D) (BD:At .i64 w bD D) (AU:At .i64 w aU U) (BU:At .i64 w bU U) (AT:At .i64 w aT T) (BT:At .i64 w bT T) :
  Calls Tryz.prog 38 #[.agg #[.slice aD nD cD,.slice aU nU cU,.int .i64 k,.slice aT nT cT],.agg #[.slice bD nD dD,.slice bU nU dU,.int .i64 k,.slice bT nT dT]] w fun e w'=>e=.returned (.bool true)∧Below w.heap.size w w':=by
 have HE0:Hid (BE w 34 #[.slice aD nD cD,.slice aU nU cU,.int .i64 k,.slice aT nT cT] #[.slice bD nD dD,.slice bU nU dU,.int .i64 k,.slice bT nT dT] ((w.alloc (.cells #[.slice aD nD cD,.slice aU nU cU,.int .i64 k,.slice aT nT cT] 34)).alloc (.cells #[.slice bD nD dD,.slice bU nU dU,.int .i64 k,.slice bT nT dT] 34))):=BE.start _ _ _ _
 have HAD:Hid (At .i64 w aD D∧At .i64 w bD D):=⟨AD,BD⟩
 have HLD:Hid (D.length=nD):=hD
 have HAU:Hid (At .i64 w aU U∧At .i64 w bU U):=⟨AU,BU⟩
 have HLU:Hid (U.length=nU):=hU
 have HAT:Hid (At .i64 w aT T∧At .i64 w bT T):=⟨AT,BT⟩
 have HLT:Hid (T.length=nT*2):=hT
 clear AD BD hD AU BU hU AT BT hT
 have nek:(k != k)=false:=by simp
 go_enter Tryz.func38,Tryz.ntmps38
 go_wp2_with fail
 generalize ((w.alloc (.cells #[.slice aD nD cD,.slice aU nU cU,.int .i64 k,.slice aT nT cT] 34)).alloc (.cells #[.slice bD nD dD,.slice bU nU dU,.int .i64 k,.slice bT nT dT] 34))=w0 at *
 refine(eqI_any _ _ nD _ _ D _ HLD.out mD (HAD.out.1.below HE0.out.below) (HAD.out.2.below HE0.out.below)).mono ?_
 rintro e w1 ⟨rfl,q0,hq⟩
 have hb:Below w0.heap.size w0 w1:=by rw[hq];exact below_dq (Below.refl _ _) _
 clear hq
 have HE1:Hid (BE w 34 #[.slice aD nD cD,.slice aU nU cU,.int .i64 k,.slice aT nT cT] #[.slice bD nD dD,.slice bU nU dU,.int .i64 k,.slice bT nT dT] w1):=HE0.out.call hb
 clear hb HE0
 have x1:w1.cell? ⟨w.heap.size,1,none⟩=some (.slice aU nU cU):=by rw[cell_of_row w1 w.heap.size 1 _ _ _ HE1.out.b0];rfl
 have y1:w1.cell? ⟨w.heap.size+1,1,none⟩=some (.slice bU nU dU):=by rw[cell_of_row w1 (w.heap.size+1) 1 _ _ _ HE1.out.b1];rfl
 go_wp2_with fail
 clear x1 y1
 refine(eqI_any _ _ nU _ _ U _ HLU.out mU (HAU.out.1.below HE1.out.below) (HAU.out.2.below HE1.out.below)).mono ?_
 rintro e w2 ⟨rfl,q1,hq⟩
 have hb:Below w1.heap.size w1 w2:=by rw[hq];exact below_dq (Below.refl _ _) _
 clear hq
 have HE2:Hid (BE w 34 #[.slice aD nD cD,.slice aU nU cU,.int .i64 k,.slice aT nT cT] #[.slice bD nD dD,.slice bU nU dU,.int .i64 k,.slice bT nT dT] w2):=HE1.out.call hb
 clear hb HE1
 have x2:w2.cell? ⟨w.heap.size,2,none⟩=some (.int .i64 k):=by rw[cell_of_row w2 w.heap.size 2 _ _ _ HE2.out.b0];rfl
 have y2:w2.cell? ⟨w.heap.size+1,2,none⟩=some (.int .i64 k):=by rw[cell_of_row w2 (w.heap.size+1) 2 _ _ _ HE2.out.b1];rfl
 have x3:w2.cell? ⟨w.heap.size,3,none⟩=some (.slice aT nT cT):=by rw[cell_of_row w2 w.heap.size 3 _ _ _ HE2.out.b0];rfl
 have y3:w2.cell? ⟨w.heap.size+1,3,none⟩=some (.slice bT nT dT):=by rw[cell_of_row w2 (w.heap.size+1) 3 _ _ _ HE2.out.b1];rfl
 go_wp2_with fail
 clear x2 y2 x3 y3
 refine(eqTS_any _ _ nT _ _ T _ HLT.out mT (HAT.out.1.below HE2.out.below) (HAT.out.2.below HE2.out.below)).mono ?_
 rintro e w3 ⟨rfl,hb⟩
 have HE3:Hid (BE w 34 #[.slice aD nD cD,.slice aU nU cU,.int .i64 k,.slice aT nT cT] #[.slice bD nD dD,.slice bU nU dU,.int .i64 k,.slice bT nT dT] w3):=HE2.out.call hb
 clear hb HE2
 have HF:Hid (Below w.heap.size w w3):=HE3.out.below
 clear HE3
 go_wp2
 go_ret
 exact⟨rfl,HF.out⟩
end Go.Proofs.YtganeokokjodoaaGreat
namespace Go.Proofs.YtganeokokjodoaaGreat
open Go.ChangeShapes Go.WideShapes Go.ChangeAt Go.RowKit
set_option linter.unusedVariables false
set_option maxRecDepth 100000 in
set_option maxHeartbeats 4000000 in
theorem eqIm_any (asD bsD asU bsU aF bF azD bzD azU bzU azT bzT:Option Addr) (nsD csD dsD nsU csU dsU nF cF dF nzD czD dzD nzU czU dzU nzT czT dzT:Nat) (sD sU F zD zU zT:List Int) (sgn stl zk nx:Int) (ok:Bool) (w:World) (hsD:sD.length=nsD) (hsU:sU.length=nsU) (hF:F.length=nF*4) (hzD:zD.length=nzD) (hzU:zU.length=nzU) (hzT:zT.length=nzT*2) (msD:nsD≤1048576) (msU:nsU≤1048576) (mF:nF≤1048576) (mzD:nzD≤1048576) (mzU:nzU≤1048576) (mzT:nzT≤1048576) (AsD:At .i64 w asD sD) (BsD:At .i64 w bsD sD) (AsU:At .i64 w asU sU) (BsU:At .i64 w bsU sU) (AF:FAt w aF F) (BF:FAt w bF F) (AzD:At .i64 w azD zD) (BzD:At .i64 w bzD zD) (AzU:At .i64 w azU zU) (BzU:At .i64 w bzU zU) (AzT:At .i64 w azT zT) (BzT:At .i64 w bzT zT) :
  Calls Tryz.prog 9 #[.agg #[.bool ok,.int .u32 sgn,.int .u32 stl,.slice asD nsD csD,.slice asU nsU csU,.slice aF nF cF,.slice azD nzD czD,.slice azU nzU czU,.int .i64 zk,.slice azT nzT czT,.int .u32 nx],.agg #[.bool ok,.int .u32 sgn,.int .u32 stl,.slice bsD nsD dsD,.slice bsU nsU dsU,.slice bF nF dF,.slice bzD nzD dzD,.slice bzU nzU dzU,.int .i64 zk,.slice bzT nzT dzT,.int .u32 nx]] w fun e w'=>e=.returned (.bool true)∧Below w.heap.size w w':=by
 have HE0:Hid (BE w 36 #[.bool ok,.int .u32 sgn,.int .u32 stl,.slice asD nsD csD,.slice asU nsU csU,.slice aF nF cF,.slice azD nzD czD,.slice azU nzU czU,.int .i64 zk,.slice azT nzT czT,.int .u32 nx] #[.bool ok,.int .u32 sgn,.int .u32 stl,.slice bsD nsD dsD,.slice bsU nsU dsU,.slice bF nF dF,.slice bzD nzD dzD,.slice bzU nzU dzU,.int .i64 zk,.slice bzT nzT dzT,.int .u32 nx] ((w.alloc (.cells #[.bool ok,.int .u32 sgn,.int .u32 stl,.slice asD nsD csD,.slice asU nsU csU,.slice aF nF cF,.slice azD nzD czD,.slice azU nzU czU,.int .i64 zk,.slice azT nzT czT,.int .u32 nx] 36)).alloc (.cells #[.bool ok,.int .u32 sgn,.int .u32 stl,.slice bsD nsD dsD,.slice bsU nsU dsU,.slice bF nF dF,.slice bzD nzD dzD,.slice bzU nzU dzU,.int .i64 zk,.slice bzT nzT dzT,.int .u32 nx] 36))):=BE.start _ _ _ _
 have HAsD:Hid (At .i64 w asD sD∧At .i64 w bsD sD):=⟨AsD,BsD⟩
 have HLsD:Hid (sD.length=nsD):=hsD
 have HAsU:Hid (At .i64 w asU sU∧At .i64 w bsU sU):=⟨AsU,BsU⟩
 have HLsU:Hid (sU.length=nsU):=hsU
 have HAF:Hid (FAt w aF F∧FAt w bF F):=⟨AF,BF⟩
 have HLF:Hid (F.length=nF*4):=hF
 have HAzD:Hid (At .i64 w azD zD∧At .i64 w bzD zD):=⟨AzD,BzD⟩
 have HLzD:Hid (zD.length=nzD):=hzD
 have HAzU:Hid (At .i64 w azU zU∧At .i64 w bzU zU):=⟨AzU,BzU⟩
 have HLzU:Hid (zU.length=nzU):=hzU
 have HAzT:Hid (At .i64 w azT zT∧At .i64 w bzT zT):=⟨AzT,BzT⟩
 have HLzT:Hid (zT.length=nzT*2):=hzT
 clear AsD BsD hsD AsU BsU hsU AF BF hF AzD BzD hzD AzU BzU hzU AzT BzT hzT
 have neok:(ok != ok)=false:=by simp
 have nesgn:(sgn != sgn)=false:=by simp
 have nestl:(stl != stl)=false:=by simp
 have nezk:(zk != zk)=false:=by simp
 have nenx:(nx != nx)=false:=by simp
 go_enter Tryz.func9,Tryz.ntmps9
 go_wp2_with fail
 generalize ((w.alloc (.cells #[.bool ok,.int .u32 sgn,.int .u32 stl,.slice asD nsD csD,.slice asU nsU csU,.slice aF nF cF,.slice azD nzD czD,.slice azU nzU czU,.int .i64 zk,.slice azT nzT czT,.int .u32 nx] 36)).alloc (.cells #[.bool ok,.int .u32 sgn,.int .u32 stl,.slice bsD nsD dsD,.slice bsU nsU dsU,.slice bF nF dF,.slice bzD nzD dzD,.slice bzU nzU dzU,.int .i64 zk,.slice bzT nzT dzT,.int .u32 nx] 36))=w0 at *
 refine(eqSn_any asD bsD asU bsU nsD csD dsD nsU csU dsU sD sU sgn stl _ HLsD.out HLsU.out msD msU (HAsD.out.1.below HE0.out.below) (HAsD.out.2.below HE0.out.below) (HAsU.out.1.below HE0.out.below) (HAsU.out.2.below HE0.out.below)).mono ?_
 rintro e w1 ⟨rfl,hb⟩
 have HE1:Hid (BE w 36 #[.bool ok,.int .u32 sgn,.int .u32 stl,.slice asD nsD csD,.slice asU nsU csU,.slice aF nF cF,.slice azD nzD czD,.slice azU nzU czU,.int .i64 zk,.slice azT nzT czT,.int .u32 nx] #[.bool ok,.int .u32 sgn,.int .u32 stl,.slice bsD nsD dsD,.slice bsU nsU dsU,.slice bF nF dF,.slice bzD nzD dzD,.slice bzU nzU dzU,.int .i64 zk,.slice bzT nzT dzT,.int .u32 nx] w1):=HE0.out.call hb
 clear hb HE0
 have x5:w1.cell? ⟨w.heap.size,5,none⟩=some (.slice aF nF cF):=by rw[cell_of_row w1 w.heap.size 5 _ _ _ HE1.out.b0];rfl
 have y5:w1.cell? ⟨w.heap.size+1,5,none⟩=some (.slice bF nF dF):=by rw[cell_of_row w1 (w.heap.size+1) 5 _ _ _ HE1.out.b1];rfl
 go_wp2_with fail
 clear x5 y5
 refine(eqFS_any _ _ nF _ _ F _ HLF.out mF (HAF.out.1.below HE1.out.below) (HAF.out.2.below HE1.out.below)).mono ?_
 rintro e w2 ⟨rfl,hb⟩
 have HE2:Hid (BE w 36 #[.bool ok,.int .u32 sgn,.int .u32 stl,.slice asD nsD csD,.slice asU nsU csU,.slice aF nF cF,.slice azD nzD czD,.slice azU nzU czU,.int .i64 zk,.slice azT nzT czT,.int .u32 nx] #[.bool ok,.int .u32 sgn,.int .u32 stl,.slice bsD nsD dsD,.slice bsU nsU dsU,.slice bF nF dF,.slice bzD nzD dzD,.slice bzU nzU dzU,.int .i64 zk,.slice bzT nzT dzT,.int .u32 nx] w2):=HE1.out.call hb
 clear hb HE1
 have x6:w2.cell? ⟨w.heap.size,6,none⟩=some (.slice azD nzD czD):=by rw[cell_of_row w2 w.heap.size 6 _ _ _ HE2.out.b0];rfl
 have y6:w2.cell? ⟨w.heap.size+1,6,none⟩=some (.slice bzD nzD dzD):=by rw[cell_of_row w2 (w.heap.size+1) 6 _ _ _ HE2.out.b1];rfl
 have x7:w2.cell? ⟨w.heap.size,7,none⟩=some (.slice azU nzU czU):=by rw[cell_of_row w2 w.heap.size 7 _ _ _ HE2.out.b0];rfl
 have y7:w2.cell? ⟨w.heap.size+1,7,none⟩=some (.slice bzU nzU dzU):=by rw[cell_of_row w2 (w.heap.size+1) 7 _ _ _ HE2.out.b1];rfl
 have x8:w2.cell? ⟨w.heap.size,8,none⟩=some (.int .i64 zk):=by rw[cell_of_row w2 w.heap.size 8 _ _ _ HE2.out.b0];rfl
 have y8:w2.cell? ⟨w.heap.size+1,8,none⟩=some (.int .i64 zk):=by rw[cell_of_row w2 (w.heap.size+1) 8 _ _ _ HE2.out.b1];rfl
 have x9:w2.cell? ⟨w.heap.size,9,none⟩=some (.slice azT nzT czT):=by rw[cell_of_row w2 w.heap.size 9 _ _ _ HE2.out.b0];rfl
 have y9:w2.cell? ⟨w.heap.size+1,9,none⟩=some (.slice bzT nzT dzT):=by rw[cell_of_row w2 (w.heap.size+1) 9 _ _ _ HE2.out.b1];rfl
 go_wp2_with fail
 clear x6 y6 x7 y7 x8 y8 x9 y9
 refine(eqSt_any azD bzD azU bzU azT bzT nzD czD dzD nzU czU dzU nzT czT dzT zD zU zT zk _ HLzD.out HLzU.out HLzT.out mzD mzU mzT (HAzD.out.1.below HE2.out.below) (HAzD.out.2.below HE2.out.below) (HAzU.out.1.below HE2.out.below) (HAzU.out.2.below HE2.out.below) (HAzT.out.1.below HE2.out.below) (HAzT.out.2.below HE2.out.below)).mono ?_
 rintro e w3 ⟨rfl,hb⟩
 have HE3:Hid (BE w 36 #[.bool ok,.int .u32 sgn,.int .u32 stl,.slice asD nsD csD,.slice asU nsU csU,.slice aF nF cF,.slice azD nzD czD,.slice azU nzU czU,.int .i64 zk,.slice azT nzT czT,.int .u32 nx] #[.bool ok,.int .u32 sgn,.int .u32 stl,.slice bsD nsD dsD,.slice bsU nsU dsU,.slice bF nF dF,.slice bzD nzD dzD,.slice bzU nzU dzU,.int .i64 zk,.slice bzT nzT dzT,.int .u32 nx] w3):=HE2.out.call hb
 clear hb HE2
 have x10:w3.cell? ⟨w.heap.size,10,none⟩=some (.int .u32 nx):=by rw[cell_of_row w3 w.heap.size 10 _ _ _ HE3.out.b0];rfl
 have y10:w3.cell? ⟨w.heap.size+1,10,none⟩=some (.int .u32 nx):=by rw[cell_of_row w3 (w.heap.size+1) 10 _ _ _ HE3.out.b1];rfl
 have HF:Hid (Below w.heap.size w w3):=HE3.out.below
 clear HE3
 go_wp2
 go_ret
 exact⟨rfl,HF.out⟩
end Go.Proofs.YtganeokokjodoaaGreat
namespace Go.Proofs.YtganeokokjodoaaGreat
open Go.ChangeShapes Go.WideShapes Go.ChangeAt Go.RowKit
set_option linter.unusedVariables false
def I6L (w:World) (aSD aSU aF aD aU aT:Option Addr) (nSD nSU mF nD nU:Nat) (r:ImR):Prop:=At .i64 w aSD r.sD∧At .i64 w aSU r.sU∧FAt w aF r.F∧At .i64 w aD r.D∧At .i64 w aU r.U∧At .i64 w aT r.T∧r.sD.length=nSD∧r.sU.length=nSU∧r.F.length=mF*4∧r.D.length=nD∧r.U.length=nU∧r.T.length=r.n*2
theorem I6L.below {w w':World} {aSD aSU aF aD aU aT:Option Addr} {nSD nSU mF nD nU:Nat} {r:ImR} (h:I6L w aSD aSU aF aD aU aT nSD nSU mF nD nU r) (b:Below w.heap.size w w'):I6L w' aSD aSU aF aD aU aT nSD nSU mF nD nU r:=
 ⟨h.1.below b,h.2.1.below b,h.2.2.1.below b,h.2.2.2.1.below b,h.2.2.2.2.1.below b,h.2.2.2.2.2.1.below b,h.2.2.2.2.2.2⟩
theorem FO.open_ {B:Nat} {w:World} {a:Option Addr} {n c:Nat} {F:List Int} (h:FO B w (.slice a n c) F n):Open w a (n*4):=by
 rcases h.2 with⟨h',h0⟩|⟨g,cap,cur,h',hb,hh,hc,hm,hs,ht⟩
 ·subst h0;exact .inl (Nat.zero_mul _)
 ·cases h';have hlt:=(Array.getElem?_eq_some_iff.1 hh).1;refine .inr ⟨g,0,rfl,hlt,fun i hi=>?_⟩;rw[Nat.zero_add];refine⟨?_,frozen_of_row _ _ _ _ _ hh⟩;rw[cell_of_row w g i _ _ _ hh];have:i<cur.size:=by have:=Nat.mul_le_mul_right 4 hc;omega
  simp[this]
theorem ImV.six {lo:Nat} {w:World} {v:Value} {r:ImR} (h:ImV lo w v r):∃ aSD nSD cSD aSU nSU cSU aF mF cF aD nD cD aU nU cU aT cT b1 b2,
  v=.agg #[.bool r.ok,.int .u32 r.g,.int .u32 r.t,.slice aSD nSD cSD,.slice aSU nSU cSU,.slice aF mF cF,.slice aD nD cD,.slice aU nU cU,.int .i64 r.k,.slice aT r.n cT,.int .u32 r.nx]∧
  I6 lo b1 b2 w aSD aSU aF aD aU aT nSD nSU mF nD nU r.n∧I6L w aSD aSU aF aD aU aT nSD nSU mF nD nU r:=by
 obtain⟨aSD,nSD,cSD,aSU,nSU,cSU,vF,m,aD,nD,cD,aU,nU,cU,aT,cT,b1,b2,rfl,s1,l1,l2,f1,l3,s2,h1,h2⟩:=h
 have fl:=f1.len
 obtain⟨aF,cF,rfl,fA,_,fL⟩:=f1.form
 refine⟨aSD,nSD,cSD,aSU,nSU,cSU,aF,m,cF,aD,nD,cD,aU,nU,cU,aT,cT,b1,b2,rfl,⟨s1.d.open_ s1.nd,s1.u.open_ s1.nu,f1.open_,s2.d.open_ s2.nd,s2.u.open_ s2.nu,s2.t.open_ s2.nt,fun ad e=>⟨(s1.ld ad e).1,(s1.ld ad e).2,l1 ad e⟩,fun ad e=>⟨(s1.lu ad e).1,(s1.lu ad e).2,l2 ad e⟩,fun ad e=>⟨(fL ad e).1,(fL ad e).2,l3 _ ?_⟩,s2.ld,s2.lu,s2.lt,s1.du,s2.du,s2.dt,s2.ut,h1,h2⟩,s1.d.at_,s1.u.at_,fA,s2.d.at_,s2.u.at_,s2.t.at_,s1.nd,s1.nu,fl,s2.nd,s2.nu,s2.nt⟩
 subst e;rfl
theorem imG_bd {zs:List Int} {ps:List PD} {f:Int} (bz:Byte zs) (bp:∀ i,Byte (ps.getD i (0,[])).2):(imG zs ps f).sD.length≤16∧(imG zs ps f).sU.length≤256∧(imG zs ps f).F.length≤1008∧(imG zs ps f).D.length≤16∧(imG zs ps f).U.length≤256∧(imG zs ps f).n≤256:=by
 have h0:imNo.sD.length≤16∧imNo.sU.length≤256∧imNo.F.length≤1008∧imNo.D.length≤16∧imNo.U.length≤256∧imNo.n≤256:=by decide
 by_cases hv:validB zs.length ps f=true
 ·rw[show imG zs ps f=imF zs ps (zs.length/64-4) from if_pos hv];have F0:DvF zs.length zs.length ps.length f zs ps:=⟨rfl,rfl,hv,Nat.le_refl _,bz,bp⟩
  have hJ:zs.length/64-4≤252:=by have:=F0.base;omega
  have HJR:=fun q=>(F0.jr q).2
  generalize zs.length/64-4=J at *;by_cases hn:(nwK zs ps 2).ok=true
  ·rw[show imF zs ps J=imR (nwK zs ps 2) (jrF zs ps J (nwK zs ps 2).t.toNat J) from if_pos hn];have hsn:=nwK_snp 2 hn;generalize nwK zs ps 2=s at *;have HFB:=jrF_frb zs ps J HJR J s.t.toNat;obtain⟨k,hk,hl⟩:=jrF_len zs ps J J s.t.toNat;generalize jrF zs ps J s.t.toNat J=F at *;by_cases ho:(imA s F).ok=true
   ·rw[show imR s F=⟨true,s.g,s.t,s.D,s.U,F,(imA s F).D,(imA s F).U,(imA s F).k,(imA s F).T,(imA s F).n,s.t+((F.length/4:Nat):Int)⟩ from if_pos ho];have hst:=(apK_st (r:=⟨true,s.D,s.U,(s.U.length:Int),[],0⟩) HFB hsn.st rfl (F.length/4) (by omega) ho).1;have q1:=hst.2.1;have q2:=hst.2.2.1.le;have q3:=hst.bd.2.2;have q4:=hsn.2.2.2.2.1;have q5:=hsn.2.2.2.2.2.le;exact⟨q4,q5,by show F.length≤1008;omega,q1,q2,q3⟩
   ·rw[show imR s F=imNo from if_neg ho];exact h0
  ·rw[show imF zs ps J=imNo from if_neg hn];exact h0
 ·rw[show imG zs ps f=imNo from if_neg hv];exact h0
end Go.Proofs.YtganeokokjodoaaGreat
