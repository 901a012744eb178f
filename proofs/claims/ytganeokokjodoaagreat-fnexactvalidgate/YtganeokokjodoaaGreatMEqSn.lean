import Derived.Test.YtganeokokjodoaaGreatMVgA
import Derived.Deep.Cut
import Derived.Test.YtganeokokjodoaaGreatMRegU
import Derived.Test.YtganeokokjodoaaGreatLdK
import Derived.Test.YtganeokokjodoaaGreatLdZ
import Derived.Test.YtganeokokjodoaaGreatMVgE
namespace Go.Proofs.YtganeokokjodoaaGreat
open Go.ChangeShapes Go.WideShapes Go.ChangeAt Go.RowKit
set_option linter.unusedVariables false
set_option maxRecDepth 100000 in
set_option maxHeartbeats 4000000 in
theorem eqSn_any (aD bD aU bU:Option Addr) (nD cD dD nU cU dU:Nat) (D U:List Int) (gn tl:Int) (w:World) (hD:D.length=nD) (hU:U.length=nU) (mD:nD≤1048576) (mU:nU≤1048576) (AD:At .i64 w aD D) (BD:At .i64 w bD D) (AU:At .i64 w aU U) (BU:At .i64 w bU U) :
  Calls Tryz.prog 36 #[.agg #[.int .u32 gn,.int .u32 tl,.slice aD nD cD,.slice aU nU cU],.agg #[.int .u32 gn,.int .u32 tl,.slice bD nD dD,.slice bU nU dU]] w fun e w'=>e=.returned (.bool true)∧Below w.heap.size w w':=by
 have HE0:Hid (BE w 30 #[.int .u32 gn,.int .u32 tl,.slice aD nD cD,.slice aU nU cU] #[.int .u32 gn,.int .u32 tl,.slice bD nD dD,.slice bU nU dU] ((w.alloc (.cells #[.int .u32 gn,.int .u32 tl,.slice aD nD cD,.slice aU nU cU] 30)).alloc (.cells #[.int .u32 gn,.int .u32 tl,.slice bD nD dD,.slice bU nU dU] 30))):=BE.start _ _ _ _
 have HAD:Hid (At .i64 w aD D∧At .i64 w bD D):=⟨AD,BD⟩
 have HLD:Hid (D.length=nD):=hD
 have HAU:Hid (At .i64 w aU U∧At .i64 w bU U):=⟨AU,BU⟩
 have HLU:Hid (U.length=nU):=hU
 clear AD BD hD AU BU hU
 have negn:(gn != gn)=false:=by simp
 have netl:(tl != tl)=false:=by simp
 go_enter Tryz.func36,Tryz.ntmps36
 go_wp2_with fail
 generalize ((w.alloc (.cells #[.int .u32 gn,.int .u32 tl,.slice aD nD cD,.slice aU nU cU] 30)).alloc (.cells #[.int .u32 gn,.int .u32 tl,.slice bD nD dD,.slice bU nU dU] 30))=w0 at *
 refine(eqI_any _ _ nD _ _ D _ HLD.out mD (HAD.out.1.below HE0.out.below) (HAD.out.2.below HE0.out.below)).mono ?_
 rintro e w1 ⟨rfl,q0,hq⟩
 have hb:Below w0.heap.size w0 w1:=by rw[hq];exact below_dq (Below.refl _ _) _
 clear hq
 have HE1:Hid (BE w 30 #[.int .u32 gn,.int .u32 tl,.slice aD nD cD,.slice aU nU cU] #[.int .u32 gn,.int .u32 tl,.slice bD nD dD,.slice bU nU dU] w1):=HE0.out.call hb
 clear hb HE0
 have x3:w1.cell? ⟨w.heap.size,3,none⟩=some (.slice aU nU cU):=by rw[cell_of_row w1 w.heap.size 3 _ _ _ HE1.out.b0];rfl
 have y3:w1.cell? ⟨w.heap.size+1,3,none⟩=some (.slice bU nU dU):=by rw[cell_of_row w1 (w.heap.size+1) 3 _ _ _ HE1.out.b1];rfl
 go_wp2_with fail
 clear x3 y3
 refine(eqI_any _ _ nU _ _ U _ HLU.out mU (HAU.out.1.below HE1.out.below) (HAU.out.2.below HE1.out.below)).mono ?_
 rintro e w2 ⟨rfl,q1,hq⟩
 have hb:Below w1.heap.size w1 w2:=by rw[hq];exact below_dq (Below.refl _ _) _
 clear hq
 have HE2:Hid (BE w 30 #[.int .u32 gn,.int .u32 tl,.slice aD nD cD,.slice aU nU cU] #[.int .u32 gn,.int .u32 tl,.slice bD nD dD,.slice bU nU dU] w2):=HE1.out.call hb
 clear hb HE1
 have HF:Hid (Below w.heap.size w w2):=HE2.out.below
 clear HE2
 go_wp2
 go_ret
 exact⟨rfl,HF.out⟩
end Go.Proofs.YtganeokokjodoaaGreat
namespace Go.Proofs.YtganeokokjodoaaGreat
open Go.ChangeShapes Go.WideShapes Go.ChangeAt Go.RowKit
set_option linter.unusedVariables false
set_option maxRecDepth 100000 in
set_option maxHeartbeats 4000000 in
theorem eqSt_any (aD bD aU bU aT bT:Option Addr) (nD cD dD nU cU dU nT cT dT:Nat) (D U T:List Int) (k:Int) (w:World) (hD:D.length=nD) (hU:U.length=nU) (hT:T.length=nT*2) (mD:nD≤1048576) (mU:nU≤1048576) (mT:nT≤1048576) (AD:At .i64 w aD D) (BD:At .i64 w bD D) (AU:At .i64 w aU U) (BU:At .i64 w bU U) (AT:At .i64 w aT T) (BT:At .i64 w bT T) :
  Calls Tryz.prog 38 #[.agg #[.slice aD nD cD,.slice aU nU cU,.int .i64 k,.slice aT nT cT],.agg #[.slice bD nD dD,.slice bU nU dU,.int .i64 k,.slice bT nT dT]] w fun e w'=>e=.returned (.bool true)∧Below w.heap.size w w':=by
 have HE0:Hid (BE w 34 #[.slice aD nD cD,.slice aU nU cU,.int .i64 k,.slice aT nT cT] #[.slice bD nD dD,.slice bU nU dU,.int .i64 k,.slice bT nT dT] ((w.alloc (.cells #[.slice aD nD cD,.slice aU nU cU,.int .i64 k,.slice aT nT cT] 34)).alloc (.cells #[.slice bD nD dD,.slice bU nU dU,.int .i64 k,.slice bT nT dT] 34))):=BE.start _ _ _ _
 have HAD:Hid (At .i64 w aD D∧At .i64 w bD D):=⟨AD,BD⟩
 have HLD:Hid (D.length=nD):=hD
 have HAU:Hid (At .i64 w aU U∧At .i64 w bU U):=⟨AU,BU⟩
 have HLU:Hid (U.length=nU):=hU
 have HAT:Hid (At .i64 w aT T∧At .i64 w bT T):=⟨AT,BT⟩
 have HLT:Hid (T.length=nT*2):=hT
 clear AD BD hD AU BU hU AT BT hT
 have nek:(k != k)=false:=by simp
 go_enter Tryz.func38,Tryz.ntmps38
 go_wp2_with fail
 generalize ((w.alloc (.cells #[.slice aD nD cD,.slice aU nU cU,.int .i64 k,.slice aT nT cT] 34)).alloc (.cells #[.slice bD nD dD,.slice bU nU dU,.int .i64 k,.slice bT nT dT] 34))=w0 at *
 refine(eqI_any _ _ nD _ _ D _ HLD.out mD (HAD.out.1.below HE0.out.below) (HAD.out.2.below HE0.out.below)).mono ?_
 rintro e w1 ⟨rfl,q0,hq⟩
 have hb:Below w0.heap.size w0 w1:=by rw[hq];exact below_dq (Below.refl _ _) _
 clear hq
 have HE1:Hid (BE w 34 #[.slice aD nD cD,.slice aU nU cU,.int .i64 k,.slice aT nT cT] #[.slice bD nD dD,.slice bU nU dU,.int .i64 k,.slice bT nT dT] w1):=HE0.out.call hb
 clear hb HE0
 have x1:w1.cell? ⟨w.heap.size,1,none⟩=some (.slice aU nU cU):=by rw[cell_of_row w1 w.heap.size 1 _ _ _ HE1.out.b0];rfl
 have y1:w1.cell? ⟨w.heap.size+1,1,none⟩=some (.slice bU nU dU):=by rw[cell_of_row w1 (w.heap.size+1) 1 _ _ _ HE1.out.b1];rfl
 go_wp2_with fail
 clear x1 y1
 refine(eqI_any _ _ nU _ _ U _ HLU.out mU (HAU.out.1.below HE1.out.below) (HAU.out.2.below HE1.out.below)).mono ?_
 rintro e w2 ⟨rfl,q1,hq⟩
 have hb:Below w1.heap.size w1 w2:=by rw[hq];exact below_dq (Below.refl _ _) _
 clear hq
 have HE2:Hid (BE w 34 #[.slice aD nD cD,.slice aU nU cU,.int .i64 k,.slice aT nT cT] #[.slice bD nD dD,.slice bU nU dU,.int .i64 k,.slice bT nT dT] w2):=HE1.out.call hb
 clear hb HE1
 have x2:w2.cell? ⟨w.heap.size,2,none⟩=some (.int .i64 k):=by rw[cell_of_row w2 w.heap.size 2 _ _ _ HE2.out.b0];rfl
 have y2:w2.cell? ⟨w.heap.size+1,2,none⟩=some (.int .i64 k):=by rw[cell_of_row w2 (w.heap.size+1) 2 _ _ _ HE2.out.b1];rfl
 have x3:w2.cell? ⟨w.heap.size,3,none⟩=some (.slice aT nT cT):=by rw[cell_of_row w2 w.heap.size 3 _ _ _ HE2.out.b0];rfl
 have y3:w2.cell? ⟨w.heap.size+1,3,none⟩=some (.slice bT nT dT):=by rw[cell_of_row w2 (w.heap.size+1) 3 _ _ _ HE2.out.b1];rfl
 go_wp2_with fail
 clear x2 y2 x3 y3
 refine(eqTS_any _ _ nT _ _ T _ HLT.out mT (HAT.out.1.below HE2.out.below) (HAT.out.2.below HE2.out.below)).mono ?_
 rintro e w3 ⟨rfl,hb⟩
 have HE3:Hid (BE w 34 #[.slice aD nD cD,.slice aU nU cU,.int .i64 k,.slice aT nT cT] #[.slice bD nD dD,.slice bU nU dU,.int .i64 k,.slice bT nT dT] w3):=HE2.out.call hb
 clear hb HE2
 have HF:Hid (Below w.heap.size w w3):=HE3.out.below
 clear HE3
 go_wp2
 go_ret
 exact⟨rfl,HF.out⟩
end Go.Proofs.YtganeokokjodoaaGreat
namespace Go.Proofs.YtganeokokjodoaaGreat
open Go.ChangeShapes Go.WideShapes Go.ChangeAt Go.RowKit
set_option linter.unusedVariables false
set_option maxRecDepth 100000 in
set_option maxHeartbeats 4000000 in
theorem eqIm_any (asD bsD asU bsU aF bF azD bzD azU bzU azT bzT:Option Addr) (nsD csD dsD nsU csU dsU nF cF dF nzD czD dzD nzU czU dzU nzT czT dzT:Nat) (sD sU F zD zU zT:List Int) (sgn stl zk nx:Int) (ok:Bool) (w:World) (hsD:sD.length=nsD) (hsU:sU.length=nsU) (hF:F.length=nF*4) (hzD:zD.length=nzD) (hzU:zU.length=nzU) (hzT:zT.length=nzT*2) (msD:nsD≤1048576) (msU:nsU≤1048576) (mF:nF≤1048576) (mzD:nzD≤1048576) (mzU:nzU≤1048576) (mzT:nzT≤1048576) (AsD:At .i64 w asD sD) (BsD:At .i64 w bsD sD) (AsU:At .i64 w asU sU) (BsU:At .i64 w bsU sU) (AF:FAt w aF F) (BF:FAt w bF F) (AzD:At .i64 w azD zD) (BzD:At .i64 w bzD zD) (AzU:At .i64 w azU zU) (BzU:At .i64 w bzU zU) (AzT:At .i64 w azT zT) (BzT:At .i64 w bzT zT) :
  Calls Tryz.prog 9 #[.agg #[.bool ok,.int .u32 sgn,.int .u32 stl,.slice asD nsD csD,.slice asU nsU csU,.slice aF nF cF,.slice azD nzD czD,.slice azU nzU czU,.int .i64 zk,.slice azT nzT czT,.int .u32 nx],.agg #[.bool ok,.int .u32 sgn,.int .u32 stl,.slice bsD nsD dsD,.slice bsU nsU dsU,.slice bF nF dF,.slice bzD nzD dzD,.slice bzU nzU dzU,.int .i64 zk,.slice bzT nzT dzT,.int .u32 nx]] w fun e w'=>e=.returned (.bool true)∧Below w.heap.size w w':=by
 have HE0:Hid (BE w 36 #[.bool ok,.int .u32 sgn,.int .u32 stl,.slice asD nsD csD,.slice asU nsU csU,.slice aF nF cF,.slice azD nzD czD,.slice azU nzU czU,.int .i64 zk,.slice azT nzT czT,.int .u32 nx] #[.bool ok,.int .u32 sgn,.int .u32 stl,.slice bsD nsD dsD,.slice bsU nsU dsU,.slice bF nF dF,.slice bzD nzD dzD,.slice bzU nzU dzU,.int .i64 zk,.slice bzT nzT dzT,.int .u32 nx] ((w.alloc (.cells #[.bool ok,.int .u32 sgn,.int .u32 stl,.slice asD nsD csD,.slice asU nsU csU,.slice aF nF cF,.slice azD nzD czD,.slice azU nzU czU,.int .i64 zk,.slice azT nzT czT,.int .u32 nx] 36)).alloc (.cells #[.bool ok,.int .u32 sgn,.int .u32 stl,.slice bsD nsD dsD,.slice bsU nsU dsU,.slice bF nF dF,.slice bzD nzD dzD,.slice bzU nzU dzU,.int .i64 zk,.slice bzT nzT dzT,.int .u32 nx] 36))):=BE.start _ _ _ _
 have HAsD:Hid (At .i64 w asD sD∧At .i64 w bsD sD):=⟨AsD,BsD⟩
 have HLsD:Hid (sD.length=nsD):=hsD
 have HAsU:Hid (At .i64 w asU sU∧At .i64 w bsU sU):=⟨AsU,BsU⟩
 have HLsU:Hid (sU.length=nsU):=hsU
 have HAF:Hid (FAt w aF F∧FAt w bF F):=⟨AF,BF⟩
 have HLF:Hid (F.length=nF*4):=hF
 have HAzD:Hid (At .i64 w azD zD∧At .i64 w bzD zD):=⟨AzD,BzD⟩
 have HLzD:Hid (zD.length=nzD):=hzD
 have HAzU:Hid (At .i64 w azU zU∧At .i64 w bzU zU):=⟨AzU,BzU⟩
 have HLzU:Hid (zU.length=nzU):=hzU
 have HAzT:Hid (At .i64 w azT zT∧At .i64 w bzT zT):=⟨AzT,BzT⟩
 have HLzT:Hid (zT.length=nzT*2):=hzT
 clear AsD BsD hsD AsU BsU hsU AF BF hF AzD BzD hzD AzU BzU hzU AzT BzT hzT
 have neok:(ok != ok)=false:=by simp
 have nesgn:(sgn != sgn)=false:=by simp
 have nestl:(stl != stl)=false:=by simp
 have nezk:(zk != zk)=false:=by simp
 have nenx:(nx != nx)=false:=by simp
 go_enter Tryz.func9,Tryz.ntmps9
 go_wp2_with fail
 generalize ((w.alloc (.cells #[.bool ok,.int .u32 sgn,.int .u32 stl,.slice asD nsD csD,.slice asU nsU csU,.slice aF nF cF,.slice azD nzD czD,.slice azU nzU czU,.int .i64 zk,.slice azT nzT czT,.int .u32 nx] 36)).alloc (.cells #[.bool ok,.int .u32 sgn,.int .u32 stl,.slice bsD nsD dsD,.slice bsU nsU dsU,.slice bF nF dF,.slice bzD nzD dzD,.slice bzU nzU dzU,.int .i64 zk,.slice bzT nzT dzT,.int .u32 nx] 36))=w0 at *
 refine(eqSn_any asD bsD asU bsU nsD csD dsD nsU csU dsU sD sU sgn stl _ HLsD.out HLsU.out msD msU (HAsD.out.1.below HE0.out.below) (HAsD.out.2.below HE0.out.below) (HAsU.out.1.below HE0.out.below) (HAsU.out.2.below HE0.out.below)).mono ?_
 rintro e w1 ⟨rfl,hb⟩
 have HE1:Hid (BE w 36 #[.bool ok,.int .u32 sgn,.int .u32 stl,.slice asD nsD csD,.slice asU nsU csU,.slice aF nF cF,.slice azD nzD czD,.slice azU nzU czU,.int .i64 zk,.slice azT nzT czT,.int .u32 nx] #[.bool ok,.int .u32 sgn,.int .u32 stl,.slice bsD nsD dsD,.slice bsU nsU dsU,.slice bF nF dF,.slice bzD nzD dzD,.slice bzU nzU dzU,.int .i64 zk,.slice bzT nzT dzT,.int .u32 nx] w1):=HE0.out.call hb
 clear hb HE0
 have x5:w1.cell? ⟨w.heap.size,5,none⟩=some (.slice aF nF cF):=by rw[cell_of_row w1 w.heap.size 5 _ _ _ HE1.out.b0];rfl
 have y5:w1.cell? ⟨w.heap.size+1,5,none⟩=some (.slice bF nF dF):=by rw[cell_of_row w1 (w.heap.size+1) 5 _ _ _ HE1.out.b1];rfl
 go_wp2_with fail
 clear x5 y5
 refine(eqFS_any _ _ nF _ _ F _ HLF.out mF (HAF.out.1.below HE1.out.below) (HAF.out.2.below HE1.out.below)).mono ?_
 rintro e w2 ⟨rfl,hb⟩
 have HE2:Hid (BE w 36 #[.bool ok,.int .u32 sgn,.int .u32 stl,.slice asD nsD csD,.slice asU nsU csU,.slice aF nF cF,.slice azD nzD czD,.slice azU nzU czU,.int .i64 zk,.slice azT nzT czT,.int .u32 nx] #[.bool ok,.int .u32 sgn,.int .u32 stl,.slice bsD nsD dsD,.slice bsU nsU dsU,.slice bF nF dF,.slice bzD nzD dzD,.slice bzU nzU dzU,.int .i64 zk,.slice bzT nzT dzT,.int .u32 nx] w2):=HE1.out.call hb
 clear hb HE1
 have x6:w2.cell? ⟨w.heap.size,6,none⟩=some (.slice azD nzD czD):=by rw[cell_of_row w2 w.heap.size 6 _ _ _ HE2.out.b0];rfl
 have y6:w2.cell? ⟨w.heap.size+1,6,none⟩=some (.slice bzD nzD dzD):=by rw[cell_of_row w2 (w.heap.size+1) 6 _ _ _ HE2.out.b1];rfl
 have x7:w2.cell? ⟨w.heap.size,7,none⟩=some (.slice azU nzU czU):=by rw[cell_of_row w2 w.heap.size 7 _ _ _ HE2.out.b0];rfl
 have y7:w2.cell? ⟨w.heap.size+1,7,none⟩=some (.slice bzU nzU dzU):=by rw[cell_of_row w2 (w.heap.size+1) 7 _ _ _ HE2.out.b1];rfl
 have x8:w2.cell? ⟨w.heap.size,8,none⟩=some (.int .i64 zk):=by rw[cell_of_row w2 w.heap.size 8 _ _ _ HE2.out.b0];rfl
 have y8:w2.cell? ⟨w.heap.size+1,8,none⟩=some (.int .i64 zk):=by rw[cell_of_row w2 (w.heap.size+1) 8 _ _ _ HE2.out.b1];rfl
 have x9:w2.cell? ⟨w.heap.size,9,none⟩=some (.slice azT nzT czT):=by rw[cell_of_row w2 w.heap.size 9 _ _ _ HE2.out.b0];rfl
 have y9:w2.cell? ⟨w.heap.size+1,9,none⟩=some (.slice bzT nzT dzT):=by rw[cell_of_row w2 (w.heap.size+1) 9 _ _ _ HE2.out.b1];rfl
 go_wp2_with fail
 clear x6 y6 x7 y7 x8 y8 x9 y9
 refine(eqSt_any azD bzD azU bzU azT bzT nzD czD dzD nzU czU dzU nzT czT dzT zD zU zT zk _ HLzD.out HLzU.out HLzT.out mzD mzU mzT (HAzD.out.1.below HE2.out.below) (HAzD.out.2.below HE2.out.below) (HAzU.out.1.below HE2.out.below) (HAzU.out.2.below HE2.out.below) (HAzT.out.1.below HE2.out.below) (HAzT.out.2.below HE2.out.below)).mono ?_
 rintro e w3 ⟨rfl,hb⟩
 have HE3:Hid (BE w 36 #[.bool ok,.int .u32 sgn,.int .u32 stl,.slice asD nsD csD,.slice asU nsU csU,.slice aF nF cF,.slice azD nzD czD,.slice azU nzU czU,.int .i64 zk,.slice azT nzT czT,.int .u32 nx] #[.bool ok,.int .u32 sgn,.int .u32 stl,.slice bsD nsD dsD,.slice bsU nsU dsU,.slice bF nF dF,.slice bzD nzD dzD,.slice bzU nzU dzU,.int .i64 zk,.slice bzT nzT dzT,.int .u32 nx] w3):=HE2.out.call hb
 clear hb HE2
 have x10:w3.cell? ⟨w.heap.size,10,none⟩=some (.int .u32 nx):=by rw[cell_of_row w3 w.heap.size 10 _ _ _ HE3.out.b0];rfl
 have y10:w3.cell? ⟨w.heap.size+1,10,none⟩=some (.int .u32 nx):=by rw[cell_of_row w3 (w.heap.size+1) 10 _ _ _ HE3.out.b1];rfl
 have HF:Hid (Below w.heap.size w w3):=HE3.out.below
 clear HE3
 go_wp2
 go_ret
 exact⟨rfl,HF.out⟩
end Go.Proofs.YtganeokokjodoaaGreat
namespace Go.Proofs.YtganeokokjodoaaGreat
open Go.ChangeShapes Go.WideShapes Go.ChangeAt Go.RowKit
set_option linter.unusedVariables false
def I6L (w:World) (aSD aSU aF aD aU aT:Option Addr) (nSD nSU mF nD nU:Nat) (r:ImR):Prop:=At .i64 w aSD r.sD∧At .i64 w aSU r.sU∧FAt w aF r.F∧At .i64 w aD r.D∧At .i64 w aU r.U∧At .i64 w aT r.T∧r.sD.length=nSD∧r.sU.length=nSU∧r.F.length=mF*4∧r.D.length=nD∧r.U.length=nU∧r.T.length=r.n*2
theorem I6L.below {w w':World} {aSD aSU aF aD aU aT:Option Addr} {nSD nSU mF nD nU:Nat} {r:ImR} (h:I6L w aSD aSU aF aD aU aT nSD nSU mF nD nU r) (b:Below w.heap.size w w'):I6L w' aSD aSU aF aD aU aT nSD nSU mF nD nU r:=
 ⟨h.1.below b,h.2.1.below b,h.2.2.1.below b,h.2.2.2.1.below b,h.2.2.2.2.1.below b,h.2.2.2.2.2.1.below b,h.2.2.2.2.2.2⟩
theorem ImV.sixL {lo:Nat} {w:World} {v:Value} {r:ImR} (h:ImV lo w v r):∃ aSD nSD cSD aSU nSU cSU aF mF cF aD nD cD aU nU cU aT cT,
  v=.agg #[.bool r.ok,.int .u32 r.g,.int .u32 r.t,.slice aSD nSD cSD,.slice aSU nSU cSU,.slice aF mF cF,.slice aD nD cD,.slice aU nU cU,.int .i64 r.k,.slice aT r.n cT,.int .u32 r.nx]∧I6L w aSD aSU aF aD aU aT nSD nSU mF nD nU r:=by
 obtain⟨aSD,nSD,cSD,aSU,nSU,cSU,vF,m,aD,nD,cD,aU,nU,cU,aT,cT,b1,b2,rfl,s1,l1,l2,f1,l3,s2,h1,h2⟩:=h
 have fl:=f1.len
 obtain⟨aF,cF,rfl,fA,_,fL⟩:=f1.form
 exact⟨aSD,nSD,cSD,aSU,nSU,cSU,aF,m,cF,aD,nD,cD,aU,nU,cU,aT,cT,rfl,s1.d.at_,s1.u.at_,fA,s2.d.at_,s2.u.at_,s2.t.at_,s1.nd,s1.nu,fl,s2.nd,s2.nu,s2.nt⟩
theorem imG_bd {zs:List Int} {ps:List PD} {f:Int} (bz:Byte zs) (bp:∀ i,Byte (ps.getD i (0,[])).2):(imG zs ps f).sD.length≤16∧(imG zs ps f).sU.length≤256∧(imG zs ps f).F.length≤1008∧(imG zs ps f).D.length≤16∧(imG zs ps f).U.length≤256∧(imG zs ps f).n≤256:=by
 have h0:imNo.sD.length≤16∧imNo.sU.length≤256∧imNo.F.length≤1008∧imNo.D.length≤16∧imNo.U.length≤256∧imNo.n≤256:=by decide
 by_cases hv:validB zs.length ps f=true
 ·rw[show imG zs ps f=imF zs ps (zs.length/64-4) from if_pos hv];have F0:DvF zs.length zs.length ps.length f zs ps:=⟨rfl,rfl,hv,Nat.le_refl _,bz,bp⟩
  have hJ:zs.length/64-4≤252:=by have:=F0.base;omega
  have HJR:=fun q=>(F0.jr q).2
  generalize zs.length/64-4=J at *;by_cases hn:(nwK zs ps 2).ok=true
  ·rw[show imF zs ps J=imR (nwK zs ps 2) (jrF zs ps J (nwK zs ps 2).t.toNat J) from if_pos hn];have hsn:=nwK_snp 2 hn;generalize nwK zs ps 2=s at *;have HFB:=jrF_frb zs ps J HJR J s.t.toNat;obtain⟨k,hk,hl⟩:=jrF_len zs ps J J s.t.toNat;generalize jrF zs ps J s.t.toNat J=F at *;by_cases ho:(imA s F).ok=true
   ·rw[show imR s F=⟨true,s.g,s.t,s.D,s.U,F,(imA s F).D,(imA s F).U,(imA s F).k,(imA s F).T,(imA s F).n,s.t+((F.length/4:Nat):Int)⟩ from if_pos ho];have hst:=(apK_st (r:=⟨true,s.D,s.U,(s.U.length:Int),[],0⟩) HFB hsn.st rfl (F.length/4) (by omega) ho).1;have q1:=hst.2.1;have q2:=hst.2.2.1.le;have q3:=hst.bd.2.2;have q4:=hsn.2.2.2.2.1;have q5:=hsn.2.2.2.2.2.le;exact⟨q4,q5,by show F.length≤1008;omega,q1,q2,q3⟩
   ·rw[show imR s F=imNo from if_neg ho];exact h0
  ·rw[show imF zs ps J=imNo from if_neg hn];exact h0
 ·rw[show imG zs ps f=imNo from if_neg hv];exact h0
end Go.Proofs.YtganeokokjodoaaGreat
namespace Go.Proofs.YtganeokokjodoaaGreat
open Go.ChangeShapes Go.WideShapes Go.ChangeAt Go.RowKit
set_option linter.unusedVariables false
def imE (ok:Bool) (gn tl k nx:Int) (F sD sU D U T:List Int) (r:ImR):Bool:=decide (ok=r.ok∧nx=r.nx∧gn=r.g∧tl=r.t∧sD=r.sD∧sU=r.sU∧F=r.F∧D=r.D∧U=r.U∧k=r.k∧T=r.T)
def vgB (n:Nat) (ps:List PD) (f:Int) (d:Bool) (m kn:Nat) (ok:Bool) (E:Bool):Bool:=validB n ps f && !d && decide (m=0) && decide (kn=32) && ok && E
set_option maxHeartbeats 4000000 in
set_option maxRecDepth 100000 in
theorem rest_any (g o:Nat) (a x:Option Addr) (n c m cx:Nat) (f:Int) (d:Bool) (zs:List Int) (ps:List PD) (w:World) (hg:g<w.heap.size) (x0:w.cell? ⟨g,o,none⟩=some (.slice a n c)) (x1:w.cell? ⟨g,o+1,none⟩=some (.slice x m cx)) (x2:w.cell? ⟨g,o+2,none⟩=some (.int .i64 f)) (x3:w.cell? ⟨g,o+3,none⟩=some (.bool d)) (hd:DAt w (.agg #[.slice a n c,.slice x m cx,.int .i64 f,.bool d]) zs ps f d) (hn:zs.length=n) (hm:ps.length=m) (hz:n≤1048576) (hM:m≤1048576) (hps:∀ i,(ps.getD i (0,[])).2.length≤1048576) :
  Calls Tryz.prog 52 #[.pointer (some ⟨g,o,none⟩)] w fun e w'=>e=.returned (.bool (validB n ps f && !d && decide (m=0)))∧Below w.heap.size w w':=by
 have HC:=hid_ofV (ival_any _ zs ps f d w hd (by omega) (by omega) hps)
 rw[hn] at HC
 obtain⟨V,hV⟩:∃ V,V=(validB n ps f && !d && decide (m=0)):=⟨_,rfl⟩
 rw[←hV]
 have HV:=hid_ofV hV
 clear hd hps hV
 go_enter Tryz.func52,Tryz.ntmps52
 go_wp2_with fail
 refine HC.out.mono ?_
 rintro e w1 ⟨rfl,b1⟩
 have y1:w1.cell? ⟨g,o+1,none⟩=some (.slice x m cx):=(World.cell?_of_block (a:=⟨g,o+1,none⟩) (w:=w) (b1.block _ hg)).trans x1
 have y3:w1.cell? ⟨g,o+3,none⟩=some (.bool d):=(World.cell?_of_block (a:=⟨g,o+3,none⟩) (w:=w) (b1.block _ hg)).trans x3
 have HB:=hid_ofV b1
 clear HC b1 x0 x1 x2 x3 hn hm
 cases hv:validB n ps f with
 |false=>
  have HF:Hid (V=false):=by show _=_;rw[HV.out,hv];rfl
  clear HV;go_wp2
  go_ret
  exact⟨by rw[HF.out];rfl,HB.out⟩
 |true=>
  cases d with
  |true=>
   have HF:Hid (V=false):=by show _=_;rw[HV.out,hv];rfl
   clear HV;go_wp2
   go_ret
   exact⟨by rw[HF.out];rfl,HB.out⟩
  |false=>
   by_cases h0:m=0
   ·have HF:Hid (V=true):=by show _=_;rw[HV.out,hv];simp[h0]
    clear HV;subst h0;go_wp2
    go_ret
    exact⟨by rw[HF.out];rfl,HB.out⟩
   ·have HF:Hid (V=false):=by show _=_;rw[HV.out,hv];simp[h0]
    clear HV;have z0:((m:Int) == 0)=false:=by simp;omega
    have z1:¬ ((m:Int)=0):=by omega
    have z2:decide ((m:Int)=0)=false:=by simp;omega
    go_wp2
    go_ret
    exact⟨by rw[HF.out];rfl,HB.out⟩
theorem ildV {w:World} {v:Value} {zs:List Int} {ps:List PD} {f:Int} {d:Bool} (h:DAt w v zs ps f d) (hL:zs.length≤1048576) (hM:ps.length≤1048576) (hps:∀ i,(ps.getD i (0,[])).2.length≤1048576) (bz:Byte zs) (bp:∀ i,Byte (ps.getD i (0,[])).2) :
  Calls Tryz.prog 8 #[v] w fun e w'=>∃ v',e=.returned v'∧ImV w.heap.size w' v' (imG zs ps f)∧Below w.heap.size w w':=by
 obtain⟨da,dc,ca,cc,rfl,h1,h2,h3⟩:=h
 exact ild_any da ca zs.length dc ps.length cc f d zs ps w rfl rfl h1 h2 h3 hL hM hps bz bp
set_option maxHeartbeats 8000000 in
set_option maxRecDepth 100000 in
theorem ivg_any (a x:Option Addr) (n c m cx:Nat) (f:Int) (d:Bool) (zs:List Int) (ps:List PD) (ka:Option Addr) (kn kc:Nat) (ok:Bool) (gn tl k nx:Int) (aF aSD aSU aD aU aT:Option Addr) (nF cF nSD cSD nSU cSU nD cD nU cU nT cT:Nat) (F sD sU D U T:List Int) (w:World) (hd:DAt w (.agg #[.slice a n c,.slice x m cx,.int .i64 f,.bool d]) zs ps f d) (hn:zs.length=n) (hm:ps.length=m) (hz:n≤1048576) (hM:m≤1048576) (hps:∀ i,(ps.getD i (0,[])).2.length≤1048576) (bz:Byte zs) (bp:∀ i,Byte (ps.getD i (0,[])).2) (hkn:kn≤1048576) (hl:F.length=nF*4∧sD.length=nSD∧sU.length=nSU∧D.length=nD∧U.length=nU∧T.length=nT*2) (hb:nF≤1048576∧nSD≤1048576∧nSU≤1048576∧nD≤1048576∧nU≤1048576∧nT≤1048576) (AF:FAt w aF F) (ASD:At .i64 w aSD sD) (ASU:At .i64 w aSU sU) (AD:At .i64 w aD D) (AU:At .i64 w aU U) (AT:At .i64 w aT T) :
  Calls Tryz.prog 17 #[.agg #[.slice a n c,.slice x m cx,.int .i64 f,.bool d,.slice ka kn kc,.bool ok,.int .u32 gn,.int .u32 tl,.slice aSD nSD cSD,.slice aSU nSU cSU,.slice aF nF cF,.slice aD nD cD,.slice aU nU cU,.int .i64 k,.slice aT nT cT,.int .u32 nx]] w fun e w'=>e=.returned (.bool (vgB n ps f d m kn ok (imE ok gn tl k nx F sD sU D U T (imG zs ps f))))∧Below w.heap.size w w':=by
 have HSI:Hid ((Tryz.prog.info? 36).map (·.size)=some 11):=by show _=_;kernel_rfl
 have bb:Below w.heap.size w (w.alloc (.cells #[.slice a n c,.slice x m cx,.int .i64 f,.bool d,.slice ka kn kc,.bool ok,.int .u32 gn,.int .u32 tl,.slice aSD nSD cSD,.slice aSU nSU cSU,.slice aF nF cF,.slice aD nD cD,.slice aU nU cU,.int .i64 k,.slice aT nT cT,.int .u32 nx] 59)):=(Below.refl _ _).alloc (Nat.le_refl _) _
 have HR:Hid ((w.alloc (.cells #[.slice a n c,.slice x m cx,.int .i64 f,.bool d,.slice ka kn kc,.bool ok,.int .u32 gn,.int .u32 tl,.slice aSD nSD cSD,.slice aSU nSU cSU,.slice aF nF cF,.slice aD nD cD,.slice aU nU cU,.int .i64 k,.slice aT nT cT,.int .u32 nx] 59)).heap[w.heap.size]?=some (.cells #[.slice a n c,.slice x m cx,.int .i64 f,.bool d,.slice ka kn kc,.bool ok,.int .u32 gn,.int .u32 tl,.slice aSD nSD cSD,.slice aSU nSU cSU,.slice aF nF cF,.slice aD nD cD,.slice aU nU cU,.int .i64 k,.slice aT nT cT,.int .u32 nx] 59 (0,0))):=heap_alloc_new w _
 have HB0:=hid_ofV bb
 have HRS:Hid (∀ ww,Below w.heap.size w ww→w.heap.size<ww.heap.size→ww.cell? ⟨w.heap.size,0,none⟩=some (.slice a n c)→ww.cell? ⟨w.heap.size,1,none⟩=some (.slice x m cx)→ww.cell? ⟨w.heap.size,2,none⟩=some (.int .i64 f)→ww.cell? ⟨w.heap.size,3,none⟩=some (.bool d)→Calls Tryz.prog 52 #[.pointer (some ⟨w.heap.size,0,none⟩)] ww fun e w'=>e=.returned (.bool (validB n ps f && !d && decide (m=0)))∧Below ww.heap.size ww w'):=fun ww b hg x0 x1 x2 x3=>rest_any w.heap.size 0 a x n c m cx f d zs ps ww hg x0 x1 x2 x3 (hd.below b) hn hm hz hM hps
 have HLD:Hid (∀ ww,Below w.heap.size w ww→Calls Tryz.prog 8 #[.agg #[.slice a n c,.slice x m cx,.int .i64 f,.bool d]] ww fun e w'=>∃ v,e=.returned v∧ImV ww.heap.size w' v (imG zs ps f)∧Below ww.heap.size ww w'):=fun ww b=>ildV (hd.below b) (by omega) (by omega) hps bz bp
 have HBD:=hid_ofV (imG_bd (f:=f) bz bp)
 obtain⟨V,hV⟩:∃ V,V=vgB n ps f d m kn ok (imE ok gn tl k nx F sD sU D U T (imG zs ps f)):=⟨_,rfl⟩
 rw[←hV]
 have HV:=hid_ofV hV
 have HA:=hid_ofV (And.intro AF (And.intro ASD (And.intro ASU (And.intro AD (And.intro AU AT)))))
 have HLL:=hid_ofV (And.intro hl hb)
 generalize imG zs ps f=r at *
 clear hV bb hd bz bp hl hb AF ASD ASU AD AU AT hps
 go_enter Tryz.func17,Tryz.ntmps17
 go_upto_region 1 with fail
 generalize w.alloc (.cells #[.slice a n c,.slice x m cx,.int .i64 f,.bool d,.slice ka kn kc,.bool ok,.int .u32 gn,.int .u32 tl,.slice aSD nSD cSD,.slice aSU nSU cSU,.slice aF nF cF,.slice aD nD cD,.slice aU nU cU,.int .i64 k,.slice aT nT cT,.int .u32 nx] 59)=w0 at *
 have hlt:w.heap.size<w0.heap.size:=(Array.getElem?_eq_some_iff.1 HR.out).1
 have v0:=cell_of_row w0 w.heap.size 0 _ _ _ HR.out
 have v1:=cell_of_row w0 w.heap.size 1 _ _ _ HR.out
 have v2:=cell_of_row w0 w.heap.size 2 _ _ _ HR.out
 have v3:=cell_of_row w0 w.heap.size 3 _ _ _ HR.out
 have v4:=cell_of_row w0 w.heap.size 4 _ _ _ HR.out
 have v5:=cell_of_row w0 w.heap.size 5 _ _ _ HR.out
 simp at v0 v1 v2 v3 v4 v5
 go_wp2_with fail
 refine(HRS.out w0 HB0.out hlt v0 v1 v2 v3).mono ?_
 rintro e w1 ⟨rfl,b1⟩
 have HR1:Hid (w1.heap[w.heap.size]?=some (.cells #[.slice a n c,.slice x m cx,.int .i64 f,.bool d,.slice ka kn kc,.bool ok,.int .u32 gn,.int .u32 tl,.slice aSD nSD cSD,.slice aSU nSU cSU,.slice aF nF cF,.slice aD nD cD,.slice aU nU cU,.int .i64 k,.slice aT nT cT,.int .u32 nx] 59 (0,0))):=by show _=_;rw[b1.block _ hlt];exact HR.out
 have HB1:=hid_ofV (HB0.out.trans (b1.mono HB0.out.size))
 have hlt1:w.heap.size<w1.heap.size:=by have:=b1.size;omega
 clear v0 v1 v2 v3 v4 v5 HR b1 HB0 HRS hlt
 have v0:=cell_of_row w1 w.heap.size 0 _ _ _ HR1.out
 have v1:=cell_of_row w1 w.heap.size 1 _ _ _ HR1.out
 have v2:=cell_of_row w1 w.heap.size 2 _ _ _ HR1.out
 have v3:=cell_of_row w1 w.heap.size 3 _ _ _ HR1.out
 have v4:=cell_of_row w1 w.heap.size 4 _ _ _ HR1.out
 have v5:=cell_of_row w1 w.heap.size 5 _ _ _ HR1.out
 simp at v0 v1 v2 v3 v4 v5
 cases hR:(validB n ps f && !d && decide (m=0)) with
 |false=>
  have HF:Hid (V=false):=by show _=_;rw[HV.out];unfold vgB;rw[hR];rfl
  go_wp2
  go_ret
  exact⟨by rw[HF.out];rfl,HB1.out⟩
 |true=>
  by_cases hk:kn=32;rotate_left
  ·have HF:Hid (V=false):=by show _=_;rw[HV.out];unfold vgB;rw[hR];simp[hk]
   have z0:((kn:Int) != 32)=true:=by simp;omega
   have z1:¬ ((kn:Int)=32):=by omega
   go_wp2
   go_ret
   exact⟨by rw[HF.out];rfl,HB1.out⟩
  subst hk;cases ok with
  |false=>
   have HF:Hid (V=false):=by show _=_;rw[HV.out];unfold vgB;simp
   go_wp2
   go_ret
   exact⟨by rw[HF.out];rfl,HB1.out⟩
  |true=>
   have HF:Hid (V=imE true gn tl k nx F sD sU D U T r):=by show _=_;rw[HV.out];unfold vgB;rw[hR];rfl
   clear HV hR;go_wp2_with fail;refine(HLD.out w1 HB1.out).mono ?_;rintro e w2 ⟨vv,rfl,I2,b2⟩;obtain⟨bSD,mSD,dSD,bSU,mSU,dSU,bF,mF,dF,bD,mD,dD,bU,mU,dU,bT,dT,rfl,J2⟩:=I2.sixL;have b3:Below w2.heap.size w2 (w2.alloc (.cells #[.bool r.ok,.int .u32 r.g,.int .u32 r.t,.slice bSD mSD dSD,.slice bSU mSU dSU,.slice bF mF dF,.slice bD mD dD,.slice bU mU dU,.int .i64 r.k,.slice bT r.n dT,.int .u32 r.nx] 36)):=(Below.refl _ _).alloc (Nat.le_refl _) _;have HJ:=hid_ofV (J2.below b3);have HB3:=hid_ofV (HB1.out.trans ((b2.trans (b3.mono b2.size)).mono HB1.out.size));have HR3:Hid ((w2.alloc (.cells #[.bool r.ok,.int .u32 r.g,.int .u32 r.t,.slice bSD mSD dSD,.slice bSU mSU dSU,.slice bF mF dF,.slice bD mD dD,.slice bU mU dU,.int .i64 r.k,.slice bT r.n dT,.int .u32 r.nx] 36)).heap[w.heap.size]?=some (.cells #[.slice a n c,.slice x m cx,.int .i64 f,.bool d,.slice ka 32 kc,.bool true,.int .u32 gn,.int .u32 tl,.slice aSD nSD cSD,.slice aSU nSU cSU,.slice aF nF cF,.slice aD nD cD,.slice aU nU cU,.int .i64 k,.slice aT nT cT,.int .u32 nx] 59 (0,0))):=by show _=_;rw[b3.block _ (by have:=b2.size;omega),b2.block _ hlt1];exact HR1.out
   have HQ3:Hid ((w2.alloc (.cells #[.bool r.ok,.int .u32 r.g,.int .u32 r.t,.slice bSD mSD dSD,.slice bSU mSU dSU,.slice bF mF dF,.slice bD mD dD,.slice bU mU dU,.int .i64 r.k,.slice bT r.n dT,.int .u32 r.nx] 36)).heap[w2.heap.size]?=some (.cells #[.bool r.ok,.int .u32 r.g,.int .u32 r.t,.slice bSD mSD dSD,.slice bSU mSU dSU,.slice bF mF dF,.slice bD mD dD,.slice bU mU dU,.int .i64 r.k,.slice bT r.n dT,.int .u32 r.nx] 36 (0,0))):=heap_alloc_new w2 _;clear v0 v1 v2 v3 v4 v5 b2 b3 J2 I2 HR1 HB1 HLD
   go_upto_region 4 with (first
    |(refine wpList_store_row rfl 36 (.tmp 3) (.tmp 21) rfl w2.heap.size #[.bool r.ok,.int .u32 r.g,.int .u32 r.t,.slice bSD mSD dSD,.slice bSU mSU dSU,.slice bF mF dF,.slice bD mD dD,.slice bU mU dU,.int .i64 r.k,.slice bT r.n dT,.int .u32 r.nx] rfl rfl 36 _ (heap_alloc_new w2 _) HSI.out rfl (by simp[Value.oneCell']) ?_)
    |fail)
   try rw[World.setRow_alloc_new]
   generalize w2.alloc (.cells #[.bool r.ok,.int .u32 r.g,.int .u32 r.t,.slice bSD mSD dSD,.slice bSU mSU dSU,.slice bF mF dF,.slice bD mD dD,.slice bU mU dU,.int .i64 r.k,.slice bT r.n dT,.int .u32 r.nx] 36)=w3 at *;have hg3:=(Array.getElem?_eq_some_iff.1 HR3.out).1;have hh3:=(Array.getElem?_eq_some_iff.1 HQ3.out).1;generalize w2.heap.size=H at *;go_wp2_with fail;refine(imEq_any w.heap.size 5 H 0 true r.ok gn r.g tl r.t k r.k nx r.nx aF bF aSD bSD aSU bSU aD bD aU bU aT bT nF cF mF dF nSD cSD mSD dSD nSU cSU mSU dSU nD cD mD dD nU cU mU dU nT cT r.n dT F r.F sD r.sD sU r.sU D r.D U r.U T r.T w3 hg3 hh3 (cell_of_row w3 w.heap.size 5 _ _ _ HR3.out) (cell_of_row w3 w.heap.size 6 _ _ _ HR3.out) (cell_of_row w3 w.heap.size 7 _ _ _ HR3.out) (cell_of_row w3 w.heap.size 8 _ _ _ HR3.out) (cell_of_row w3 w.heap.size 9 _ _ _ HR3.out) (cell_of_row w3 w.heap.size 10 _ _ _ HR3.out) (cell_of_row w3 w.heap.size 11 _ _ _ HR3.out) (cell_of_row w3 w.heap.size 12 _ _ _ HR3.out) (cell_of_row w3 w.heap.size 13 _ _ _ HR3.out) (cell_of_row w3 w.heap.size 14 _ _ _ HR3.out) (cell_of_row w3 w.heap.size 15 _ _ _ HR3.out) (cell_of_row w3 H 0 _ _ _ HQ3.out) (cell_of_row w3 H 1 _ _ _ HQ3.out) (cell_of_row w3 H 2 _ _ _ HQ3.out) (cell_of_row w3 H 3 _ _ _ HQ3.out) (cell_of_row w3 H 4 _ _ _ HQ3.out) (cell_of_row w3 H 5 _ _ _ HQ3.out) (cell_of_row w3 H 6 _ _ _ HQ3.out) (cell_of_row w3 H 7 _ _ _ HQ3.out) (cell_of_row w3 H 8 _ _ _ HQ3.out) (cell_of_row w3 H 9 _ _ _ HQ3.out) (cell_of_row w3 H 10 _ _ _ HQ3.out) ?hl1 ?hb1 ?hA1).mono ?_
   case hl1=>
    obtain⟨⟨q1,q2,q3,q4,q5,q6⟩,_⟩:=HLL.out;obtain⟨_,_,_,_,_,_,s1,s2,s3,s4,s5,s6⟩:=HJ.out;exact⟨q1,s3,q2,s1,q3,s2,q4,s4,q5,s5,q6,s6⟩
   case hb1=>
    obtain⟨_,q1,q2,q3,q4,q5,q6⟩:=HLL.out;obtain⟨_,_,_,_,_,_,s1,s2,s3,s4,s5,s6⟩:=HJ.out;obtain⟨t1,t2,t3,t4,t5,t6⟩:=HBD.out;omega
   case hA1=>
    obtain⟨q1,q2,q3,q4,q5,q6⟩:=HA.out;obtain⟨s1,s2,s3,s4,s5,s6,_⟩:=HJ.out;exact⟨q1.below HB3.out,s3,q2.below HB3.out,s1,q3.below HB3.out,s2,q4.below HB3.out,s4,q5.below HB3.out,s5,q6.below HB3.out,s6⟩
   rintro e w4 ⟨rfl,q,rfl⟩;have hE:decide (true=r.ok∧nx=r.nx∧F=r.F∧(gn=r.g∧tl=r.t∧sD=r.sD∧sU=r.sU)∧k=r.k∧D=r.D∧U=r.U∧T=r.T)=V:=by
    rw[HF.out];unfold imE;rw[decide_eq_decide];constructor
    ·rintro⟨h1,h2,h3,⟨h4,h5,h6,h7⟩,h8,h9,h10,h11⟩;exact⟨h1,h2,h4,h5,h6,h7,h3,h9,h10,h8,h11⟩
    ·rintro⟨h1,h2,h4,h5,h6,h7,h3,h9,h10,h8,h11⟩;exact⟨h1,h2,h3,⟨h4,h5,h6,h7⟩,h8,h9,h10,h11⟩
   rw[hE];have HBF:=hid_ofV (belD HB3.out q);clear hE HF HB3 HR3 HQ3 HJ HA HLL HBD;go_wp2
   go_ret
   exact⟨rfl,HBF.out⟩
end Go.Proofs.YtganeokokjodoaaGreat
namespace Go.Proofs.YtganeokokjodoaaGreat
open Go.ChangeShapes Go.WideShapes Go.ChangeAt Go.RowKit
set_option linter.unusedVariables false
def orStep (ops:Array Oper) (o:Oper) (l:List Value):Option (List Value):=
 match o.dst,o.guard,o.op with
 |some d,some _,_=>match Region.wanted o (yielded ops l.toArray) with
  |true=>none
  |false=>some (l.set d undef)
 |some d,none,.pick x y _=>match (Act.mk l.toArray []).eval x,(Act.mk l.toArray []).eval y with
  |.bool true,.bool true=>some (l.set d (.bool true))
  |_,_=>none
 |some d,none,.move x=>match (Act.mk l.toArray []).eval x with
  |.bool true=>some (l.set d (.bool true))
  |_=>none
 |_,_,_=>none
def orRun (ops:Array Oper):List Oper→List Value→Option (List Value)
 |[],l=>some l
 |o::rest,l=>match orStep ops o l with
  |some l'=>orRun ops rest l'
  |none=>none
theorem put_list (l:List Value) (d:Tmp) (v:Value):(Act.mk l.toArray []).put (some d) v=Act.mk (l.set d v).toArray []:=by simp[Act.put]
theorem wp_pickT {o:Oper} {a:Act} {w:World} {K:Act→World→Prop} {Q:Exit→Act→World→Prop} (x y z:Operand) (h:o.op=.pick x y z) (hx:a.eval x=.bool true) (v:Value) (hv:a.eval y=v)
  (hk:K (a.put o.dst v) w):o.wp Tryz.prog a w K Q:=by
 subst hv
 unfold Oper.wp execOp
 rw[h]
 dsimp only
 rw[hx]
 exact hk
theorem wp_moveT {o:Oper} {a:Act} {w:World} {K:Act→World→Prop} {Q:Exit→Act→World→Prop} (x:Operand) (h:o.op=.move x) (v:Value) (hv:a.eval x=v)
  (hk:K (a.put o.dst v) w):o.wp Tryz.prog a w K Q:=by
 subst hv
 unfold Oper.wp execOp
 rw[h]
 exact hk
theorem orStep_wp {ops:Array Oper} {rest:List Oper} {o:Oper} {l l':List Value} {w:World} {Q:Exit→Act→World→Prop} (h:orStep ops o l=some l') (hq:wpList Tryz.prog ops Q rest (Act.mk l'.toArray []) w):wpList Tryz.prog ops Q (o::rest) (Act.mk l.toArray []) w:=by
 obtain⟨dst,op,ty,ps,af,gd⟩:=o
 cases dst with
 |none=>simp[orStep] at h
 |some d=>
  cases gd with
  |some g=>
   simp only[orStep] at h;cases hw:Region.wanted ⟨some d,op,ty,ps,af,some g⟩ (yielded ops l.toArray) with
   |true=>rw[hw] at h;cases h
   |false=>
    rw[hw] at h;injection h with h
    subst h;refine wpList_skip hw ?_;rw[put_list];exact hq
  |none=>
   cases op<;>simp only[orStep] at h<;>try(cases h;done)
   ·rename_i x
    split at h
    ·next hx=>
     injection h with h
     subst h;refine wpList_plain rfl fun K hK=>wp_moveT x rfl _ hx (hK _ _ ?_)
     rw[put_list];exact hq
    ·cases h
   ·rename_i x y z
    split at h
    ·next hx hy=>
     injection h with h
     subst h;refine wpList_plain rfl fun K hK=>wp_pickT x y z rfl hx _ hy (hK _ _ ?_)
     rw[put_list];exact hq
    ·cases h
theorem orRun_wp {ops:Array Oper} {w:World} {Q:Exit→Act→World→Prop}:∀ {rest:List Oper} {l l':List Value},orRun ops rest l=some l'→Q .normal (Act.mk l'.toArray []) w→wpList Tryz.prog ops Q rest (Act.mk l.toArray []) w
 |[],l,l',h,hq=>by
  injection h with h
  subst h;exact hq
 |o::rest,l,l',h,hq=>by
  unfold orRun at h;split at h
  ·next l2 hs=>exact orStep_wp hs (orRun_wp h hq)
  ·cases h
end Go.Proofs.YtganeokokjodoaaGreat
