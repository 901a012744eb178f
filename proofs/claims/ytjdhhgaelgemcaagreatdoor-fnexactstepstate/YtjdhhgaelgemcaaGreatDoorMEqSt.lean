import Derived.Test.YtjdhhgaelgemcaaGreatDoorMEqB
import Derived.Deep.Cut
import Derived.Test.YtjdhhgaelgemcaaGreatDoorMSvF
import Derived.Test.YtjdhhgaelgemcaaGreatDoorMU8i
import Derived.Test.YtjdhhgaelgemcaaGreatDoorMMkB
import Derived.Test.YtjdhhgaelgemcaaGreatDoorMApx
import Derived.Test.YtjdhhgaelgemcaaGreatDoorMSvM
import Derived.Test.YtjdhhgaelgemcaaGreatDoorMOwnB
import Derived.Lib.AppendZerosOnto
import Derived.Test.YtjdhhgaelgemcaaGreatDoorMSPow12
import Derived.Test.YtjdhhgaelgemcaaGreatDoorMTxt
import Derived.Lib.SmallJoins
namespace Go.Proofs.YtjdhhgaelgemcaaGreatDoor
open Go.ChangeShapes Go.WideShapes Go.ChangeAt Go.RowKit
set_option linter.unusedVariables false
set_option maxRecDepth 100000 in
set_option maxHeartbeats 4000000 in
theorem eqSt_any (aD bD aU bU aT bT:Option Addr) (nD cD dD nU cU dU nT cT dT:Nat) (D U T:List Int) (k:Int) (w:World) (hD:D.length=nD) (hU:U.length=nU) (hT:T.length=nT*2) (mD:nD≤1048576) (mU:nU≤1048576) (mT:nT≤1048576) (AD:At .i64 w aD D) (BD:At .i64 w bD D) (AU:At .i64 w aU U) (BU:At .i64 w bU U) (AT:At .i64 w aT T) (BT:At .i64 w bT T) :
  Calls Tryz.prog 12 #[.agg #[.slice aD nD cD,.slice aU nU cU,.int .i64 k,.slice aT nT cT],.agg #[.slice bD nD dD,.slice bU nU dU,.int .i64 k,.slice bT nT dT]] w fun e w'=>e=.returned (.bool true)∧Below w.heap.size w w':=by
 have HE0:Hid (BE w 33 #[.slice aD nD cD,.slice aU nU cU,.int .i64 k,.slice aT nT cT] #[.slice bD nD dD,.slice bU nU dU,.int .i64 k,.slice bT nT dT] ((w.alloc (.cells #[.slice aD nD cD,.slice aU nU cU,.int .i64 k,.slice aT nT cT] 33)).alloc (.cells #[.slice bD nD dD,.slice bU nU dU,.int .i64 k,.slice bT nT dT] 33))):=BE.start _ _ _ _;have HAD:Hid (At .i64 w aD D∧At .i64 w bD D):=⟨AD,BD⟩
 have HLD:Hid (D.length=nD):=hD;have HAU:Hid (At .i64 w aU U∧At .i64 w bU U):=⟨AU,BU⟩
 have HLU:Hid (U.length=nU):=hU;have HAT:Hid (At .i64 w aT T∧At .i64 w bT T):=⟨AT,BT⟩
 have HLT:Hid (T.length=nT*2):=hT;clear AD BD hD AU BU hU AT BT hT;have nek:(k != k)=false:=by simp
 go_enter Tryz.func12,Tryz.ntmps12;go_wp2_with fail;generalize ((w.alloc (.cells #[.slice aD nD cD,.slice aU nU cU,.int .i64 k,.slice aT nT cT] 33)).alloc (.cells #[.slice bD nD dD,.slice bU nU dU,.int .i64 k,.slice bT nT dT] 33))=w0 at *;refine(eqI_any _ _ nD _ _ D _ HLD.out mD (HAD.out.1.below HE0.out.below) (HAD.out.2.below HE0.out.below)).mono ?_;rintro e w1 ⟨rfl,q0,hq⟩;have hb:Below w0.heap.size w0 w1:=by rw[hq];exact below_dq (Below.refl _ _) _
 clear hq;have HE1:Hid (BE w 33 #[.slice aD nD cD,.slice aU nU cU,.int .i64 k,.slice aT nT cT] #[.slice bD nD dD,.slice bU nU dU,.int .i64 k,.slice bT nT dT] w1):=HE0.out.call hb;clear hb HE0;have x1:w1.cell? ⟨w.heap.size,1,none⟩=some (.slice aU nU cU):=by rw[cell_of_row w1 w.heap.size 1 _ _ _ HE1.out.b0];rfl
 have y1:w1.cell? ⟨w.heap.size+1,1,none⟩=some (.slice bU nU dU):=by rw[cell_of_row w1 (w.heap.size+1) 1 _ _ _ HE1.out.b1];rfl
 go_wp2_with fail;clear x1 y1;refine(eqI_any _ _ nU _ _ U _ HLU.out mU (HAU.out.1.below HE1.out.below) (HAU.out.2.below HE1.out.below)).mono ?_;rintro e w2 ⟨rfl,q1,hq⟩;have hb:Below w1.heap.size w1 w2:=by rw[hq];exact below_dq (Below.refl _ _) _
 clear hq;have HE2:Hid (BE w 33 #[.slice aD nD cD,.slice aU nU cU,.int .i64 k,.slice aT nT cT] #[.slice bD nD dD,.slice bU nU dU,.int .i64 k,.slice bT nT dT] w2):=HE1.out.call hb;clear hb HE1;have x2:w2.cell? ⟨w.heap.size,2,none⟩=some (.int .i64 k):=by rw[cell_of_row w2 w.heap.size 2 _ _ _ HE2.out.b0];rfl
 have y2:w2.cell? ⟨w.heap.size+1,2,none⟩=some (.int .i64 k):=by rw[cell_of_row w2 (w.heap.size+1) 2 _ _ _ HE2.out.b1];rfl
 have x3:w2.cell? ⟨w.heap.size,3,none⟩=some (.slice aT nT cT):=by rw[cell_of_row w2 w.heap.size 3 _ _ _ HE2.out.b0];rfl
 have y3:w2.cell? ⟨w.heap.size+1,3,none⟩=some (.slice bT nT dT):=by rw[cell_of_row w2 (w.heap.size+1) 3 _ _ _ HE2.out.b1];rfl
 go_wp2_with fail;clear x2 y2 x3 y3;refine(eqTS_any _ _ nT _ _ T _ HLT.out mT (HAT.out.1.below HE2.out.below) (HAT.out.2.below HE2.out.below)).mono ?_;rintro e w3 ⟨rfl,hb⟩;have HE3:Hid (BE w 33 #[.slice aD nD cD,.slice aU nU cU,.int .i64 k,.slice aT nT cT] #[.slice bD nD dD,.slice bU nU dU,.int .i64 k,.slice bT nT dT] w3):=HE2.out.call hb;clear hb HE2;have HF:Hid (Below w.heap.size w w3):=HE3.out.below;clear HE3;go_wp2
 go_ret
 exact⟨rfl,HF.out⟩
set_option maxRecDepth 100000 in
set_option maxHeartbeats 4000000 in
theorem toSt_any (aD aU aT:Option Addr) (nD cD nU cU nT cT:Nat) (D U T:List Int) (k:Int) (w:World) (hD:D.length=nD) (hU:U.length=nU) (hT:T.length=nT*2) (mD:nD≤1048576) (mU:nU≤1048576) (mT:nT≤1048576) (AD:At .i64 w aD D) (AU:At .i64 w aU U) (AT:At .i64 w aT T) :
  Calls Tryz.prog 7 #[.agg #[.slice aD nD cD,.slice aU nU cU,.int .i64 k,.slice aT nT cT]] w fun e w'=>∃ gD gU gT,e=.returned (.agg #[.slice (some ⟨gD,0,none⟩) nD nD,.slice (some ⟨gU,0,none⟩) nU nU,.int .i64 k,.slice (some ⟨gT,0,none⟩) nT nT])∧w.heap.size≤gD∧gD<gU∧gU<gT∧RowV w' gD 2 (iC D)∧RowV w' gU 2 (iC U)∧RowV w' gT 77 (iC T)∧Below w.heap.size w w':=by
 have HE0:Hid (CE w 25 33 #[.slice aD nD cD,.slice aU nU cU,.int .i64 k,.slice aT nT cT] #[.slice none 0 0,.slice none 0 0,.int .i64 0,.slice none 0 0] #[.slice none 0 0,.slice none 0 0,.int .i64 0,.slice none 0 0] (((w.alloc (.cells #[.slice aD nD cD,.slice aU nU cU,.int .i64 k,.slice aT nT cT] 25)).alloc (.cells #[.slice none 0 0,.slice none 0 0,.int .i64 0,.slice none 0 0] 33)).alloc (.cells #[.slice none 0 0,.slice none 0 0,.int .i64 0,.slice none 0 0] 33))):=CE.start _ _ _ _ _ _;have HAD:Hid (At .i64 w aD D):=AD;have HLD:Hid (D.length=nD):=hD;have HAU:Hid (At .i64 w aU U):=AU;have HLU:Hid (U.length=nU):=hU;have HAT:Hid (At .i64 w aT T):=AT;have HLT:Hid (T.length=nT*2):=hT;clear AD hD AU hU AT hT;go_enter Tryz.func7,Tryz.ntmps7;go_wp2_with fail;generalize (((w.alloc (.cells #[.slice aD nD cD,.slice aU nU cU,.int .i64 k,.slice aT nT cT] 25)).alloc (.cells #[.slice none 0 0,.slice none 0 0,.int .i64 0,.slice none 0 0] 33)).alloc (.cells #[.slice none 0 0,.slice none 0 0,.int .i64 0,.slice none 0 0] 33))=w0 at *;refine(toIR_any aD nD cD D _ HLD.out mD (HAD.out.below HE0.out.below)).mono ?_;rintro e u0 ⟨rfl,hRD,hb⟩;have HF0:Hid (CE w 25 33 #[.slice aD nD cD,.slice aU nU cU,.int .i64 k,.slice aT nT cT] #[.slice none 0 0,.slice none 0 0,.int .i64 0,.slice none 0 0] #[.slice none 0 0,.slice none 0 0,.int .i64 0,.slice none 0 0] u0):=HE0.out.call hb;have lt0:w.heap.size+1+1<w0.heap.size:=HE0.out.lt;clear hb;have oD:w.heap.size≤w0.heap.size:=by omega
 have VD:w.heap.size+1+1<w0.heap.size:=lt0;clear HE0;generalize w0.heap.size=gD at *;have hw:Wr (w.heap.size+1+1) u0 (u0.setCell ⟨w.heap.size+1+1,0,none⟩ (.slice (some ⟨gD,0,none⟩) nD nD)):=((Wr.refl _ _).setCell _ _)
 have HE1:Hid (CE w 25 33 #[.slice aD nD cD,.slice aU nU cU,.int .i64 k,.slice aT nT cT] #[.slice none 0 0,.slice none 0 0,.int .i64 0,.slice none 0 0] #[.slice (some ⟨gD,0,none⟩) nD nD,.slice none 0 0,.int .i64 0,.slice none 0 0] (u0.setCell ⟨w.heap.size+1+1,0,none⟩ (.slice (some ⟨gD,0,none⟩) nD nD))):=(HF0.out.put 0 _)
 have HRD:Hid (RowV (u0.setCell ⟨w.heap.size+1+1,0,none⟩ (.slice (some ⟨gD,0,none⟩) nD nD)) gD 2 (iC D)):=hRD.wr hw VD;have lgD:gD<(u0.setCell ⟨w.heap.size+1+1,0,none⟩ (.slice (some ⟨gD,0,none⟩) nD nD)).heap.size:=HRD.out.lt;have v0:u0.cell? ⟨w.heap.size+1+1,0,none⟩=some (.slice none 0 0):=by rw[cell_of_row u0 _ 0 _ _ _ HF0.out.var];rfl
 have f0:=frozen_of_row u0 (w.heap.size+1+1) 0 _ _ HF0.out.var;have x1:u0.cell? ⟨w.heap.size,1,none⟩=some (.slice aU nU cU):=by rw[cell_of_row u0 w.heap.size 1 _ _ _ HF0.out.box];rfl
 clear hw HF0 hRD;go_wp2_with fail;generalize (u0.setCell ⟨w.heap.size+1+1,0,none⟩ (.slice (some ⟨gD,0,none⟩) nD nD))=w1 at *;clear v0 f0 x1;refine(toIR_any aU nU cU U _ HLU.out mU (HAU.out.below HE1.out.below)).mono ?_;rintro e u1 ⟨rfl,hRU,hb⟩;have HF1:Hid (CE w 25 33 #[.slice aD nD cD,.slice aU nU cU,.int .i64 k,.slice aT nT cT] #[.slice none 0 0,.slice none 0 0,.int .i64 0,.slice none 0 0] #[.slice (some ⟨gD,0,none⟩) nD nD,.slice none 0 0,.int .i64 0,.slice none 0 0] u1):=HE1.out.call hb;have lt1:w.heap.size+1+1<w1.heap.size:=HE1.out.lt;have hRD:RowV u1 gD 2 (iC D):=HRD.out.below hb;clear hb HRD;have oU:gD<w1.heap.size:=lgD;clear lgD;have VU:w.heap.size+1+1<w1.heap.size:=lt1;clear HE1;generalize w1.heap.size=gU at *;have hw:Wr (w.heap.size+1+1) u1 ((u1.setCell ⟨w.heap.size+1+1,1,none⟩ (.slice (some ⟨gU,0,none⟩) nU nU)).setCell ⟨w.heap.size+1+1,2,none⟩ (.int .i64 k)):=(((Wr.refl _ _).setCell _ _).setCell _ _)
 have HE2:Hid (CE w 25 33 #[.slice aD nD cD,.slice aU nU cU,.int .i64 k,.slice aT nT cT] #[.slice none 0 0,.slice none 0 0,.int .i64 0,.slice none 0 0] #[.slice (some ⟨gD,0,none⟩) nD nD,.slice (some ⟨gU,0,none⟩) nU nU,.int .i64 k,.slice none 0 0] ((u1.setCell ⟨w.heap.size+1+1,1,none⟩ (.slice (some ⟨gU,0,none⟩) nU nU)).setCell ⟨w.heap.size+1+1,2,none⟩ (.int .i64 k))):=((HF1.out.put 1 _).put 2 _)
 have HRD:Hid (RowV ((u1.setCell ⟨w.heap.size+1+1,1,none⟩ (.slice (some ⟨gU,0,none⟩) nU nU)).setCell ⟨w.heap.size+1+1,2,none⟩ (.int .i64 k)) gD 2 (iC D)):=hRD.wr hw VD;have HRU:Hid (RowV ((u1.setCell ⟨w.heap.size+1+1,1,none⟩ (.slice (some ⟨gU,0,none⟩) nU nU)).setCell ⟨w.heap.size+1+1,2,none⟩ (.int .i64 k)) gU 2 (iC U)):=hRU.wr hw VU;have lgU:gU<((u1.setCell ⟨w.heap.size+1+1,1,none⟩ (.slice (some ⟨gU,0,none⟩) nU nU)).setCell ⟨w.heap.size+1+1,2,none⟩ (.int .i64 k)).heap.size:=HRU.out.lt;have v1:u1.cell? ⟨w.heap.size+1+1,1,none⟩=some (.slice none 0 0):=by rw[cell_of_row u1 _ 1 _ _ _ HF1.out.var];rfl
 have f1:=frozen_of_row u1 (w.heap.size+1+1) 1 _ _ HF1.out.var;have v2:u1.cell? ⟨w.heap.size+1+1,2,none⟩=some (.int .i64 0):=by rw[cell_of_row u1 _ 2 _ _ _ HF1.out.var];rfl
 have f2:=frozen_of_row u1 (w.heap.size+1+1) 2 _ _ HF1.out.var;have x2:u1.cell? ⟨w.heap.size,2,none⟩=some (.int .i64 k):=by rw[cell_of_row u1 w.heap.size 2 _ _ _ HF1.out.box];rfl
 have x3:u1.cell? ⟨w.heap.size,3,none⟩=some (.slice aT nT cT):=by rw[cell_of_row u1 w.heap.size 3 _ _ _ HF1.out.box];rfl
 clear hw HF1 hRD hRU;go_wp2_with fail;generalize ((u1.setCell ⟨w.heap.size+1+1,1,none⟩ (.slice (some ⟨gU,0,none⟩) nU nU)).setCell ⟨w.heap.size+1+1,2,none⟩ (.int .i64 k))=w2 at *;clear v1 f1 v2 f2 x2 x3;refine(toTR_any aT nT cT T _ HLT.out mT (HAT.out.below HE2.out.below)).mono ?_;rintro e u2 ⟨rfl,hRT,hb⟩;have HF2:Hid (CE w 25 33 #[.slice aD nD cD,.slice aU nU cU,.int .i64 k,.slice aT nT cT] #[.slice none 0 0,.slice none 0 0,.int .i64 0,.slice none 0 0] #[.slice (some ⟨gD,0,none⟩) nD nD,.slice (some ⟨gU,0,none⟩) nU nU,.int .i64 k,.slice none 0 0] u2):=HE2.out.call hb;have lt2:w.heap.size+1+1<w2.heap.size:=HE2.out.lt;have hRD:RowV u2 gD 2 (iC D):=HRD.out.below hb;have hRU:RowV u2 gU 2 (iC U):=HRU.out.below hb;clear hb HRD HRU;have oT:gU<w2.heap.size:=lgU;clear lgU;have VT:w.heap.size+1+1<w2.heap.size:=lt2;clear HE2;generalize w2.heap.size=gT at *;have hw:Wr (w.heap.size+1+1) u2 (u2.setCell ⟨w.heap.size+1+1,3,none⟩ (.slice (some ⟨gT,0,none⟩) nT nT)):=((Wr.refl _ _).setCell _ _)
 have HE3:Hid (CE w 25 33 #[.slice aD nD cD,.slice aU nU cU,.int .i64 k,.slice aT nT cT] #[.slice none 0 0,.slice none 0 0,.int .i64 0,.slice none 0 0] #[.slice (some ⟨gD,0,none⟩) nD nD,.slice (some ⟨gU,0,none⟩) nU nU,.int .i64 k,.slice (some ⟨gT,0,none⟩) nT nT] (u2.setCell ⟨w.heap.size+1+1,3,none⟩ (.slice (some ⟨gT,0,none⟩) nT nT))):=(HF2.out.put 3 _)
 have HRD:Hid (RowV (u2.setCell ⟨w.heap.size+1+1,3,none⟩ (.slice (some ⟨gT,0,none⟩) nT nT)) gD 2 (iC D)):=hRD.wr hw VD;have HRU:Hid (RowV (u2.setCell ⟨w.heap.size+1+1,3,none⟩ (.slice (some ⟨gT,0,none⟩) nT nT)) gU 2 (iC U)):=hRU.wr hw VU;have HRT:Hid (RowV (u2.setCell ⟨w.heap.size+1+1,3,none⟩ (.slice (some ⟨gT,0,none⟩) nT nT)) gT 77 (iC T)):=hRT.wr hw VT;have v3:u2.cell? ⟨w.heap.size+1+1,3,none⟩=some (.slice none 0 0):=by rw[cell_of_row u2 _ 3 _ _ _ HF2.out.var];rfl
 have f3:=frozen_of_row u2 (w.heap.size+1+1) 3 _ _ HF2.out.var;clear hw HF2 hRD hRU hRT;have HSZ:Hid ((Tryz.prog.info? 33).map (·.size)=some 4):=by show _=_;kernel_rfl
 have HVR:Hid ((u2.setCell ⟨w.heap.size+1+1,3,none⟩ (.slice (some ⟨gT,0,none⟩) nT nT)).heap[w.heap.size+1+1]?=some (.cells #[.slice (some ⟨gD,0,none⟩) nD nD,.slice (some ⟨gU,0,none⟩) nU nU,.int .i64 k,.slice (some ⟨gT,0,none⟩) nT nT] 33 (0,0))):=HE3.out.var;have HRR:Hid ((u2.setCell ⟨w.heap.size+1+1,3,none⟩ (.slice (some ⟨gT,0,none⟩) nT nT)).heap[w.heap.size+1]?=some (.cells #[.slice none 0 0,.slice none 0 0,.int .i64 0,.slice none 0 0] 33 (0,0))):=HE3.out.res
 go_upto_region 6 with fail
 generalize (u2.setCell ⟨w.heap.size+1+1,3,none⟩ (.slice (some ⟨gT,0,none⟩) nT nT))=wz at *;clear v3 f3;go_wp2_with (first
  |(refine wpList_load_row rfl 33 (.tmp 3) rfl (w.heap.size+1+1) rfl 33 _ (0,0) _ HVR.out Tryz.underlying33 rfl HSZ.out ?_)
  |(refine wpList_store_row rfl 33 (.tmp 2) (.tmp 19) rfl (w.heap.size+1) #[.slice (some ⟨gD,0,none⟩) nD nD,.slice (some ⟨gU,0,none⟩) nU nU,.int .i64 k,.slice (some ⟨gT,0,none⟩) nT nT] rfl rfl 33 _ HRR.out HSZ.out rfl (by simp[Value.oneCell']) ?_)
  |fail)
 refine bodyPost_ret (v:=.agg #[.slice (some ⟨gD,0,none⟩) nD nD,.slice (some ⟨gU,0,none⟩) nU nU,.int .i64 k,.slice (some ⟨gT,0,none⟩) nT nT]) (results_cell_row rfl _ _ (w.heap.size+1) 33 _ (0,0) _ rfl (setRow_heap _ _ _ _ _ _ HRR.out) Tryz.underlying33 rfl HSZ.out) rfl ?_;have hwz:Wr (w.heap.size+1) wz (wz.setRow (w.heap.size+1) #[.slice (some ⟨gD,0,none⟩) nD nD,.slice (some ⟨gU,0,none⟩) nU nU,.int .i64 k,.slice (some ⟨gT,0,none⟩) nT nT]):=Wr.setRow _ _ _;exact⟨gD,gU,gT,rfl,by omega,oU,oT,HRD.out.wr hwz (by omega),HRU.out.wr hwz (by omega),HRT.out.wr hwz (by omega),HE3.out.below.trans (hwz.below (by omega))⟩
theorem iC_size (xs:List Int):(iC xs).size=xs.length:=by simp[iC]
theorem RowV.opn {w:World} {g n:Nat} {t:TypeId} {cs:Array Value} (h:RowV w g t cs) (hn:cs.size=n):Open w (some ⟨g,0,none⟩) n:=
 .inr ⟨g,0,rfl,h.lt,fun i hi=>⟨by rw[Nat.zero_add,cell_of_row w g i _ _ _ h];simp[hn,hi],h.fz _⟩⟩
structure LES (w:World) (xs:List Int) (a k:Nat) (v:Value) (wr:World):Prop where
 own:IO w.heap.size wr v (lessS (xs.take k) a)
 below:Below w.heap.size w wr
theorem less_yes {xs:List Int} {a k:Nat} (h:k<xs.length) (hne:¬ xs.getD k 0=(a:Int)):lessS (xs.take (k+1)) a=lessS (xs.take k) a++[xs.getD k 0]:=by
 unfold lessS;rw[take_snoc xs k h,List.filter_append];simp;simpa[List.getD] using hne
theorem less_no {xs:List Int} {a k:Nat} (h:k<xs.length) (he:xs.getD k 0=(a:Int)):lessS (xs.take (k+1)) a=lessS (xs.take k) a:=by
 unfold lessS;rw[take_snoc xs k h,List.filter_append];simp;simpa[List.getD] using he
theorem less_len (xs:List Int) (a k:Nat):(lessS (xs.take k) a).length≤k:=by
 unfold lessS;exact Nat.le_trans (List.length_filter_le _ _) (by rw[List.length_take];omega)
set_option maxRecDepth 100000 in
set_option maxHeartbeats 1000000 in
theorem less_any (ad:Option Addr) (n cap:Nat) (xs:List Int) (a:Nat) (w:World) (hn:xs.length=n) (hm:n≤1048576) (ha:At .i64 w ad xs) :
  Calls Tryz.prog 43 #[.slice ad n cap,.int .i64 a] w fun e w'=>∃ v,e=.returned v∧IO w.heap.size w' v (lessS xs a)∧Below w.heap.size w w':=by
 have HA:Hid (At .i64 w ad xs):=ha;have HNX:Hid (xs.length=n):=hn;have H0:Hid (LES w xs a 0 (.slice (some ⟨w.heap.size,0,none⟩) 0 0) (w.alloc (.cells #[] 2))):=
  ⟨⟨by simp[lessS],.inr ⟨w.heap.size,0,#[],rfl,Nat.le_refl _,heap_alloc_new w _,Nat.le_refl _,by simp[maxLen],rfl,rfl⟩⟩,(Below.refl _ _).alloc (Nat.le_refl _) _⟩
 clear ha hn;go_enter Tryz.func43,Tryz.ntmps43;go_wp2_with fail
 go_loopw [5,6] (fun l i wr=>∃(k:Nat) (v:Value),k≤n∧i=.int .i64 k∧v=l∧LES w xs a k v wr) (fun _ i _=>n-(intOf i).toNat)
 case atStart=>exact⟨0,_,by omega,rfl,rfl,H0.out⟩
 case round=>
  clear H0;obtain⟨k,l,hk,rfl,rfl,hst⟩:=hrel;by_cases hlt:k<n
  ·have hlt':(k:Int)<n:=by omega
   have HST:Hid (LES w xs a k l wr):=hst;obtain⟨b,off,ea,hb,hc⟩:=(HA.out.below hst.below).get (by have:=HNX.out;omega);have hck:=hc k (by have:=HNX.out;omega);subst ea;clear hst hc hb;have HLT:Hid (k<xs.length):=by show _<_;have:=HNX.out;omega
   by_cases hne:xs.getD k 0=(a:Int)
   ·have HF:Hid (LES w xs a (k+1) l wr):=⟨by rw[less_no HLT.out hne];exact HST.out.own,HST.out.below⟩
    rw[hne] at hck;clear hne;go_wp2;go_roundw
    case rel=>exact⟨k+1,_,by omega,by go_num,rfl,HF.out⟩
    case measure=>simp[intOf];omega
   ·have HN:Hid (lessS (xs.take (k+1)) a=lessS (xs.take k) a++[xs.getD k 0]):=less_yes HLT.out hne;have HL:Hid ((lessS (xs.take k) a).length≤1048576):=Nat.le_trans (less_len xs a k) (by omega);generalize xs.getD k 0=z at *;have HO:Hid (IO w.heap.size (wr.alloc (.cells #[.int .i64 z] 2)) l (lessS (xs.take k) a)):=HST.out.own.alloc _;have HZ:Hid (w.heap.size≤(wr.alloc (.cells #[.int .i64 z] 2)).heap.size):=by
     show _≤_
     have:=HST.out.below.size;simp;omega
    go_wp2_with (first
     |(refine wpList_app1 _ rfl (.tmp 20) (.tmp 25) rfl w.heap.size _ (lessS (xs.take k) a) rfl HO.out wr z rfl rfl HL.out HZ.out ?_)
     |fail)
    intro v' w3 h1 h2;have HF:Hid (LES w xs a (k+1) v' w3):=⟨by rw[HN.out];exact h1,(HST.out.below.alloc HST.out.below.size _).trans h2⟩
    clear h1 h2 HO HZ HL hck;go_wp2;go_roundw
    case rel=>exact⟨k+1,_,by omega,by go_num,rfl,HF.out⟩
    case measure=>simp[intOf];omega
  ·have hke:k=n:=by omega
   have hlt':¬ ((k:Int)<n):=by omega
   have HF:Hid (∃ v,Ending.returned l=.returned v∧IO w.heap.size wr v (lessS xs a)∧Below w.heap.size w wr):=⟨l,rfl,by
    have:=hst.own
    rwa [List.take_of_length_le (by have:=HNX.out;omega)] at this,hst.below⟩
   clear hst hke;go_wp2
   go_ret
   exact HF.out
def mks (k:Int) (n:Nat):List Int:=(List.range n).map (fun i:Nat=>k+(i:Int))
theorem mks_len (k:Int) (n:Nat):(mks k n).length=n:=by simp[mks]
theorem mks_get (k:Int) (n i:Nat) (h:i<n):(mks k n).getD i 0=k+i:=by simp[mks,h]
set_option maxHeartbeats 400000 in
theorem markI_any (a:Option Addr) (n cap:Nat) (k:Int) (w:World) (ho:Open w a n) (hk:0≤k) (hk':k+n≤1099511627776) :
  Calls Tryz.prog 35 #[.slice a n cap,.int .i64 k] w fun e w'=>e=.returned (.int .i64 (k+n))∧At .i64 w' a (mks k n)∧WrO a w w':=by
 go_enter Tryz.func35,Tryz.ntmps35;go_wp2
 go_loopw [1,5] (fun q i wr=>∃ j:Nat,j≤n∧i=.int .i64 j∧q=.int .i64 (k+j)∧WrO a w wr∧
   (n=0∨∃ g o,a=some ⟨g,o,none⟩∧g<w.heap.size∧(∀ t,t<n→(wr.cell? ⟨g,o+t,none⟩).isSome=true∧wr.frozen? ⟨g,o+t,none⟩=false)∧∀ t,t<j→wr.cell? ⟨g,o+t,none⟩=some (.int .i64 (k+(t:Int))))) (fun _ i _=>n-(intOf i).toNat)
 case atStart=>
  refine⟨0,Nat.zero_le _,rfl,by simp,WrO.refl _ _,?_⟩;rcases ho with h|⟨g,o,h1,h2,h3⟩
  ·exact .inl h
  ·exact .inr ⟨g,o,h1,h2,h3,fun t ht=>by omega⟩
 case round=>
  obtain⟨j,hj,rfl,rfl,hwr,hs⟩:=hrel;by_cases hlt:j<n
  ·rcases hs with h|⟨g,o,rfl,hg,hc,hd⟩
   ·omega
   ·obtain⟨hc1,hf1⟩:=hc j hlt;obtain⟨v0,hv0⟩:=Option.isSome_iff_exists.1 hc1;have HW:Hid (WrO (some ⟨g,o,none⟩) w (wr.setCell ⟨g,o+j,none⟩ (.int .i64 (k+(j:Int))))):=hwr.setCell _ rfl _ _;have HC:Hid (∀ t,t<n→((wr.setCell ⟨g,o+j,none⟩ (.int .i64 (k+(j:Int)))).cell? ⟨g,o+t,none⟩).isSome=true∧(wr.setCell ⟨g,o+j,none⟩ (.int .i64 (k+(j:Int)))).frozen? ⟨g,o+t,none⟩=false):=by
     intro t ht;obtain⟨u,hu⟩:=Option.isSome_iff_exists.1 (hc t ht).1;obtain⟨u',hu'⟩:=cell?_setCell_some (w:=wr) (p:=⟨g,o+j,none⟩) (x:=.int .i64 (k+(j:Int))) (q:=⟨g,o+t,none⟩) (v:=u) hu;refine⟨by rw[hu'];rfl,?_⟩;rw[World.frozen?_setCell];exact(hc t ht).2
    have HD:Hid (∀ t,t<j+1→(wr.setCell ⟨g,o+j,none⟩ (.int .i64 (k+(j:Int)))).cell? ⟨g,o+t,none⟩=some (.int .i64 (k+(t:Int)))):=by
     intro t ht;by_cases e:t=j
     ·subst e;exact World.cell?_setCell_same _ _ _ hv0
     ·rw[World.cell?_setCell_other _ _ _ _ (by simp;try omega)];exact hd t (by omega)
    clear hc hd hwr ho hc1;go_wp2;go_roundw
    case rel=>exact⟨j+1,by omega,by go_num,by go_num,HW.out,.inr ⟨g,o,rfl,hg,HC.out,HD.out⟩⟩
    case measure=>simp[intOf];omega
  ·have hjn:j=n:=by omega
   subst hjn;have HA:Hid (At .i64 wr a (mks k j)):=by
    rcases hs with h|⟨g,o,rfl,hg,hc,hd⟩
    ·subst h;exact .inl rfl
    ·exact .inr ⟨g,o,rfl,by rw[hwr.size];exact hg,fun i hi=>by rw[mks_len] at hi;rw[hd i hi,mks_get k j i hi]⟩
   clear hs ho;go_wp2
   go_ret
   exact⟨rfl,HA.out,hwr⟩
set_option maxHeartbeats 400000 in
theorem heldI_any (a:Option Addr) (n cap:Nat) (k:Int) (w:World) (ha:At .i64 w a (mks k n)) (hk:0≤k) (hk':k+n≤1099511627776) :
  Calls Tryz.prog 55 #[.slice a n cap,.int .i64 k] w fun e w'=>e=.returned (.int .i64 (k+n))∧w'=w:=by
 go_enter Tryz.func55,Tryz.ntmps55;go_wp2
 go_loop [1,5] (fun q i=>∃ j:Nat,j≤n∧i=.int .i64 j∧q=.int .i64 (k+j)) (fun _ i=>n-(intOf i).toNat)
 case atStart=>exact⟨0,Nat.zero_le _,rfl,by simp⟩
 case round=>
  obtain⟨j,hj,rfl,rfl⟩:=hrel;by_cases hlt:j<n
  ·obtain⟨b,off,rfl,hb,hc⟩:=ha.get (by rw[mks_len];omega);have hcj:=hc j (by rw[mks_len];omega);rw[mks_get k n j hlt] at hcj;have hne:((k+(j:Int)) != (k+(j:Int)))=false:=by simp
   clear hc ha;go_wp2
   go_round
   case rel=>exact⟨j+1,by omega,by go_num,by go_num⟩
   case measure=>simp[intOf];omega
  ·have hjn:j=n:=by omega
   subst hjn;go_wp2
   go_ret
   exact⟨rfl,rfl⟩
set_option maxHeartbeats 1000000 in
theorem markT_any (a:Option Addr) (n cap:Nat) (k:Int) (w:World) (ho:Open w a (n*2)) (hk:0≤k) (hk':k+n*2≤1099511627776) :
  Calls Tryz.prog 36 #[.slice a n cap,.int .i64 k] w fun e w'=>e=.returned (.int .i64 (k+n*2))∧At .i64 w' a (mks k (n*2))∧WrO a w w':=by
 go_enter Tryz.func36,Tryz.ntmps36;go_wp2
 go_loopw [1,5] (fun q i wr=>∃ j:Nat,j≤n∧i=.int .i64 j∧q=.int .i64 (k+j*2)∧WrO a w wr∧
   (n=0∨∃ g o,a=some ⟨g,o,none⟩∧g<w.heap.size∧(∀ t,t<n*2→(wr.cell? ⟨g,o+t,none⟩).isSome=true∧wr.frozen? ⟨g,o+t,none⟩=false)∧∀ t,t<j*2→wr.cell? ⟨g,o+t,none⟩=some (.int .i64 (k+(t:Int))))) (fun _ i _=>n-(intOf i).toNat)
 case atStart=>
  refine⟨0,Nat.zero_le _,rfl,by simp,WrO.refl _ _,?_⟩;rcases ho with h|⟨g,o,h1,h2,h3⟩
  ·exact .inl (by omega)
  ·exact .inr ⟨g,o,h1,h2,h3,fun t ht=>by omega⟩
 case round=>
  obtain⟨j,hj,rfl,rfl,hwr,hs⟩:=hrel;by_cases hlt:j<n
  ·rcases hs with h|⟨g,o,rfl,hg,hc,hd⟩
   ·omega
   ·have hlt':(j:Int)<n:=by omega
    have hst:∀(W:World) (p:Nat) (x:Int),(∀ t,t<n*2→(W.cell? ⟨g,o+t,none⟩).isSome=true∧W.frozen? ⟨g,o+t,none⟩=false)→∀ t,t<n*2→((W.setCell ⟨g,p,none⟩ (.int .i64 x)).cell? ⟨g,o+t,none⟩).isSome=true∧(W.setCell ⟨g,p,none⟩ (.int .i64 x)).frozen? ⟨g,o+t,none⟩=false:=by
     intro W p x hW t ht;obtain⟨u,hu⟩:=Option.isSome_iff_exists.1 (hW t ht).1;obtain⟨u',hu'⟩:=cell?_setCell_some (w:=W) (p:=⟨g,p,none⟩) (x:=.int .i64 x) (q:=⟨g,o+t,none⟩) (v:=u) hu;refine⟨by rw[hu'];rfl,?_⟩;rw[World.frozen?_setCell];exact(hW t ht).2
    obtain⟨hc1,f0⟩:=hc (j*2) (by omega);obtain⟨v0,c0⟩:=Option.isSome_iff_exists.1 hc1;have hc':=hst wr (o+j*2) (k+j*2) hc;obtain⟨hc2,f1⟩:=hc' (j*2+1) (by omega);obtain⟨v1,c1⟩:=Option.isSome_iff_exists.1 hc2;have HC:Hid (∀ t,t<n*2→(((wr.setCell ⟨g,o+j*2,none⟩ (.int .i64 (k+j*2))).setCell ⟨g,o+j*2+1,none⟩ (.int .i64 (k+j*2+1))).cell? ⟨g,o+t,none⟩).isSome=true∧((wr.setCell ⟨g,o+j*2,none⟩ (.int .i64 (k+j*2))).setCell ⟨g,o+j*2+1,none⟩ (.int .i64 (k+j*2+1))).frozen? ⟨g,o+t,none⟩=false):=hst _ _ _ hc';have HW:Hid (WrO (some ⟨g,o,none⟩) w ((wr.setCell ⟨g,o+j*2,none⟩ (.int .i64 (k+j*2))).setCell ⟨g,o+j*2+1,none⟩ (.int .i64 (k+j*2+1)))):=(hwr.setCell _ rfl _ _).setCell _ rfl _ _;rw[←Nat.add_assoc] at c1 f1;have HD:Hid (∀ t,t<(j+1)*2→((wr.setCell ⟨g,o+j*2,none⟩ (.int .i64 (k+j*2))).setCell ⟨g,o+j*2+1,none⟩ (.int .i64 (k+j*2+1))).cell? ⟨g,o+t,none⟩=some (.int .i64 (k+(t:Int)))):=by
     intro t ht;by_cases e:t=j*2+1
     ·subst e;rw[←Nat.add_assoc,World.cell?_setCell_same _ _ _ c1];rw[show k+(((j*2+1:Nat)):Int)=k+j*2+1 by omega]
     ·rw[World.cell?_setCell_other _ _ _ _ (by simp;try omega)];by_cases e2:t=j*2
      ·subst e2;rw[World.cell?_setCell_same _ _ _ c0];rw[show k+(((j*2:Nat)):Int)=k+j*2 by omega]
      ·rw[World.cell?_setCell_other _ _ _ _ (by simp;try omega)];exact hd t (by omega)
    clear hc hd hwr ho hc1 hc2 hc' hst;go_wp2;go_roundw
    case rel=>exact⟨j+1,by omega,by go_num,by go_num,HW.out,.inr ⟨g,o,rfl,hg,HC.out,HD.out⟩⟩
    case measure=>simp[intOf];omega
  ·have hjn:j=n:=by omega
   subst hjn;have HA:Hid (At .i64 wr a (mks k (j*2))):=by
    rcases hs with h|⟨g,o,rfl,hg,hc,hd⟩
    ·subst h;exact .inl rfl
    ·exact .inr ⟨g,o,rfl,by rw[hwr.size];exact hg,fun i hi=>by rw[mks_len] at hi;rw[hd i hi,mks_get k _ i hi]⟩
   clear hs ho;go_wp2
   go_ret
   exact⟨rfl,HA.out,hwr⟩
def SAt (w:World) (a:Option Addr) (zs:List Int):Prop:=
 zs=[]∨∃ b off,a=some ⟨b,off,none⟩∧b<w.heap.size∧∀ i,i<zs.length→w.cell? ⟨b,off+i,none⟩=some (.int .i64 (zs.getD i 0))∧w.frozen? ⟨b,off+i,none⟩=false
theorem SAt.at_ {w:World} {a:Option Addr} {zs:List Int} (h:SAt w a zs):At .i64 w a zs:=by
 rcases h with h|⟨b,off,e,hl,hc⟩
 ·exact .inl h
 ·exact .inr ⟨b,off,e,hl,fun i hi=>(hc i hi).1⟩
theorem SAt.open_ {w:World} {a:Option Addr} {zs:List Int} (h:SAt w a zs) {n:Nat} (hn:zs.length=n):Open w a n:=by
 rcases h with h|⟨b,off,e,hl,hc⟩
 ·subst h;exact .inl (by simpa using hn.symm)
 ·exact .inr ⟨b,off,e,hl,fun i hi=>⟨by rw[(hc i (by omega)).1];rfl,(hc i (by omega)).2⟩⟩
def Lies (lo:Nat) (w:World) (a:Option Addr):Prop:=∀ ad,a=some ad→lo≤ad.block∧ad.block<w.heap.size
def Aprt (a b:Option Addr):Prop:=∀ x y,a=some x→b=some y→x.block≠y.block
theorem Lies.mono {lo lo':Nat} {w w':World} {a:Option Addr} (h:Lies lo w a) (hl:lo'≤lo) (hs:w.heap.size≤w'.heap.size):Lies lo' w' a:=fun ad e=>by have:=h ad e;omega
theorem SAt.keep {w w':World} {a:Option Addr} {zs:List Int} (h:SAt w a zs) (hs:w.heap.size≤w'.heap.size) (hb:∀ ad,a=some ad→ad.block<w.heap.size→w'.heap[ad.block]?=w.heap[ad.block]?):SAt w' a zs:=by
 rcases h with h|⟨b,off,e,hl,hc⟩
 ·exact .inl h
 ·have hk:=hb _ e hl;refine .inr ⟨b,off,e,by omega,fun i hi=>?_⟩;rw[World.cell?_of_block (a:=⟨b,off+i,none⟩) (w:=w) hk,World.frozen?_of_block (a:=⟨b,off+i,none⟩) (w:=w) hk];exact hc i hi
theorem At.keepT {w w':World} {a:Option Addr} {zs:List Int} (h:At .i64 w a zs) (hs:w.heap.size≤w'.heap.size) (hb:∀ ad,a=some ad→ad.block<w.heap.size→w'.heap[ad.block]?=w.heap[ad.block]?):At .i64 w' a zs:=by
 rcases h with h|⟨b,off,e,hl,hc⟩
 ·exact .inl h
 ·have hk:=hb _ e hl;refine .inr ⟨b,off,e,by omega,fun i hi=>?_⟩;rw[World.cell?_of_block (a:=⟨b,off+i,none⟩) (w:=w) hk];exact hc i hi
theorem Open.keepT {w w':World} {a:Option Addr} {n:Nat} (h:Open w a n) (hs:w.heap.size≤w'.heap.size) (hb:∀ ad,a=some ad→ad.block<w.heap.size→w'.heap[ad.block]?=w.heap[ad.block]?):Open w' a n:=by
 rcases h with h|⟨b,off,e,hl,hc⟩
 ·exact .inl h
 ·have hk:=hb _ e hl;refine .inr ⟨b,off,e,by omega,fun i hi=>?_⟩;rw[World.cell?_of_block (a:=⟨b,off+i,none⟩) (w:=w) hk,World.frozen?_of_block (a:=⟨b,off+i,none⟩) (w:=w) hk];exact hc i hi
theorem SAt.below {w w':World} {a:Option Addr} {zs:List Int} (h:SAt w a zs) (b:Below w.heap.size w w'):SAt w' a zs:=h.keep b.size (fun ad _ hl=>b.block _ hl)
theorem WrO.kept {a c:Option Addr} {w w':World} (h:WrO a w w') (hap:Aprt a c):∀ ad,c=some ad→ad.block<w.heap.size→w'.heap[ad.block]?=w.heap[ad.block]?:=
 fun ad e _=>h.block _ (fun x hx=>(hap x ad hx e).symm)
structure S3 (lo:Nat) (w:World) (aD aU aT:Option Addr) (nD nU nT:Nat) (D U T:List Int):Prop where
 d:SAt w aD D
 u:SAt w aU U
 t:SAt w aT T
 nd:D.length=nD
 nu:U.length=nU
 nt:T.length=nT*2
 ld:Lies lo w aD
 lu:Lies lo w aU
 lt:Lies lo w aT
 du:Aprt aD aU
 dt:Aprt aD aT
 ut:Aprt aU aT
theorem S3.keep {lo:Nat} {w w':World} {aD aU aT:Option Addr} {nD nU nT:Nat} {D U T:List Int} (h:S3 lo w aD aU aT nD nU nT D U T) (hs:w.heap.size≤w'.heap.size) (hb:∀ k,lo≤k→k<w.heap.size→w'.heap[k]?=w.heap[k]?):S3 lo w' aD aU aT nD nU nT D U T:=
 ⟨h.d.keep hs (fun ad e hl=>hb _ (h.ld ad e).1 hl),h.u.keep hs (fun ad e hl=>hb _ (h.lu ad e).1 hl),h.t.keep hs (fun ad e hl=>hb _ (h.lt ad e).1 hl),h.nd,h.nu,h.nt,h.ld.mono (Nat.le_refl _) hs,h.lu.mono (Nat.le_refl _) hs,h.lt.mono (Nat.le_refl _) hs,h.du,h.dt,h.ut⟩
theorem S3.below {lo:Nat} {w w':World} {aD aU aT:Option Addr} {nD nU nT:Nat} {D U T:List Int} (h:S3 lo w aD aU aT nD nU nT D U T) (b:Below w.heap.size w w'):S3 lo w' aD aU aT nD nU nT D U T:=h.keep b.size (fun k _ hk=>b.block k hk)
set_option maxHeartbeats 1000000 in
theorem heldT_any (a:Option Addr) (n cap:Nat) (k:Int) (w:World) (ha:At .i64 w a (mks k (n*2))) (hk:0≤k) (hk':k+n*2≤1099511627776) :
  Calls Tryz.prog 56 #[.slice a n cap,.int .i64 k] w fun e w'=>e=.returned (.int .i64 (k+n*2))∧w'=w:=by
 go_enter Tryz.func56,Tryz.ntmps56;go_wp2
 go_loop [1,5] (fun q i=>∃ j:Nat,j≤n∧i=.int .i64 j∧q=.int .i64 (k+j*2)) (fun _ i=>n-(intOf i).toNat)
 case atStart=>exact⟨0,Nat.zero_le _,rfl,by simp⟩
 case round=>
  obtain⟨j,hj,rfl,rfl⟩:=hrel;by_cases hlt:j<n
  ·obtain⟨b,off,rfl,hb,hc⟩:=ha.get (by rw[mks_len];omega);have hc0:=hc (j*2) (by rw[mks_len];omega);have hc1:=hc (j*2+1) (by rw[mks_len];omega);rw[mks_get k _ _ (by omega)] at hc0 hc1;rw[show k+((j*2:Nat):Int)=k+j*2 by omega] at hc0;rw[show k+((j*2+1:Nat):Int)=k+j*2+1 by omega,←Nat.add_assoc] at hc1;have hlt':(j:Int)<n:=by omega
   have hne:((k+(j:Int)*2) != (k+(j:Int)*2))=false:=by simp
   have hne1:((k+(j:Int)*2+1) != (k+(j:Int)*2+1))=false:=by simp
   clear hc ha;go_wp2
   go_round
   case rel=>exact⟨j+1,by omega,by go_num,by go_num⟩
   case measure=>simp[intOf];omega
  ·have hjn:j=n:=by omega
   subst hjn;go_wp2
   go_ret
   exact⟨rfl,rfl⟩
def NotIn (k:Nat) (a:Option Addr):Prop:=∀ ad,a=some ad→k≠ad.block
structure MB (lo:Nat) (w:World) (sc:Array Value) (wr:World):Prop where
 below:Below lo w wr
 box:wr.heap[w.heap.size]?=some (.cells sc 33 (0,0))
theorem MB.wro {lo:Nat} {w wr w':World} {sc:Array Value} (h:MB lo w sc wr) {a:Option Addr} (hl:Lies lo w a) (hw:WrO a wr w'):MB lo w sc w':=
 ⟨h.below.trans (hw.below lo (fun ad e=>(hl ad e).1)),by rw[hw.block _ (fun ad e=>by have:=hl ad e;omega)];exact h.box⟩
set_option maxRecDepth 100000 in
set_option maxHeartbeats 1000000 in
theorem markS_any (aD aU aT:Option Addr) (nD cD nU cU nT cT:Nat) (k0 k:Int) (w:World) (lo:Nat) (hlo:lo≤w.heap.size)
  (oD:Open w aD nD) (oU:Open w aU nU) (oT:Open w aT (nT*2)) (lD:Lies lo w aD) (lU:Lies lo w aU) (lT:Lies lo w aT) (dU:Aprt aD aU) (dT:Aprt aD aT) (uT:Aprt aU aT) (hk:0≤k) (hk':k+nD+nU+nT*2≤1099511627776) :
  Calls Tryz.prog 15 #[.agg #[.slice aD nD cD,.slice aU nU cU,.int .i64 k0,.slice aT nT cT],.int .i64 k] w fun e w'=>e=.returned (.int .i64 (k+nD+nU+nT*2))∧At .i64 w' aD (mks k nD)∧At .i64 w' aU (mks (k+nD) nU)∧At .i64 w' aT (mks (k+nD+nU) (nT*2))∧Below lo w w'∧∀ j,j<w.heap.size→NotIn j aD→NotIn j aU→NotIn j aT→w'.heap[j]?=w.heap[j]?:=by
 have b1:Below w.heap.size w (w.alloc (.cells #[.slice aD nD cD,.slice aU nU cU,.int .i64 k0,.slice aT nT cT] 33)):=(Below.refl _ _).alloc (Nat.le_refl _) _;have HM1:Hid (MB lo w #[.slice aD nD cD,.slice aU nU cU,.int .i64 k0,.slice aT nT cT] (w.alloc (.cells #[.slice aD nD cD,.slice aU nU cU,.int .i64 k0,.slice aT nT cT] 33))):=⟨b1.mono hlo,heap_alloc_new w _⟩
 have HO:Hid (Open (w.alloc (.cells #[.slice aD nD cD,.slice aU nU cU,.int .i64 k0,.slice aT nT cT] 33)) aD nD∧Open (w.alloc (.cells #[.slice aD nD cD,.slice aU nU cU,.int .i64 k0,.slice aT nT cT] 33)) aU nU∧Open (w.alloc (.cells #[.slice aD nD cD,.slice aU nU cU,.int .i64 k0,.slice aT nT cT] 33)) aT (nT*2)):=⟨oD.below b1,oU.below b1,oT.below b1⟩
 have HL:Hid (Lies lo w aD∧Lies lo w aU∧Lies lo w aT):=⟨lD,lU,lT⟩
 have HP:Hid (Aprt aD aU∧Aprt aD aT∧Aprt aU aT):=⟨dU,dT,uT⟩
 have HN1:Hid (∀ j,j<w.heap.size→(w.alloc (.cells #[.slice aD nD cD,.slice aU nU cU,.int .i64 k0,.slice aT nT cT] 33)).heap[j]?=w.heap[j]?):=fun j hj=>b1.block j hj
 clear oD oU oT lD lU lT dU dT uT b1;go_enter Tryz.func15,Tryz.ntmps15;go_wp2_with fail;refine(markI_any aD nD cD k _ HO.out.1 hk (by omega)).mono ?_;rintro e w2 ⟨rfl,hA,hw⟩;generalize w.alloc (.cells #[.slice aD nD cD,.slice aU nU cU,.int .i64 k0,.slice aT nT cT] 33)=w1 at *;have HM2:Hid (MB lo w #[.slice aD nD cD,.slice aU nU cU,.int .i64 k0,.slice aT nT cT] w2):=HM1.out.wro HL.out.1 hw;have HO2:Hid (Open w2 aU nU∧Open w2 aT (nT*2)):=⟨HO.out.2.1.keepT (by rw[hw.size];exact Nat.le_refl _) (hw.kept HP.out.1),HO.out.2.2.keepT (by rw[hw.size];exact Nat.le_refl _) (hw.kept HP.out.2.1)⟩
 have HA2:Hid (At .i64 w2 aD (mks k nD)):=hA;have HN2:Hid (∀ j,j<w.heap.size→NotIn j aD→w2.heap[j]?=w.heap[j]?):=fun j hj h1=>(hw.block j (fun ad e=>h1 ad e)).trans (HN1.out j hj)
 have x1:w2.cell? ⟨w.heap.size,1,none⟩=some (.slice aU nU cU):=by rw[cell_of_row w2 w.heap.size 1 _ _ _ HM2.out.box];rfl
 clear hA hw HM1 HO;go_wp2_with fail;refine(markI_any aU nU cU (k+nD) _ HO2.out.1 (by omega) (by omega)).mono ?_;rintro e w3 ⟨rfl,hA,hw⟩;have HM3:Hid (MB lo w #[.slice aD nD cD,.slice aU nU cU,.int .i64 k0,.slice aT nT cT] w3):=HM2.out.wro HL.out.2.1 hw;have HO3:Hid (Open w3 aT (nT*2)):=HO2.out.2.keepT (by rw[hw.size];exact Nat.le_refl _) (hw.kept HP.out.2.2);have HA3:Hid (At .i64 w3 aD (mks k nD)∧At .i64 w3 aU (mks (k+nD) nU)):=⟨HA2.out.keepT (by rw[hw.size];exact Nat.le_refl _) (hw.kept (fun x y hx hy=>(HP.out.1 y x hy hx).symm)),hA⟩
 have HN3:Hid (∀ j,j<w.heap.size→NotIn j aD→NotIn j aU→w3.heap[j]?=w.heap[j]?):=fun j hj h1 h2=>(hw.block j (fun ad e=>h2 ad e)).trans (HN2.out j hj h1)
 have x3:w3.cell? ⟨w.heap.size,3,none⟩=some (.slice aT nT cT):=by rw[cell_of_row w3 w.heap.size 3 _ _ _ HM3.out.box];rfl
 clear hA hw HM2 HO2 HA2 x1;go_wp2_with fail;refine(markT_any aT nT cT (k+nD+nU) _ HO3.out (by omega) (by omega)).mono ?_;rintro e w4 ⟨rfl,hA,hw⟩;have HM4:Hid (Below lo w w4):=(HM3.out.wro HL.out.2.2 hw).below;have HN4:Hid (∀ j,j<w.heap.size→NotIn j aD→NotIn j aU→NotIn j aT→w4.heap[j]?=w.heap[j]?):=fun j hj h1 h2 h3=>(hw.block j (fun ad e=>h3 ad e)).trans (HN3.out j hj h1 h2)
 have HA4:Hid (At .i64 w4 aD (mks k nD)∧At .i64 w4 aU (mks (k+nD) nU)∧At .i64 w4 aT (mks (k+nD+nU) (nT*2))):=⟨HA3.out.1.keepT (by rw[hw.size];exact Nat.le_refl _) (hw.kept (fun x y hx hy=>(HP.out.2.1 y x hy hx).symm)),HA3.out.2.keepT (by rw[hw.size];exact Nat.le_refl _) (hw.kept (fun x y hx hy=>(HP.out.2.2 y x hy hx).symm)),hA⟩
 clear hA hw HM3 HO3 HA3 x3;go_wp2
 go_ret
 exact⟨rfl,HA4.out.1,HA4.out.2.1,HA4.out.2.2,HM4.out,HN4.out⟩
set_option maxRecDepth 100000 in
set_option maxHeartbeats 1000000 in
theorem heldS_any (aD aU aT:Option Addr) (nD cD nU cU nT cT:Nat) (k0 k:Int) (w:World)
  (hD:At .i64 w aD (mks k nD)) (hU:At .i64 w aU (mks (k+nD) nU)) (hT:At .i64 w aT (mks (k+nD+nU) (nT*2))) (hk:0≤k) (hk':k+nD+nU+nT*2≤1099511627776) :
  Calls Tryz.prog 37 #[.agg #[.slice aD nD cD,.slice aU nU cU,.int .i64 k0,.slice aT nT cT],.int .i64 k] w fun e w'=>e=.returned (.int .i64 (k+nD+nU+nT*2))∧Below w.heap.size w w':=by
 have b1:Below w.heap.size w (w.alloc (.cells #[.slice aD nD cD,.slice aU nU cU,.int .i64 k0,.slice aT nT cT] 33)):=(Below.refl _ _).alloc (Nat.le_refl _) _;have HB:Hid (Below w.heap.size w (w.alloc (.cells #[.slice aD nD cD,.slice aU nU cU,.int .i64 k0,.slice aT nT cT] 33))):=b1;have HA:Hid (At .i64 (w.alloc (.cells #[.slice aD nD cD,.slice aU nU cU,.int .i64 k0,.slice aT nT cT] 33)) aD (mks k nD)∧At .i64 (w.alloc (.cells #[.slice aD nD cD,.slice aU nU cU,.int .i64 k0,.slice aT nT cT] 33)) aU (mks (k+nD) nU)∧At .i64 (w.alloc (.cells #[.slice aD nD cD,.slice aU nU cU,.int .i64 k0,.slice aT nT cT] 33)) aT (mks (k+nD+nU) (nT*2))):=⟨hD.below b1,hU.below b1,hT.below b1⟩
 have g1:¬ (k+(nD:Int)<0):=by omega
 have g2:¬ (k+(nD:Int)+nU<0):=by omega
 have g3:¬ (k+(nD:Int)+nU+nT*2<0):=by omega
 clear hD hU hT b1;go_enter Tryz.func37,Tryz.ntmps37;go_wp2_with fail;refine(heldI_any aD nD cD k _ HA.out.1 hk (by omega)).mono ?_;rintro e w2 ⟨rfl,rfl⟩;go_wp2_with fail;refine(heldI_any aU nU cU (k+nD) _ HA.out.2.1 (by omega) (by omega)).mono ?_;rintro e w3 ⟨rfl,rfl⟩;go_wp2_with fail;refine(heldT_any aT nT cT (k+nD+nU) _ HA.out.2.2 (by omega) (by omega)).mono ?_;rintro e w4 ⟨rfl,rfl⟩;go_wp2
 go_ret
 exact⟨rfl,HB.out⟩
def uC (zs:List Int):Array Value:=(zs.map (Value.int .u8)).toArray
theorem uC_size (xs:List Int):(uC xs).size=xs.length:=by simp[uC]
theorem RowV.u8 {w:World} {g:Nat} {t:TypeId} {xs:List Int} (h:RowV w g t (uC xs)):At .u8 w (some ⟨g,0,none⟩) xs:=
 .inr ⟨g,0,rfl,h.lt,fun i hi=>by rw[Nat.zero_add,cell_of_row w g i _ _ _ h];simp[uC,hi,List.getD]⟩
set_option maxHeartbeats 400000 in
theorem toBR_any (a:Option Addr) (n cap:Nat) (zs:List Int) (w:World) (hn:zs.length=n) (hm:n≤1048576) (ha:At .u8 w a zs) :
  Calls Tryz.prog 8 #[.slice a n cap] w fun e w'=>e=.returned (.slice (some ⟨w.heap.size,0,none⟩) n n)∧RowV w' w.heap.size 5 (uC zs)∧Below w.heap.size w w':=
 (toB_any a n cap zs w hn hm ha).mono (fun e w' ⟨h1,h2,h3⟩=>⟨h1,owns_row h2,h3⟩)
theorem szBQ_any (a:Option Addr) (n cap:Nat) (left:Int) (w:World) (h0:0≤left) (h1:left≤1048576) (hn:n≤9223372036854775807) :
  Calls Tryz.prog 22 #[.slice a n cap,.int .i64 left] w fun e w'=>e=.returned (.int .i64 (szQ left n))∧w'=w:=szB_any a n cap left w h0 h1 hn
set_option maxRecDepth 100000 in
set_option maxHeartbeats 4000000 in
theorem toOp_any (aY:Option Addr) (nY cY:Nat) (Y:List Int) (kind now N:Int) (w:World) (hY:Y.length=nY) (mY:nY≤1048576) (AY:At .u8 w aY Y) :
  Calls Tryz.prog 9 #[.agg #[.int .i64 kind,.slice aY nY cY,.int .i64 now,.int .i64 N]] w fun e w'=>∃ gY,e=.returned (.agg #[.int .i64 kind,.slice (some ⟨gY,0,none⟩) nY nY,.int .i64 now,.int .i64 N])∧w.heap.size≤gY∧RowV w' gY 5 (uC Y)∧Below w.heap.size w w':=by
 have HE0:Hid (CE w 28 39 #[.int .i64 kind,.slice aY nY cY,.int .i64 now,.int .i64 N] #[.int .i64 0,.slice none 0 0,.int .i64 0,.int .i64 0] #[.int .i64 kind,.slice none 0 0,.int .i64 0,.int .i64 0] (((w.alloc (.cells #[.int .i64 kind,.slice aY nY cY,.int .i64 now,.int .i64 N] 28)).alloc (.cells #[.int .i64 0,.slice none 0 0,.int .i64 0,.int .i64 0] 39)).alloc (.cells #[.int .i64 kind,.slice none 0 0,.int .i64 0,.int .i64 0] 39))):=CE.start _ _ _ _ _ _;have HAY:Hid (At .u8 w aY Y):=AY;have HLY:Hid (Y.length=nY):=hY;clear AY hY;go_enter Tryz.func9,Tryz.ntmps9;go_wp2_with fail;generalize (((w.alloc (.cells #[.int .i64 kind,.slice aY nY cY,.int .i64 now,.int .i64 N] 28)).alloc (.cells #[.int .i64 0,.slice none 0 0,.int .i64 0,.int .i64 0] 39)).alloc (.cells #[.int .i64 kind,.slice none 0 0,.int .i64 0,.int .i64 0] 39))=w0 at *;refine(toBR_any aY nY cY Y _ HLY.out mY (HAY.out.below HE0.out.below)).mono ?_;rintro e u0 ⟨rfl,hRY,hb⟩;have HF0:Hid (CE w 28 39 #[.int .i64 kind,.slice aY nY cY,.int .i64 now,.int .i64 N] #[.int .i64 0,.slice none 0 0,.int .i64 0,.int .i64 0] #[.int .i64 kind,.slice none 0 0,.int .i64 0,.int .i64 0] u0):=HE0.out.call hb;have lt0:w.heap.size+1+1<w0.heap.size:=HE0.out.lt;clear hb;have oY:w.heap.size≤w0.heap.size:=by omega
 have VY:w.heap.size+1+1<w0.heap.size:=lt0;clear HE0;generalize w0.heap.size=gY at *;have hw:Wr (w.heap.size+1+1) u0 (((u0.setCell ⟨w.heap.size+1+1,1,none⟩ (.slice (some ⟨gY,0,none⟩) nY nY)).setCell ⟨w.heap.size+1+1,2,none⟩ (.int .i64 now)).setCell ⟨w.heap.size+1+1,3,none⟩ (.int .i64 N)):=((((Wr.refl _ _).setCell _ _).setCell _ _).setCell _ _)
 have HE1:Hid (CE w 28 39 #[.int .i64 kind,.slice aY nY cY,.int .i64 now,.int .i64 N] #[.int .i64 0,.slice none 0 0,.int .i64 0,.int .i64 0] #[.int .i64 kind,.slice (some ⟨gY,0,none⟩) nY nY,.int .i64 now,.int .i64 N] (((u0.setCell ⟨w.heap.size+1+1,1,none⟩ (.slice (some ⟨gY,0,none⟩) nY nY)).setCell ⟨w.heap.size+1+1,2,none⟩ (.int .i64 now)).setCell ⟨w.heap.size+1+1,3,none⟩ (.int .i64 N))):=(((HF0.out.put 1 _).put 2 _).put 3 _)
 have HRY:Hid (RowV (((u0.setCell ⟨w.heap.size+1+1,1,none⟩ (.slice (some ⟨gY,0,none⟩) nY nY)).setCell ⟨w.heap.size+1+1,2,none⟩ (.int .i64 now)).setCell ⟨w.heap.size+1+1,3,none⟩ (.int .i64 N)) gY 5 (uC Y)):=hRY.wr hw VY;have v1:u0.cell? ⟨w.heap.size+1+1,1,none⟩=some (.slice none 0 0):=by rw[cell_of_row u0 _ 1 _ _ _ HF0.out.var];rfl
 have f1:=frozen_of_row u0 (w.heap.size+1+1) 1 _ _ HF0.out.var;have v2:u0.cell? ⟨w.heap.size+1+1,2,none⟩=some (.int .i64 0):=by rw[cell_of_row u0 _ 2 _ _ _ HF0.out.var];rfl
 have f2:=frozen_of_row u0 (w.heap.size+1+1) 2 _ _ HF0.out.var;have v3:u0.cell? ⟨w.heap.size+1+1,3,none⟩=some (.int .i64 0):=by rw[cell_of_row u0 _ 3 _ _ _ HF0.out.var];rfl
 have f3:=frozen_of_row u0 (w.heap.size+1+1) 3 _ _ HF0.out.var;have x2:u0.cell? ⟨w.heap.size,2,none⟩=some (.int .i64 now):=by rw[cell_of_row u0 w.heap.size 2 _ _ _ HF0.out.box];rfl
 have x3:u0.cell? ⟨w.heap.size,3,none⟩=some (.int .i64 N):=by rw[cell_of_row u0 w.heap.size 3 _ _ _ HF0.out.box];rfl
 clear hw HF0 hRY;have HSZ:Hid ((Tryz.prog.info? 39).map (·.size)=some 4):=by show _=_;kernel_rfl
 have HVR:Hid ((((u0.setCell ⟨w.heap.size+1+1,1,none⟩ (.slice (some ⟨gY,0,none⟩) nY nY)).setCell ⟨w.heap.size+1+1,2,none⟩ (.int .i64 now)).setCell ⟨w.heap.size+1+1,3,none⟩ (.int .i64 N)).heap[w.heap.size+1+1]?=some (.cells #[.int .i64 kind,.slice (some ⟨gY,0,none⟩) nY nY,.int .i64 now,.int .i64 N] 39 (0,0))):=HE1.out.var;have HRR:Hid ((((u0.setCell ⟨w.heap.size+1+1,1,none⟩ (.slice (some ⟨gY,0,none⟩) nY nY)).setCell ⟨w.heap.size+1+1,2,none⟩ (.int .i64 now)).setCell ⟨w.heap.size+1+1,3,none⟩ (.int .i64 N)).heap[w.heap.size+1]?=some (.cells #[.int .i64 0,.slice none 0 0,.int .i64 0,.int .i64 0] 39 (0,0))):=HE1.out.res
 go_upto_region 6 with fail
 generalize (((u0.setCell ⟨w.heap.size+1+1,1,none⟩ (.slice (some ⟨gY,0,none⟩) nY nY)).setCell ⟨w.heap.size+1+1,2,none⟩ (.int .i64 now)).setCell ⟨w.heap.size+1+1,3,none⟩ (.int .i64 N))=wz at *;clear v1 f1 v2 f2 v3 f3 x2 x3;go_wp2_with (first
  |(refine wpList_load_row rfl 39 (.tmp 3) rfl (w.heap.size+1+1) rfl 39 _ (0,0) _ HVR.out Tryz.underlying39 rfl HSZ.out ?_)
  |(refine wpList_store_row rfl 39 (.tmp 2) (.tmp 17) rfl (w.heap.size+1) #[.int .i64 kind,.slice (some ⟨gY,0,none⟩) nY nY,.int .i64 now,.int .i64 N] rfl rfl 39 _ HRR.out HSZ.out rfl (by simp[Value.oneCell']) ?_)
  |fail)
 refine bodyPost_ret (v:=.agg #[.int .i64 kind,.slice (some ⟨gY,0,none⟩) nY nY,.int .i64 now,.int .i64 N]) (results_cell_row rfl _ _ (w.heap.size+1) 39 _ (0,0) _ rfl (setRow_heap _ _ _ _ _ _ HRR.out) Tryz.underlying39 rfl HSZ.out) rfl ?_;have hwz:Wr (w.heap.size+1) wz (wz.setRow (w.heap.size+1) #[.int .i64 kind,.slice (some ⟨gY,0,none⟩) nY nY,.int .i64 now,.int .i64 N]):=Wr.setRow _ _ _;exact⟨gY,rfl,by omega,HRY.out.wr hwz (by omega),HE1.out.below.trans (hwz.below (by omega))⟩
set_option maxRecDepth 100000 in
set_option maxHeartbeats 4000000 in
theorem eqOp_any (aY bY:Option Addr) (nY cY dY:Nat) (Y:List Int) (kind now N:Int) (w:World) (hY:Y.length=nY) (mY:nY≤1048576) (AY:At .u8 w aY Y) (BY:At .u8 w bY Y) :
  Calls Tryz.prog 14 #[.agg #[.int .i64 kind,.slice aY nY cY,.int .i64 now,.int .i64 N],.agg #[.int .i64 kind,.slice bY nY dY,.int .i64 now,.int .i64 N]] w fun e w'=>e=.returned (.bool true)∧Below w.heap.size w w':=by
 have HE0:Hid (BE w 39 #[.int .i64 kind,.slice aY nY cY,.int .i64 now,.int .i64 N] #[.int .i64 kind,.slice bY nY dY,.int .i64 now,.int .i64 N] ((w.alloc (.cells #[.int .i64 kind,.slice aY nY cY,.int .i64 now,.int .i64 N] 39)).alloc (.cells #[.int .i64 kind,.slice bY nY dY,.int .i64 now,.int .i64 N] 39))):=BE.start _ _ _ _;have HAY:Hid (At .u8 w aY Y∧At .u8 w bY Y):=⟨AY,BY⟩
 have HLY:Hid (Y.length=nY):=hY;clear AY BY hY;have nekind:(kind != kind)=false:=by simp
 have nenow:(now != now)=false:=by simp
 have neN:(N != N)=false:=by simp
 go_enter Tryz.func14,Tryz.ntmps14;go_wp2_with fail;generalize ((w.alloc (.cells #[.int .i64 kind,.slice aY nY cY,.int .i64 now,.int .i64 N] 39)).alloc (.cells #[.int .i64 kind,.slice bY nY dY,.int .i64 now,.int .i64 N] 39))=w0 at *;refine(eqB_any _ _ nY _ _ Y _ HLY.out mY (HAY.out.1.below HE0.out.below) (HAY.out.2.below HE0.out.below)).mono ?_;rintro e w1 ⟨rfl,q0,hq⟩;have hb:Below w0.heap.size w0 w1:=by rw[hq];exact below_dq (Below.refl _ _) _
 clear hq;have HE1:Hid (BE w 39 #[.int .i64 kind,.slice aY nY cY,.int .i64 now,.int .i64 N] #[.int .i64 kind,.slice bY nY dY,.int .i64 now,.int .i64 N] w1):=HE0.out.call hb;clear hb HE0;have x2:w1.cell? ⟨w.heap.size,2,none⟩=some (.int .i64 now):=by rw[cell_of_row w1 w.heap.size 2 _ _ _ HE1.out.b0];rfl
 have y2:w1.cell? ⟨w.heap.size+1,2,none⟩=some (.int .i64 now):=by rw[cell_of_row w1 (w.heap.size+1) 2 _ _ _ HE1.out.b1];rfl
 have x3:w1.cell? ⟨w.heap.size,3,none⟩=some (.int .i64 N):=by rw[cell_of_row w1 w.heap.size 3 _ _ _ HE1.out.b0];rfl
 have y3:w1.cell? ⟨w.heap.size+1,3,none⟩=some (.int .i64 N):=by rw[cell_of_row w1 (w.heap.size+1) 3 _ _ _ HE1.out.b1];rfl
 have HF:Hid (Below w.heap.size w w1):=HE1.out.below;clear HE1;go_wp2
 go_ret
 exact⟨rfl,HF.out⟩
set_option maxRecDepth 100000 in
set_option maxHeartbeats 4000000 in
theorem szOp_any (aY:Option Addr) (nY cY:Nat) (kind now N:Int) (left:Int) (w:World) (h0:0≤left) (h1:left≤1048576) (mY:nY≤9223372036854775807) :
  Calls Tryz.prog 5 #[.agg #[.int .i64 kind,.slice aY nY cY,.int .i64 now,.int .i64 N],.int .i64 left] w fun e w'=>e=.returned (.int .i64 (szQ left (nY)))∧Below w.heap.size w w':=by
 have HZ:Hid (∀ left n,szQ left n=if left<n then -1 else left-n):=fun _ _=>rfl
 have HE0:Hid (OE w 28 #[.int .i64 kind,.slice aY nY cY,.int .i64 now,.int .i64 N] (w.alloc (.cells #[.int .i64 kind,.slice aY nY cY,.int .i64 now,.int .i64 N] 28))):=OE.start _ _ _;go_enter Tryz.func5,Tryz.ntmps5;go_wp2_with fail;generalize (w.alloc (.cells #[.int .i64 kind,.slice aY nY cY,.int .i64 now,.int .i64 N] 28))=w0 at *;refine(szBQ_any _ _ _ _ _ h0 h1 mY).mono ?_;rintro e w1 ⟨rfl,rfl⟩;have HE1:Hid (OE w 28 #[.int .i64 kind,.slice aY nY cY,.int .i64 now,.int .i64 N] w1):=HE0.out;clear HE0;by_cases k0:left<((nY:Nat):Int)
 ·have r:szQ (left) (nY)=-1:=by rw[HZ.out,if_pos k0]
  have HR:Hid (szQ left (nY)=-1):=by show _=_;rw[HZ.out,if_pos (by omega)]
  have HF:Hid (Below w.heap.size w w1):=HE1.out.below;rw[r];clear r k0 HE1;go_wp2
  go_ret
  exact⟨ret_int HR.out.symm,HF.out⟩
 have r:szQ (left) (nY)=left-((nY:Nat):Int):=by rw[HZ.out,if_neg k0]
 rw[r];clear r;have q0:¬ (left-((nY:Nat):Int)<0):=by omega
 have z0:0≤left-((nY:Nat):Int):=by omega
 have zz0:left-((nY:Nat):Int)≤1048576:=by omega
 generalize el0:left-((nY:Nat):Int)=l0 at *;have HQ0:Hid (left-((nY:Nat):Int)=l0):=el0;clear el0;have HR:Hid (szQ left (nY)=l0):=by show _=_;rw[HZ.out];have:=HQ0.out;rw[if_neg (by omega)];omega
 have HF:Hid (Below w.heap.size w w1):=HE1.out.below;clear HE1;go_wp2
 go_ret
 exact⟨ret_int HR.out.symm,HF.out⟩
set_option maxRecDepth 100000 in
set_option maxHeartbeats 1000000 in
theorem mkOp_any (a:Option Addr) (n c:Nat) (kind now N k:Int) (w:World) (ho:Open w a n) (hk:0≤k) (hk':k+n≤1099511627776) :
  Calls Tryz.prog 17 #[.agg #[.int .i64 kind,.slice a n c,.int .i64 now,.int .i64 N],.int .i64 k] w fun e w'=>e=.returned (.int .i64 (k+n))∧w.heap.size≤w'.heap.size∧w'.os=w.os∧w'.tape=w.tape∧w'.output=w.output∧∀ j,j<w.heap.size→NotIn j a→w'.heap[j]?=w.heap[j]?:=by
 have b1:Below w.heap.size w (w.alloc (.cells #[.int .i64 kind,.slice a n c,.int .i64 now,.int .i64 N] 39)):=(Below.refl _ _).alloc (Nat.le_refl _) _;have HC:=markB_any a n c k _ (ho.below b1) hk hk';have HB1:Hid (Below w.heap.size w (w.alloc (.cells #[.int .i64 kind,.slice a n c,.int .i64 now,.int .i64 N] 39))):=b1;clear ho b1;go_enter Tryz.func17,Tryz.ntmps17;go_wp2_with fail;refine HC.mono ?_;rintro e w2 ⟨rfl,-,hw⟩;have HF:Hid (w.heap.size≤w2.heap.size∧w2.os=w.os∧w2.tape=w.tape∧w2.output=w.output∧∀ j,j<w.heap.size→NotIn j a→w2.heap[j]?=w.heap[j]?):=
  ⟨by rw[hw.size];exact HB1.out.size,hw.os.trans HB1.out.os,hw.tape.trans HB1.out.tape,hw.output.trans HB1.out.output,fun j hj hn=>(hw.block j (fun ad e=>hn ad e)).trans (HB1.out.block j hj)⟩
 clear hw HC HB1;go_wp2
 go_ret
 exact⟨rfl,HF.out⟩
theorem withS_ser (xs:List Int) (a:Nat):SerP (withS xs a):=upTo_ser _
open Classical in
noncomputable def apF (D U:List Int) (k:Int) (T:List Int) (n:Nat) (kind:Int) (a b:Nat):ApR:=if stB D U k T n=true then apR D U k T n kind a b else apNo
theorem stP_of {D U:List Int} {k:Int} {T:List Int} {n:Nat} (h:stB D U k T n=true):StP D U k T n:=by
 unfold stB at h;simpa using h
theorem IO.sat {B:Nat} {w:World} {a:Option Addr} {n c:Nat} {xs:List Int} (h:IO B w (.slice a n c) xs):SAt w a xs∧xs.length=n∧Lies B w a:=by
 rcases h.2 with⟨h',h0⟩|⟨g,cap,cur,h',hb,hh,hc,hm,hs,ht⟩
 ·cases h';have:xs=[]:=List.eq_nil_of_length_eq_zero h0;exact⟨.inl this,h0,fun _ e=>(by cases e)⟩
 ·cases h';have hlt:=(Array.getElem?_eq_some_iff.1 hh).1;refine⟨.inr ⟨g,0,rfl,hlt,fun i hi=>?_⟩,rfl,fun ad e=>(by cases e;exact⟨hb,hlt⟩)⟩;rw[Nat.zero_add];refine⟨?_,frozen_of_row _ _ _ _ _ hh⟩;have:=World.ownsRow.cellAt h i (by omega);rw[this];simp[hi]
theorem TapV.sat {B:Nat} {w:World} {a:Option Addr} {n c:Nat} {T:List Int} (h:TapV B w (.slice a n c) T n):SAt w a T∧T.length=n*2∧Lies B w a:=by
 obtain⟨hl,⟨h1,h2⟩|⟨t,o,c',h1,hB,ht,hc,hm,hx⟩⟩:=h
 ·cases h1;exact⟨.inl (List.eq_nil_of_length_eq_zero (by omega)),hl,fun _ e=>(by cases e)⟩
 ·cases h1;exact⟨.inr ⟨t,o,rfl,ht,fun i hi=>hx.1 i (by omega)⟩,hl,fun ad e=>(by cases e;exact⟨hB,ht⟩)⟩
structure IX (w:World) (fr:Array Value) (wr:World):Prop where
 below:Below w.heap.size w wr
 fb:wr.heap[w.heap.size+1]?=some (.cells fr 56 (0,0))
 rb:wr.heap[w.heap.size+2]?=some (.cells #[.bool false,.slice none 0 0,.slice none 0 0,.int .i64 0,.slice none 0 0] 60 (0,0))
theorem IX.start (w:World) (sc fr:Array Value):IX w fr (((w.alloc (.cells sc 33)).alloc (.cells fr 56)).alloc (.cells #[.bool false,.slice none 0 0,.slice none 0 0,.int .i64 0,.slice none 0 0] 60)):=by
 refine⟨(((Below.refl _ _).alloc (Nat.le_refl _) _).alloc (by simp) _).alloc (by simp;omega) _,?_,?_⟩
 ·rw[Below.heap_alloc _ _ (w.heap.size+1) (by simp)];have:=heap_alloc_new (w.alloc (.cells sc 33)) (.cells fr 56)
  rwa [show(w.alloc (.cells sc 33)).heap.size=w.heap.size+1 by simp] at this
 ·have:=heap_alloc_new ((w.alloc (.cells sc 33)).alloc (.cells fr 56)) (.cells #[.bool false,.slice none 0 0,.slice none 0 0,.int .i64 0,.slice none 0 0] 60)
  rwa [show((w.alloc (.cells sc 33)).alloc (.cells fr 56)).heap.size=w.heap.size+2 by simp] at this
theorem run_appG0 (tS tE:TypeId) (z:Value) (size bytes:Nat) (hinfo:(Tryz.prog.info? tE).map (fun i=>(i.zero,i.size,i.bytes))=some (some z,size,bytes)) (hu:Tryz.prog.underlying tS=some (.slice tE))
  (w:World) (ty:TypeId) (v:Addr) (x:Option Addr) (c:Nat):(Builtin.append_ #[tS,tS] ty #[.slice (some v) 0 0,.slice x 0 c]).run Tryz.prog w=.ok (.slice (some v) 0 0) w:=by
 obtain⟨i0,hi,hz0,hz1,hz2⟩:=info_parts hinfo;have hf:=fun ad=>run_firstCells_some (P:=Tryz.prog) w i0.size 0 ad 0 c [] (by simp) (fun j v hv=>by simp at hv)
 have hs:∀ p,(storeCells p []).run Tryz.prog w=.ok () w:=fun _=>rfl
 cases x with
 |none=>simp[Builtin.append_,run_underlying hu,sizeOf,typeInfo,zeroValue,hi,hz0,Builtin.lenOf,run_firstCells_none,hs]
 |some ad=>simp[Builtin.append_,run_underlying hu,sizeOf,typeInfo,zeroValue,hi,hz0,Builtin.lenOf,hf,hs]
def EmS (lo:Nat) (tE:TypeId) (w:World) (v:Value):Prop:=∃ g,v=.slice (some ⟨g,0,none⟩) 0 0∧lo≤g∧w.heap[g]?=some (.cells #[] tE (0,0))
theorem EmS.below {lo:Nat} {tE:TypeId} {w w':World} {v:Value} (h:EmS lo tE w v) (b:Below w.heap.size w w'):EmS lo tE w' v:=by
 obtain⟨g,e,h1,h2⟩:=h;exact⟨g,e,h1,by rw[b.block g (Array.getElem?_eq_some_iff.1 h2).1];exact h2⟩
theorem EmS.wr {lo R:Nat} {tE:TypeId} {w w':World} {v:Value} (h:EmS lo tE w v) (hw:Wr R w w') (hR:R<lo):EmS lo tE w' v:=by
 obtain⟨g,e,h1,h2⟩:=h;exact⟨g,e,h1,by rw[hw.block g (by omega)];exact h2⟩
theorem EmS.new {lo:Nat} (tE:TypeId) (w:World) (h:lo≤w.heap.size):EmS lo tE (w.alloc (.cells #[] tE)) (.slice (some ⟨w.heap.size,0,none⟩) 0 0):=⟨_,rfl,h,heap_alloc_new w _⟩
theorem EmS.owns {lo:Nat} {tE:TypeId} {w:World} {g:Nat} (size:Nat) (h1:lo≤g) (h2:w.heap[g]?=some (.cells #[] tE (0,0))):w.ownsRow lo tE size (.slice (some ⟨g,0,none⟩) 0 0) 0 []:=
 ⟨by simp,.inr ⟨g,0,#[],rfl,h1,h2,Nat.le_refl _,by simp[maxLen],by simp,by simp⟩⟩
theorem wp_appG (tS tE:TypeId) (z:Value) (size bytes:Nat) (hinfo:(Tryz.prog.info? tE).map (fun i=>(i.zero,i.size,i.bytes))=some (some z,size,bytes)) (hu:Tryz.prog.underlying tS=some (.slice tE)) (hzs:z.cells.size=size) (hsz:0<size) (hby:bytes≤64)
  (w:World) {o:Oper} {a:Act} {K:Act→World→Prop} {Q:Exit→Act→World→Prop} (s x:Operand) (hop:o.op=Op.call { callee:=Callee.builtin Builtin.append,args:=#[s,x],argTypes:=#[tS,tS] })
  (S:Nat) (v:Value) (hs:a.eval s=v) (hem:EmS S tE w v) (xa:Option Addr) (n c:Nat) (zs:List Int) (hx:a.eval x=.slice xa n c) (hl:zs.length=n*size) (hA:At .i64 w xa zs) (hb:n≤1048576) (hSw:S≤w.heap.size)
  (h:∀ v' w',w'.ownsRow S tE size v' n (zs.map (Value.int .i64))→Below w.heap.size w w'→K (a.put o.dst v') w'):o.wp Tryz.prog a w K Q:=by
 obtain⟨B,rfl,hB,hrow⟩:=hem;have hown:=EmS.owns size hB hrow;by_cases h0:n=0
 ·subst h0;have hz:zs=[]:=List.eq_nil_of_length_eq_zero (by omega);have hk:=h (.slice (some ⟨B,0,none⟩) 0 0) w (by rw[hz];exact hown) (Below.refl _ _);have hr:=run_appG0 tS tE z size bytes hinfo hu w o.type ⟨B,0,none⟩ xa c;unfold Oper.wp execOp;simp only[hop,resolve,invoke,builtin,Sem.run_bind,Sem.run_pure,Result.andThen_ok,List.map_toArray,List.map_cons,List.map_nil,hs,hx,hr];exact hk
 ·have hz0':0<zs.length:=by rw[hl];exact Nat.mul_pos (by omega) hsz
  obtain⟨b,off,rfl,hbl,hc⟩:=hA.get hz0';obtain⟨i0,hi,hz0,hz1,hz2⟩:=info_parts hinfo;have hnews:∀ j u,(zs.map (Value.int .i64))[j]?=some u→w.cell? ((⟨b,off,none⟩:Addr).add j)=some u:=by
   intro j u hu;have hj:j<zs.length:=by have:=(List.getElem?_eq_some_iff.1 hu).1;simpa using this
   rw[Addr.add_lit,hc j hj];simp[hj] at hu;simp[hj,hu]
  have hle:n*bytes≤1048576*64:=Nat.mul_le_mul hb hby;have hfit:Builtin.nextslicecap (0+n) 0*i0.bytes≤281474976710656:=by rw[Nat.zero_add,nextslicecap_zero (by omega),hz2];omega
  have hg:=run_append_grow (P:=Tryz.prog) w tS o.type tE i0 z hu hi hz0 ⟨B,0,none⟩ 0 0 [] (by simp) (fun j v hv=>by simp at hv) ⟨b,off,none⟩ n c (zs.map (Value.int .i64)) (by simp[hz1,hl]) hnews (by omega) (by omega) hfit;obtain⟨v',w',hr,h2,h3,h4⟩:=run_append_own (P:=Tryz.prog) w S tS o.type tE i0 z size bytes hu hi hz0 hz1 hz2 hzs hsz _ 0 [] hown ⟨b,off,none⟩ n c (zs.map (Value.int .i64)) (by simp[hl]) hnews (ints_oneCell _ _) (by unfold maxLen;omega) (by rw[Nat.zero_add];omega) hSw;have he:=hr.symm.trans hg;injection he with e1 e2
  have hBl:Below w.heap.size w w':=by rw[e2];exact(Below.refl _ _).drew.alloc (Nat.le_refl _) _
  have hk:=h v' w' (by simpa using h2) hBl;unfold Oper.wp execOp;simp only[hop,resolve,invoke,builtin,Sem.run_bind,Sem.run_pure,Result.andThen_ok,List.map_toArray,List.map_cons,List.map_nil,hs,hx,hr];exact hk
theorem wpList_appG (tS tE:TypeId) (z:Value) (size bytes:Nat) (hinfo:(Tryz.prog.info? tE).map (fun i=>(i.zero,i.size,i.bytes))=some (some z,size,bytes)) (hu:Tryz.prog.underlying tS=some (.slice tE)) (hzs:z.cells.size=size) (hsz:0<size) (hby:bytes≤64)
  (w:World) {ops:Array Oper} {rest:List Oper} {o:Oper} {a:Act} {Q:Exit→Act→World→Prop} (hgd:o.guard=none) (s x:Operand) (hop:o.op=Op.call { callee:=Callee.builtin Builtin.append,args:=#[s,x],argTypes:=#[tS,tS] })
  (S:Nat) (v:Value) (hs:a.eval s=v) (hem:EmS S tE w v) (xa:Option Addr) (n c:Nat) (zs:List Int) (hx:a.eval x=.slice xa n c) (hl:zs.length=n*size) (hA:At .i64 w xa zs) (hb:n≤1048576) (hSw:S≤w.heap.size)
  (h:∀ v' w',w'.ownsRow S tE size v' n (zs.map (Value.int .i64))→Below w.heap.size w w'→wpList Tryz.prog ops Q rest (a.put o.dst v') w'):wpList Tryz.prog ops Q (o::rest) a w:=
 wpList_plain hgd fun _ hK=>wp_appG tS tE z size bytes hinfo hu hzs hsz hby w s x hop S v hs hem xa n c zs hx hl hA hb hSw fun v' w' h1 h2=>hK _ _ (h v' w' h1 h2)
theorem TapO.keep {B:Nat} {w w':World} {v:Value} {T:List Int} {n:Nat} (h:TapO B w v T n) (hb:∀ k,B≤k→k<w.heap.size→w'.heap[k]?=w.heap[k]?):TapO B w' v T n:=by
 refine⟨h.1,?_⟩;rcases h.2 with h'|⟨g,c,cur,h1,h2,h3,h4⟩
 ·exact .inl h'
 ·exact .inr ⟨g,c,cur,h1,h2,by rw[hb g h2 (Array.getElem?_eq_some_iff.1 h3).1];exact h3,h4⟩
theorem TapO.below {B:Nat} {w w':World} {v:Value} {T:List Int} {n:Nat} (h:TapO B w v T n) (b:Below w.heap.size w w'):TapO B w' v T n:=h.keep (fun k _ hk=>b.block k hk)
theorem TapO.wrk {B R:Nat} {w w':World} {v:Value} {T:List Int} {n:Nat} (h:TapO B w v T n) (hw:Wr R w w') (hR:R<B):TapO B w' v T n:=h.keep (fun k hk _=>hw.block k (by omega))
theorem TapO.wr {B R:Nat} {w w':World} {v:Value} {T:List Int} {n:Nat} (h:TapO B w v T n) (hw:Wr R w w') (hR:R<B):TapO B w' v T n:=h.wrk hw hR
def CpFin (lo:Nat) (k:Int) (D U T:List Int) (nT:Nat) (w:World) (cs:Array Value):Prop:=
 ∃ aD nD cD aU nU cU aT cT,cs=#[.slice aD nD cD,.slice aU nU cU,.int .i64 k,.slice aT nT cT]∧IO lo w (.slice aD nD cD) D∧IO lo w (.slice aU nU cU) U∧TapO lo w (.slice aT nT cT) T nT
section
variable {lo lo' R:Nat} {k:Int} {D U T:List Int} {nT:Nat} {w w':World} {cs:Array Value} {v:Value}
theorem CpFin.below (h:CpFin lo k D U T nT w cs) (b:Below w.heap.size w w'):CpFin lo k D U T nT w' cs:=by
 obtain⟨aD,nD,cD,aU,nU,cU,aT,cT,e,h1,h2,h3⟩:=h;exact⟨aD,nD,cD,aU,nU,cU,aT,cT,e,h1.below b,h2.below b,h3.below b⟩
theorem CpFin.mono (h:CpFin lo k D U T nT w cs) (hl:lo'≤lo):CpFin lo' k D U T nT w cs:=by
 obtain⟨aD,nD,cD,aU,nU,cU,aT,cT,e,h1,h2,h3⟩:=h;exact⟨aD,nD,cD,aU,nU,cU,aT,cT,e,h1.mono hl,h2.mono hl,TapO.mono h3 hl⟩
def CpBd (lo:Nat) (k:Int) (D U T:List Int) (nT:Nat) (w:World) (v:Value):Prop:=∃ cs,v=.agg cs∧CpFin lo k D U T nT w cs
theorem CpBd.below (h:CpBd lo k D U T nT w v) (b:Below w.heap.size w w'):CpBd lo k D U T nT w' v:=by obtain⟨cs,e,h⟩:=h;exact⟨cs,e,h.below b⟩
theorem CpBd.wr (h:CpBd lo k D U T nT w v) (hw:Wr R w w') (hR:R<lo):CpBd lo k D U T nT w' v:=by
 obtain⟨cs,e,aD,nD,cD,aU,nU,cU,aT,cT,e2,h1,h2,h3⟩:=h;exact⟨cs,e,aD,nD,cD,aU,nU,cU,aT,cT,e2,h1.wr hw hR,h2.wr hw hR,h3.wr hw hR⟩
end
structure WBF (w wb:World) (sc:Array Value):Prop where
 p1:w.heap.size<wb.heap.size
 p2:wb.heap[w.heap.size]?=some (.cells sc 33 (0,0))
 p3:w.heap.size≤wb.heap.size
 p4:wb.heap.size≤w.heap.size+1
set_option maxRecDepth 100000 in
set_option maxHeartbeats 4000000 in
theorem l5c_any (aD aU aT:Option Addr) (nD cD nU cU nT cT:Nat) (D U:List Int) (k:Int) (T:List Int) (w:World) (hD:D.length=nD) (hU:U.length=nU) (hT:T.length=nT*2) (mD:nD≤1048576) (mU:nU≤1048576) (mT:nT≤1048576)
  (haD:At .i64 w aD D) (haU:At .i64 w aU U) (haT:At .i64 w aT T) :
  Calls Tryz.prog 24 #[.agg #[.slice aD nD cD,.slice aU nU cU,.int .i64 k,.slice aT nT cT]] w fun e w'=>∃ cs,e=.returned (.agg cs)∧CpFin w.heap.size k D U T nT w' cs∧Below w.heap.size w w':=by
 obtain⟨wb,hwb⟩:∃ wb,wb=w.alloc (.cells #[.slice aD nD cD,.slice aU nU cU,.int .i64 k,.slice aT nT cT] 33):=⟨_,rfl⟩
 have HWB:Hid (WBF w wb #[.slice aD nD cD,.slice aU nU cU,.int .i64 k,.slice aT nT cT]):=⟨by rw[hwb];simp,by rw[hwb];exact heap_alloc_new w _,by rw[hwb];simp,by rw[hwb];simp⟩
 have HBW:Hid (Below w.heap.size w wb):=by show Below _ _ _;rw[hwb];exact(Below.refl _ _).alloc (Nat.le_refl _) _
 have HAD:Hid (At .i64 w aD D):=haD;have HAU:Hid (At .i64 w aU U):=haU;have HAT:Hid (At .i64 w aT T):=haT;have HLN:Hid (D.length=nD∧U.length=nU∧T.length=nT*2):=⟨hD,hU,hT⟩
 have HSZ:Hid ((Tryz.prog.info? 33).map (·.size)=some 4):=by show _=_;kernel_rfl
 have HW0:Hid (Below wb.heap.size wb ((w.alloc (.cells #[.slice aD nD cD,.slice aU nU cU,.int .i64 k,.slice aT nT cT] 33)).alloc (.cells #[.slice none 0 0,.slice none 0 0,.int .i64 0,.slice none 0 0] 33)).drew):=by
  have h1:Below wb.heap.size wb (wb.alloc (.cells #[.slice none 0 0,.slice none 0 0,.int .i64 0,.slice none 0 0] 33)):=(Below.refl _ _).alloc (Nat.le_refl _) _;rw[hwb] at h1 ⊢;exact⟨h1.os,h1.tape,h1.output,h1.size,h1.block⟩
 have HR0:Hid (((w.alloc (.cells #[.slice aD nD cD,.slice aU nU cU,.int .i64 k,.slice aT nT cT] 33)).alloc (.cells #[.slice none 0 0,.slice none 0 0,.int .i64 0,.slice none 0 0] 33)).drew.heap[w.heap.size+1]?=some (.cells #[.slice none 0 0,.slice none 0 0,.int .i64 0,.slice none 0 0] 33 (0,0))):=by
  have:=heap_alloc_new (w.alloc (.cells #[.slice aD nD cD,.slice aU nU cU,.int .i64 k,.slice aT nT cT] 33)) (.cells #[.slice none 0 0,.slice none 0 0,.int .i64 0,.slice none 0 0] 33)
  rwa [show(w.alloc (.cells #[.slice aD nD cD,.slice aU nU cU,.int .i64 k,.slice aT nT cT] 33)).heap.size=w.heap.size+1 by simp] at this
 clear haD haU haT hD hU hT hwb;go_enter Tryz.func24,Tryz.ntmps24;go_wp2_with fail;refine wp_region_any (by kernel_rfl) ?_;refine wpAny_slotsU (fun i a b=>if i=15 then Wr (w.heap.size+1) a b else Below a.heap.size a b) (frame:=(fun (a b c:Value)=>fun (t:Nat→Value)=>({ tmps:=List.toArray [a,b,c,t 0,t 1,t 2,t 3,t 4,t 5,t 6,t 7,t 8,t 9,t 10,t 11,t 12,t 13,t 14],defers:=[] }:Act)) _ _ _)
  (Ext:=fun L u w'=>ApS wb (w.heap.size+1) 15 33 #[.slice none 0 0,.slice none 0 0,.int .i64 0,.slice none 0 0] (CpFin (w.heap.size+2) k D U T nT) [] L u w') (Good:=fun i L w' v=>if i=0 then EmS (w.heap.size+2) 2 w' v else if i=1 then v=.pointer (some ⟨w.heap.size,0,none⟩) else if i=2 then v=.slice aD nD cD else if i=3 then IO (w.heap.size+2) w' v D else if i=4 then EmS (w.heap.size+2) 2 w' v else if i=5 then v=.pointer (some ⟨w.heap.size,1,none⟩) else if i=6 then v=.slice aU nU cU else if i=7 then IO (w.heap.size+2) w' v U else if i=8 then v=.pointer (some ⟨w.heap.size,2,none⟩) else if i=9 then v=.int .i64 k else if i=10 then EmS (w.heap.size+2) 77 w' v else if i=11 then v=.pointer (some ⟨w.heap.size,3,none⟩) else if i=12 then v=.slice aT nT cT else if i=13 then TapO (w.heap.size+2) w' v T nT else if i=14 then CpBd (w.heap.size+2) k D U T nT w' v else if i=15 then L 15=true else True) ?hstab (by kernel_rfl) ?hop ?hdone _ _ ((fun (x0 x1 x2 x3 x4 x5 x6 x7 x8 x9 x10 x11 x12 x13 x14:Value)=>fun (i:Nat)=>if i=0 then x0 else if i=1 then x1 else if i=2 then x2 else if i=3 then x3 else if i=4 then x4 else if i=5 then x5 else if i=6 then x6 else if i=7 then x7 else if i=8 then x8 else if i=9 then x9 else if i=10 then x10 else if i=11 then x11 else if i=12 then x12 else if i=13 then x13 else if i=14 then x14 else undef) _ _ _ _ _ _ _ _ _ _ _ _ _ _ _) _ (by simp) ?ext ?start (by simp)
 case start=>intro i hi h;exact absurd h (by rw[Array.getD_eq_getD_getElem?,Array.getElem?_replicate];split<;>simp)
 case ext=>exact ApS.start ⟨HW0.out,fun p _ hp=>absurd hp (by rw[Array.getD_eq_getD_getElem?,Array.getElem?_replicate];split<;>simp),fun p _ q _ _ hp=>absurd hp (by rw[Array.getD_eq_getD_getElem?,Array.getElem?_replicate];split<;>simp)⟩ (fun i=>by rw[Array.getD_eq_getD_getElem?,Array.getElem?_replicate];split<;>rfl) HR0.out
 case hstab=>
  intro j L w9 w' i v hM hij hLi h;by_cases h0:j=0
  ·subst h0;by_cases hl:i=15
   ·subst hl;simp at h hM ⊢;exact h.wr hM (by omega)
   ·rw[if_neg hl] at hM;simp at h ⊢;exact h.below hM
  by_cases h3:j=3
  ·subst h3;by_cases hl:i=15
   ·subst hl;simp at h hM ⊢;exact h.wr hM (by omega)
   ·rw[if_neg hl] at hM;simp at h ⊢;exact h.below hM
  by_cases h4:j=4
  ·subst h4;by_cases hl:i=15
   ·subst hl;simp at h hM ⊢;exact h.wr hM (by omega)
   ·rw[if_neg hl] at hM;simp at h ⊢;exact h.below hM
  by_cases h7:j=7
  ·subst h7;by_cases hl:i=15
   ·subst hl;simp at h hM ⊢;exact h.wr hM (by omega)
   ·rw[if_neg hl] at hM;simp at h ⊢;exact h.below hM
  by_cases h10:j=10
  ·subst h10;by_cases hl:i=15
   ·subst hl;simp at h hM ⊢;exact h.wr hM (by omega)
   ·rw[if_neg hl] at hM;simp at h ⊢;exact h.below hM
  by_cases h13:j=13
  ·subst h13;by_cases hl:i=15
   ·subst hl;simp at h hM ⊢;exact h.wr hM (by omega)
   ·rw[if_neg hl] at hM;simp at h ⊢;exact h.below hM
  by_cases h14:j=14
  ·subst h14;by_cases hl:i=15
   ·subst hl;simp at h hM ⊢;exact h.wr hM (by omega)
   ·rw[if_neg hl] at hM;simp at h ⊢;exact h.below hM
  by_cases hl:j=15
  ·subst hl;simp at h ⊢;unfold updK;simp[h]
  simp only[if_neg h0,if_neg h3,if_neg h4,if_neg h7,if_neg h10,if_neg h13,if_neg h14,if_neg hl] at h ⊢;exact h
 case hop=>
  intro i o L t w' ho hLi hx hdep K hK;have hi:i<16:=(Array.getElem?_eq_some_iff.1 ho).1;obtain rfl|rfl|rfl|rfl|rfl|rfl|rfl|rfl|rfl|rfl|rfl|rfl|rfl|rfl|rfl|rfl:i=0∨i=1∨i=2∨i=3∨i=4∨i=5∨i=6∨i=7∨i=8∨i=9∨i=10∨i=11∨i=12∨i=13∨i=14∨i=15:=by omega
  all_goals(simp at ho;subst ho)
  ·clear hdep;have hsz:w.heap.size+2≤w'.heap.size:=by have:=hx.lt;omega
   have bb:Below w'.heap.size w' (w'.alloc (.cells #[] 2)):=(Below.refl _ _).alloc (Nat.le_refl _) _;have hK':=hK (w'.alloc (.cells #[] 2)) (.slice (some ⟨w'.heap.size,0,none⟩) 0 0) (by simpa using EmS.new 2 w' hsz) (hx.step (fun _ _ _ b h=>h.below b) 0 (by decide) _ bb (fun h=>absurd h (by decide))) (by rw[if_neg (by decide)];exact bb);clear hK bb;rw[if_pos (by rfl)];go_simp;simpa[upd] using hK'
  ·clear hdep;have hK':=hK w' (.pointer (some ⟨w.heap.size,0,none⟩)) (by simp) (hx.step (fun _ _ _ b h=>h.below b) 1 (by decide) _ (Below.refl _ _) (fun h=>absurd h (by decide))) (by rw[if_neg (by decide)];exact(Below.refl _ _));clear hK;rw[if_pos (by rfl)];go_simp;simpa[upd] using hK'
  ·have d1:t 1=.pointer (some ⟨w.heap.size,0,none⟩):=by simpa using(hdep ⟨1,.data⟩ (by simp) rfl).2
   clear hdep;have cc:w'.cell? ⟨w.heap.size,0,none⟩=some (.slice aD nD cD):=by rw[World.cell?_of_block (a:=⟨w.heap.size,0,none⟩) (w:=wb) (hx.ax.below.block _ HWB.out.p1),cell_of_row wb w.heap.size 0 _ _ _ HWB.out.p2];rfl
   have hK':=hK w' (.slice aD nD cD) (by simp) (hx.step (fun _ _ _ b h=>h.below b) 2 (by decide) _ (Below.refl _ _) (fun h=>absurd h (by decide))) (by rw[if_neg (by decide)];exact(Below.refl _ _));clear hK;rw[if_pos (by rfl)];go_simp;simpa[upd,d1] using hK'
  ·have f0:EmS (w.heap.size+2) 2 w' (t 0):=by simpa using(hdep ⟨0,.data⟩ (by simp) rfl).2
   have d2:t 2=.slice aD nD cD:=by simpa using(hdep ⟨2,.data⟩ (by simp) rfl).2
   clear hdep;have hsz:w.heap.size+2≤w'.heap.size:=by have:=hx.lt;omega
   have bw:Below w.heap.size w w':=HBW.out.trans (hx.ax.below.mono HWB.out.p3);have hK':∀ ww v,IO (w.heap.size+2) ww v D→Below w'.heap.size w' ww→K _ ww:=fun ww v hv hb=>hK ww v (by simpa using hv) (hx.step (fun _ _ _ b h=>h.below b) 3 (by decide) _ hb (fun h=>absurd h (by decide))) (by rw[if_neg (by decide)];exact hb)
   clear hK;rw[if_pos (by rfl)];refine wp_appG 22 2 (.int .i64 0) 1 8 Tryz.infoI64 Tryz.underlying22 rfl (by decide) (by decide) w' (.tmp 3) (.tmp 5) rfl (w.heap.size+2) (t 0) rfl f0 aD nD cD D d2 (by rw[HLN.out.1,Nat.mul_one]) (HAD.out.below bw) mD hsz ?_;intro v' ww h1 h2;have hK2:=hK' ww v' (by unfold IO;rw[HLN.out.1];exact h1) h2;clear hK' h1 h2;simpa[upd,Act.put] using hK2
  ·clear hdep;have hsz:w.heap.size+2≤w'.heap.size:=by have:=hx.lt;omega
   have bb:Below w'.heap.size w' (w'.alloc (.cells #[] 2)):=(Below.refl _ _).alloc (Nat.le_refl _) _;have hK':=hK (w'.alloc (.cells #[] 2)) (.slice (some ⟨w'.heap.size,0,none⟩) 0 0) (by simpa using EmS.new 2 w' hsz) (hx.step (fun _ _ _ b h=>h.below b) 4 (by decide) _ bb (fun h=>absurd h (by decide))) (by rw[if_neg (by decide)];exact bb);clear hK bb;rw[if_pos (by rfl)];go_simp;simpa[upd] using hK'
  ·clear hdep;have hK':=hK w' (.pointer (some ⟨w.heap.size,1,none⟩)) (by simp) (hx.step (fun _ _ _ b h=>h.below b) 5 (by decide) _ (Below.refl _ _) (fun h=>absurd h (by decide))) (by rw[if_neg (by decide)];exact(Below.refl _ _));clear hK;rw[if_pos (by rfl)];go_simp;simpa[upd] using hK'
  ·have d5:t 5=.pointer (some ⟨w.heap.size,1,none⟩):=by simpa using(hdep ⟨5,.data⟩ (by simp) rfl).2
   clear hdep;have cc:w'.cell? ⟨w.heap.size,1,none⟩=some (.slice aU nU cU):=by rw[World.cell?_of_block (a:=⟨w.heap.size,1,none⟩) (w:=wb) (hx.ax.below.block _ HWB.out.p1),cell_of_row wb w.heap.size 1 _ _ _ HWB.out.p2];rfl
   have hK':=hK w' (.slice aU nU cU) (by simp) (hx.step (fun _ _ _ b h=>h.below b) 6 (by decide) _ (Below.refl _ _) (fun h=>absurd h (by decide))) (by rw[if_neg (by decide)];exact(Below.refl _ _));clear hK;rw[if_pos (by rfl)];go_simp;simpa[upd,d5] using hK'
  ·have f4:EmS (w.heap.size+2) 2 w' (t 4):=by simpa using(hdep ⟨4,.data⟩ (by simp) rfl).2
   have d6:t 6=.slice aU nU cU:=by simpa using(hdep ⟨6,.data⟩ (by simp) rfl).2
   clear hdep;have hsz:w.heap.size+2≤w'.heap.size:=by have:=hx.lt;omega
   have bw:Below w.heap.size w w':=HBW.out.trans (hx.ax.below.mono HWB.out.p3);have hK':∀ ww v,IO (w.heap.size+2) ww v U→Below w'.heap.size w' ww→K _ ww:=fun ww v hv hb=>hK ww v (by simpa using hv) (hx.step (fun _ _ _ b h=>h.below b) 7 (by decide) _ hb (fun h=>absurd h (by decide))) (by rw[if_neg (by decide)];exact hb)
   clear hK;rw[if_pos (by rfl)];refine wp_appG 22 2 (.int .i64 0) 1 8 Tryz.infoI64 Tryz.underlying22 rfl (by decide) (by decide) w' (.tmp 7) (.tmp 9) rfl (w.heap.size+2) (t 4) rfl f4 aU nU cU U d6 (by rw[HLN.out.2.1,Nat.mul_one]) (HAU.out.below bw) mU hsz ?_;intro v' ww h1 h2;have hK2:=hK' ww v' (by unfold IO;rw[HLN.out.2.1];exact h1) h2;clear hK' h1 h2;simpa[upd,Act.put] using hK2
  ·clear hdep;have hK':=hK w' (.pointer (some ⟨w.heap.size,2,none⟩)) (by simp) (hx.step (fun _ _ _ b h=>h.below b) 8 (by decide) _ (Below.refl _ _) (fun h=>absurd h (by decide))) (by rw[if_neg (by decide)];exact(Below.refl _ _));clear hK;rw[if_pos (by rfl)];go_simp;simpa[upd] using hK'
  ·have d8:t 8=.pointer (some ⟨w.heap.size,2,none⟩):=by simpa using(hdep ⟨8,.data⟩ (by simp) rfl).2
   clear hdep;have cc:w'.cell? ⟨w.heap.size,2,none⟩=some (.int .i64 k):=by rw[World.cell?_of_block (a:=⟨w.heap.size,2,none⟩) (w:=wb) (hx.ax.below.block _ HWB.out.p1),cell_of_row wb w.heap.size 2 _ _ _ HWB.out.p2];rfl
   have hK':=hK w' (.int .i64 k) (by simp) (hx.step (fun _ _ _ b h=>h.below b) 9 (by decide) _ (Below.refl _ _) (fun h=>absurd h (by decide))) (by rw[if_neg (by decide)];exact(Below.refl _ _));clear hK;rw[if_pos (by rfl)];go_simp;simpa[upd,d8] using hK'
  ·clear hdep;have hsz:w.heap.size+2≤w'.heap.size:=by have:=hx.lt;omega
   have bb:Below w'.heap.size w' (w'.alloc (.cells #[] 77)):=(Below.refl _ _).alloc (Nat.le_refl _) _;have hK':=hK (w'.alloc (.cells #[] 77)) (.slice (some ⟨w'.heap.size,0,none⟩) 0 0) (by simpa using EmS.new 77 w' hsz) (hx.step (fun _ _ _ b h=>h.below b) 10 (by decide) _ bb (fun h=>absurd h (by decide))) (by rw[if_neg (by decide)];exact bb);clear hK bb;rw[if_pos (by rfl)];go_simp;simpa[upd] using hK'
  ·clear hdep;have hK':=hK w' (.pointer (some ⟨w.heap.size,3,none⟩)) (by simp) (hx.step (fun _ _ _ b h=>h.below b) 11 (by decide) _ (Below.refl _ _) (fun h=>absurd h (by decide))) (by rw[if_neg (by decide)];exact(Below.refl _ _));clear hK;rw[if_pos (by rfl)];go_simp;simpa[upd] using hK'
  ·have d11:t 11=.pointer (some ⟨w.heap.size,3,none⟩):=by simpa using(hdep ⟨11,.data⟩ (by simp) rfl).2
   clear hdep;have cc:w'.cell? ⟨w.heap.size,3,none⟩=some (.slice aT nT cT):=by rw[World.cell?_of_block (a:=⟨w.heap.size,3,none⟩) (w:=wb) (hx.ax.below.block _ HWB.out.p1),cell_of_row wb w.heap.size 3 _ _ _ HWB.out.p2];rfl
   have hK':=hK w' (.slice aT nT cT) (by simp) (hx.step (fun _ _ _ b h=>h.below b) 12 (by decide) _ (Below.refl _ _) (fun h=>absurd h (by decide))) (by rw[if_neg (by decide)];exact(Below.refl _ _));clear hK;rw[if_pos (by rfl)];go_simp;simpa[upd,d11] using hK'
  ·have f10:EmS (w.heap.size+2) 77 w' (t 10):=by simpa using(hdep ⟨10,.data⟩ (by simp) rfl).2
   have d12:t 12=.slice aT nT cT:=by simpa using(hdep ⟨12,.data⟩ (by simp) rfl).2
   clear hdep;have hsz:w.heap.size+2≤w'.heap.size:=by have:=hx.lt;omega
   have bw:Below w.heap.size w w':=HBW.out.trans (hx.ax.below.mono HWB.out.p3);have hK':∀ ww v,TapO (w.heap.size+2) ww v T nT→Below w'.heap.size w' ww→K _ ww:=fun ww v hv hb=>hK ww v (by simpa using hv) (hx.step (fun _ _ _ b h=>h.below b) 13 (by decide) _ hb (fun h=>absurd h (by decide))) (by rw[if_neg (by decide)];exact hb)
   clear hK;rw[if_pos (by rfl)];refine wp_appG 31 77 (.agg #[.int .i64 0,.int .i64 0]) 2 16 Tryz.infoTap Tryz.underlying31 rfl (by decide) (by decide) w' (.tmp 13) (.tmp 15) rfl (w.heap.size+2) (t 10) rfl f10 aT nT cT T d12 HLN.out.2.2 (HAT.out.below bw) mT hsz ?_;intro v' ww h1 h2;have hK2:=hK' ww v' h1 h2;clear hK' h1 h2;simpa[upd,Act.put] using hK2
  ·have f3:IO (w.heap.size+2) w' (t 3) D:=by simpa using(hdep ⟨3,.data⟩ (by simp) rfl).2
   have f7:IO (w.heap.size+2) w' (t 7) U:=by simpa using(hdep ⟨7,.data⟩ (by simp) rfl).2
   have d9:t 9=.int .i64 k:=by simpa using(hdep ⟨9,.data⟩ (by simp) rfl).2
   have f13:TapO (w.heap.size+2) w' (t 13) T nT:=by simpa using(hdep ⟨13,.data⟩ (by simp) rfl).2
   clear hdep;obtain⟨aD',nD',cD',d3⟩:=f3.form;obtain⟨aU',nU',cU',d7⟩:=f7.form;obtain⟨aT',cT',d13⟩:=f13.tapV.slice;rw[d3] at f3;rw[d7] at f7;rw[d13] at f13;have hK':=hK w' (.agg #[.slice aD' nD' cD',.slice aU' nU' cU',.int .i64 k,.slice aT' nT cT']) (by simpa using⟨_,rfl,aD',nD',cD',aU',nU',cU',aT',cT',rfl,f3,f7,f13⟩) (hx.step (fun _ _ _ b h=>h.below b) 14 (by decide) _ (Below.refl _ _) (fun h=>absurd h (by decide))) (by rw[if_neg (by decide)];exact(Below.refl _ _));clear hK f3 f7 f13;rw[if_pos (by rfl)];go_simp;simpa[upd,d3,d7,d9,d13] using hK'
  ·have f14:CpBd (w.heap.size+2) k D U T nT w' (t 14):=by simpa using(hdep ⟨14,.data⟩ (by simp) rfl).2
   clear hdep;obtain⟨cs,e9,aD',nD',cD',aU',nU',cU',aT',cT',rfl,f3,f7,f13⟩:=f14;have hrs:=hx.pre hLi;have hK':∀ ww,Wr (w.heap.size+1) w' ww→ww.heap[w.heap.size+1]?=some (.cells #[.slice aD' nD' cD',.slice aU' nU' cU',.int .i64 k,.slice aT' nT cT'] 33 (0,0))→K _ ww:=fun ww hw hr=>hK ww undef (by simp[updK]) (hx.put HWB.out.p4 (by decide) _ hw hr ⟨aD',nD',cD',aU',nU',cU',aT',cT',rfl,f3.wr hw (by omega),f7.wr hw (by omega),f13.wrk hw (by omega)⟩) (by rw[if_pos rfl];exact hw)
   clear hK f3 f7 f13;rw[if_pos (by rfl)];refine wp_store_row 33 (.tmp 2) (.tmp 17) rfl (w.heap.size+1) _ rfl e9 33 _ hrs HSZ.out rfl (by simp[Value.oneCell']) ?_;have hK2:=hK' _ (Wr.setRow _ _ _) (setRow_heap _ _ _ _ _ _ hrs);clear hK';simpa[upd,Act.put] using hK2
 case hdone=>
  intro L t w' hx hg;have l15:L 15=true:=by simpa using hg 15 (by decide)
  clear hg;obtain⟨cs,hr,hfin⟩:=hx.fin l15;have HR9:Hid (w'.heap[w.heap.size+1]?=some (.cells cs 33 (0,0))):=hr;have HF:Hid (CpFin w.heap.size k D U T nT w' cs∧Below w.heap.size w w'):=⟨hfin.mono (by omega),HBW.out.trans (hx.ax.below.mono HWB.out.p3)⟩
  have HS4:Hid ((Tryz.prog.info? 33).map (·.size)=some cs.size):=by
   obtain⟨aD',nD',cD',aU',nU',cU',aT',cT',e,_⟩:=hfin;rw[e];exact HSZ.out
  clear hx hr hfin;go_wp2_with fail;exact bodyPost_ret (v:=.agg cs) (results_cell_row rfl _ _ (w.heap.size+1) 33 _ (0,0) _ rfl HR9.out Tryz.underlying33 rfl HS4.out) rfl ⟨cs,rfl,HF.out.1,HF.out.2⟩
def WPV (lo:Nat) (w:World) (v:Value) (r:ApR):Prop:=
 ∃ aD nD cD aU nU cU aT nT cT,v=.agg #[.bool r.ok,.slice aD nD cD,.slice aU nU cU,.int .i64 r.k,.slice aT nT cT]∧At .i64 w aD r.D∧At .i64 w aU r.U∧At .i64 w aT r.T∧r.D.length=nD∧r.U.length=nU∧r.T.length=nT*2∧Lies lo w aD∧Lies lo w aU∧Lies lo w aT∧nT≤cT∧cT≤9223372036854775807
theorem TapO.cap {B:Nat} {w:World} {a:Option Addr} {n c n':Nat} {T:List Int} (h:TapO B w (.slice a n c) T n'):n≤c∧c≤9223372036854775807:=by
 rcases h.2 with⟨h1,h2⟩|⟨g,c',cur,h1,_,_,h4,h5,_⟩
 ·cases h1;exact⟨Nat.le_refl _,by decide⟩
 ·cases h1;exact⟨h4,by unfold maxLen at h5;omega⟩
structure SX (w:World) (sc fr:Array Value) (wr:World):Prop where
 below:Below w.heap.size w wr
 sb:wr.heap[w.heap.size]?=some (.cells sc 33 (0,0))
 fb:wr.heap[w.heap.size+1]?=some (.cells fr 56 (0,0))
 rb:wr.heap[w.heap.size+2]?=some (.cells #[.bool false,.slice none 0 0,.slice none 0 0,.int .i64 0,.slice none 0 0] 60 (0,0))
theorem SX.keep {w wr w':World} {sc fr:Array Value} (h:SX w sc fr wr) (b:Below (w.heap.size+3) wr w'):SX w sc fr w':=
 ⟨h.below.trans (b.mono (by omega)),by rw[b.block _ (by omega)];exact h.sb,by rw[b.block _ (by omega)];exact h.fb,by rw[b.block _ (by omega)];exact h.rb⟩
theorem SX.lt {w wr:World} {sc fr:Array Value} (h:SX w sc fr wr):w.heap.size+3≤wr.heap.size:=(Array.getElem?_eq_some_iff.1 h.rb).1
theorem SX.call {w wr w':World} {sc fr:Array Value} (h:SX w sc fr wr) (b:Below wr.heap.size wr w'):SX w sc fr w':=h.keep (b.mono h.lt)
theorem SX.start (w:World) (sc fr:Array Value):SX w sc fr (((w.alloc (.cells sc 33)).alloc (.cells fr 56)).alloc (.cells #[.bool false,.slice none 0 0,.slice none 0 0,.int .i64 0,.slice none 0 0] 60)):=by
 have h:=IX.start w sc fr;refine⟨h.below,?_,h.fb,h.rb⟩;rw[Below.heap_alloc _ _ w.heap.size (by simp;omega),Below.heap_alloc _ _ w.heap.size (by simp)];exact heap_alloc_new w _
structure OX (w:World) (sc fr:Array Value) (O:Nat) (cs:Array Value) (wr:World):Prop where
 sx:SX w sc fr wr
 out:wr.heap[O]?=some (.cells cs 33 (0,0))
 hO:w.heap.size+3≤O
theorem OX.lt {w wr:World} {sc fr cs:Array Value} {O:Nat} (h:OX w sc fr O cs wr):O<wr.heap.size:=(Array.getElem?_eq_some_iff.1 h.out).1
theorem OX.call {w wr w':World} {sc fr cs:Array Value} {O:Nat} (h:OX w sc fr O cs wr) (b:Below wr.heap.size wr w'):OX w sc fr O cs w':=⟨h.sx.call b,by rw[b.block _ h.lt];exact h.out,h.hO⟩
theorem OX.put {w wr:World} {sc fr cs:Array Value} {O:Nat} (h:OX w sc fr O cs wr) (i:Nat) (v:Value):OX w sc fr O (cs.setIfInBounds i v) (wr.setCell ⟨O,i,none⟩ v):=by
 have hw:Wr O wr (wr.setCell ⟨O,i,none⟩ v):=(Wr.refl _ _).setCell _ _;exact⟨h.sx.keep (hw.below h.hO),heap_setCell_same _ _ _ _ _ _ h.out,h.hO⟩
def LK (lo O:Nat) (w:World) (a:Option Addr) (xs:List Int):Prop:=At .i64 w a xs∧∀ ad,a=some ad→lo≤ad.block∧ad.block≠O∧ad.block<w.heap.size
theorem LK.below {lo O:Nat} {w w':World} {a:Option Addr} {xs:List Int} (h:LK lo O w a xs) (b:Below w.heap.size w w'):LK lo O w' a xs:=⟨h.1.below b,fun ad e=>by have:=h.2 ad e;have:=b.size;omega⟩
theorem LK.wr {lo O:Nat} {w w':World} {a:Option Addr} {xs:List Int} (h:LK lo O w a xs) (hw:Wr O w w'):LK lo O w' a xs:=
 ⟨h.1.keepT (by rw[hw.size];exact Nat.le_refl _) (fun ad e _=>hw.block _ (h.2 ad e).2.1),fun ad e=>by rw[hw.size];exact h.2 ad e⟩
theorem LK.grown {lo O:Nat} {w w':World} {a:Option Addr} {xs:List Int} {row:Option Nat} (h:LK lo O w a xs) (hg:w.grownBy w' row) (hne:∀ ad,a=some ad→some ad.block≠row):LK lo O w' a xs:=
 ⟨h.1.keepT hg.size (fun ad e hl=>hg.block _ hl (hne ad e)),fun ad e=>by have:=h.2 ad e;have:=hg.size;omega⟩
theorem At.wrR {lo O R:Nat} {w w':World} {a:Option Addr} {xs:List Int} (h:At .i64 w a xs) (hw:Wr R w w') (h2:∀ ad,a=some ad→lo≤ad.block∧ad.block≠O∧ad.block<w.heap.size) (hR:R<lo:=by omega):At .i64 w' a xs:=
 h.keepT (by rw[hw.size];exact Nat.le_refl _) (fun ad e _=>hw.block _ (by have:=(h2 ad e).1;omega))
theorem IO.lk {lo O B:Nat} {w:World} {a:Option Addr} {n c:Nat} {xs:List Int} (h:IO B w (.slice a n c) xs) (hB:lo≤B) (hO:O<B∨w.heap.size≤O):LK lo O w a xs:=by
 obtain⟨h1,h2,h3⟩:=h.sat;exact⟨h1.at_,fun ad e=>by have:=h3 ad e;omega⟩
theorem TapO.lk {lo O B:Nat} {w:World} {a:Option Addr} {n c:Nat} {T:List Int} (h:TapO B w (.slice a n c) T n) (hB:lo≤B) (hO:O<B∨w.heap.size≤O):LK lo O w a T:=by
 obtain⟨h1,h2,h3⟩:=h.tapV.sat;exact⟨h1.at_,fun ad e=>by have:=h3 ad e;omega⟩
theorem io_tap {B B':Nat} {w:World} {a a':Option Addr} {n c n' c':Nat} {xs T:List Int} (h:IO B w (.slice a n c) xs) (h':TapO B' w (.slice a' n' c') T n'):∀ ad,a=some ad→some ad.block≠(Value.slice a' n' c').ownBlock:=by
 intro ad e he;rcases h.2 with⟨h1,_⟩|⟨g,cap,cur,h1,_,hh,_⟩
 ·cases h1;cases e
 ·cases h1;cases e;rcases h'.2 with⟨h2,_⟩|⟨g',cap',cur',h2,_,hh',_⟩
  ·cases h2;simp[Value.ownBlock] at he
  ·cases h2;simp[Value.ownBlock] at he;subst he;rw[hh] at hh';injection hh' with e1
   injection e1 with _ e2 _
   exact absurd e2 (by decide)
theorem apR_tap {D U:List Int} {k:Int} {T:List Int} {n a b:Nat} (h:a<256∧¬ (a:Int)∈U∧¬ (a:Int)∈D):apR D U k T n 1 a b=⟨true,D,withS U a,k,T++[(a:Int),(b:Int)],n+1⟩:=by unfold apR;rw[if_pos rfl,if_pos h]
theorem apR_tapNo {D U:List Int} {k:Int} {T:List Int} {n a b:Nat} (h:¬ (a<256∧¬ (a:Int)∈U∧¬ (a:Int)∈D)):apR D U k T n 1 a b=apNo:=by unfold apR;rw[if_pos rfl,if_neg h]
theorem apR_add {D U:List Int} {k:Int} {T:List Int} {n a:Nat} (h:a<256∧¬ (a:Int)∈D∧¬ D.length=16):apR D U k T n 2 a 1=⟨true,withS D a,U,k,T,n⟩:=by unfold apR;rw[if_neg (by decide),if_pos rfl,if_pos ⟨rfl,h⟩]
theorem apR_rem {D U:List Int} {k:Int} {T:List Int} {n a:Nat} (h:a<256∧(a:Int)∈D):apR D U k T n 2 a 0=⟨true,lessS D a,U,k,T,n⟩:=by unfold apR;rw[if_neg (by decide),if_pos rfl,if_neg (fun h=>by cases h.1),if_pos ⟨rfl,h⟩]
theorem apR_denyNo {D U:List Int} {k:Int} {T:List Int} {n a b:Nat} (h:¬ (b=1∧a<256∧¬ (a:Int)∈D∧¬ D.length=16)) (h':¬ (b=0∧a<256∧(a:Int)∈D)):apR D U k T n 2 a b=apNo:=by unfold apR;rw[if_neg (by decide),if_pos rfl,if_neg h,if_neg h']
theorem apR_ack {D U:List Int} {k:Int} {T:List Int} {n a:Nat} (h:(a:Int)≤k+n):apR D U k T n 3 a 0=⟨true,D,U,max a k,T.drop (ackM k a*2),n-ackM k a⟩:=by unfold apR;rw[if_neg (by decide),if_neg (by decide),if_pos rfl,if_pos ⟨rfl,h⟩]
theorem apR_ackNo {D U:List Int} {k:Int} {T:List Int} {n a b:Nat} (h:¬ (b=0∧(a:Int)≤k+n)):apR D U k T n 3 a b=apNo:=by unfold apR;rw[if_neg (by decide),if_neg (by decide),if_pos rfl,if_neg h]
theorem apR_other {D U:List Int} {k:Int} {T:List Int} {n a b:Nat} {kind:Int} (h1:¬ kind=1) (h2:¬ kind=2) (h3:¬ kind=3):apR D U k T n kind a b=apNo:=by unfold apR;rw[if_neg h1,if_neg h2,if_neg h3]
def RowC (w:World) (g C:Nat):Prop:=∃ cur:Array Value,w.heap[g]?=some (.cells cur 5 (0,0))∧cur.size=C
theorem wpList_appZ (w:World) {ops:Array Oper} {rest:List Oper} {o:Oper} {a:Act} {Q:Exit→Act→World→Prop} (hg:o.guard=none) (s x:Operand)
  (hop:o.op=Op.call { callee:=Callee.builtin Builtin.append,args:=#[s,x],argTypes:=#[26,3] }) (hs:a.eval s=.slice none 0 0) (n:Nat) (hx:a.eval x=.int .i64 n) (hn:0<n) (hb:n≤2097152)
  (hK:∀ C w',n≤C→C≤maxLen→RowC w' w.heap.size C→Below w.heap.size w w'→wpList Tryz.prog ops Q rest (a.put o.dst (.slice (some ⟨w.heap.size,0,none⟩) n C)) w') :
  wpList Tryz.prog ops Q (o::rest) a w:=by
 obtain⟨i0,hi,hz0,hz1,hz2⟩:=info_parts Tryz.infoU8';have hfit:Builtin.nextslicecap (0+n) 0*i0.bytes≤281474976710656:=by rw[Nat.zero_add,nextslicecap_zero (by omega),hz2];omega
 have hr:=Go.Lib.run_append_grow_zeros (P:=Tryz.prog) w 26 3 o.type 5 i0 (.int .u8 0) .i64 .i64 Tryz.underlying26 Tryz.underlying3 hi hz0 none 0 0 [] (by rfl) n hn (by omega) (by omega) (by omega) (by rw[hz2];omega) hfit;have hge:=grownCap_ge w (0+n) 0 5;have hle:=grownCap_le_maxLen w (0+n) 0 5 (by unfold maxLen;omega);rw[Nat.zero_add] at hr hge hle;generalize grownCap w n 0 5=C at hr hge hle;refine wpList_plain hg fun K hK'=>?_
 have hk:=hK' _ _ (hK C _ hge hle ⟨_,heap_alloc_new w.drew (.cells ((([]:List Value).toArray++Builtin.zeroCells (Value.int .u8 0).cells n)++Builtin.zeroCells (Value.int .u8 0).cells (C-n)) 5),by simp[Builtin.zeroCells,Value.cells];omega⟩ ((Below.refl _ _).drew.alloc (Nat.le_refl _) _));unfold Oper.wp execOp;simp only[hop,resolve,invoke,builtin,Sem.run_bind,Sem.run_pure,Result.andThen_ok,List.map_toArray,List.map_cons,List.map_nil,hs,hx,hr];exact hk
set_option maxRecDepth 100000 in
set_option maxHeartbeats 1000000 in
theorem grow_any (n:Nat) (w:World) (hn:0<n) (hb:n≤2097152) :
  Calls Tryz.prog 137 #[.slice none 0 0,.int .i64 n] w fun e w'=>∃ v,e=.returned v∧Own w' w.heap.size v []∧Below w.heap.size w w':=by
 have h0:¬ ((n:Int)<0):=by omega
 have h1:(n:Int)>0:=by omega
 go_enter Tryz.func137,Tryz.ntmps137;go_wp2_with (first
  |(refine wpList_appZ _ rfl (.tmp 20) (.tmp 21) rfl rfl n rfl hn hb ?_)
  |fail)
 intro C w1 hC hm hrow hb1;have HF:Hid (Own w1 w.heap.size (.slice (some ⟨w.heap.size,0,none⟩) 0 C) []):=by
  obtain⟨cur,h1,h2⟩:=hrow;exact⟨⟨by simp,.inr ⟨w.heap.size,C,cur,rfl,Nat.le_refl _,h1,by simp,hm,by rw[h2,Nat.mul_one],by simp⟩⟩,_,_,rfl⟩
 have HB:Hid (Below w.heap.size w w1):=hb1;have hC':(0:Int)≤C:=by omega
 have hm':C≤9223372036854775807:=by unfold maxLen at hm;omega
 clear hrow hb1 hm;go_wp2
 go_ret
 exact⟨_,rfl,HF.out,HB.out⟩
def tot (zss:List (List Int)) (k:Nat):Nat:=(zss.take k).flatten.length
theorem tot_succ (zss:List (List Int)) (k:Nat) (h:k<zss.length):tot zss (k+1)=tot zss k+(zss.getD k []).length:=by
 unfold tot;rw[flat_snoc zss k h,List.length_append]
set_option maxRecDepth 100000 in
set_option maxHeartbeats 2000000 in
theorem conc_any (p m cap:Nat) (vs:List Value) (zss:List (List Int)) (w:World) (hm:zss.length=m) (hp:p<w.heap.size) (hc:∀ i,i<m→w.cell? ⟨p,i,none⟩=some (vs.getD i undef))
  (hz:∀ i,i<m→Part w (vs.getD i undef) (zss.getD i [])) (ht:zss.flatten.length≤2097152) (h0:0<zss.flatten.length) (hm':m≤2097152) :
  Calls Tryz.prog 108 #[.slice (some ⟨p,0,none⟩) m cap] w fun e w'=>∃ v,e=.returned v∧Own w' w.heap.size v zss.flatten∧Below w.heap.size w w':=by
 have HM:Hid (zss.length=m):=hm;have HC:Hid (∀ i,i<m→w.cell? ⟨p,i,none⟩=some (vs.getD i undef)):=hc;have HZ:Hid (∀ i,i<m→Part w (vs.getD i undef) (zss.getD i [])):=hz;have HT:Hid (zss.flatten.length≤2097152∧0<zss.flatten.length):=⟨ht,h0⟩
 have HTA:Hid (tot zss m=zss.flatten.length):=by show _=_;unfold tot;rw[List.take_of_length_le (by omega)]
 clear hc hz ht h0 hm;go_enter Tryz.func108,Tryz.ntmps108;go_wp2_with fail
 go_loop [3,11] (fun q i=>∃ k:Nat,k≤m∧i=.int .i64 k∧q=.int .i64 (tot zss k)) (fun _ i=>m-(intOf i).toNat)
 case atStart=>exact⟨0,Nat.zero_le _,rfl,rfl⟩
 case round=>
  obtain⟨k,hk,rfl,rfl⟩:=hrel;by_cases hlt:k<m
  ·have hlt':(k:Int)<m:=by omega
   obtain⟨b,o,c,hv,hb,hcell⟩:=HZ.out k hlt;have hck:w.cell? ⟨p,k,none⟩=some (.slice (some ⟨b,o,none⟩) (zss.getD k []).length c):=by rw[HC.out k hlt,hv]
   have HS:Hid (tot zss (k+1)=tot zss k+(zss.getD k []).length):=tot_succ zss k (by have:=HM.out;omega);have hle:tot zss (k+1)≤2097152:=Nat.le_trans (flat_le zss (k+1)) HT.out.1;rw[HS.out] at hle;clear hcell hv hb;generalize (zss.getD k []).length=z at *;generalize tot zss k=y at *;have hn0:¬ ((y:Int)+z<0):=by omega
   go_wp2
   go_round
   case rel=>exact⟨k+1,by omega,by go_num,by rw[HS.out];go_num⟩
   case measure=>simp[intOf];omega
  ·have hke:k=m:=by omega
   subst hke;obtain⟨N,hN⟩:∃ N,tot zss k=N:=⟨_,rfl⟩
   have CG:=grow_any N w (by rw[←hN,HTA.out];exact HT.out.2) (by rw[←hN,HTA.out];exact HT.out.1);have hNb:N≤2097152:=by rw[←hN,HTA.out];exact HT.out.1
   rw[hN];clear hN HTA;have hlt':¬ ((k:Int)<k):=by omega
   go_wp2_with fail;refine CG.mono ?_;rintro e w1 ⟨v1,rfl,ho1,hb1⟩;have HO1:Hid (Own w1 w.heap.size v1 []):=ho1;have HB1:Hid (Below w.heap.size w w1):=hb1;clear ho1 hb1 hlt' CG;go_wp2_with fail
   go_loopw [6,27] (fun v i wr=>∃(j:Nat) (l:Value),j≤k∧i=.int .i64 j∧l=v∧Own wr w.heap.size l (zss.take j).flatten∧Below w.heap.size w wr) (fun _ i _=>k-(intOf i).toNat)
   case atStart=>exact⟨0,_,Nat.zero_le _,rfl,rfl,HO1.out,HB1.out⟩
   case round=>
    clear HO1 HB1;obtain⟨j,l,hj,rfl,rfl,hown,hbel⟩:=hrel;by_cases hlt:j<k
    ·have hsz:=hbel.size;obtain⟨b,o,c,hv,hb,hcell⟩:=HZ.out j hlt;have hck:wr.cell? ⟨p,j,none⟩=some (.slice (some ⟨b,o,none⟩) (zss.getD j []).length c):=by rw[hbel.cell (p:=⟨p,j,none⟩) hp,HC.out j hlt,hv]
     have HNW:Hid (∀ i,i<(zss.getD j []).length→wr.cell? ((⟨b,o,none⟩:Addr).add i)=some (.int .u8 ((zss.getD j []).getD i 0))):=by
      intro i hi;rw[Addr.add_lit,hbel.cell (p:=⟨b,o+i,none⟩) hb];exact hcell i hi
     have hfl:=flat_snoc zss j (by have:=HM.out;omega);have hle:=flat_le zss (j+1);have HL:Hid ((zss.take j).flatten.length+(zss.getD j []).length≤1099511627776):=by show _≤_;rw[hfl,List.length_append] at hle;have:=HT.out.1;omega
     have HFL:Hid ((zss.take (j+1)).flatten=(zss.take j).flatten++zss.getD j []):=hfl;have HOW:Hid (Own wr w.heap.size l (zss.take j).flatten):=hown;have HBE:Hid (Below w.heap.size w wr):=hbel;clear hcell hv hb hfl hle hown hbel;go_wp2_with (first
      |(at_builtin;refine wpList_app _ rfl (.tmp 31) (.tmp 32) rfl w.heap.size _ _ rfl HOW.out ⟨b,o,none⟩ _ c (zss.getD j []) rfl rfl HNW.out HL.out hsz ?_)
      |fail)
     intro v' w2 hown' hbel' _;have HO2:Hid (Own w2 w.heap.size v' (zss.take (j+1)).flatten):=by show Own _ _ _ _;rw[HFL.out];exact hown'
     have HB2:Hid (Below w.heap.size w w2):=HBE.out.trans hbel';clear hown' hbel' HOW HBE HNW;go_wp2;go_roundw
     case rel=>exact⟨j+1,_,by omega,by go_num,rfl,HO2.out,HB2.out⟩
     case measure=>simp[intOf];omega
    ·have hje:j=k:=by omega
     have hlt':¬ ((j:Int)<k):=by omega
     have HO2:Hid (Own wr w.heap.size l zss.flatten):=by
      have:zss.take j=zss:=List.take_of_length_le (by have:=HM.out;omega);rw[this] at hown;exact hown
     clear hown;go_wp2
     go_ret
     exact⟨_,rfl,HO2.out,hbel⟩
end Go.Proofs.YtjdhhgaelgemcaaGreatDoor
namespace Go.Proofs.YtjdhhgaelgemcaaGreatDoor
open Go.ChangeShapes Go.WideShapes Go.ChangeAt Go.RowKit Go.Joins
set_option linter.unusedVariables false
def bW:List Int:=[7378697629483820632,7378697629483820646,7378697629483820646,7378697629483820646]
theorem bW_val:val 18446744073709551616 bW=baseY:=by decide
theorem bW_wrd:Wrd bW:=by unfold Wrd bW;decide
set_option maxHeartbeats 400000 in
theorem ibas_any (w:World):Calls Tryz.prog 103 #[] w (CodePb w baseY):=by
 have HR:Hid (RowW (w.alloc (.cells #[.int .u64 0,.int .u64 0,.int .u64 0,.int .u64 0] 143)) w.heap.size 143 [0,0,0,0]):=heap_alloc_new w _;have HSZ:Hid ((Tryz.prog.info? 143).map (·.size)=some ((bW.map (Value.int .u64)).toArray).size):=sizeNum rfl;go_enter Tryz.func103,Tryz.ntmps103;go_wp2_with (first
  |(refine wpList_store_row rfl 143 (.tmp 1) (.tmp 2) rfl w.heap.size ((bW.map (Value.int .u64)).toArray) rfl rfl 143 _ HR.out HSZ.out rfl (all_oneCell_toArray (ints_oneCell _ _)) ?_)
  |fail)
 have R1:RowW ((w.alloc (.cells #[.int .u64 0,.int .u64 0,.int .u64 0,.int .u64 0] 143)).setRow w.heap.size (bW.map (Value.int .u64)).toArray) w.heap.size 143 bW:=HR.out.setRow bW;have B2:Below w.heap.size w ((w.alloc (.cells #[.int .u64 0,.int .u64 0,.int .u64 0,.int .u64 0] 143)).setRow w.heap.size (bW.map (Value.int .u64)).toArray):=(below_new2 _ _).trans ((Wr.setRow _ _ _).below (Nat.le_refl _));clear HR HSZ;generalize (w.alloc (.cells #[.int .u64 0,.int .u64 0,.int .u64 0,.int .u64 0] 143)).setRow w.heap.size (bW.map (Value.int .u64)).toArray=w2 at *;refine(text_any _ bW _ rfl R1 bW_wrd).mono ?_;rintro e w3 ⟨bs,hbl,hbb,hbv,rfl,O3,B3⟩;rw[bW_val] at hbv;have HP:Hid (CodePb w baseY (.returned (.slice (some ⟨w2.heap.size,0,none⟩) 32 32)) w3):=⟨_,bs,rfl,O3.lower3b B2.size,hbb,hbl,hbv,B2.trans (B3.mono B2.size)⟩
 clear hbv O3 B2 B3 R1;go_wp2
 go_ret
 exact HP.out
end Go.Proofs.YtjdhhgaelgemcaaGreatDoor
