import Derived.Test.YtganeokokjodoaaGreatMReg5
import Derived.Test.YtganeokokjodoaaGreatMSvE
import Derived.Test.YtganeokokjodoaaGreatMVgA
import Derived.Deep.Cut
import Derived.Test.YtganeokokjodoaaGreatMRegU
import Derived.Test.YtganeokokjodoaaGreatMBase
namespace Go.Proofs.YtganeokokjodoaaGreat
open Go.ChangeShapes Go.WideShapes Go.ChangeAt Go.RowKit
set_option linter.unusedVariables false
structure TSE (w:World) (sc vs:Array Value) (wr:World):Prop where
 below:Below w.heap.size w wr
 box:wr.heap[w.heap.size]?=some (.cells sc 51 (0,0))
 res:wr.heap[w.heap.size+1]?=some (.cells #[.slice none 0 0,.slice none 0 0,.int .i64 0,.slice none 0 0] 34 (0,0))
 var:wr.heap[w.heap.size+1+1]?=some (.cells vs 34 (0,0))
theorem TSE.lt {w wr:World} {sc vs:Array Value} (h:TSE w sc vs wr):w.heap.size+1+1<wr.heap.size:=(Array.getElem?_eq_some_iff.1 h.var).1
theorem TSE.call {w wr w':World} {sc vs:Array Value} (h:TSE w sc vs wr) (b:Below wr.heap.size wr w'):TSE w sc vs w':=by
 have:=h.lt
 exact⟨h.below.trans (b.mono h.below.size),by rw[b.block _ (by omega)];exact h.box,by rw[b.block _ (by omega)];exact h.res,by rw[b.block _ (by omega)];exact h.var⟩
theorem TSE.put {w wr:World} {sc vs:Array Value} (h:TSE w sc vs wr) (i:Nat) (v:Value):TSE w sc (vs.setIfInBounds i v) (wr.setCell ⟨w.heap.size+1+1,i,none⟩ v):=by
 have hw:Wr (w.heap.size+1+1) wr (wr.setCell ⟨w.heap.size+1+1,i,none⟩ v):=(Wr.refl _ _).setCell _ _
 exact⟨h.below.trans (hw.below (by omega)),(hw.block _ (by omega)).trans h.box,(hw.block _ (by omega)).trans h.res,heap_setCell_same _ _ _ _ _ _ h.var⟩
theorem At.wrX {w w':World} {g V:Nat} {xs:List Int} (h:At .i64 w (some ⟨g,0,none⟩) xs) (hw:Wr V w w') (hne:g≠V):At .i64 w' (some ⟨g,0,none⟩) xs:=by
 rcases h with h|⟨b,off,e,hl,hc⟩
 ·exact .inl h
 ·cases e;exact .inr ⟨g,0,rfl,by rw[hw.size];exact hl,fun i hi=>by rw[World.cell?_of_block (a:=⟨g,0+i,none⟩) (w:=w) (hw.block g hne)];exact hc i hi⟩
set_option maxRecDepth 100000 in
set_option maxHeartbeats 4000000 in
theorem toS_any (aD aU aT:Option Addr) (nD cD nU cU nT cT:Nat) (D U:List Int) (k:Int) (T:List Int) (w:World) (hD:D.length=nD) (hU:U.length=nU) (hT:T.length=nT*2) (mD:nD≤1048576) (mU:nU≤1048576) (mT:nT≤1048576)
  (haD:At .i64 w aD D) (haU:At .i64 w aU U) (haT:At .i64 w aT T) :
  Calls Tryz.prog 91 #[.agg #[.slice aD nD cD,.slice aU nU cU,.int .i64 k,.slice aT nT cT]] w (ToS w D U k T nD nU nT):=by
 have HEV:Hid (TSE w #[.slice aD nD cD,.slice aU nU cU,.int .i64 k,.slice aT nT cT] #[.slice none 0 0,.slice none 0 0,.int .i64 0,.slice none 0 0] (((w.alloc (.cells #[.slice aD nD cD,.slice aU nU cU,.int .i64 k,.slice aT nT cT] 51)).alloc (.cells #[.slice none 0 0,.slice none 0 0,.int .i64 0,.slice none 0 0] 34)).alloc (.cells #[.slice none 0 0,.slice none 0 0,.int .i64 0,.slice none 0 0] 34))):=by
  refine⟨(((Below.refl _ _).alloc (Nat.le_refl _) _).alloc (by simp) _).alloc (by simp;omega) _,?_,?_,?_⟩
  ·rw[Below.heap_alloc _ _ w.heap.size (by simp;omega),Below.heap_alloc _ _ w.heap.size (by simp)];exact heap_alloc_new w _
  ·rw[Below.heap_alloc _ _ (w.heap.size+1) (by simp)];have:=heap_alloc_new (w.alloc (.cells #[.slice aD nD cD,.slice aU nU cU,.int .i64 k,.slice aT nT cT] 51)) (.cells #[.slice none 0 0,.slice none 0 0,.int .i64 0,.slice none 0 0] 34)
   rwa [show(w.alloc (.cells #[.slice aD nD cD,.slice aU nU cU,.int .i64 k,.slice aT nT cT] 51)).heap.size=w.heap.size+1 by simp] at this
  ·have:=heap_alloc_new ((w.alloc (.cells #[.slice aD nD cD,.slice aU nU cU,.int .i64 k,.slice aT nT cT] 51)).alloc (.cells #[.slice none 0 0,.slice none 0 0,.int .i64 0,.slice none 0 0] 34)) (.cells #[.slice none 0 0,.slice none 0 0,.int .i64 0,.slice none 0 0] 34)
   rwa [show((w.alloc (.cells #[.slice aD nD cD,.slice aU nU cU,.int .i64 k,.slice aT nT cT] 51)).alloc (.cells #[.slice none 0 0,.slice none 0 0,.int .i64 0,.slice none 0 0] 34)).heap.size=w.heap.size+1+1 by simp] at this
 have HAD:Hid (At .i64 w aD D):=haD
 have HAU:Hid (At .i64 w aU U):=haU
 have HAT:Hid (At .i64 w aT T):=haT
 have HLN:Hid (D.length=nD∧U.length=nU∧T.length=nT*2):=⟨hD,hU,hT⟩
 clear haD haU haT hD hU hT
 go_enter Tryz.func91,Tryz.ntmps91
 go_wp2_with fail
 generalize (((w.alloc (.cells #[.slice aD nD cD,.slice aU nU cU,.int .i64 k,.slice aT nT cT] 51)).alloc (.cells #[.slice none 0 0,.slice none 0 0,.int .i64 0,.slice none 0 0] 34)).alloc (.cells #[.slice none 0 0,.slice none 0 0,.int .i64 0,.slice none 0 0] 34))=w0 at *
 refine(toI_any aD nD cD D _ HLN.out.1 mD (HAD.out.below HEV.out.below)).mono ?_
 rintro e w1 ⟨rfl,ho,hb⟩
 have hA:At .i64 w1 (some ⟨w0.heap.size,0,none⟩) D:=by obtain⟨a,cap,h,_,_,_,h'⟩:=At.of_owns ho;cases h;exact h'
 have HE1:Hid (TSE w #[.slice aD nD cD,.slice aU nU cU,.int .i64 k,.slice aT nT cT] #[.slice none 0 0,.slice none 0 0,.int .i64 0,.slice none 0 0] w1):=HEV.out.call hb
 have hg1:w.heap.size+1+1<w0.heap.size:=HEV.out.lt
 have HD1:Hid (At .i64 w1 (some ⟨w0.heap.size,0,none⟩) D):=hA
 have v0:w1.cell? ⟨w.heap.size+1+1,0,none⟩=some (.slice none 0 0):=by rw[cell_of_row w1 _ 0 _ _ _ HE1.out.var];rfl
 have f0:=frozen_of_row w1 (w.heap.size+1+1) 0 _ _ HE1.out.var
 have x1:(w1.setCell ⟨w.heap.size+1+1,0,none⟩ (.slice (some ⟨w0.heap.size,0,none⟩) nD nD)).cell? ⟨w.heap.size,1,none⟩=some (.slice aU nU cU):=by rw[cell_of_row _ w.heap.size 1 _ _ _ (HE1.out.put 0 _).box];rfl
 clear ho hb hA HEV
 go_wp2_with fail
 have HE2:Hid (TSE w #[.slice aD nD cD,.slice aU nU cU,.int .i64 k,.slice aT nT cT] #[.slice (some ⟨w0.heap.size,0,none⟩) nD nD,.slice none 0 0,.int .i64 0,.slice none 0 0] (w1.setCell ⟨w.heap.size+1+1,0,none⟩ (.slice (some ⟨w0.heap.size,0,none⟩) nD nD))):=HE1.out.put 0 _
 have HD2:Hid (At .i64 (w1.setCell ⟨w.heap.size+1+1,0,none⟩ (.slice (some ⟨w0.heap.size,0,none⟩) nD nD)) (some ⟨w0.heap.size,0,none⟩) D):=HD1.out.wrX ((Wr.refl _ _).setCell _ _) (by omega)
 clear HE1 HD1 v0 f0 x1
 generalize w0.heap.size=gD at *
 generalize w1.setCell ⟨w.heap.size+1+1,0,none⟩ (.slice (some ⟨gD,0,none⟩) nD nD)=w2 at *
 refine(toI_any aU nU cU U _ HLN.out.2.1 mU (HAU.out.below HE2.out.below)).mono ?_
 rintro e w3 ⟨rfl,ho,hb⟩
 have hA:At .i64 w3 (some ⟨w2.heap.size,0,none⟩) U:=by obtain⟨a,cap,h,_,_,_,h'⟩:=At.of_owns ho;cases h;exact h'
 have HE3:Hid (TSE w #[.slice aD nD cD,.slice aU nU cU,.int .i64 k,.slice aT nT cT] #[.slice (some ⟨gD,0,none⟩) nD nD,.slice none 0 0,.int .i64 0,.slice none 0 0] w3):=HE2.out.call hb
 have hg2:w.heap.size+1+1<w2.heap.size:=HE2.out.lt
 have HD3:Hid (At .i64 w3 (some ⟨gD,0,none⟩) D∧At .i64 w3 (some ⟨w2.heap.size,0,none⟩) U):=⟨HD2.out.below hb,hA⟩
 clear ho hb hA HE2 HD2
 generalize w2.heap.size=gU at *
 have hw4:Wr (w.heap.size+1+1) w3 ((w3.setCell ⟨w.heap.size+1+1,1,none⟩ (.slice (some ⟨gU,0,none⟩) nU nU)).setCell ⟨w.heap.size+1+1,2,none⟩ (.int .i64 k)):=((Wr.refl _ _).setCell _ _).setCell _ _
 have HE4:Hid (TSE w #[.slice aD nD cD,.slice aU nU cU,.int .i64 k,.slice aT nT cT] #[.slice (some ⟨gD,0,none⟩) nD nD,.slice (some ⟨gU,0,none⟩) nU nU,.int .i64 k,.slice none 0 0] ((w3.setCell ⟨w.heap.size+1+1,1,none⟩ (.slice (some ⟨gU,0,none⟩) nU nU)).setCell ⟨w.heap.size+1+1,2,none⟩ (.int .i64 k))):=(HE3.out.put 1 _).put 2 _
 have HD4:Hid (At .i64 ((w3.setCell ⟨w.heap.size+1+1,1,none⟩ (.slice (some ⟨gU,0,none⟩) nU nU)).setCell ⟨w.heap.size+1+1,2,none⟩ (.int .i64 k)) (some ⟨gD,0,none⟩) D∧At .i64 ((w3.setCell ⟨w.heap.size+1+1,1,none⟩ (.slice (some ⟨gU,0,none⟩) nU nU)).setCell ⟨w.heap.size+1+1,2,none⟩ (.int .i64 k)) (some ⟨gU,0,none⟩) U):=⟨HD3.out.1.wrX hw4 (by omega),HD3.out.2.wrX hw4 (by omega)⟩
 have v1:w3.cell? ⟨w.heap.size+1+1,1,none⟩=some (.slice none 0 0):=by rw[cell_of_row w3 _ 1 _ _ _ HE3.out.var];rfl
 have f1:=frozen_of_row w3 (w.heap.size+1+1) 1 _ _ HE3.out.var
 have v2:w3.cell? ⟨w.heap.size+1+1,2,none⟩=some (.int .i64 0):=by rw[cell_of_row w3 _ 2 _ _ _ HE3.out.var];rfl
 have f2:=frozen_of_row w3 (w.heap.size+1+1) 2 _ _ HE3.out.var
 have x2:w3.cell? ⟨w.heap.size,2,none⟩=some (.int .i64 k):=by rw[cell_of_row w3 w.heap.size 2 _ _ _ HE3.out.box];rfl
 have x3:w3.cell? ⟨w.heap.size,3,none⟩=some (.slice aT nT cT):=by rw[cell_of_row w3 w.heap.size 3 _ _ _ HE3.out.box];rfl
 clear hw4 HE3 HD3
 go_wp2_with fail
 generalize (w3.setCell ⟨w.heap.size+1+1,1,none⟩ (.slice (some ⟨gU,0,none⟩) nU nU)).setCell ⟨w.heap.size+1+1,2,none⟩ (.int .i64 k)=w4 at *
 clear v1 f1 v2 f2 x2 x3
 refine(toT_any aT nT cT T _ HLN.out.2.2 mT (HAT.out.below HE4.out.below)).mono ?_
 rintro e w5 ⟨rfl,hA,hb⟩
 have HE5:Hid (TSE w #[.slice aD nD cD,.slice aU nU cU,.int .i64 k,.slice aT nT cT] #[.slice (some ⟨gD,0,none⟩) nD nD,.slice (some ⟨gU,0,none⟩) nU nU,.int .i64 k,.slice none 0 0] w5):=HE4.out.call hb
 have hg3:w.heap.size+1+1<w4.heap.size:=HE4.out.lt
 have hw6:Wr (w.heap.size+1+1) w5 (w5.setCell ⟨w.heap.size+1+1,3,none⟩ (.slice (some ⟨w4.heap.size,0,none⟩) nT nT)):=(Wr.refl _ _).setCell _ _
 have HE6:Hid (TSE w #[.slice aD nD cD,.slice aU nU cU,.int .i64 k,.slice aT nT cT] #[.slice (some ⟨gD,0,none⟩) nD nD,.slice (some ⟨gU,0,none⟩) nU nU,.int .i64 k,.slice (some ⟨w4.heap.size,0,none⟩) nT nT] (w5.setCell ⟨w.heap.size+1+1,3,none⟩ (.slice (some ⟨w4.heap.size,0,none⟩) nT nT))):=HE5.out.put 3 _
 have HD6:Hid (At .i64 (w5.setCell ⟨w.heap.size+1+1,3,none⟩ (.slice (some ⟨w4.heap.size,0,none⟩) nT nT)) (some ⟨gD,0,none⟩) D∧At .i64 (w5.setCell ⟨w.heap.size+1+1,3,none⟩ (.slice (some ⟨w4.heap.size,0,none⟩) nT nT)) (some ⟨gU,0,none⟩) U∧At .i64 (w5.setCell ⟨w.heap.size+1+1,3,none⟩ (.slice (some ⟨w4.heap.size,0,none⟩) nT nT)) (some ⟨w4.heap.size,0,none⟩) T):=
  ⟨(HD4.out.1.below hb).wrX hw6 (by omega),(HD4.out.2.below hb).wrX hw6 (by omega),hA.wrX hw6 (by omega)⟩
 have v3:w5.cell? ⟨w.heap.size+1+1,3,none⟩=some (.slice none 0 0):=by rw[cell_of_row w5 _ 3 _ _ _ HE5.out.var];rfl
 have f3:=frozen_of_row w5 (w.heap.size+1+1) 3 _ _ HE5.out.var
 have HSZ:Hid ((Tryz.prog.info? 34).map (·.size)=some 4):=by show _=_;kernel_rfl
 have HVR:Hid ((w5.setCell ⟨w.heap.size+1+1,3,none⟩ (.slice (some ⟨w4.heap.size,0,none⟩) nT nT)).heap[w.heap.size+1+1]?=some (.cells #[.slice (some ⟨gD,0,none⟩) nD nD,.slice (some ⟨gU,0,none⟩) nU nU,.int .i64 k,.slice (some ⟨w4.heap.size,0,none⟩) nT nT] 34 (0,0))):=HE6.out.var
 have HRR:Hid ((w5.setCell ⟨w.heap.size+1+1,3,none⟩ (.slice (some ⟨w4.heap.size,0,none⟩) nT nT)).heap[w.heap.size+1]?=some (.cells #[.slice none 0 0,.slice none 0 0,.int .i64 0,.slice none 0 0] 34 (0,0))):=HE6.out.res
 clear hA hb hw6 HE5 HE4 HD4
 generalize w4.heap.size=gT at *
 go_wp2_with (first
  |(refine wpList_load_row rfl 34 (.tmp 3) rfl (w.heap.size+1+1) rfl 34 _ (0,0) _ HVR.out Tryz.underlying34 rfl HSZ.out ?_)
  |(refine wpList_store_row rfl 34 (.tmp 2) (.tmp 19) rfl (w.heap.size+1) #[.slice (some ⟨gD,0,none⟩) nD nD,.slice (some ⟨gU,0,none⟩) nU nU,.int .i64 k,.slice (some ⟨gT,0,none⟩) nT nT] rfl rfl 34 _ HRR.out HSZ.out rfl (by simp[Value.oneCell']) ?_)
  |fail)
 refine bodyPost_ret (v:=.agg #[.slice (some ⟨gD,0,none⟩) nD nD,.slice (some ⟨gU,0,none⟩) nU nU,.int .i64 k,.slice (some ⟨gT,0,none⟩) nT nT]) (results_cell_row rfl _ _ (w.heap.size+1) 34 _ (0,0) _ rfl (setRow_heap _ _ _ _ _ _ HRR.out) Tryz.underlying34 rfl HSZ.out) rfl ?_
 have hwz:Wr (w.heap.size+1) (w5.setCell ⟨w.heap.size+1+1,3,none⟩ (.slice (some ⟨gT,0,none⟩) nT nT)) ((w5.setCell ⟨w.heap.size+1+1,3,none⟩ (.slice (some ⟨gT,0,none⟩) nT nT)).setRow (w.heap.size+1) #[.slice (some ⟨gD,0,none⟩) nD nD,.slice (some ⟨gU,0,none⟩) nU nU,.int .i64 k,.slice (some ⟨gT,0,none⟩) nT nT]):=Wr.setRow _ _ _
 exact⟨gD,gU,gT,rfl,HD6.out.1.wrX hwz (by omega),HD6.out.2.1.wrX hwz (by omega),HD6.out.2.2.wrX hwz (by omega),HE6.out.below.trans (hwz.below (by omega))⟩
set_option maxRecDepth 100000 in
set_option maxHeartbeats 2000000 in
theorem eqS_any (aD aU aT aD' aU' aT':Option Addr) (nD cD nU cU nT cT cD' cU' cT':Nat) (D U:List Int) (k:Int) (T:List Int) (w:World) (hD:D.length=nD) (hU:U.length=nU) (hT:T.length=nT*2) (mD:nD≤1048576) (mU:nU≤1048576) (mT:nT≤1048576)
  (haD:At .i64 w aD D) (haU:At .i64 w aU U) (haT:At .i64 w aT T) (haD':At .i64 w aD' D) (haU':At .i64 w aU' U) (haT':At .i64 w aT' T) :
  Calls Tryz.prog 38 #[.agg #[.slice aD nD cD,.slice aU nU cU,.int .i64 k,.slice aT nT cT],.agg #[.slice aD' nD cD',.slice aU' nU cU',.int .i64 k,.slice aT' nT cT']] w fun e w'=>e=.returned (.bool true)∧Below w.heap.size w w':=by
 have HB:Below w.heap.size w ((w.alloc (.cells #[.slice aD nD cD,.slice aU nU cU,.int .i64 k,.slice aT nT cT] 34)).alloc (.cells #[.slice aD' nD cD',.slice aU' nU cU',.int .i64 k,.slice aT' nT cT'] 34)):=((Below.refl _ _).alloc (Nat.le_refl _) _).alloc (by simp) _
 have hne:(k != k)=false:=by simp
 have HA:Hid (∀ wz,Below w.heap.size w wz→At .i64 wz aD D∧At .i64 wz aU U∧At .i64 wz aT T∧At .i64 wz aD' D∧At .i64 wz aU' U∧At .i64 wz aT' T):=fun wz b=>⟨haD.below b,haU.below b,haT.below b,haD'.below b,haU'.below b,haT'.below b⟩
 have HL:Hid (D.length=nD∧U.length=nU∧T.length=nT*2):=⟨hD,hU,hT⟩
 have HBB:Hid (Below w.heap.size w ((w.alloc (.cells #[.slice aD nD cD,.slice aU nU cU,.int .i64 k,.slice aT nT cT] 34)).alloc (.cells #[.slice aD' nD cD',.slice aU' nU cU',.int .i64 k,.slice aT' nT cT'] 34))):=HB
 have HDQ:Hid (∀ q,Below w.heap.size w (((w.alloc (.cells #[.slice aD nD cD,.slice aU nU cU,.int .i64 k,.slice aT nT cT] 34)).alloc (.cells #[.slice aD' nD cD',.slice aU' nU cU',.int .i64 k,.slice aT' nT cT'] 34)).drewN q)):=fun q=>below_dq HB q
 clear HB haD haU haT haD' haU' haT' hD hU hT
 go_enter Tryz.func38,Tryz.ntmps38
 go_wp2_with fail
 refine(eqI_any _ _ nD _ _ D _ HL.out.1 mD (HA.out _ HBB.out).1 (HA.out _ HBB.out).2.2.2.1).mono ?_
 rintro e w1 ⟨rfl,q1,rfl⟩
 go_wp2_with fail
 refine(eqI_any _ _ nU _ _ U _ HL.out.2.1 mU (HA.out _ (HDQ.out q1)).2.1 (HA.out _ (HDQ.out q1)).2.2.2.2.1).mono ?_
 rintro e w2 ⟨rfl,q2,rfl⟩
 rw[dN]
 go_wp2_with fail
 refine(eqTS_any _ _ nT _ _ T _ HL.out.2.2 mT (HA.out _ (HDQ.out _)).2.2.1 (HA.out _ (HDQ.out _)).2.2.2.2.2).mono ?_
 rintro e w3 ⟨rfl,hb3⟩
 have HF:Hid (Below w.heap.size w w3):=(HDQ.out (q1+q2)).trans (hb3.mono (HDQ.out (q1+q2)).size)
 clear hb3 HDQ HBB HA
 go_wp2
 go_ret
 exact⟨rfl,HF.out⟩
end Go.Proofs.YtganeokokjodoaaGreat
namespace Go.Proofs.YtganeokokjodoaaGreat
open Go.ChangeShapes Go.WideShapes Go.ChangeAt Go.RowKit
set_option linter.unusedVariables false
set_option maxRecDepth 100000 in
set_option maxHeartbeats 4000000 in
theorem szSn_any (aD aU:Option Addr) (nD cD nU cU:Nat) (gn tl:Int) (left:Int) (w:World) (h0:0≤left) (h1:left≤1048576) (mD:nD≤9223372036854775807) (mU:nU≤9223372036854775807) :
  Calls Tryz.prog 84 #[.agg #[.int .u32 gn,.int .u32 tl,.slice aD nD cD,.slice aU nU cU],.int .i64 left] w fun e w'=>e=.returned (.int .i64 (szQ left (nD+nU)))∧Below w.heap.size w w':=by
 have HZ:Hid (∀ left n,szQ left n=if left<n then -1 else left-n):=fun _ _=>rfl
 have HE0:Hid (OE w 47 #[.int .u32 gn,.int .u32 tl,.slice aD nD cD,.slice aU nU cU] (w.alloc (.cells #[.int .u32 gn,.int .u32 tl,.slice aD nD cD,.slice aU nU cU] 47))):=OE.start _ _ _
 go_enter Tryz.func84,Tryz.ntmps84
 go_wp2_with fail
 generalize (w.alloc (.cells #[.int .u32 gn,.int .u32 tl,.slice aD nD cD,.slice aU nU cU] 47))=w0 at *
 refine(szI_any _ _ _ _ _ h0 h1 mD).mono ?_
 rintro e w1 ⟨rfl,rfl⟩
 have HE1:Hid (OE w 47 #[.int .u32 gn,.int .u32 tl,.slice aD nD cD,.slice aU nU cU] w1):=HE0.out
 clear HE0
 by_cases k0:left<((nD:Nat):Int)
 ·have r:szQ (left) (nD)=-1:=by rw[HZ.out,if_pos k0]
  have HR:Hid (szQ left (nD+nU)=-1):=by show _=_;rw[HZ.out,if_pos (by omega)]
  have HF:Hid (Below w.heap.size w w1):=HE1.out.below;rw[r];clear r k0 HE1;go_wp2
  go_ret
  exact⟨ret_int HR.out.symm,HF.out⟩
 have r:szQ (left) (nD)=left-((nD:Nat):Int):=by rw[HZ.out,if_neg k0]
 rw[r]
 clear r
 have q0:¬ (left-((nD:Nat):Int)<0):=by omega
 have z0:0≤left-((nD:Nat):Int):=by omega
 have zz0:left-((nD:Nat):Int)≤1048576:=by omega
 generalize el0:left-((nD:Nat):Int)=l0 at *
 have HQ0:Hid (left-((nD:Nat):Int)=l0):=el0
 clear el0
 have x3:w1.cell? ⟨w.heap.size,3,none⟩=some (.slice aU nU cU):=by rw[cell_of_row w1 w.heap.size 3 _ _ _ HE1.out.b0];rfl
 go_wp2_with fail
 clear x3 q0
 refine(szI_any _ _ _ _ _ z0 zz0 mU).mono ?_
 rintro e w2 ⟨rfl,rfl⟩
 have HE2:Hid (OE w 47 #[.int .u32 gn,.int .u32 tl,.slice aD nD cD,.slice aU nU cU] w2):=HE1.out
 clear HE1
 by_cases k1:l0<((nU:Nat):Int)
 ·have r:szQ (l0) (nU)=-1:=by rw[HZ.out,if_pos k1]
  have HR:Hid (szQ left (nD+nU)=-1):=by show _=_;have:=HQ0.out;rw[HZ.out,if_pos (by omega)]
  have HF:Hid (Below w.heap.size w w2):=HE2.out.below;rw[r];clear r k1 HE2;go_wp2
  go_ret
  exact⟨ret_int HR.out.symm,HF.out⟩
 have r:szQ (l0) (nU)=l0-((nU:Nat):Int):=by rw[HZ.out,if_neg k1]
 rw[r]
 clear r
 have q1:¬ (l0-((nU:Nat):Int)<0):=by omega
 have z1:0≤l0-((nU:Nat):Int):=by omega
 have zz1:l0-((nU:Nat):Int)≤1048576:=by omega
 generalize el1:l0-((nU:Nat):Int)=l1 at *
 have HQ1:Hid (l0-((nU:Nat):Int)=l1):=el1
 clear el1
 have HR:Hid (szQ left (nD+nU)=l1):=by show _=_;rw[HZ.out];have:=HQ0.out;have:=HQ1.out;rw[if_neg (by omega)];omega
 have HF:Hid (Below w.heap.size w w2):=HE2.out.below
 clear HE2
 go_wp2
 go_ret
 exact⟨ret_int HR.out.symm,HF.out⟩
end Go.Proofs.YtganeokokjodoaaGreat
namespace Go.Proofs.YtganeokokjodoaaGreat
open Go.ChangeShapes Go.WideShapes Go.ChangeAt Go.RowKit
set_option linter.unusedVariables false
set_option maxRecDepth 100000 in
set_option maxHeartbeats 4000000 in
theorem szSt_any (aD aU aT:Option Addr) (nD cD nU cU nT cT:Nat) (k:Int) (left:Int) (w:World) (h0:0≤left) (h1:left≤1048576) (mD:nD≤9223372036854775807) (mU:nU≤9223372036854775807) (mT:nT≤9223372036854775807) :
  Calls Tryz.prog 86 #[.agg #[.slice aD nD cD,.slice aU nU cU,.int .i64 k,.slice aT nT cT],.int .i64 left] w fun e w'=>e=.returned (.int .i64 (szQ left (nD+nU+nT)))∧Below w.heap.size w w':=by
 have HZ:Hid (∀ left n,szQ left n=if left<n then -1 else left-n):=fun _ _=>rfl
 have HE0:Hid (OE w 51 #[.slice aD nD cD,.slice aU nU cU,.int .i64 k,.slice aT nT cT] (w.alloc (.cells #[.slice aD nD cD,.slice aU nU cU,.int .i64 k,.slice aT nT cT] 51))):=OE.start _ _ _
 go_enter Tryz.func86,Tryz.ntmps86
 go_wp2_with fail
 generalize (w.alloc (.cells #[.slice aD nD cD,.slice aU nU cU,.int .i64 k,.slice aT nT cT] 51))=w0 at *
 refine(szI_any _ _ _ _ _ h0 h1 mD).mono ?_
 rintro e w1 ⟨rfl,rfl⟩
 have HE1:Hid (OE w 51 #[.slice aD nD cD,.slice aU nU cU,.int .i64 k,.slice aT nT cT] w1):=HE0.out
 clear HE0
 by_cases k0:left<((nD:Nat):Int)
 ·have r:szQ (left) (nD)=-1:=by rw[HZ.out,if_pos k0]
  have HR:Hid (szQ left (nD+nU+nT)=-1):=by show _=_;rw[HZ.out,if_pos (by omega)]
  have HF:Hid (Below w.heap.size w w1):=HE1.out.below;rw[r];clear r k0 HE1;go_wp2
  go_ret
  exact⟨ret_int HR.out.symm,HF.out⟩
 have r:szQ (left) (nD)=left-((nD:Nat):Int):=by rw[HZ.out,if_neg k0]
 rw[r]
 clear r
 have q0:¬ (left-((nD:Nat):Int)<0):=by omega
 have z0:0≤left-((nD:Nat):Int):=by omega
 have zz0:left-((nD:Nat):Int)≤1048576:=by omega
 generalize el0:left-((nD:Nat):Int)=l0 at *
 have HQ0:Hid (left-((nD:Nat):Int)=l0):=el0
 clear el0
 have x1:w1.cell? ⟨w.heap.size,1,none⟩=some (.slice aU nU cU):=by rw[cell_of_row w1 w.heap.size 1 _ _ _ HE1.out.b0];rfl
 go_wp2_with fail
 clear x1 q0
 refine(szI_any _ _ _ _ _ z0 zz0 mU).mono ?_
 rintro e w2 ⟨rfl,rfl⟩
 have HE2:Hid (OE w 51 #[.slice aD nD cD,.slice aU nU cU,.int .i64 k,.slice aT nT cT] w2):=HE1.out
 clear HE1
 by_cases k1:l0<((nU:Nat):Int)
 ·have r:szQ (l0) (nU)=-1:=by rw[HZ.out,if_pos k1]
  have HR:Hid (szQ left (nD+nU+nT)=-1):=by show _=_;have:=HQ0.out;rw[HZ.out,if_pos (by omega)]
  have HF:Hid (Below w.heap.size w w2):=HE2.out.below;rw[r];clear r k1 HE2;go_wp2
  go_ret
  exact⟨ret_int HR.out.symm,HF.out⟩
 have r:szQ (l0) (nU)=l0-((nU:Nat):Int):=by rw[HZ.out,if_neg k1]
 rw[r]
 clear r
 have q1:¬ (l0-((nU:Nat):Int)<0):=by omega
 have z1:0≤l0-((nU:Nat):Int):=by omega
 have zz1:l0-((nU:Nat):Int)≤1048576:=by omega
 generalize el1:l0-((nU:Nat):Int)=l1 at *
 have HQ1:Hid (l0-((nU:Nat):Int)=l1):=el1
 clear el1
 have x3:w2.cell? ⟨w.heap.size,3,none⟩=some (.slice aT nT cT):=by rw[cell_of_row w2 w.heap.size 3 _ _ _ HE2.out.b0];rfl
 go_wp2_with fail
 clear x3 q1
 refine(szT_any _ _ _ _ _ z1 zz1 mT).mono ?_
 rintro e w3 ⟨rfl,rfl⟩
 have HE3:Hid (OE w 51 #[.slice aD nD cD,.slice aU nU cU,.int .i64 k,.slice aT nT cT] w3):=HE2.out
 clear HE2
 by_cases k2:l1<((nT:Nat):Int)
 ·have r:szQ (l1) (nT)=-1:=by rw[HZ.out,if_pos k2]
  have HR:Hid (szQ left (nD+nU+nT)=-1):=by show _=_;have:=HQ0.out;have:=HQ1.out;rw[HZ.out,if_pos (by omega)]
  have HF:Hid (Below w.heap.size w w3):=HE3.out.below;rw[r];clear r k2 HE3;go_wp2
  go_ret
  exact⟨ret_int HR.out.symm,HF.out⟩
 have r:szQ (l1) (nT)=l1-((nT:Nat):Int):=by rw[HZ.out,if_neg k2]
 rw[r]
 clear r
 have q2:¬ (l1-((nT:Nat):Int)<0):=by omega
 have z2:0≤l1-((nT:Nat):Int):=by omega
 have zz2:l1-((nT:Nat):Int)≤1048576:=by omega
 generalize el2:l1-((nT:Nat):Int)=l2 at *
 have HQ2:Hid (l1-((nT:Nat):Int)=l2):=el2
 clear el2
 have HR:Hid (szQ left (nD+nU+nT)=l2):=by show _=_;rw[HZ.out];have:=HQ0.out;have:=HQ1.out;have:=HQ2.out;rw[if_neg (by omega)];omega
 have HF:Hid (Below w.heap.size w w3):=HE3.out.below
 clear HE3
 go_wp2
 go_ret
 exact⟨ret_int HR.out.symm,HF.out⟩
end Go.Proofs.YtganeokokjodoaaGreat
namespace Go.Proofs.YtganeokokjodoaaGreat
open Go.ChangeShapes Go.WideShapes Go.ChangeAt Go.RowKit
set_option linter.unusedVariables false
structure CE (w:World) (tb tr:TypeId) (sc zs vs:Array Value) (wr:World):Prop where
 below:Below w.heap.size w wr
 box:wr.heap[w.heap.size]?=some (.cells sc tb (0,0))
 res:wr.heap[w.heap.size+1]?=some (.cells zs tr (0,0))
 var:wr.heap[w.heap.size+1+1]?=some (.cells vs tr (0,0))
theorem CE.lt {w wr:World} {tb tr:TypeId} {sc zs vs:Array Value} (h:CE w tb tr sc zs vs wr):w.heap.size+1+1<wr.heap.size:=(Array.getElem?_eq_some_iff.1 h.var).1
theorem CE.call {w wr w':World} {tb tr:TypeId} {sc zs vs:Array Value} (h:CE w tb tr sc zs vs wr) (b:Below wr.heap.size wr w'):CE w tb tr sc zs vs w':=by
 have:=h.lt
 exact⟨h.below.trans (b.mono h.below.size),by rw[b.block _ (by omega)];exact h.box,by rw[b.block _ (by omega)];exact h.res,by rw[b.block _ (by omega)];exact h.var⟩
theorem CE.put {w wr:World} {tb tr:TypeId} {sc zs vs:Array Value} (h:CE w tb tr sc zs vs wr) (i:Nat) (v:Value):CE w tb tr sc zs (vs.setIfInBounds i v) (wr.setCell ⟨w.heap.size+1+1,i,none⟩ v):=by
 have hw:Wr (w.heap.size+1+1) wr (wr.setCell ⟨w.heap.size+1+1,i,none⟩ v):=(Wr.refl _ _).setCell _ _
 exact⟨h.below.trans (hw.below (by omega)),(hw.block _ (by omega)).trans h.box,(hw.block _ (by omega)).trans h.res,heap_setCell_same _ _ _ _ _ _ h.var⟩
theorem CE.start (w:World) (tb tr:TypeId) (sc zs vs:Array Value):CE w tb tr sc zs vs (((w.alloc (.cells sc tb)).alloc (.cells zs tr)).alloc (.cells vs tr)):=by
 refine⟨(((Below.refl _ _).alloc (Nat.le_refl _) _).alloc (by simp) _).alloc (by simp;omega) _,?_,?_,?_⟩
 ·rw[Below.heap_alloc _ _ w.heap.size (by simp;omega),Below.heap_alloc _ _ w.heap.size (by simp)];exact heap_alloc_new w _
 ·rw[Below.heap_alloc _ _ (w.heap.size+1) (by simp)];have:=heap_alloc_new (w.alloc (.cells sc tb)) (.cells zs tr)
  rwa [show(w.alloc (.cells sc tb)).heap.size=w.heap.size+1 by simp] at this
 ·have:=heap_alloc_new ((w.alloc (.cells sc tb)).alloc (.cells zs tr)) (.cells vs tr)
  rwa [show((w.alloc (.cells sc tb)).alloc (.cells zs tr)).heap.size=w.heap.size+1+1 by simp] at this
set_option maxHeartbeats 400000 in
theorem toIR_any (a:Option Addr) (n cap:Nat) (zs:List Int) (w:World) (hn:zs.length=n) (hm:n≤1048576) (ha:At .i64 w a zs) :
  Calls Tryz.prog 123 #[.slice a n cap] w fun e w'=>e=.returned (.slice (some ⟨w.heap.size,0,none⟩) n n)∧RowV w' w.heap.size 2 (iC zs)∧Below w.heap.size w w':=
 (toI_any a n cap zs w hn hm ha).mono (fun e w' ⟨h1,h2,h3⟩=>⟨h1,RowV.of_owns h2,h3⟩)
set_option maxHeartbeats 1000000 in
theorem toTR_any (a:Option Addr) (n cap:Nat) (T:List Int) (w:World) (hl:T.length=n*2) (hn:n≤1048576) (ha:At .i64 w a T) :
  Calls Tryz.prog 125 #[.slice a n cap] w fun e w'=>e=.returned (.slice (some ⟨w.heap.size,0,none⟩) n n)∧RowV w' w.heap.size 132 (iC T)∧Below w.heap.size w w':=by
 obtain⟨i0,hi,hz0,hz1,hz2⟩:=info_parts Tryz.infoTap
 have HI:Hid (i0.bytes=16):=hz2
 have HLT:Hid (T.length=n*2):=hl
 have HA:Hid (At .i64 w a T):=ha
 clear hz2 hl ha
 go_enter Tryz.func125,Tryz.ntmps125
 go_wp2_with (first
  |(at_make;refine wpList_make_full _ rfl _ _ 32 rfl w.heap.size 132 i0 (.agg #[.int .i64 0,.int .i64 0]) 2 Tryz.underlying32 hi hz0 hz1 _ _ _ _ n rfl rfl rfl rfl ?c1 ?c2 ?c3 ?_)
  |fail)
 case c1=>rw[HI.out];omega
 case c2=>unfold maxLen;omega
 case c3=>exact Nat.le_refl _
 intro w1 hown hgrow
 have hb1:Below w.heap.size w w1:=(Below.refl _ _).grown hgrow (Nat.le_refl _) (by simp)
 have hst:TT w w1 w.heap.size n T 0:=by
  obtain⟨h1,⟨h2,_⟩|⟨g',cap,cur,hv,hb,hh,hc,hm,hs,ht⟩⟩:=hown
  ·cases h2
  ·cases hv;exact⟨hb1,⟨cur,hh,hs,fun i hi=>by omega⟩⟩
 have HST:Hid (TT w w1 w.heap.size n T 0):=hst
 clear hown hgrow hb1 hst hi hz0 hz1
 go_wp2
 go_loopw [4] (fun i wr=>∃ k:Nat,k≤n∧i=.int .i64 k∧TT w wr w.heap.size n T k) (fun i _=>n-(intOf i).toNat)
 case atStart=>exact⟨0,Nat.zero_le _,rfl,HST.out⟩
 case round=>
  clear HST;obtain⟨k,hk,rfl,st⟩:=hrel;by_cases hlt:k<n
  ·have hlt':(k:Int)<n:=by omega
   obtain⟨b,off,ea,hb,hc⟩:=(HA.out.below st.below).get (by have:=HLT.out;omega);have t0:=hc (k*2) (by have:=HLT.out;omega);have t1:=hc (k*2+1) (by have:=HLT.out;omega);rw[←Nat.add_assoc] at t1;subst ea;obtain⟨cur,c1,c2,c3⟩:=st.blk;have hgl:=(Array.getElem?_eq_some_iff.1 c1).1;have HC1:Hid (wr.heap[w.heap.size]?=some (.cells cur 132 (0,0))):=c1;have HSP:Hid (∀ w1,Below wr.heap.size wr w1→TT w ((w1.setCell ⟨w.heap.size,k*2,none⟩ (.int .i64 (T.getD (k*2) 0))).setCell ⟨w.heap.size,k*2+1,none⟩ (.int .i64 (T.getD (k*2+1) 0))) w.heap.size n T (k+1)):=fun w1 hb=>st.step hlt (Nat.le_refl _) hb
   clear hc hb c3 st c1;generalize T.getD (k*2) 0=s at *;generalize T.getD (k*2+1) 0=nw at *;go_wp2_with fail;refine(toT1_any s nw wr).mono ?_;rintro e w2 ⟨rfl,hb2⟩;have k1:w2.heap[w.heap.size]?=some (.cells cur 132 (0,0)):=by rw[hb2.block _ hgl];exact HC1.out
   have d0:w2.cell? ⟨w.heap.size,k*2,none⟩=some (cur[k*2]'(by omega)):=by rw[cell_of_row w2 _ _ _ _ _ k1];simp
   have d1:w2.cell? ⟨w.heap.size,k*2+1,none⟩=some (cur[k*2+1]'(by omega)):=by rw[cell_of_row w2 _ _ _ _ _ k1];simp
   have f0:=frozen_of_row w2 w.heap.size (k*2) _ _ k1;have f1:=frozen_of_row w2 w.heap.size (k*2+1) _ _ k1;generalize (cur[k*2]'(by omega))=o0 at *;generalize (cur[k*2+1]'(by omega))=o1 at *;have HEN:Hid (TT w ((w2.setCell ⟨w.heap.size,k*2,none⟩ (.int .i64 s)).setCell ⟨w.heap.size,k*2+1,none⟩ (.int .i64 nw)) w.heap.size n T (k+1)):=HSP.out w2 hb2;clear k1 hb2 t0 t1 HSP HC1;go_wp2;go_roundw
   case rel=>exact⟨k+1,by omega,by go_num,HEN.out⟩
   case measure=>simp[intOf];omega
  ·have hkn:k=n:=by omega
   have hlt':¬ ((k:Int)<n):=by omega
   have HM:Hid (RowV wr w.heap.size 132 (iC T)∧Below w.heap.size w wr):=by
    obtain⟨cur,c1,c2,c3⟩:=st.blk;refine⟨?_,st.below⟩;unfold RowV;rw[c1,row_full c2 HLT.out (fun i hi=>c3 i (by omega))]
   clear st;go_wp2
   go_ret
   exact⟨rfl,HM.out.1,HM.out.2⟩
end Go.Proofs.YtganeokokjodoaaGreat
namespace Go.Proofs.YtganeokokjodoaaGreat
open Go.ChangeShapes Go.WideShapes Go.ChangeAt Go.RowKit
set_option linter.unusedVariables false
set_option maxHeartbeats 400000 in
theorem toFr_any (s k a b:Int) (w:World) :
  Calls Tryz.prog 124 #[.agg #[.int .u32 s,.int .i64 k,.int .u32 a,.int .u32 b]] w fun e w'=>e=.returned (.agg #[.int .u32 s,.int .i64 k,.int .u32 a,.int .u32 b])∧Below w.heap.size w w':=by
 go_enter Tryz.func124,Tryz.ntmps124
 go_wp2
 refine bodyPost_ret (v:=.agg #[.int .u32 s,.int .i64 k,.int .u32 a,.int .u32 b]) (by simp[results,Tryz.results124,go_sem]) rfl ⟨rfl,?_⟩
 exact(((Below.refl _ _).alloc (Nat.le_refl _) _).alloc (by simp) _).alloc (by simp;omega) _
end Go.Proofs.YtganeokokjodoaaGreat
