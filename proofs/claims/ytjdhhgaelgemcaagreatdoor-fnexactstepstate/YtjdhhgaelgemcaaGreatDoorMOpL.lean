import Derived.Test.YtjdhhgaelgemcaaGreatDoorMSvF
import Derived.Test.YtjdhhgaelgemcaaGreatDoorMSvM
import Derived.Test.YtjdhhgaelgemcaaGreatDoorMEqSt
import Derived.Test.YtjdhhgaelgemcaaGreatDoorMApx
import Derived.Deep.Cut
import Derived.Test.YtjdhhgaelgemcaaGreatDoorMSwK
namespace Go.Proofs.YtjdhhgaelgemcaaGreatDoor
open Go.ChangeShapes Go.WideShapes Go.ChangeAt Go.RowKit
set_option linter.unusedVariables false
def uC (zs:List Int):Array Value:=(zs.map (Value.int .u8)).toArray
theorem uC_size (xs:List Int):(uC xs).size=xs.length:=by simp[uC]
theorem RowV.u8 {w:World} {g:Nat} {t:TypeId} {xs:List Int} (h:RowV w g t (uC xs)):At .u8 w (some ⟨g,0,none⟩) xs:=
 .inr ⟨g,0,rfl,h.lt,fun i hi=>by rw[Nat.zero_add,cell_of_row w g i _ _ _ h];simp[uC,hi,List.getD]⟩
set_option maxHeartbeats 400000 in
theorem toBR_any (a:Option Addr) (n cap:Nat) (zs:List Int) (w:World) (hn:zs.length=n) (hm:n≤1048576) (ha:At .u8 w a zs) :
  Calls Tryz.prog 8 #[.slice a n cap] w fun e w'=>e=.returned (.slice (some ⟨w.heap.size,0,none⟩) n n)∧RowV w' w.heap.size 5 (uC zs)∧Below w.heap.size w w':=
 (toB_any a n cap zs w hn hm ha).mono (fun e w' ⟨h1,h2,h3⟩=>⟨h1,owns_row h2,h3⟩)
theorem szBQ_any (a:Option Addr) (n cap:Nat) (left:Int) (w:World) (h0:0≤left) (h1:left≤1048576) (hn:n≤9223372036854775807) :
  Calls Tryz.prog 22 #[.slice a n cap,.int .i64 left] w fun e w'=>e=.returned (.int .i64 (szQ left n))∧w'=w:=szB_any a n cap left w h0 h1 hn
set_option maxRecDepth 100000 in
set_option maxHeartbeats 4000000 in
theorem toOp_any (aY:Option Addr) (nY cY:Nat) (Y:List Int) (kind now N:Int) (w:World) (hY:Y.length=nY) (mY:nY≤1048576) (AY:At .u8 w aY Y) :
  Calls Tryz.prog 9 #[.agg #[.int .i64 kind,.slice aY nY cY,.int .i64 now,.int .i64 N]] w fun e w'=>∃ gY,e=.returned (.agg #[.int .i64 kind,.slice (some ⟨gY,0,none⟩) nY nY,.int .i64 now,.int .i64 N])∧w.heap.size≤gY∧RowV w' gY 5 (uC Y)∧Below w.heap.size w w':=by
 have HE0:Hid (CE w 28 39 #[.int .i64 kind,.slice aY nY cY,.int .i64 now,.int .i64 N] #[.int .i64 0,.slice none 0 0,.int .i64 0,.int .i64 0] #[.int .i64 kind,.slice none 0 0,.int .i64 0,.int .i64 0] (((w.alloc (.cells #[.int .i64 kind,.slice aY nY cY,.int .i64 now,.int .i64 N] 28)).alloc (.cells #[.int .i64 0,.slice none 0 0,.int .i64 0,.int .i64 0] 39)).alloc (.cells #[.int .i64 kind,.slice none 0 0,.int .i64 0,.int .i64 0] 39))):=CE.start _ _ _ _ _ _;have HAY:Hid (At .u8 w aY Y):=AY;have HLY:Hid (Y.length=nY):=hY;clear AY hY;go_enter Tryz.func9,Tryz.ntmps9;go_wp2_with fail;generalize (((w.alloc (.cells #[.int .i64 kind,.slice aY nY cY,.int .i64 now,.int .i64 N] 28)).alloc (.cells #[.int .i64 0,.slice none 0 0,.int .i64 0,.int .i64 0] 39)).alloc (.cells #[.int .i64 kind,.slice none 0 0,.int .i64 0,.int .i64 0] 39))=w0 at *;refine(toBR_any aY nY cY Y _ HLY.out mY (HAY.out.below HE0.out.below)).mono ?_;rintro e u0 ⟨rfl,hRY,hb⟩;have HF0:Hid (CE w 28 39 #[.int .i64 kind,.slice aY nY cY,.int .i64 now,.int .i64 N] #[.int .i64 0,.slice none 0 0,.int .i64 0,.int .i64 0] #[.int .i64 kind,.slice none 0 0,.int .i64 0,.int .i64 0] u0):=HE0.out.call hb;have lt0:w.heap.size+1+1<w0.heap.size:=HE0.out.lt;clear hb;have oY:w.heap.size≤w0.heap.size:=by omega
 have VY:w.heap.size+1+1<w0.heap.size:=lt0;clear HE0;generalize w0.heap.size=gY at *;have hw:Wr (w.heap.size+1+1) u0 (((u0.setCell ⟨w.heap.size+1+1,1,none⟩ (.slice (some ⟨gY,0,none⟩) nY nY)).setCell ⟨w.heap.size+1+1,2,none⟩ (.int .i64 now)).setCell ⟨w.heap.size+1+1,3,none⟩ (.int .i64 N)):=((((Wr.refl _ _).setCell _ _).setCell _ _).setCell _ _)
 have HE1:Hid (CE w 28 39 #[.int .i64 kind,.slice aY nY cY,.int .i64 now,.int .i64 N] #[.int .i64 0,.slice none 0 0,.int .i64 0,.int .i64 0] #[.int .i64 kind,.slice (some ⟨gY,0,none⟩) nY nY,.int .i64 now,.int .i64 N] (((u0.setCell ⟨w.heap.size+1+1,1,none⟩ (.slice (some ⟨gY,0,none⟩) nY nY)).setCell ⟨w.heap.size+1+1,2,none⟩ (.int .i64 now)).setCell ⟨w.heap.size+1+1,3,none⟩ (.int .i64 N))):=(((HF0.out.put 1 _).put 2 _).put 3 _)
 have HRY:Hid (RowV (((u0.setCell ⟨w.heap.size+1+1,1,none⟩ (.slice (some ⟨gY,0,none⟩) nY nY)).setCell ⟨w.heap.size+1+1,2,none⟩ (.int .i64 now)).setCell ⟨w.heap.size+1+1,3,none⟩ (.int .i64 N)) gY 5 (uC Y)):=hRY.wr hw VY;have v1:u0.cell? ⟨w.heap.size+1+1,1,none⟩=some (.slice none 0 0):=by rw[cell_of_row u0 _ 1 _ _ _ HF0.out.var];rfl
 have f1:=frozen_of_row u0 (w.heap.size+1+1) 1 _ _ HF0.out.var;have v2:u0.cell? ⟨w.heap.size+1+1,2,none⟩=some (.int .i64 0):=by rw[cell_of_row u0 _ 2 _ _ _ HF0.out.var];rfl
 have f2:=frozen_of_row u0 (w.heap.size+1+1) 2 _ _ HF0.out.var;have v3:u0.cell? ⟨w.heap.size+1+1,3,none⟩=some (.int .i64 0):=by rw[cell_of_row u0 _ 3 _ _ _ HF0.out.var];rfl
 have f3:=frozen_of_row u0 (w.heap.size+1+1) 3 _ _ HF0.out.var;have x2:u0.cell? ⟨w.heap.size,2,none⟩=some (.int .i64 now):=by rw[cell_of_row u0 w.heap.size 2 _ _ _ HF0.out.box];rfl
 have x3:u0.cell? ⟨w.heap.size,3,none⟩=some (.int .i64 N):=by rw[cell_of_row u0 w.heap.size 3 _ _ _ HF0.out.box];rfl
 clear hw HF0 hRY;have HSZ:Hid ((Tryz.prog.info? 39).map (·.size)=some 4):=by show _=_;kernel_rfl
 have HVR:Hid ((((u0.setCell ⟨w.heap.size+1+1,1,none⟩ (.slice (some ⟨gY,0,none⟩) nY nY)).setCell ⟨w.heap.size+1+1,2,none⟩ (.int .i64 now)).setCell ⟨w.heap.size+1+1,3,none⟩ (.int .i64 N)).heap[w.heap.size+1+1]?=some (.cells #[.int .i64 kind,.slice (some ⟨gY,0,none⟩) nY nY,.int .i64 now,.int .i64 N] 39 (0,0))):=HE1.out.var;have HRR:Hid ((((u0.setCell ⟨w.heap.size+1+1,1,none⟩ (.slice (some ⟨gY,0,none⟩) nY nY)).setCell ⟨w.heap.size+1+1,2,none⟩ (.int .i64 now)).setCell ⟨w.heap.size+1+1,3,none⟩ (.int .i64 N)).heap[w.heap.size+1]?=some (.cells #[.int .i64 0,.slice none 0 0,.int .i64 0,.int .i64 0] 39 (0,0))):=HE1.out.res
 go_upto_region 6 with fail
 generalize (((u0.setCell ⟨w.heap.size+1+1,1,none⟩ (.slice (some ⟨gY,0,none⟩) nY nY)).setCell ⟨w.heap.size+1+1,2,none⟩ (.int .i64 now)).setCell ⟨w.heap.size+1+1,3,none⟩ (.int .i64 N))=wz at *;clear v1 f1 v2 f2 v3 f3 x2 x3;go_wp2_with (first
  |(refine wpList_load_row rfl 39 (.tmp 3) rfl (w.heap.size+1+1) rfl 39 _ (0,0) _ HVR.out Tryz.underlying39 rfl HSZ.out ?_)
  |(refine wpList_store_row rfl 39 (.tmp 2) (.tmp 17) rfl (w.heap.size+1) #[.int .i64 kind,.slice (some ⟨gY,0,none⟩) nY nY,.int .i64 now,.int .i64 N] rfl rfl 39 _ HRR.out HSZ.out rfl (by simp[Value.oneCell']) ?_)
  |fail)
 refine bodyPost_ret (v:=.agg #[.int .i64 kind,.slice (some ⟨gY,0,none⟩) nY nY,.int .i64 now,.int .i64 N]) (results_cell_row rfl _ _ (w.heap.size+1) 39 _ (0,0) _ rfl (setRow_heap _ _ _ _ _ _ HRR.out) Tryz.underlying39 rfl HSZ.out) rfl ?_;have hwz:Wr (w.heap.size+1) wz (wz.setRow (w.heap.size+1) #[.int .i64 kind,.slice (some ⟨gY,0,none⟩) nY nY,.int .i64 now,.int .i64 N]):=Wr.setRow _ _ _;exact⟨gY,rfl,by omega,HRY.out.wr hwz (by omega),HE1.out.below.trans (hwz.below (by omega))⟩
set_option maxRecDepth 100000 in
set_option maxHeartbeats 4000000 in
theorem eqOp_any (aY bY:Option Addr) (nY cY dY:Nat) (Y:List Int) (kind now N:Int) (w:World) (hY:Y.length=nY) (mY:nY≤1048576) (AY:At .u8 w aY Y) (BY:At .u8 w bY Y) :
  Calls Tryz.prog 14 #[.agg #[.int .i64 kind,.slice aY nY cY,.int .i64 now,.int .i64 N],.agg #[.int .i64 kind,.slice bY nY dY,.int .i64 now,.int .i64 N]] w fun e w'=>e=.returned (.bool true)∧Below w.heap.size w w':=by
 have HE0:Hid (BE w 39 #[.int .i64 kind,.slice aY nY cY,.int .i64 now,.int .i64 N] #[.int .i64 kind,.slice bY nY dY,.int .i64 now,.int .i64 N] ((w.alloc (.cells #[.int .i64 kind,.slice aY nY cY,.int .i64 now,.int .i64 N] 39)).alloc (.cells #[.int .i64 kind,.slice bY nY dY,.int .i64 now,.int .i64 N] 39))):=BE.start _ _ _ _;have HAY:Hid (At .u8 w aY Y∧At .u8 w bY Y):=⟨AY,BY⟩
 have HLY:Hid (Y.length=nY):=hY;clear AY BY hY;have nekind:(kind != kind)=false:=by simp
 have nenow:(now != now)=false:=by simp
 have neN:(N != N)=false:=by simp
 go_enter Tryz.func14,Tryz.ntmps14;go_wp2_with fail;generalize ((w.alloc (.cells #[.int .i64 kind,.slice aY nY cY,.int .i64 now,.int .i64 N] 39)).alloc (.cells #[.int .i64 kind,.slice bY nY dY,.int .i64 now,.int .i64 N] 39))=w0 at *;refine(eqB_any _ _ nY _ _ Y _ HLY.out mY (HAY.out.1.below HE0.out.below) (HAY.out.2.below HE0.out.below)).mono ?_;rintro e w1 ⟨rfl,q0,hq⟩;have hb:Below w0.heap.size w0 w1:=by rw[hq];exact below_dq (Below.refl _ _) _
 clear hq;have HE1:Hid (BE w 39 #[.int .i64 kind,.slice aY nY cY,.int .i64 now,.int .i64 N] #[.int .i64 kind,.slice bY nY dY,.int .i64 now,.int .i64 N] w1):=HE0.out.call hb;clear hb HE0;have x2:w1.cell? ⟨w.heap.size,2,none⟩=some (.int .i64 now):=by rw[cell_of_row w1 w.heap.size 2 _ _ _ HE1.out.b0];rfl
 have y2:w1.cell? ⟨w.heap.size+1,2,none⟩=some (.int .i64 now):=by rw[cell_of_row w1 (w.heap.size+1) 2 _ _ _ HE1.out.b1];rfl
 have x3:w1.cell? ⟨w.heap.size,3,none⟩=some (.int .i64 N):=by rw[cell_of_row w1 w.heap.size 3 _ _ _ HE1.out.b0];rfl
 have y3:w1.cell? ⟨w.heap.size+1,3,none⟩=some (.int .i64 N):=by rw[cell_of_row w1 (w.heap.size+1) 3 _ _ _ HE1.out.b1];rfl
 have HF:Hid (Below w.heap.size w w1):=HE1.out.below;clear HE1;go_wp2
 go_ret
 exact⟨rfl,HF.out⟩
set_option maxRecDepth 100000 in
set_option maxHeartbeats 4000000 in
theorem szOp_any (aY:Option Addr) (nY cY:Nat) (kind now N:Int) (left:Int) (w:World) (h0:0≤left) (h1:left≤1048576) (mY:nY≤9223372036854775807) :
  Calls Tryz.prog 5 #[.agg #[.int .i64 kind,.slice aY nY cY,.int .i64 now,.int .i64 N],.int .i64 left] w fun e w'=>e=.returned (.int .i64 (szQ left (nY)))∧Below w.heap.size w w':=by
 have HZ:Hid (∀ left n,szQ left n=if left<n then -1 else left-n):=fun _ _=>rfl
 have HE0:Hid (OE w 28 #[.int .i64 kind,.slice aY nY cY,.int .i64 now,.int .i64 N] (w.alloc (.cells #[.int .i64 kind,.slice aY nY cY,.int .i64 now,.int .i64 N] 28))):=OE.start _ _ _;go_enter Tryz.func5,Tryz.ntmps5;go_wp2_with fail;generalize (w.alloc (.cells #[.int .i64 kind,.slice aY nY cY,.int .i64 now,.int .i64 N] 28))=w0 at *;refine(szBQ_any _ _ _ _ _ h0 h1 mY).mono ?_;rintro e w1 ⟨rfl,rfl⟩;have HE1:Hid (OE w 28 #[.int .i64 kind,.slice aY nY cY,.int .i64 now,.int .i64 N] w1):=HE0.out;clear HE0;by_cases k0:left<((nY:Nat):Int)
 ·have r:szQ (left) (nY)=-1:=by rw[HZ.out,if_pos k0]
  have HR:Hid (szQ left (nY)=-1):=by show _=_;rw[HZ.out,if_pos (by omega)]
  have HF:Hid (Below w.heap.size w w1):=HE1.out.below;rw[r];clear r k0 HE1;go_wp2
  go_ret
  exact⟨ret_int HR.out.symm,HF.out⟩
 have r:szQ (left) (nY)=left-((nY:Nat):Int):=by rw[HZ.out,if_neg k0]
 rw[r];clear r;have q0:¬ (left-((nY:Nat):Int)<0):=by omega
 have z0:0≤left-((nY:Nat):Int):=by omega
 have zz0:left-((nY:Nat):Int)≤1048576:=by omega
 generalize el0:left-((nY:Nat):Int)=l0 at *;have HQ0:Hid (left-((nY:Nat):Int)=l0):=el0;clear el0;have HR:Hid (szQ left (nY)=l0):=by show _=_;rw[HZ.out];have:=HQ0.out;rw[if_neg (by omega)];omega
 have HF:Hid (Below w.heap.size w w1):=HE1.out.below;clear HE1;go_wp2
 go_ret
 exact⟨ret_int HR.out.symm,HF.out⟩
set_option maxRecDepth 100000 in
set_option maxHeartbeats 1000000 in
theorem mkOp_any (a:Option Addr) (n c:Nat) (kind now N k:Int) (w:World) (ho:Open w a n) (hk:0≤k) (hk':k+n≤1099511627776) :
  Calls Tryz.prog 17 #[.agg #[.int .i64 kind,.slice a n c,.int .i64 now,.int .i64 N],.int .i64 k] w fun e w'=>e=.returned (.int .i64 (k+n))∧w.heap.size≤w'.heap.size∧w'.os=w.os∧w'.tape=w.tape∧w'.output=w.output∧∀ j,j<w.heap.size→NotIn j a→w'.heap[j]?=w.heap[j]?:=by
 have b1:Below w.heap.size w (w.alloc (.cells #[.int .i64 kind,.slice a n c,.int .i64 now,.int .i64 N] 39)):=(Below.refl _ _).alloc (Nat.le_refl _) _;have HC:=markB_any a n c k _ (ho.below b1) hk hk';have HB1:Hid (Below w.heap.size w (w.alloc (.cells #[.int .i64 kind,.slice a n c,.int .i64 now,.int .i64 N] 39))):=b1;clear ho b1;go_enter Tryz.func17,Tryz.ntmps17;go_wp2_with fail;refine HC.mono ?_;rintro e w2 ⟨rfl,-,hw⟩;have HF:Hid (w.heap.size≤w2.heap.size∧w2.os=w.os∧w2.tape=w.tape∧w2.output=w.output∧∀ j,j<w.heap.size→NotIn j a→w2.heap[j]?=w.heap[j]?):=
  ⟨by rw[hw.size];exact HB1.out.size,hw.os.trans HB1.out.os,hw.tape.trans HB1.out.tape,hw.output.trans HB1.out.output,fun j hj hn=>(hw.block j (fun ad e=>hn ad e)).trans (HB1.out.block j hj)⟩
 clear hw HC HB1;go_wp2
 go_ret
 exact⟨rfl,HF.out⟩
theorem WSV.mono {lo lo':Nat} {w:World} {v:Value} {r:SpR} (h:WSV lo w v r) (hl:lo'≤lo):WSV lo' w v r:=by
 obtain⟨aD,nD,cD,aU,nU,cU,aT,nT,cT,e,h1,h2,h3,h4,h5,h6,l1,l2,l3,l4,l5⟩:=h;exact⟨aD,nD,cD,aU,nU,cU,aT,nT,cT,e,h1,h2,h3,h4,h5,h6,l1.mono hl (Nat.le_refl _),l2.mono hl (Nat.le_refl _),l3.mono hl (Nat.le_refl _),l4,l5⟩
theorem cpf_wsv {lo R:Nat} {k c:Int} {D U T:List Int} {nT:Nat} {w w':World} {aD aU aT:Option Addr} {nD cD nU cU cT:Nat} (h:CpFin lo k D U T nT w #[.slice aD nD cD,.slice aU nU cU,.int .i64 k,.slice aT nT cT]) (hR:R<lo) (hw:Wr R w w') :
  WSV lo w' (.agg #[.int .i64 c,.slice aD nD cD,.slice aU nU cU,.int .i64 k,.slice aT nT cT]) ⟨c,D,U,k,T,nT⟩:=by
 obtain⟨bD,mD,dD,bU,mU,dU,bT,dT,e,h1,h2,h3⟩:=h;simp at e;obtain⟨⟨rfl,rfl,rfl⟩,⟨rfl,rfl,rfl⟩,rfl,rfl⟩:=e;obtain⟨-,q1,-⟩:=h1.sat;obtain⟨-,q2,-⟩:=h2.sat;obtain⟨-,q3,-⟩:=h3.tapV.sat;have y1:=(h1.lk (lo:=lo) (O:=R) (Nat.le_refl _) (.inl hR)).wr hw;have y2:=(h2.lk (lo:=lo) (O:=R) (Nat.le_refl _) (.inl hR)).wr hw;have y3:=(h3.lk (lo:=lo) (O:=R) (Nat.le_refl _) (.inl hR)).wr hw;have hc:=h3.cap;exact⟨_,_,_,_,_,_,_,_,_,rfl,y1.1,y2.1,y3.1,q1,q2,q3,fun ad e=>⟨(y1.2 ad e).1,(y1.2 ad e).2.2⟩,fun ad e=>⟨(y2.2 ad e).1,(y2.2 ad e).2.2⟩,fun ad e=>⟨(y3.2 ad e).1,(y3.2 ad e).2.2⟩,hc.1,hc.2⟩
theorem run_g5 (w:World) (o:Bool) (aD aU aT:Option Addr) (nD cD nU cU nT cT:Nat) (k:Int):(Instr.field 60 (.agg #[.bool o,.slice aD nD cD,.slice aU nU cU,.int .i64 k,.slice aT nT cT]) 1).run Tryz.prog w=.ok (.agg #[.slice aD nD cD,.slice aU nU cU,.int .i64 k,.slice aT nT cT]) w:=by kernel_rfl
structure CX3 (w:World) (sc oc:Array Value) (wr:World):Prop where
 below:Below w.heap.size w wr
 sb:wr.heap[w.heap.size]?=some (.cells sc 33 (0,0))
 ob:wr.heap[w.heap.size+1]?=some (.cells oc 39 (0,0))
 rb:wr.heap[w.heap.size+2]?=some (.cells #[.int .i64 0,.slice none 0 0,.slice none 0 0,.int .i64 0,.slice none 0 0] 35 (0,0))
theorem CX3.lt {w wr:World} {sc oc:Array Value} (h:CX3 w sc oc wr):w.heap.size+2<wr.heap.size:=(Array.getElem?_eq_some_iff.1 h.rb).1
theorem CX3.keep {w wr w':World} {sc oc:Array Value} {B:Nat} (h:CX3 w sc oc wr) (b:Below B wr w') (hB:w.heap.size+3≤B):CX3 w sc oc w':=
 ⟨h.below.trans (b.mono (by omega)),by rw[b.block _ (by omega)];exact h.sb,by rw[b.block _ (by omega)];exact h.ob,by rw[b.block _ (by omega)];exact h.rb⟩
theorem CX3.call {w wr w':World} {sc oc:Array Value} (h:CX3 w sc oc wr) (b:Below wr.heap.size wr w'):CX3 w sc oc w':=h.keep b h.lt
theorem CX3.start (w:World) (sc oc:Array Value):CX3 w sc oc (((w.alloc (.cells sc 33)).alloc (.cells oc 39)).alloc (.cells #[.int .i64 0,.slice none 0 0,.slice none 0 0,.int .i64 0,.slice none 0 0] 35)):=by
 have h:=BX2.start w 33 39 sc oc;have b:Below ((w.alloc (.cells sc 33)).alloc (.cells oc 39)).heap.size ((w.alloc (.cells sc 33)).alloc (.cells oc 39)) _:=(Below.refl _ _).alloc (Nat.le_refl _) (.cells #[.int .i64 0,.slice none 0 0,.slice none 0 0,.int .i64 0,.slice none 0 0] 35);have h2:=h.call b;refine⟨h2.below,h2.b0,h2.b1,?_⟩;have:=heap_alloc_new ((w.alloc (.cells sc 33)).alloc (.cells oc 39)) (.cells #[.int .i64 0,.slice none 0 0,.slice none 0 0,.int .i64 0,.slice none 0 0] 35)
 rwa [show((w.alloc (.cells sc 33)).alloc (.cells oc 39)).heap.size=w.heap.size+2 by simp] at this
set_option maxRecDepth 100000 in
set_option maxHeartbeats 8000000 in
theorem sss_any (aD aU aT:Option Addr) (nD cD nU cU nT cT:Nat) (D U:List Int) (k:Int) (T:List Int) (ka:Option Addr) (nk ck:Nat) (ks:List Int) (ta:Option Addr) (tn tc:Nat) (tk:List Int) (kind now N:Int) (w:World) (hD:D.length=nD) (hU:U.length=nU) (hT:T.length=nT*2) (mD:nD≤1048576) (mU:nU≤1048576) (mT:nT≤1048576)
  (haD:At .i64 w aD D) (haU:At .i64 w aU U) (haT:At .i64 w aT T) (hcT:nT≤cT) (hcm:cT≤9223372036854775807) (hk0:-9223372036854775808≤k) (hk1:k<9223372036854775808) (hk:ks.length=nk) (mk:nk≤1048576) (hp:At .u8 w ka ks) (zk:Byte ks) (ht:tk.length=tn) (mt:tn≤1048576) (hct:tn≤tc) (hat:At .u8 w ta tk) (zt:Byte tk) :
  Calls Tryz.prog 6 #[.agg #[.slice aD nD cD,.slice aU nU cU,.int .i64 k,.slice aT nT cT],.slice ka nk ck,.agg #[.int .i64 kind,.slice ta tn tc,.int .i64 now,.int .i64 N]] w fun e w'=>∃ v,e=.returned v∧WSV w.heap.size w' v (stR D U k T nT ks kind tk now N)∧Below w.heap.size w w':=by
 have HX0:Hid (CX3 w #[.slice aD nD cD,.slice aU nU cU,.int .i64 k,.slice aT nT cT] #[.int .i64 kind,.slice ta tn tc,.int .i64 now,.int .i64 N] (((w.alloc (.cells #[.slice aD nD cD,.slice aU nU cU,.int .i64 k,.slice aT nT cT] 33)).alloc (.cells #[.int .i64 kind,.slice ta tn tc,.int .i64 now,.int .i64 N] 39)).alloc (.cells #[.int .i64 0,.slice none 0 0,.slice none 0 0,.int .i64 0,.slice none 0 0] 35))):=CX3.start _ _ _;have HLN:Hid (D.length=nD∧U.length=nU∧T.length=nT*2):=⟨hD,hU,hT⟩
 have HA:Hid (∀ wz,Below w.heap.size w wz→At .i64 wz aD D∧At .i64 wz aU U∧At .i64 wz aT T∧At .u8 wz ka ks∧At .u8 wz ta tk):=fun wz h=>⟨haD.below h,haU.below h,haT.below h,hp.below h,hat.below h⟩
 have HKL:Hid (ks.length=nk∧Byte ks∧tk.length=tn∧Byte tk):=⟨hk,zk,ht,zt⟩
 have HC:=svs_any aD aU aT nD cD nU cU nT cT D U k T _ hD hU hT mD mU mT (haD.below HX0.out.below) (haU.below HX0.out.below) (haT.below HX0.out.below) hk0 hk1;have HRZ:Hid ((Tryz.prog.info? 35).map (·.size)=some 5):=by show _=_;kernel_rfl
 have HSZ:Hid ((Tryz.prog.info? 33).map (·.size)=some 4):=by show _=_;kernel_rfl
 have HOZ:Hid ((Tryz.prog.info? 39).map (·.size)=some 4):=by show _=_;kernel_rfl
 have HFZ:Hid ((Tryz.prog.info? 56).map (·.size)=some 4):=by show _=_;kernel_rfl
 have HST:Hid (stB D U k T nT=true→StP D U k T nT):=stP_of;have HSR:Hid (stR D U k T nT ks kind tk now N=stR D U k T nT ks kind tk now N):=rfl;clear haD haU haT hD hU hT hk hp zk ht hat zt;go_enter Tryz.func6,Tryz.ntmps6
 go_upto_region 1 with fail
 generalize (((w.alloc (.cells #[.slice aD nD cD,.slice aU nU cU,.int .i64 k,.slice aT nT cT] 33)).alloc (.cells #[.int .i64 kind,.slice ta tn tc,.int .i64 now,.int .i64 N] 39)).alloc (.cells #[.int .i64 0,.slice none 0 0,.slice none 0 0,.int .i64 0,.slice none 0 0] 35))=w0 at *;have o0:w0.cell? ⟨w.heap.size+1,0,none⟩=some (.int .i64 kind):=by rw[cell_of_row w0 _ 0 _ _ _ HX0.out.ob];rfl
 go_wp2_with (first
  |(refine wpList_load_row rfl 33 (.tmp 3) rfl w.heap.size rfl 33 _ (0,0) _ HX0.out.sb Tryz.underlying33 rfl HSZ.out ?_)
  |fail)
 refine HC.mono ?_;rintro e w1 ⟨rfl,hb1⟩;have HX1:Hid (CX3 w #[.slice aD nD cD,.slice aU nU cU,.int .i64 k,.slice aT nT cT] #[.int .i64 kind,.slice ta tn tc,.int .i64 now,.int .i64 N] w1):=HX0.out.call hb1;have o1:w1.cell? ⟨w.heap.size+1,0,none⟩=some (.int .i64 kind):=by rw[cell_of_row w1 _ 0 _ _ _ HX1.out.ob];rfl
 clear HC HX0 hb1 o0;by_cases hbad:¬ (stB D U k T nT=true∧nk=32∧1≤kind∧kind≤5)
 ·have HR:Hid (stR D U k T nT ks kind tk now N=⟨10,D,U,k,T,nT⟩):=by
   show _=_
   unfold stR;by_cases h:stB D U k T nT=true∧ks.length=32
   ·rw[if_pos h];unfold opR;have h2:¬ (1≤kind∧kind≤5):=fun h3=>hbad ⟨h.1,HKL.out.1.symm.trans h.2,h3⟩
    rw[if_neg (by omega),if_neg (by omega),if_neg (by omega),if_neg (by omega),if_neg (by omega)]
   ·rw[if_neg h]
  have hcs:stB D U k T nT=false∨(stB D U k T nT=true∧((nk:Int) != 32)=true)∨(stB D U k T nT=true∧nk=32∧kind<1)∨(stB D U k T nT=true∧nk=32∧¬ kind<1∧5<kind):=by
   cases hq:stB D U k T nT with
   |false=>exact .inl rfl
   |true=>
    by_cases h32:nk=32
    ·by_cases h1:kind<1
     ·exact .inr (.inr (.inl ⟨rfl,h32,h1⟩))
     ·have h3:¬ (1≤kind∧kind≤5):=fun h=>hbad ⟨hq,h32,h⟩
      exact .inr (.inr (.inr ⟨rfl,h32,h1,by omega⟩))
    ·exact .inr (.inl ⟨rfl,by simp;omega⟩)
  clear hbad HST HSR;generalize hq:stB D U k T nT=q at *;clear hq;rcases hcs with rfl|⟨rfl,h32⟩|⟨rfl,rfl,h1⟩|⟨rfl,rfl,h1,h5⟩
  all_goals
   go_upto_region 2 with fail
   go_wp2_with (first
    |(refine wpList_load_row rfl 33 (.tmp 3) rfl w.heap.size rfl 33 _ (0,0) _ HX1.out.sb Tryz.underlying33 rfl HSZ.out ?_)
    |fail)
   refine(l5c_any aD aU aT nD cD nU cU nT cT D U k T w1 HLN.out.1 HLN.out.2.1 HLN.out.2.2 mD mU mT (HA.out w1 HX1.out.below).1 (HA.out w1 HX1.out.below).2.1 (HA.out w1 HX1.out.below).2.2.1).mono ?_;rintro e w9 ⟨cs,rfl,hcp,hb9⟩;have HX9:Hid (CX3 w #[.slice aD nD cD,.slice aU nU cU,.int .i64 k,.slice aT nT cT] #[.int .i64 kind,.slice ta tn tc,.int .i64 now,.int .i64 N] w9):=HX1.out.call hb9;have HL9:Hid (w.heap.size+2<w1.heap.size):=HX1.out.lt;have HCP:Hid (CpFin w1.heap.size k D U T nT w9 cs):=hcp;obtain⟨bD,mD',dD,bU,mU',dU,bT,dT,rfl,-⟩:=hcp;have HRB:Hid (w9.heap[w.heap.size+2]?=some (.cells #[.int .i64 0,.slice none 0 0,.slice none 0 0,.int .i64 0,.slice none 0 0] 35 (0,0))):=HX9.out.rb;have HF:Hid (WSV w.heap.size (w9.setRow (w.heap.size+2) #[.int .i64 10,.slice bD mD' dD,.slice bU mU' dU,.int .i64 k,.slice bT nT dT]) (.agg #[.int .i64 10,.slice bD mD' dD,.slice bU mU' dU,.int .i64 k,.slice bT nT dT]) (stR D U k T nT ks kind tk now N)∧Below w.heap.size w (w9.setRow (w.heap.size+2) #[.int .i64 10,.slice bD mD' dD,.slice bU mU' dU,.int .i64 k,.slice bT nT dT])):=⟨by rw[HR.out];exact(cpf_wsv HCP.out HL9.out (Wr.setRow _ _ _)).mono (by have:=HX9.out.below.size;have:=HL9.out;omega),HX9.out.below.trans ((Wr.setRow _ _ _).below (by omega))⟩
   clear hb9 HCP HL9 HX1;go_wp2_with (first
    |(refine wpList_store_row rfl 35 (.tmp 6) (.tmp 29) rfl (w.heap.size+2) #[.int .i64 10,.slice bD mD' dD,.slice bU mU' dU,.int .i64 k,.slice bT nT dT] rfl rfl 35 _ HRB.out HRZ.out rfl (by simp[Value.oneCell']) ?_)
    |fail)
   exact bodyPost_ret (v:=.agg #[.int .i64 10,.slice bD mD' dD,.slice bU mU' dU,.int .i64 k,.slice bT nT dT]) (results_cell_row rfl _ _ (w.heap.size+2) 35 _ (0,0) _ rfl (setRow_heap _ _ _ _ _ _ HRB.out) Tryz.underlying35 rfl HRZ.out) rfl ⟨_,rfl,HF.out.1,HF.out.2⟩
 have hgood:stB D U k T nT=true∧nk=32∧1≤kind∧kind≤5:=Decidable.not_not.1 hbad;obtain⟨hq,h32,hki,hk5⟩:=hgood;have hst:=HST.out hq;have hkn:k+nT=(nU:Int):=by have:=hst.2.2.2.2.1;rw[HLN.out.2.1] at this;exact this
 have hkk:0≤k:=hst.2.2.2.1;have hd16:D.length≤16:=hst.2.1;have HSO:Hid (stR D U k T nT ks kind tk now N=opR D U k T nT ks kind tk now N):=by show _=_;unfold stR;rw[if_pos ⟨hq,HKL.out.1.trans h32⟩]
 have HDO:=hid_ofS (du_op (ks:=ks) (kind:=kind) (tk:=tk) (now:=now) (N:=N) hq HKL.out.2.2.2 hkk (by omega) mT hd16 hki hk5);have hkb:k≤1048576:=by omega
 have h1:¬ kind<1:=by omega
 have h5:¬ 5<kind:=by omega
 have HQ:Hid (stB D U k T nT=true):=hq;rw[hq];clear hst hbad HST hkn hd16 hq hki hk5 HSR;subst h32;obtain⟨bp,op,rfl,-,-⟩:=(HA.out w1 HX1.out.below).2.2.2.1.get (by rw[HKL.out.1];decide);have HPT:Hid (∀ wz,Below w.heap.size w wz→PtA wz bp op ks):=fun wz h=>by
  obtain⟨b',o',e',hl',hc'⟩:=(HA.out wz h).2.2.2.1.get (by rw[HKL.out.1];decide);cases e';exact⟨hl',hc'⟩
 go_upto_region 3 with fail
 clear h1 h5 o1;go_wp2_with (first
  |(refine wpList_load_row rfl 33 (.tmp 3) rfl w.heap.size rfl 33 _ (0,0) _ HX1.out.sb Tryz.underlying33 rfl HSZ.out ?_)
  |(refine wpList_load_row rfl 39 (.tmp 5) rfl (w.heap.size+1) rfl 39 _ (0,0) _ HX1.out.ob Tryz.underlying39 rfl HOZ.out ?_)
  |fail)
 refine(due_any aD aU aT nD cD nU cU nT cT D U k bp op ck ks ta tn tc tk kind now N w1 HLN.out.1 HLN.out.2.1 mD mU mT (HA.out w1 HX1.out.below).1 (HA.out w1 HX1.out.below).2.1 hkk hkb HKL.out.1 (HPT.out w1 HX1.out.below) HKL.out.2.1 HKL.out.2.2.1 mt hct (HA.out w1 HX1.out.below).2.2.2.2 HKL.out.2.2.2).mono ?_;rintro e w4 ⟨rfl,hb4⟩;have HX4:Hid (CX3 w #[.slice aD nD cD,.slice aU nU cU,.int .i64 k,.slice aT nT cT] #[.int .i64 kind,.slice ta tn tc,.int .i64 now,.int .i64 N] w4):=HX1.out.call hb4;clear hb4 HX1 HPT;generalize duR D U k nT ks kind tk now N=r at *;obtain⟨c,fk,a,b⟩:=r;unfold duV;dsimp only at HDO ⊢;have HN:Hid ((w4.alloc (.cells #[.int .u32 0,.int .i64 0,.int .u32 0,.int .u32 0] 56)).heap[w4.heap.size]?=some (.cells #[.int .u32 0,.int .i64 0,.int .u32 0,.int .u32 0] 56 (0,0))):=heap_alloc_new w4 _;have HB5:Hid (Below w4.heap.size w4 ((w4.alloc (.cells #[.int .u32 0,.int .i64 0,.int .u32 0,.int .u32 0] 56)).setRow w4.heap.size #[.int .u32 0,.int .i64 fk,.int .u32 (a:Int),.int .u32 (b:Int)])):=((Below.refl _ _).alloc (Nat.le_refl _) _).trans ((Wr.setRow _ _ _).below (Nat.le_refl _));have HR5:Hid (((w4.alloc (.cells #[.int .u32 0,.int .i64 0,.int .u32 0,.int .u32 0] 56)).setRow w4.heap.size #[.int .u32 0,.int .i64 fk,.int .u32 (a:Int),.int .u32 (b:Int)]).heap[w4.heap.size]?=some (.cells #[.int .u32 0,.int .i64 fk,.int .u32 (a:Int),.int .u32 (b:Int)] 56 (0,0))):=setRow_heap _ _ _ _ _ _ HN.out;have HX5:Hid (CX3 w #[.slice aD nD cD,.slice aU nU cU,.int .i64 k,.slice aT nT cT] #[.int .i64 kind,.slice ta tn tc,.int .i64 now,.int .i64 N] ((w4.alloc (.cells #[.int .u32 0,.int .i64 0,.int .u32 0,.int .u32 0] 56)).setRow w4.heap.size #[.int .u32 0,.int .i64 fk,.int .u32 (a:Int),.int .u32 (b:Int)])):=HX4.out.call HB5.out
 go_upto_region 4 with (first
  |(refine wpList_store_row rfl 56 (.tmp 8) (.tmp 36) rfl w4.heap.size #[.int .u32 0,.int .i64 fk,.int .u32 (a:Int),.int .u32 (b:Int)] rfl rfl 56 _ HN.out HFZ.out rfl (by simp[Value.oneCell']) ?_)
  |fail)
 clear HN HB5 HX4;generalize ((w4.alloc (.cells #[.int .u32 0,.int .i64 0,.int .u32 0,.int .u32 0] 56)).setRow w4.heap.size #[.int .u32 0,.int .i64 fk,.int .u32 (a:Int),.int .u32 (b:Int)])=w5 at *;have f1:w5.cell? ⟨w4.heap.size,1,none⟩=some (.int .i64 fk):=by rw[cell_of_row w5 _ 1 _ _ _ HR5.out];rfl
 by_cases hfk:fk=0
 ·have HR:Hid (stR D U k T nT ks kind tk now N=⟨c,D,U,k,T,nT⟩):=by show _=_;rw[HSO.out];exact HDO.out.1 hfk
  subst hfk;clear HDO HSO HR5
  go_upto_region 5 with fail
  go_wp2_with (first
   |(refine wpList_load_row rfl 33 (.tmp 3) rfl w.heap.size rfl 33 _ (0,0) _ HX5.out.sb Tryz.underlying33 rfl HSZ.out ?_)
   |fail)
  refine(l5c_any aD aU aT nD cD nU cU nT cT D U k T w5 HLN.out.1 HLN.out.2.1 HLN.out.2.2 mD mU mT (HA.out w5 HX5.out.below).1 (HA.out w5 HX5.out.below).2.1 (HA.out w5 HX5.out.below).2.2.1).mono ?_;rintro e w9 ⟨cs,rfl,hcp,hb9⟩;have HX9:Hid (CX3 w #[.slice aD nD cD,.slice aU nU cU,.int .i64 k,.slice aT nT cT] #[.int .i64 kind,.slice ta tn tc,.int .i64 now,.int .i64 N] w9):=HX5.out.call hb9;have HL9:Hid (w.heap.size+2<w5.heap.size):=HX5.out.lt;have HCP:Hid (CpFin w5.heap.size k D U T nT w9 cs):=hcp;obtain⟨bD,mD',dD,bU,mU',dU,bT,dT,rfl,-⟩:=hcp;have HRB:Hid (w9.heap[w.heap.size+2]?=some (.cells #[.int .i64 0,.slice none 0 0,.slice none 0 0,.int .i64 0,.slice none 0 0] 35 (0,0))):=HX9.out.rb;have HF:Hid (WSV w.heap.size (w9.setRow (w.heap.size+2) #[.int .i64 c,.slice bD mD' dD,.slice bU mU' dU,.int .i64 k,.slice bT nT dT]) (.agg #[.int .i64 c,.slice bD mD' dD,.slice bU mU' dU,.int .i64 k,.slice bT nT dT]) (stR D U k T nT ks kind tk now N)∧Below w.heap.size w (w9.setRow (w.heap.size+2) #[.int .i64 c,.slice bD mD' dD,.slice bU mU' dU,.int .i64 k,.slice bT nT dT])):=⟨by rw[HR.out];exact(cpf_wsv HCP.out HL9.out (Wr.setRow _ _ _)).mono (by have:=HX9.out.below.size;have:=HL9.out;omega),HX9.out.below.trans ((Wr.setRow _ _ _).below (by omega))⟩
  clear hb9 HCP HL9 HX5;go_wp2_with (first
   |(refine wpList_store_row rfl 35 (.tmp 6) (.tmp 43) rfl (w.heap.size+2) #[.int .i64 c,.slice bD mD' dD,.slice bU mU' dU,.int .i64 k,.slice bT nT dT] rfl rfl 35 _ HRB.out HRZ.out rfl (by simp[Value.oneCell']) ?_)
   |fail)
  exact bodyPost_ret (v:=.agg #[.int .i64 c,.slice bD mD' dD,.slice bU mU' dU,.int .i64 k,.slice bT nT dT]) (results_cell_row rfl _ _ (w.heap.size+2) 35 _ (0,0) _ rfl (setRow_heap _ _ _ _ _ _ HRB.out) Tryz.underlying35 rfl HRZ.out) rfl ⟨_,rfl,HF.out.1,HF.out.2⟩
 obtain⟨o,ho,hoc,hap,ha,hb⟩:=HDO.out.2 hfk;have HSO2:Hid (stR D U k T nT ks kind tk now N=o):=by show _=_;rw[HSO.out];exact ho
 have HOC:Hid (o.c=c):=hoc;have HAP:Hid (apF D U k T nT fk a b=⟨true,o.D,o.U,o.k,o.T,o.n⟩):=hap;clear HDO HSO ho hoc hap HQ
 go_upto_region 6 with fail
 clear f1 hfk;go_wp2_with (first
  |(refine wpList_load_row rfl 33 (.tmp 3) rfl w.heap.size rfl 33 _ (0,0) _ HX5.out.sb Tryz.underlying33 rfl HSZ.out ?_)
  |(refine wpList_load_row rfl 56 (.tmp 8) rfl w4.heap.size rfl 56 _ (0,0) _ HR5.out Tryz.underlying56 rfl HFZ.out ?_)
  |fail)
 have HAP2:=HAP;refine(sap_any aD aU aT nD cD nU cU nT cT D U k T 0 fk a b w5 HLN.out.1 HLN.out.2.1 HLN.out.2.2 mD mU mT (HA.out w5 HX5.out.below).1 (HA.out w5 HX5.out.below).2.1 (HA.out w5 HX5.out.below).2.2.1 hcT hcm hk0 hk1 ha hb).mono ?_;rintro e w9 ⟨v,rfl,hv,hb9⟩;have HX9:Hid (CX3 w #[.slice aD nD cD,.slice aU nU cU,.int .i64 k,.slice aT nT cT] #[.int .i64 kind,.slice ta tn tc,.int .i64 now,.int .i64 N] w9):=HX5.out.call hb9;have HL9:Hid (w.heap.size+2<w5.heap.size):=HX5.out.lt;rw[HAP.out] at hv;obtain⟨bD,mD',dD,bU,mU',dU,bT,mT',dT,rfl,hv⟩:=hv;have HV:Hid (At .i64 w9 bD o.D∧At .i64 w9 bU o.U∧At .i64 w9 bT o.T∧o.D.length=mD'∧o.U.length=mU'∧o.T.length=mT'*2∧Lies w5.heap.size w9 bD∧Lies w5.heap.size w9 bU∧Lies w5.heap.size w9 bT∧mT'≤dT∧dT≤9223372036854775807):=hv;have HRB:Hid (w9.heap[w.heap.size+2]?=some (.cells #[.int .i64 0,.slice none 0 0,.slice none 0 0,.int .i64 0,.slice none 0 0] 35 (0,0))):=HX9.out.rb;have HF:Hid (WSV w.heap.size (w9.setRow (w.heap.size+2) #[.int .i64 c,.slice bD mD' dD,.slice bU mU' dU,.int .i64 o.k,.slice bT mT' dT]) (.agg #[.int .i64 c,.slice bD mD' dD,.slice bU mU' dU,.int .i64 o.k,.slice bT mT' dT]) (stR D U k T nT ks kind tk now N)∧Below w.heap.size w (w9.setRow (w.heap.size+2) #[.int .i64 c,.slice bD mD' dD,.slice bU mU' dU,.int .i64 o.k,.slice bT mT' dT])):=by
  refine⟨?_,HX9.out.below.trans ((Wr.setRow _ _ _).below (by omega))⟩;rw[HSO2.out];obtain⟨v1,v2,v3,v4,v5,v6,l1,l2,l3,v7,v8⟩:=HV.out;have hl:=HL9.out;have hw:Wr (w.heap.size+2) w9 (w9.setRow (w.heap.size+2) #[.int .i64 c,.slice bD mD' dD,.slice bU mU' dU,.int .i64 o.k,.slice bT mT' dT]):=Wr.setRow _ _ _;have K:∀ {x:Option Addr} {xs:List Int},At .i64 w9 x xs→Lies w5.heap.size w9 x→At .i64 (w9.setRow (w.heap.size+2) #[.int .i64 c,.slice bD mD' dD,.slice bU mU' dU,.int .i64 o.k,.slice bT mT' dT]) x xs∧Lies w.heap.size (w9.setRow (w.heap.size+2) #[.int .i64 c,.slice bD mD' dD,.slice bU mU' dU,.int .i64 o.k,.slice bT mT' dT]) x:=fun h l=>by
   refine⟨h.keepT (by rw[hw.size];exact Nat.le_refl _) (fun ad e _=>hw.block _ (by have:=(l ad e).1;omega)),fun ad e=>?_⟩;have:=l ad e;rw[hw.size];omega
  exact⟨_,_,_,_,_,_,_,_,_,by rw[HOC.out],(K v1 l1).1,(K v2 l2).1,(K v3 l3).1,v4,v5,v6,(K v1 l1).2,(K v2 l2).2,(K v3 l3).2,v7,v8⟩
 have hfd:=run_g5 w9 true bD bU bT mD' dD mU' dU mT' dT o.k;clear hb9 HV HL9 HX5 hv;go_wp2_with (first
  |(refine wpList_store_row rfl 35 (.tmp 6) (.tmp 49) rfl (w.heap.size+2) #[.int .i64 c,.slice bD mD' dD,.slice bU mU' dU,.int .i64 o.k,.slice bT mT' dT] rfl rfl 35 _ HRB.out HRZ.out rfl (by simp[Value.oneCell']) ?_)
  |fail)
 exact bodyPost_ret (v:=.agg #[.int .i64 c,.slice bD mD' dD,.slice bU mU' dU,.int .i64 o.k,.slice bT mT' dT]) (results_cell_row rfl _ _ (w.heap.size+2) 35 _ (0,0) _ rfl (setRow_heap _ _ _ _ _ _ HRB.out) Tryz.underlying35 rfl HRZ.out) rfl ⟨_,rfl,HF.out.1,HF.out.2⟩
def BkP (H B g:Nat) (w:World) (r:SpR) (e:Ending) (w':World):Prop:=
 e=.returned (.int .i64 r.c)∧Below H w w'∧∃ d u v,Bk w' g d u r.k v∧SetB d (fun x=>(x:Int)∈r.D)∧SetB u (fun x=>(x:Int)∈r.U)∧TapV B w' v r.T r.n∧NeG g v
structure BkV (H B g:Nat) (w:World) (d u:List Int) (v:Value) (D U:List Int) (k:Int) (T:List Int) (n:Nat):Prop where
 bk:Bk w g d u k v
 sd:SetB d (fun x=>(x:Int)∈D)
 su:SetB u (fun x=>(x:Int)∈U)
 tv:TapV B w v T n
 ser:SerP D
 h0:0≤k
 h1:k≤1048576
 hn:n≤1048576
 hH:H≤g
 hHB:H≤B
 ne:NeG g v
 hBw:B≤w.heap.size
section
variable {H B g:Nat} {w w':World} {d u:List Int} {v:Value} {D U:List Int} {k:Int} {T:List Int} {n:Nat} {ks tk:List Int} {now N:Int}
theorem BkV.same (h:BkV H B g w d u v D U k T n) (c:Int):BkP H B g w ⟨c,D,U,k,T,n⟩ (.returned (.int .i64 c)) w:=⟨rfl,Below.refl _ _,d,u,v,h.bk,h.sd,h.su,h.tv,h.ne⟩
theorem BkV.drew (h:BkV H B g w d u v D U k T n) (q:Nat):BkV H B g (w.drewN q) d u v D U k T n:=⟨h.bk.drew q,h.sd,h.su,h.tv.drew q,h.ser,h.h0,h.h1,h.hn,h.hH,h.hHB,h.ne,h.hBw⟩
theorem BkV.below (h:BkV H B g w d u v D U k T n) (b:Below w.heap.size w w'):BkV H B g w' d u v D U k T n:=
 ⟨h.bk.below b h.bk.lt,h.sd,h.su,h.tv.block b.size (fun t _ ht=>b.block t ht),h.ser,h.h0,h.h1,h.hn,h.hH,h.hHB,h.ne,Nat.le_trans h.hBw b.size⟩
theorem BkP.from {r:SpR} {e:Ending} {w1:World} (h:BkP H B g w1 r e w') (b:Below H w w1):BkP H B g w r e w':=⟨h.1,b.trans h.2.1,h.2.2⟩
theorem opR_2:opR D U k T n ks 2 tk now N=if 0≤N∧N<256 then(if memB N D=true then ⟨9,D,U,k,T,n⟩ else if D.length=16 then ⟨10,D,U,k,T,n⟩ else ⟨9,withS D N.toNat,U,k,T,n⟩) else ⟨10,D,U,k,T,n⟩:=by unfold opR;rw[if_neg (by decide),if_pos rfl]
theorem opR_3:opR D U k T n ks 3 tk now N=if 0≤N∧N<256 then(if memB N D=true then ⟨9,lessS D N.toNat,U,k,T,n⟩ else ⟨9,D,U,k,T,n⟩) else ⟨10,D,U,k,T,n⟩:=by unfold opR;rw[if_neg (by decide),if_neg (by decide),if_pos rfl]
theorem opR_4:opR D U k T n ks 4 tk now N=if N<k then ⟨10,D,U,k,T,n⟩ else if k+(n:Int)<N then ⟨10,D,U,k,T,n⟩ else if N=k then ⟨9,D,U,k,T,n⟩ else ⟨9,D,U,N,T.drop ((N-k).toNat*2),n-(N-k).toNat⟩:=by unfold opR;rw[if_neg (by decide),if_neg (by decide),if_neg (by decide),if_pos rfl]
set_option maxRecDepth 100000 in
set_option maxHeartbeats 1000000 in
theorem dny_any (h:BkV H B g w d u v D U k T n) :
  Calls Tryz.prog 50 #[.pointer (some ⟨g,0,none⟩),.int .i64 N] w (BkP H B g w (opR D U k T n ks 2 tk now N)):=by
 have HB:=hid_ofS h;clear h;by_cases hs:0≤N∧N<256
 ·obtain⟨m,rfl⟩:∃ m:Nat,N=m:=⟨N.toNat,by omega⟩
  have hm:m<256:=by omega
  have HSO:Hid (serOk (m:Int)=true):=ser_yes hm;by_cases hin:memB (m:Int) D=true
  ·have HR:Hid (opR D U k T n ks 2 tk now (m:Int)=⟨9,D,U,k,T,n⟩):=by show _=_;rw[opR_2,if_pos hs,if_pos hin]
   have HQ:Hid (m<256∧(m:Int)∈D):=⟨hm,memB_of hin⟩
   clear hs hin;go_enter Tryz.func50,Tryz.ntmps50;go_wp2_with fail;refine(isSerial_any _ _).mono ?_;rintro e w1 ⟨rfl,e1⟩;obtain rfl:w=w1:=e1.symm;rw[HSO.out];go_wp2_with fail;refine(hasYes_any m HB.out.bk.batd HB.out.sd HQ.out).mono ?_;rintro e w1 ⟨rfl,e1⟩;obtain rfl:w=w1:=e1.symm;have HF:=hid_ofS (HB.out.same 9);clear HB HSO HQ;go_wp2
   go_ret
   rw[HR.out];exact HF.out
  ·have HQ:Hid (¬ (m<256∧(m:Int)∈D)):=fun h=>memB_not hin h.2
   by_cases h16:D.length=16
   ·have HR:Hid (opR D U k T n ks 2 tk now (m:Int)=⟨10,D,U,k,T,n⟩):=by show _=_;rw[opR_2,if_pos hs,if_neg hin,if_pos h16]
    have HP:Hid (decide (popS d 32=16)=true):=decide_eq_true ((pop_len HB.out.sd HB.out.ser).trans h16);clear hs hin h16;go_enter Tryz.func50,Tryz.ntmps50;go_wp2_with fail;refine(isSerial_any _ _).mono ?_;rintro e w1 ⟨rfl,e1⟩;obtain rfl:w=w1:=e1.symm;rw[HSO.out];go_wp2_with fail;refine(hasNo_any m HB.out.bk.batd HB.out.sd HQ.out).mono ?_;rintro e w1 ⟨rfl,e1⟩;obtain rfl:w=w1:=e1.symm;go_wp2_with fail;refine(full_any HB.out.bk).mono ?_;rintro e w1 ⟨rfl,e1⟩;obtain rfl:w=w1:=e1.symm;rw[HP.out];have HF:=hid_ofS (HB.out.same 10);clear HB HSO HQ HP;go_wp2
    go_ret
    rw[HR.out];exact HF.out
   ·have HR:Hid (opR D U k T n ks 2 tk now (m:Int)=⟨9,withS D m,U,k,T,n⟩):=by show _=_;rw[opR_2,if_pos hs,if_neg hin,if_neg h16];rfl
    have HP:Hid (decide (popS d 32=16)=false):=decide_eq_false (fun h=>h16 ((pop_len HB.out.sd HB.out.ser).symm.trans h));have HF:∀ q,Hid (BkP H B g w ⟨9,withS D m,U,k,T,n⟩ (.returned (.int .i64 9)) ((w.setCell ⟨g,0+m/8,none⟩ (.int .u8 ((addB d m).getD (m/8) 0))).drewN q)):=fun q=>by
     have hw:Wr g w ((w.setCell ⟨g,0+m/8,none⟩ (.int .u8 ((addB d m).getD (m/8) 0))).drewN q):=((Wr.refl _ _).setCell _ _).drewN _;exact⟨rfl,hw.below HB.out.hH,_,_,_,(HB.out.bk.addD m hm).drew q,(HB.out.sd.add m hm).congr (fun x hx=>withS_mem hx),HB.out.su,HB.out.tv.wr hw HB.out.ne,HB.out.ne⟩
    clear hs hin h16;go_enter Tryz.func50,Tryz.ntmps50;go_wp2_with fail;refine(isSerial_any _ _).mono ?_;rintro e w1 ⟨rfl,e1⟩;obtain rfl:w=w1:=e1.symm;rw[HSO.out];go_wp2_with fail;refine(hasNo_any m HB.out.bk.batd HB.out.sd HQ.out).mono ?_;rintro e w1 ⟨rfl,e1⟩;obtain rfl:w=w1:=e1.symm;go_wp2_with fail;refine(full_any HB.out.bk).mono ?_;rintro e w1 ⟨rfl,e1⟩;obtain rfl:w=w1:=e1.symm;rw[HP.out];go_wp2_with fail;refine(addS_any g 0 m d _ hm HB.out.bk.batd).mono ?_;rintro e w4 ⟨rfl,q,rfl⟩;have H2:=HF q;clear HF HB HSO HQ HP;generalize (w.setCell ⟨g,0+m/8,none⟩ (.int .u8 ((addB d m).getD (m/8) 0))).drewN q=w4 at *;go_wp2
    go_ret
    rw[HR.out];exact H2.out
 ·have HR:Hid (opR D U k T n ks 2 tk now N=⟨10,D,U,k,T,n⟩):=by show _=_;rw[opR_2,if_neg hs]
  have HSO:Hid (serOk N=false):=decide_eq_false hs;clear hs;go_enter Tryz.func50,Tryz.ntmps50;go_wp2_with fail;refine(isSerial_any _ _).mono ?_;rintro e w1 ⟨rfl,e1⟩;obtain rfl:w=w1:=e1.symm;rw[HSO.out];have HF:=hid_ofS (HB.out.same 10);clear HB HSO;go_wp2
  go_ret
  rw[HR.out];exact HF.out
set_option maxRecDepth 100000 in
set_option maxHeartbeats 1000000 in
theorem alw_any (h:BkV H B g w d u v D U k T n) :
  Calls Tryz.prog 51 #[.pointer (some ⟨g,0,none⟩),.int .i64 N] w (BkP H B g w (opR D U k T n ks 3 tk now N)):=by
 have HB:=hid_ofS h;clear h;by_cases hs:0≤N∧N<256
 ·obtain⟨m,rfl⟩:∃ m:Nat,N=m:=⟨N.toNat,by omega⟩
  have hm:m<256:=by omega
  have HSO:Hid (serOk (m:Int)=true):=ser_yes hm;have HF:∀ q,Hid (BkP H B g w (opR D U k T n ks 3 tk now (m:Int)) (.returned (.int .i64 9)) ((w.setCell ⟨g,0+m/8,none⟩ (.int .u8 ((remB d m).getD (m/8) 0))).drewN q)):=fun q=>by
   have hw:Wr g w ((w.setCell ⟨g,0+m/8,none⟩ (.int .u8 ((remB d m).getD (m/8) 0))).drewN q):=((Wr.refl _ _).setCell _ _).drewN _;show BkP _ _ _ _ _ _ _
   by_cases hin:memB (m:Int) D=true
   ·rw[opR_3,if_pos hs,if_pos hin];exact⟨rfl,hw.below HB.out.hH,_,_,_,(HB.out.bk.remD m hm).drew q,(HB.out.sd.rem m hm).congr (fun x hx=>lessS_mem),HB.out.su,HB.out.tv.wr hw HB.out.ne,HB.out.ne⟩
   ·rw[opR_3,if_pos hs,if_neg hin];refine⟨rfl,hw.below HB.out.hH,_,_,_,(HB.out.bk.remD m hm).drew q,(HB.out.sd.rem m hm).congr (fun x hx=>⟨fun h=>h.1,fun h=>⟨h,fun e=>?_⟩⟩),HB.out.su,HB.out.tv.wr hw HB.out.ne,HB.out.ne⟩;subst e;exact memB_not hin h
  clear hs;go_enter Tryz.func51,Tryz.ntmps51;go_wp2_with fail;refine(isSerial_any _ _).mono ?_;rintro e w1 ⟨rfl,e1⟩;obtain rfl:w=w1:=e1.symm;rw[HSO.out];go_wp2_with fail;refine(remS_any g 0 m d _ hm HB.out.bk.batd).mono ?_;rintro e w4 ⟨rfl,q,rfl⟩;have H2:=HF q;clear HF HB HSO;generalize (w.setCell ⟨g,0+m/8,none⟩ (.int .u8 ((remB d m).getD (m/8) 0))).drewN q=w4 at *;go_wp2
  go_ret
  exact H2.out
 ·have HR:Hid (opR D U k T n ks 3 tk now N=⟨10,D,U,k,T,n⟩):=by show _=_;rw[opR_3,if_neg hs]
  have HSO:Hid (serOk N=false):=decide_eq_false hs;clear hs;go_enter Tryz.func51,Tryz.ntmps51;go_wp2_with fail;refine(isSerial_any _ _).mono ?_;rintro e w1 ⟨rfl,e1⟩;obtain rfl:w=w1:=e1.symm;rw[HSO.out];have HF:=hid_ofS (HB.out.same 10);clear HB HSO;go_wp2
  go_ret
  rw[HR.out];exact HF.out
set_option maxRecDepth 100000 in
set_option maxHeartbeats 1000000 in
theorem bak_any (h:BkV H B g w d u v D U k T n) :
  Calls Tryz.prog 52 #[.pointer (some ⟨g,0,none⟩),.int .i64 N] w (BkP H B g w (opR D U k T n ks 4 tk now N)):=by
 have HB:=hid_ofS h;obtain⟨ad,c,rfl⟩:=h.tv.slice;have c0:=h.bk.ck;have h0:=h.h0;have h1:=h.h1;have hn:=h.hn;clear h;by_cases hlo:N<k
 ·have HR:Hid (opR D U k T n ks 4 tk now N=⟨10,D,U,k,T,n⟩):=by show _=_;rw[opR_4,if_pos hlo]
  have HF:=hid_ofS (HB.out.same 10);clear HB;go_enter Tryz.func52,Tryz.ntmps52;go_wp2
  go_ret
  rw[HR.out];exact HF.out
 have HAD:=admitted_any ad n c HB.out.bk h0 h1 hn;by_cases hhi:k+(n:Int)<N
 ·have HR:Hid (opR D U k T n ks 4 tk now N=⟨10,D,U,k,T,n⟩):=by show _=_;rw[opR_4,if_neg hlo,if_pos hhi]
  go_enter Tryz.func52,Tryz.ntmps52;go_wp2_with fail;refine HAD.mono ?_;rintro e w1 ⟨rfl,q,rfl⟩;have HF:=hid_ofS (((HB.out.drew q).same 10).from (w:=w) (below_dq (Below.refl _ _) q));clear HB HAD c0;generalize w.drewN q=w1 at *;go_wp2
  go_ret
  rw[HR.out];exact HF.out
 ·obtain⟨m,rfl⟩:∃ m:Nat,N=k+m:=⟨(N-k).toNat,by omega⟩
  have HR:Hid (opR D U k T n ks 4 tk now (k+(m:Int))=⟨9,D,U,k+(m:Int),T.drop (m*2),n-m⟩):=by
   show _=_
   rw[opR_4,if_neg hlo,if_neg hhi];by_cases hm:k+(m:Int)=k
   ·have:m=0:=by omega
    subst this;rw[if_pos hm];simp
   ·rw[if_neg hm,show(k+(m:Int)-k).toNat=m by omega]
  go_enter Tryz.func52,Tryz.ntmps52;go_wp2_with fail;refine HAD.mono ?_;rintro e w1 ⟨rfl,q,rfl⟩;have HB1:=hid_ofS (HB.out.drew q);have HW1:Hid (Below H w (w.drewN q)):=below_dq (Below.refl _ _) q;clear HB HAD c0;generalize w.drewN q=w1 at *;go_wp2_with fail;refine(ack_any m HB1.out.bk HB1.out.tv h0 h1 (by omega) hn HB1.out.hH HB1.out.ne).mono ?_;rintro e w2 ⟨rfl,hb2,v',r1,r2,r3⟩;have HF:Hid (BkP H B g w ⟨9,D,U,k+(m:Int),T.drop (m*2),n-m⟩ (.returned (.int .i64 9)) w2):=⟨rfl,HW1.out.trans hb2,_,_,_,r1,HB1.out.sd,HB1.out.su,r2,r3⟩
  clear hb2 r1 r2 r3 HB1 HW1;go_wp2
  go_ret
  rw[HR.out];exact HF.out
end
set_option maxRecDepth 100000 in
set_option maxHeartbeats 8000000 in
theorem adm_any {H B g:Nat} {w:World} {d u:List Int} {v:Value} {D U:List Int} {k:Int} {T:List Int} {n:Nat} (h:BkV H B g w d u v D U k T n) (bp op cp:Nat) (ks:List Int) (ta:Option Addr) (tn tc:Nat) (tk:List Int) (kind now N:Int)
  (hk:ks.length=32) (hp:PtA w bp op ks) (zk:Byte ks) (ht:tk.length=tn) (mt:tn≤1048576) (hct:tn≤tc) (hat:At .u8 w ta tk) (zt:Byte tk) (hT:TabIn w) (hV:1<w.heap.size) :
  Calls Tryz.prog 64 #[.pointer (some ⟨g,0,none⟩),.slice (some ⟨bp,op,none⟩) 32 cp,.agg #[.int .i64 kind,.slice ta tn tc,.int .i64 now,.int .i64 N]] w fun e w'=>∃ x y,e=.returned (.tuple #[x,y])∧Below w.heap.size w w'∧((tapC D U ks tk now=1∧x=.int .i64 (tkS tk)∧y=.nilIface)∨(¬ tapC D U ks tk now=1∧y=.iface 118 (.int .i64 (tapC D U ks tk now)))):=by
 have HKw0:=hid_ofS h;have HA:Hid (∀ wz,Below w.heap.size w wz→At .u8 wz ta tk∧PtA wz bp op ks∧TabIn wz):=fun wz h=>⟨hat.below h,hp.below h,tab_keepV hT hV h⟩
 have HL:Hid (tk.length=tn∧ks.length=32∧Byte ks∧Byte tk):=⟨ht,hk,zk,zt⟩
 have HV1:Hid (1<w.heap.size):=hV;have HTB:Hid (tkB tk=true→tk.length=72):=fun h=>by
  unfold tkB at h;simp at h;exact h.1
 have HNN:Hid (0≤tkS tk):=tkS_nn zt;have HSZ:Hid ((Tryz.prog.info? 81).map (·.size)=some 3):=by show _=_;kernel_rfl
 have HCB:Hid (now<0∨4294967295<now→tapC D U ks tk now=10):=tapC_bad;have HCI:Hid (0≤now→now≤4294967295→tapC D U ks tk now=if tkB tk=false then 2 else if 256≤tkS tk then 3 else if tkE tk<now then 4 else if memB (tkS tk) D=true then 5 else if memB (tkS tk) U=true then 6 else if vsR ks (tk.take 8) (tk.drop 8)=true then 1 else 7):=tapC_in;have HBA:Hid (Below w.heap.size w (w.alloc (.cells #[.int .i64 kind,.slice ta tn tc,.int .i64 now,.int .i64 N] 39))):=(Below.refl _ _).alloc (Nat.le_refl _) _;have HR0:Hid ((w.alloc (.cells #[.int .i64 kind,.slice ta tn tc,.int .i64 now,.int .i64 N] 39)).heap[w.heap.size]?=some (.cells #[.int .i64 kind,.slice ta tn tc,.int .i64 now,.int .i64 N] 39 (0,0))):=heap_alloc_new w _;clear h hk hp zk ht hat zt hT hV;go_enter Tryz.func64,Tryz.ntmps64
 go_upto_region 1 with fail
 generalize w.alloc (.cells #[.int .i64 kind,.slice ta tn tc,.int .i64 now,.int .i64 N] 39)=w0 at *;have o1:w0.cell? ⟨w.heap.size,1,none⟩=some (.slice ta tn tc):=by rw[cell_of_row w0 _ 1 _ _ _ HR0.out];rfl
 have o2:w0.cell? ⟨w.heap.size,2,none⟩=some (.int .i64 now):=by rw[cell_of_row w0 _ 2 _ _ _ HR0.out];rfl
 go_wp2_with fail;refine(isNow_any _ _).mono ?_;rintro e w9 ⟨rfl,e9⟩;obtain rfl:w0=w9:=e9.symm;by_cases hn:0≤now∧now≤4294967295
 case neg=>
  have HNO:Hid (nowOk now=false):=decide_eq_false hn;have HF:Hid (tapC D U ks tk now=10):=HCB.out (by omega);rw[HNO.out];clear HCB HCI HTB HKw0 o1 o2;go_wp2
  go_ret2
  exact⟨_,_,rfl,HBA.out,.inr ⟨by rw[HF.out];decide,by rw[HF.out];rfl⟩⟩
 have HNO:Hid (nowOk now=true):=decide_eq_true hn;rw[HNO.out];have HC:=hid_ofS (HCI.out hn.1 hn.2);clear HCB HCI hn HNO;go_wp2_with fail;refine(ptI_any ta tn tc tk _ HL.out.1 mt hct (HA.out _ HBA.out).1 HL.out.2.2.2).mono ?_;rintro e w1 ⟨rfl,hb1⟩;have HR1:Hid (w1.heap[w.heap.size]?=some (.cells #[.int .i64 kind,.slice ta tn tc,.int .i64 now,.int .i64 N] 39 (0,0))):=by show _=_;rw[hb1.block _ (Array.getElem?_eq_some_iff.1 HR0.out).1];exact HR0.out
 have HB1:Hid (Below w.heap.size w w1):=HBA.out.trans (hb1.mono HBA.out.size);clear hb1 HR0 HBA o1 o2;generalize hq:tkB tk=q at *;have HQ:Hid (tkB tk=q):=hq;clear hq;obtain⟨s,x,HV⟩:∃ s x,Hid (tkV tk=.agg #[.bool q,.int .i64 s,.int .i64 x]∧(q=true→tkS tk=s∧tkE tk=x)):=by
  cases q with
  |false=>exact⟨0,0,tkV_no HQ.out,fun h=>by cases h⟩
  |true=>exact⟨_,_,tkV_yes HQ.out,fun _=>⟨rfl,rfl⟩⟩
 have HN:Hid ((w1.alloc (.cells #[.bool false,.int .i64 0,.int .i64 0] 81)).heap[w1.heap.size]?=some (.cells #[.bool false,.int .i64 0,.int .i64 0] 81 (0,0))):=heap_alloc_new w1 _;have HBX:Hid (Below w1.heap.size w1 ((w1.alloc (.cells #[.bool false,.int .i64 0,.int .i64 0] 81)).setRow w1.heap.size #[.bool q,.int .i64 s,.int .i64 x])):=((Below.refl _ _).alloc (Nat.le_refl _) _).trans ((Wr.setRow _ _ _).below (Nat.le_refl _));have HR2:Hid (((w1.alloc (.cells #[.bool false,.int .i64 0,.int .i64 0] 81)).setRow w1.heap.size #[.bool q,.int .i64 s,.int .i64 x]).heap[w1.heap.size]?=some (.cells #[.bool q,.int .i64 s,.int .i64 x] 81 (0,0))):=setRow_heap _ _ _ _ _ _ HN.out;rw[HV.out.1]
 go_upto_region 4 with (first
  |(refine wpList_store_row rfl 81 (.tmp 8) (.tmp 16) rfl w1.heap.size #[.bool q,.int .i64 s,.int .i64 x] rfl rfl 81 _ HN.out HSZ.out rfl (by simp[Value.oneCell']) ?_)
  |fail)
 clear HN HSZ;generalize (w1.alloc (.cells #[.bool false,.int .i64 0,.int .i64 0] 81)).setRow w1.heap.size #[.bool q,.int .i64 s,.int .i64 x]=w2 at *;have HB2:Hid (Below w.heap.size w w2):=HB1.out.trans (HBX.out.mono HB1.out.size);have HKw2:Hid (BkV H B g w2 d u v D U k T n):=HKw0.out.below HB2.out;have HRO:Hid (w2.heap[w.heap.size]?=some (.cells #[.int .i64 kind,.slice ta tn tc,.int .i64 now,.int .i64 N] 39 (0,0))):=by show _=_;rw[HBX.out.block _ (Array.getElem?_eq_some_iff.1 HR1.out).1];exact HR1.out
 have c0:w2.cell? ⟨w1.heap.size,0,none⟩=some (.bool q):=by rw[cell_of_row w2 _ 0 _ _ _ HR2.out];rfl
 have c1:w2.cell? ⟨w1.heap.size,1,none⟩=some (.int .i64 s):=by rw[cell_of_row w2 _ 1 _ _ _ HR2.out];rfl
 have c2:w2.cell? ⟨w1.heap.size,2,none⟩=some (.int .i64 x):=by rw[cell_of_row w2 _ 2 _ _ _ HR2.out];rfl
 have o1:w2.cell? ⟨w.heap.size,1,none⟩=some (.slice ta tn tc):=by rw[cell_of_row w2 _ 1 _ _ _ HRO.out];rfl
 have o2:w2.cell? ⟨w.heap.size,2,none⟩=some (.int .i64 now):=by rw[cell_of_row w2 _ 2 _ _ _ HRO.out];rfl
 clear HR2 HBX HR1 HRO HKw0 HB1;cases q with
 |false=>
  have HF:Hid (tapC D U ks tk now=2):=by show _=_;rw[HC.out,if_pos rfl]
  clear HC HV HTB HKw2 c1 c2 o1 o2;go_wp2
  go_ret2
  exact⟨_,_,rfl,HB2.out,.inr ⟨by rw[HF.out];decide,by rw[HF.out];rfl⟩⟩
 |true=>
 have HSV:Hid (tkS tk=s):=(HV.out.2 rfl).1;have HCX:=HC.out;rw[if_neg (fun h=>by cases h),(HV.out.2 rfl).1,(HV.out.2 rfl).2] at HCX;have HC2:=hid_ofS HCX;have HT72:Hid (tk.length=72):=HTB.out rfl;have HS1:Hid (0≤s):=by show _≤_;rw[←HSV.out];exact HNN.out
 clear HC HV HTB HQ HCX
 go_upto_region 6 with fail
 clear c0;go_wp2_with fail;refine(isSerial_any _ _).mono ?_;rintro e w9 ⟨rfl,e9⟩;obtain rfl:w2=w9:=e9.symm;by_cases hs:256≤s
 ·have HF:Hid (tapC D U ks tk now=3):=by show _=_;rw[HC2.out,if_pos hs]
  have HSO:Hid (serOk s=false):=decide_eq_false (by omega);rw[HSO.out];clear HC2 c1 c2 o1 o2 HKw2;go_wp2
  go_ret2
  exact⟨_,_,rfl,HB2.out,.inr ⟨by rw[HF.out];decide,by rw[HF.out];rfl⟩⟩
 have HSO:Hid (serOk s=true):=decide_eq_true ⟨HS1.out,by omega⟩;have HS0:Hid (0≤s∧s<256):=⟨HS1.out,by omega⟩
 rw[HSO.out];by_cases hx:x<now
 ·have HF:Hid (tapC D U ks tk now=4):=by show _=_;rw[HC2.out,if_neg hs,if_pos hx]
  clear HC2 HKw2 c1 o1;go_wp2
  go_ret2
  exact⟨_,_,rfl,HB2.out,.inr ⟨by rw[HF.out];decide,by rw[HF.out];rfl⟩⟩
 have HCX:=HC2.out;rw[if_neg hs,if_neg hx] at HCX;have HC3:=hid_ofS HCX;clear HC2 HCX hs HSO HS1
 go_upto_region 10 with fail
 clear hx c2 o2;have HAS:Hid (∀ wz,Below w2.heap.size w2 wz→Calls Tryz.prog 61 #[.pointer (some ⟨g,0,none⟩),.int .i64 s] wz fun e w'=>e=.returned (.bool (memB s D))∧Below wz.heap.size wz w'):=fun wz h=>by
  have hk:=HKw2.out.below h;refine(hasS_any g 0 s _ _ (memB s D) wz hk.bk.batd hk.sd ?_).mono ?_
  ·have e:((s.toNat:Nat):Int)=s:=Int.toNat_of_nonneg HS0.out.1;rw[e];exact⟨fun h=>⟨HS0.out.1,HS0.out.2,memB_of h⟩,fun h=>memB_yes h.2.2⟩
  ·rintro e w' ⟨rfl,rfl⟩;exact⟨rfl,Below.refl _ _⟩
 have HCS:Hid (w2.cell? ⟨w1.heap.size,1,none⟩=some (.int .i64 s)):=c1;have HLT1:Hid (w1.heap.size<w2.heap.size):=block_lt_of_cell c1;have HO1:Hid (w2.cell? ⟨w.heap.size,1,none⟩=some (.slice ta tn tc)):=o1;have HLT:Hid (w.heap.size<w2.heap.size):=block_lt_of_cell o1;obtain⟨m,hm⟩:∃ m,m=memB s D:=⟨_,rfl⟩
 have HM:Hid (memB s D=m):=hm.symm;rw[←hm] at HAS;clear hm c1 o1;go_wp2_with fail;refine wp_region_any (by kernel_rfl) ?_;refine wpAny_slotsU (fun _ a b=>Below a.heap.size a b) (frame:=(fun (a b c d e f g h i j k l m n o p q r s u v w x y z A B C D E F G H I J K L M N O P Q R S T U V W X Y Z a0 a1 a2 a3 a4 a5:Value)=>fun (t:Nat→Value)=>({ tmps:=List.toArray [a,b,c,d,e,f,g,h,i,j,k,l,m,n,o,p,q,r,s,u,v,w,x,y,z,A,B,C,D,E,F,G,H,I,J,t 6,t 0,t 1,t 2,t 3,t 4,t 5,K,L,M,N,O,P,Q,R,S,T,U,V,W,X,Y,Z,a0,a1,a2,a3,a4,a5],defers:=[] }:Act)) _ _ _ _ _ _ _ _ _ _ _ _ _ _ _ _ _ _ _ _ _ _ _ _ _ _ _ _ _ _ _ _ _ _ _ _ _ _ _ _ _ _ _ _ _ _ _ _ _ _ _ _ _ _ _ _ _)
  (Ext:=fun L u w'=>ApX w2 [] L u w') (Good:=fun i L w' v=>if i=0 then v=.pointer (some ⟨g,0,none⟩) else if i=1 then v=.pointer (some ⟨g,0,none⟩) else if i=2 then v=.pointer (some ⟨g,0,none⟩) else if i=3 then v=.pointer (some ⟨w1.heap.size,1,none⟩) else if i=4 then v=.int .i64 s else if i=5 then v=.bool m else if i=6 then v=.bool m else True) ?hstab (by kernel_rfl) ?hop ?hdone _ _ ((fun (x0 x1 x2 x3 x4 x5 x6:Value)=>fun (i:Nat)=>if i=0 then x0 else if i=1 then x1 else if i=2 then x2 else if i=3 then x3 else if i=4 then x4 else if i=5 then x5 else if i=6 then x6 else undef) _ _ _ _ _ _ _) _ (by simp) ?ext ?start (by simp)
 case start=>intro i hi h;exact absurd h (by rw[Array.getD_eq_getD_getElem?,Array.getElem?_replicate];split<;>simp)
 case ext=>exact(ApX.start w2 [] _ _ (fun i=>by rw[Array.getD_eq_getD_getElem?,Array.getElem?_replicate];split<;>rfl)).drew
 case hstab=>
  intro j L w9 w' i v hM _ _ h;exact h
 case hop=>
  intro i o L t w' ho hLi hx hdep K hK;have hi:i<7:=(Array.getElem?_eq_some_iff.1 ho).1;obtain rfl|rfl|rfl|rfl|rfl|rfl|rfl:i=0∨i=1∨i=2∨i=3∨i=4∨i=5∨i=6:=by omega
  all_goals(simp at ho;subst ho)
  ·clear hdep;have hK':=hK w' (.pointer (some ⟨g,0,none⟩)) (by simp) (hx.step 0 _ (Below.refl _ _) (fun h=>absurd h (by decide))) (Below.refl _ _);clear hK;rw[if_pos (by rfl)];go_simp;simpa[upd] using hK'
  ·have d0:t 0=.pointer (some ⟨g,0,none⟩):=by simpa using(hdep ⟨0,.data⟩ (by simp) rfl).2
   clear hdep;have hK':=hK w' (.pointer (some ⟨g,0,none⟩)) (by simp) (hx.step 1 _ (Below.refl _ _) (fun h=>absurd h (by decide))) (Below.refl _ _);clear hK;rw[if_pos (by rfl)];go_simp;simpa[upd,d0] using hK'
  ·have d1:t 1=.pointer (some ⟨g,0,none⟩):=by simpa using(hdep ⟨1,.data⟩ (by simp) rfl).2
   clear hdep;have hK':=hK w' (.pointer (some ⟨g,0,none⟩)) (by simp) (hx.step 2 _ (Below.refl _ _) (fun h=>absurd h (by decide))) (Below.refl _ _);clear hK;rw[if_pos (by rfl)];go_simp;simpa[upd,d1] using hK'
  ·clear hdep;have hK':=hK w' (.pointer (some ⟨w1.heap.size,1,none⟩)) (by simp) (hx.step 3 _ (Below.refl _ _) (fun h=>absurd h (by decide))) (Below.refl _ _);clear hK;rw[if_pos (by rfl)];go_simp;simpa[upd] using hK'
  ·have d3:t 3=.pointer (some ⟨w1.heap.size,1,none⟩):=by simpa using(hdep ⟨3,.data⟩ (by simp) rfl).2
   clear hdep;have cc:w'.cell? ⟨w1.heap.size,1,none⟩=some (.int .i64 s):=by rw[hx.below.cell (p:=⟨w1.heap.size,1,none⟩) HLT1.out];exact HCS.out
   have hK':=hK w' (.int .i64 s) (by simp) (hx.step 4 _ (Below.refl _ _) (fun h=>absurd h (by decide))) (Below.refl _ _);clear hK;rw[if_pos (by rfl)];go_simp;simpa[upd,d3] using hK'
  ·have d2:t 2=.pointer (some ⟨g,0,none⟩):=by simpa using(hdep ⟨2,.data⟩ (by simp) rfl).2
   have d4:t 4=.int .i64 s:=by simpa using(hdep ⟨4,.data⟩ (by simp) rfl).2
   clear hdep;have A:=HAS.out w' hx.below;have hK':∀ ww,Below w'.heap.size w' ww→K _ ww:=fun ww hb=>hK ww (.bool m) (by simp) (hx.step 5 _ hb (fun h=>absurd h (by decide))) hb
   clear hK;rw[if_pos (by rfl)];go_simp;try simp only[d2,d4]
   refine A.mono ?_;rintro e w9 ⟨rfl,hb9⟩;have hK2:=hK' w9 hb9;clear hK' A hb9;go_simp;simpa[upd,d2,d4] using hK2
  ·have d5:t 5=.bool m:=by simpa using(hdep ⟨5,.data⟩ (by simp) rfl).2
   clear hdep;have hK':=hK w' (.bool m) (by simp) (hx.step 6 _ (Below.refl _ _) (fun h=>absurd h (by decide))) (Below.refl _ _);clear hK;rw[if_pos (by rfl)];go_simp;simpa[upd,d5] using hK'
 case hdone=>
  intro L t w3 hx hg;have e6:t 6=.bool m:=by simpa using hg 6 (by decide)
  have HB3:Hid (Below w.heap.size w w3):=HB2.out.trans (hx.below.mono HB2.out.size);have c1':w3.cell? ⟨w1.heap.size,1,none⟩=some (.int .i64 s):=by rw[hx.below.cell (p:=⟨w1.heap.size,1,none⟩) HLT1.out];exact HCS.out
  have o1':w3.cell? ⟨w.heap.size,1,none⟩=some (.slice ta tn tc):=by rw[hx.below.cell (p:=⟨w.heap.size,1,none⟩) HLT.out];exact HO1.out
  have HKw3:Hid (BkV H B g w3 d u v D U k T n):=HKw2.out.below hx.below;clear hg hx HAS HCS HO1 HLT HLT1 HKw2;have c1:=c1';have o1:=o1';clear c1' o1';simp only[e6];clear e6;cases m with
  |true=>
   have HF:Hid (tapC D U ks tk now=5):=by show _=_;rw[HC3.out,if_pos HM.out]
   clear HC3 HM c1 o1;go_wp2
   go_ret2
   exact⟨_,_,rfl,HB3.out,.inr ⟨by rw[HF.out];decide,by rw[HF.out];rfl⟩⟩
  |false=>
   have HC4:=HC3.out;rw[if_neg (by rw[HM.out];decide)] at HC4;have HY:=hid_ofS HC4;clear HC4 HC3 HM;have HC4:=HY;clear HY;have HAS:Hid (∀ wz,Below w3.heap.size w3 wz→Calls Tryz.prog 61 #[.pointer (some ⟨g,32,none⟩),.int .i64 s] wz fun e w'=>e=.returned (.bool (memB s U))∧Below wz.heap.size wz w'):=fun wz h=>by
    have hk:=HKw3.out.below h;refine(hasS_any g 32 s _ _ (memB s U) wz hk.bk.batu hk.su ?_).mono ?_
    ·have e:((s.toNat:Nat):Int)=s:=Int.toNat_of_nonneg HS0.out.1;rw[e];exact⟨fun h=>⟨HS0.out.1,HS0.out.2,memB_of h⟩,fun h=>memB_yes h.2.2⟩
    ·rintro e w' ⟨rfl,rfl⟩;exact⟨rfl,Below.refl _ _⟩
   have HCS:Hid (w3.cell? ⟨w1.heap.size,1,none⟩=some (.int .i64 s)):=c1;have HLT1:Hid (w1.heap.size<w3.heap.size):=block_lt_of_cell c1;have HO1:Hid (w3.cell? ⟨w.heap.size,1,none⟩=some (.slice ta tn tc)):=o1;have HLT:Hid (w.heap.size<w3.heap.size):=block_lt_of_cell o1;obtain⟨m,hm⟩:∃ m,m=memB s U:=⟨_,rfl⟩
   have HM:Hid (memB s U=m):=hm.symm;rw[←hm] at HAS;clear hm c1 o1;go_wp2_with fail;refine wp_region_any (by kernel_rfl) ?_;refine wpAny_slotsU (fun _ a b=>Below a.heap.size a b) (frame:=(fun (a b c d e f g h i j k l m n o p q r s u v w x y z A B C D E F G H I J K L M N O P Q R S T U V W X Y Z a0 a1 a2 a3 a4 a5:Value)=>fun (t:Nat→Value)=>({ tmps:=List.toArray [a,b,c,d,e,f,g,h,i,j,k,l,m,n,o,p,q,r,s,u,v,w,x,y,z,A,B,C,D,E,F,G,H,I,J,K,L,M,N,O,P,Q,R,t 6,t 0,t 1,t 2,t 3,t 4,t 5,S,T,U,V,W,X,Y,Z,a0,a1,a2,a3,a4,a5],defers:=[] }:Act)) _ _ _ _ _ _ _ _ _ _ _ _ _ _ _ _ _ _ _ _ _ _ _ _ _ _ _ _ _ _ _ _ _ _ _ _ _ _ _ _ _ _ _ _ _ _ _ _ _ _ _ _ _ _ _ _ _)
    (Ext:=fun L u w'=>ApX w3 [] L u w') (Good:=fun i L w' v=>if i=0 then v=.pointer (some ⟨g,0,none⟩) else if i=1 then v=.pointer (some ⟨g,0,none⟩) else if i=2 then v=.pointer (some ⟨g,32,none⟩) else if i=3 then v=.pointer (some ⟨w1.heap.size,1,none⟩) else if i=4 then v=.int .i64 s else if i=5 then v=.bool m else if i=6 then v=.bool m else True) ?hstab (by kernel_rfl) ?hop ?hdone _ _ ((fun (x0 x1 x2 x3 x4 x5 x6:Value)=>fun (i:Nat)=>if i=0 then x0 else if i=1 then x1 else if i=2 then x2 else if i=3 then x3 else if i=4 then x4 else if i=5 then x5 else if i=6 then x6 else undef) _ _ _ _ _ _ _) _ (by simp) ?ext ?start (by simp)
   case start=>intro i hi h;exact absurd h (by rw[Array.getD_eq_getD_getElem?,Array.getElem?_replicate];split<;>simp)
   case ext=>exact(ApX.start w3 [] _ _ (fun i=>by rw[Array.getD_eq_getD_getElem?,Array.getElem?_replicate];split<;>rfl)).drew
   case hstab=>
    intro j L w9 w' i v hM _ _ h;exact h
   case hop=>
    intro i o L t w' ho hLi hx hdep K hK;have hi:i<7:=(Array.getElem?_eq_some_iff.1 ho).1;obtain rfl|rfl|rfl|rfl|rfl|rfl|rfl:i=0∨i=1∨i=2∨i=3∨i=4∨i=5∨i=6:=by omega
    all_goals(simp at ho;subst ho)
    ·clear hdep;have hK':=hK w' (.pointer (some ⟨g,0,none⟩)) (by simp) (hx.step 0 _ (Below.refl _ _) (fun h=>absurd h (by decide))) (Below.refl _ _);clear hK;rw[if_pos (by rfl)];go_simp;simpa[upd] using hK'
    ·have d0:t 0=.pointer (some ⟨g,0,none⟩):=by simpa using(hdep ⟨0,.data⟩ (by simp) rfl).2
     clear hdep;have hK':=hK w' (.pointer (some ⟨g,0,none⟩)) (by simp) (hx.step 1 _ (Below.refl _ _) (fun h=>absurd h (by decide))) (Below.refl _ _);clear hK;rw[if_pos (by rfl)];go_simp;simpa[upd,d0] using hK'
    ·have d1:t 1=.pointer (some ⟨g,0,none⟩):=by simpa using(hdep ⟨1,.data⟩ (by simp) rfl).2
     clear hdep;have hK':=hK w' (.pointer (some ⟨g,32,none⟩)) (by simp) (hx.step 2 _ (Below.refl _ _) (fun h=>absurd h (by decide))) (Below.refl _ _);clear hK;rw[if_pos (by rfl)];go_simp;simpa[upd,d1] using hK'
    ·clear hdep;have hK':=hK w' (.pointer (some ⟨w1.heap.size,1,none⟩)) (by simp) (hx.step 3 _ (Below.refl _ _) (fun h=>absurd h (by decide))) (Below.refl _ _);clear hK;rw[if_pos (by rfl)];go_simp;simpa[upd] using hK'
    ·have d3:t 3=.pointer (some ⟨w1.heap.size,1,none⟩):=by simpa using(hdep ⟨3,.data⟩ (by simp) rfl).2
     clear hdep;have cc:w'.cell? ⟨w1.heap.size,1,none⟩=some (.int .i64 s):=by rw[hx.below.cell (p:=⟨w1.heap.size,1,none⟩) HLT1.out];exact HCS.out
     have hK':=hK w' (.int .i64 s) (by simp) (hx.step 4 _ (Below.refl _ _) (fun h=>absurd h (by decide))) (Below.refl _ _);clear hK;rw[if_pos (by rfl)];go_simp;simpa[upd,d3] using hK'
    ·have d2:t 2=.pointer (some ⟨g,32,none⟩):=by simpa using(hdep ⟨2,.data⟩ (by simp) rfl).2
     have d4:t 4=.int .i64 s:=by simpa using(hdep ⟨4,.data⟩ (by simp) rfl).2
     clear hdep;have A:=HAS.out w' hx.below;have hK':∀ ww,Below w'.heap.size w' ww→K _ ww:=fun ww hb=>hK ww (.bool m) (by simp) (hx.step 5 _ hb (fun h=>absurd h (by decide))) hb
     clear hK;rw[if_pos (by rfl)];go_simp;try simp only[d2,d4]
     refine A.mono ?_;rintro e w9 ⟨rfl,hb9⟩;have hK2:=hK' w9 hb9;clear hK' A hb9;go_simp;simpa[upd,d2,d4] using hK2
    ·have d5:t 5=.bool m:=by simpa using(hdep ⟨5,.data⟩ (by simp) rfl).2
     clear hdep;have hK':=hK w' (.bool m) (by simp) (hx.step 6 _ (Below.refl _ _) (fun h=>absurd h (by decide))) (Below.refl _ _);clear hK;rw[if_pos (by rfl)];go_simp;simpa[upd,d5] using hK'
   case hdone=>
    intro L t w4 hx hg;have e6:t 6=.bool m:=by simpa using hg 6 (by decide)
    have HB4:Hid (Below w.heap.size w w4):=HB3.out.trans (hx.below.mono HB3.out.size);have c1':w4.cell? ⟨w1.heap.size,1,none⟩=some (.int .i64 s):=by rw[hx.below.cell (p:=⟨w1.heap.size,1,none⟩) HLT1.out];exact HCS.out
    have o1':w4.cell? ⟨w.heap.size,1,none⟩=some (.slice ta tn tc):=by rw[hx.below.cell (p:=⟨w.heap.size,1,none⟩) HLT.out];exact HO1.out
    have HKw4:Hid (BkV H B g w4 d u v D U k T n):=HKw3.out.below hx.below;clear hg hx HAS HCS HO1 HLT HLT1 HKw3;have c1:=c1';have o1:=o1';clear c1' o1';simp only[e6];clear e6;cases m with
    |true=>
     have HF:Hid (tapC D U ks tk now=6):=by show _=_;rw[HC4.out,if_pos HM.out]
     clear HC4 HM c1 o1;go_wp2
     go_ret2
     exact⟨_,_,rfl,HB4.out,.inr ⟨by rw[HF.out];decide,by rw[HF.out];rfl⟩⟩
    |false=>
     have HC5:=HC4.out;rw[if_neg (by rw[HM.out];decide)] at HC5;have HTV:=hid_ofS HC5;clear HC4 HC5 HM;have h72:72=tn:=HT72.out.symm.trans HL.out.1;subst h72;obtain⟨bt,ot,rfl,-,-⟩:=(HA.out _ HB4.out).1.get (by rw[HT72.out];decide);have HPT:Hid (∀ wz,Below w.heap.size w wz→PtA wz bt ot tk):=fun wz h=>by
      obtain⟨b',o',e',hl',hc'⟩:=(HA.out _ h).1.get (by rw[HT72.out];decide);cases e';exact⟨hl',hc'⟩
     have HT8:Hid ((8:Int)≤tc∧(72:Int)≤tc∧¬ (tc=8)):=⟨by omega,by omega,by omega⟩
     have HVS:Hid (∀ wz,Below w.heap.size w wz→Calls Tryz.prog 81 #[.slice (some ⟨bp,op,none⟩) 32 cp,.slice (some ⟨bt,ot,none⟩) 8 tc,.slice (some ⟨bt,ot+8,none⟩) 64 (tc-8:Nat)] wz fun e w'=>e=.returned (.bool (vsR ks (tk.take 8) (tk.drop 8)))∧Below wz.heap.size wz w'):=fun wz h=>
      vsI_any bp op cp bt ot tc bt (ot+8) (tc-8) 32 8 64 ks (tk.take 8) (tk.drop 8) wz HL.out.2.1 (by rw[List.length_take,HT72.out];rfl) (by rw[List.length_drop,HT72.out]) (HA.out wz h).2.1 ((HPT.out wz h).take 8) ((HPT.out wz h).drop 8) HL.out.2.2.1 (fun z hz=>HL.out.2.2.2 z (List.mem_of_mem_take hz)) (fun z hz=>HL.out.2.2.2 z (List.mem_of_mem_drop hz)) (by omega) (by decide) (by decide) (by decide) (HA.out wz h).2.2 (Nat.lt_of_lt_of_le HV1.out h.size)
     have HCS:Hid (w4.cell? ⟨w1.heap.size,1,none⟩=some (.int .i64 s)):=c1;have HLT1:Hid (w1.heap.size<w4.heap.size):=block_lt_of_cell c1;have HC1:Hid (w4.cell? ⟨w.heap.size,1,none⟩=some (.slice (some ⟨bt,ot,none⟩) 72 tc)):=o1;have HLT:Hid (w.heap.size<w4.heap.size):=block_lt_of_cell o1;generalize vsR ks (tk.take 8) (tk.drop 8)=V at *;clear HPT HT72 HA HL c1 o1 mt hct;go_wp2_with fail;refine wp_region_any (by kernel_rfl) ?_;refine wpAny_slotsU (fun _ a b=>Below a.heap.size a b) (frame:=(fun (a b c d e f g h i j k l m n o p q r s u v w x y z A B C D E F G H I J K L M N O P Q R S T U V W X Y Z a0 a1 a2:Value)=>fun (t:Nat→Value)=>({ tmps:=List.toArray [a,b,c,d,e,f,g,h,i,j,k,l,m,n,o,p,q,r,s,u,v,w,x,y,z,A,B,C,D,E,F,G,H,I,J,K,L,M,N,O,P,Q,R,S,T,U,V,W,X,Y,Z,t 9,t 0,t 1,t 2,t 3,t 4,t 5,t 6,t 7,t 8,a0,a1,a2],defers:=[] }:Act)) _ _ _ _ _ _ _ _ _ _ _ _ _ _ _ _ _ _ _ _ _ _ _ _ _ _ _ _ _ _ _ _ _ _ _ _ _ _ _ _ _ _ _ _ _ _ _ _ _ _ _ _ _ _)
      (Ext:=fun L u w'=>ApX w4 [] L u w') (Good:=fun i L w' v=>if i=0 then v=.slice (some ⟨bp,op,none⟩) 32 cp else if i=1 then v=.pointer (some ⟨w.heap.size,1,none⟩) else if i=2 then v=.slice (some ⟨bt,ot,none⟩) 72 tc else if i=3 then v=.slice (some ⟨bt,ot,none⟩) 8 tc else if i=4 then v=.pointer (some ⟨w.heap.size,1,none⟩) else if i=5 then v=.slice (some ⟨bt,ot,none⟩) 72 tc else if i=6 then v=.slice (some ⟨bt,ot+8,none⟩) 64 (tc-8:Nat) else if i=7 then v=.bool V else if i=8 then v=.bool (!V) else if i=9 then v=.bool (!V) else True) ?hstab (by kernel_rfl) ?hop ?hdone _ _ ((fun (x0 x1 x2 x3 x4 x5 x6 x7 x8 x9:Value)=>fun (i:Nat)=>if i=0 then x0 else if i=1 then x1 else if i=2 then x2 else if i=3 then x3 else if i=4 then x4 else if i=5 then x5 else if i=6 then x6 else if i=7 then x7 else if i=8 then x8 else if i=9 then x9 else undef) _ _ _ _ _ _ _ _ _ _) _ (by simp) ?ext ?start (by simp)
     case start=>intro i hi h;exact absurd h (by rw[Array.getD_eq_getD_getElem?,Array.getElem?_replicate];split<;>simp)
     case ext=>exact(ApX.start w4 [] _ _ (fun i=>by rw[Array.getD_eq_getD_getElem?,Array.getElem?_replicate];split<;>rfl)).drew
     case hstab=>
      intro j L w9 w' i v hM _ _ h;exact h
     case hop=>
      intro i o L t w' ho hLi hx hdep K hK;have hi:i<10:=(Array.getElem?_eq_some_iff.1 ho).1;obtain rfl|rfl|rfl|rfl|rfl|rfl|rfl|rfl|rfl|rfl:i=0∨i=1∨i=2∨i=3∨i=4∨i=5∨i=6∨i=7∨i=8∨i=9:=by omega
      all_goals(simp at ho;subst ho)
      ·clear hdep;have hK':=hK w' (.slice (some ⟨bp,op,none⟩) 32 cp) (by simp) (hx.step 0 _ (Below.refl _ _) (fun h=>absurd h (by decide))) (Below.refl _ _);clear hK;rw[if_pos (by rfl)];go_simp;simpa[upd] using hK'
      ·clear hdep;have hK':=hK w' (.pointer (some ⟨w.heap.size,1,none⟩)) (by simp) (hx.step 1 _ (Below.refl _ _) (fun h=>absurd h (by decide))) (Below.refl _ _);clear hK;rw[if_pos (by rfl)];go_simp;simpa[upd] using hK'
      ·have d1:t 1=.pointer (some ⟨w.heap.size,1,none⟩):=by simpa using(hdep ⟨1,.data⟩ (by simp) rfl).2
       clear hdep;have cc:w'.cell? ⟨w.heap.size,1,none⟩=some (.slice (some ⟨bt,ot,none⟩) 72 tc):=by rw[hx.below.cell (p:=⟨w.heap.size,1,none⟩) HLT.out];exact HC1.out
       have hK':=hK w' (.slice (some ⟨bt,ot,none⟩) 72 tc) (by simp) (hx.step 2 _ (Below.refl _ _) (fun h=>absurd h (by decide))) (Below.refl _ _);clear hK;rw[if_pos (by rfl)];go_simp;simpa[upd,d1] using hK'
      ·have d2:t 2=.slice (some ⟨bt,ot,none⟩) 72 tc:=by simpa using(hdep ⟨2,.data⟩ (by simp) rfl).2
       clear hdep;have h8:(8:Int)≤tc:=HT8.out.1;have hK':=hK w' (.slice (some ⟨bt,ot,none⟩) 8 tc) (by simp) (hx.step 3 _ (Below.refl _ _) (fun h=>absurd h (by decide))) (Below.refl _ _);clear hK;rw[if_pos (by rfl)];go_simp;simpa[upd,d2] using hK'
      ·clear hdep;have hK':=hK w' (.pointer (some ⟨w.heap.size,1,none⟩)) (by simp) (hx.step 4 _ (Below.refl _ _) (fun h=>absurd h (by decide))) (Below.refl _ _);clear hK;rw[if_pos (by rfl)];go_simp;simpa[upd] using hK'
      ·have d4:t 4=.pointer (some ⟨w.heap.size,1,none⟩):=by simpa using(hdep ⟨4,.data⟩ (by simp) rfl).2
       clear hdep;have cc:w'.cell? ⟨w.heap.size,1,none⟩=some (.slice (some ⟨bt,ot,none⟩) 72 tc):=by rw[hx.below.cell (p:=⟨w.heap.size,1,none⟩) HLT.out];exact HC1.out
       have hK':=hK w' (.slice (some ⟨bt,ot,none⟩) 72 tc) (by simp) (hx.step 5 _ (Below.refl _ _) (fun h=>absurd h (by decide))) (Below.refl _ _);clear hK;rw[if_pos (by rfl)];go_simp;simpa[upd,d4] using hK'
      ·have d5:t 5=.slice (some ⟨bt,ot,none⟩) 72 tc:=by simpa using(hdep ⟨5,.data⟩ (by simp) rfl).2
       clear hdep;have h8:(8:Int)≤tc:=HT8.out.1;have h72:(72:Int)≤tc:=HT8.out.2.1;have hne:¬ (tc=8):=HT8.out.2.2;have hK':=hK w' (.slice (some ⟨bt,ot+8,none⟩) 64 (tc-8:Nat)) (by simp) (hx.step 6 _ (Below.refl _ _) (fun h=>absurd h (by decide))) (Below.refl _ _);clear hK;rw[if_pos (by rfl)];go_simp;simpa[upd,d5] using hK'
      ·have d0:t 0=.slice (some ⟨bp,op,none⟩) 32 cp:=by simpa using(hdep ⟨0,.data⟩ (by simp) rfl).2
       have d3:t 3=.slice (some ⟨bt,ot,none⟩) 8 tc:=by simpa using(hdep ⟨3,.data⟩ (by simp) rfl).2
       have d6:t 6=.slice (some ⟨bt,ot+8,none⟩) 64 (tc-8:Nat):=by simpa using(hdep ⟨6,.data⟩ (by simp) rfl).2
       clear hdep;have A:=HVS.out w' (HB4.out.trans (hx.below.mono HB4.out.size));have hK':∀ ww,Below w'.heap.size w' ww→K _ ww:=fun ww hb=>hK ww (.bool V) (by simp) (hx.step 7 _ hb (fun h=>absurd h (by decide))) hb
       clear hK;rw[if_pos (by rfl)];go_simp;try simp only[d0,d3,d6]
       refine A.mono ?_;rintro e w9 ⟨rfl,hb9⟩;have hK2:=hK' w9 hb9;clear hK' A hb9;go_simp;simpa[upd,d0,d3,d6] using hK2
      ·have d7:t 7=.bool V:=by simpa using(hdep ⟨7,.data⟩ (by simp) rfl).2
       clear hdep;have hK':=hK w' (.bool (!V)) (by simp) (hx.step 8 _ (Below.refl _ _) (fun h=>absurd h (by decide))) (Below.refl _ _);clear hK;rw[if_pos (by rfl)];go_simp;simpa[upd,d7] using hK'
      ·have d8:t 8=.bool (!V):=by simpa using(hdep ⟨8,.data⟩ (by simp) rfl).2
       clear hdep;have hK':=hK w' (.bool (!V)) (by simp) (hx.step 9 _ (Below.refl _ _) (fun h=>absurd h (by decide))) (Below.refl _ _);clear hK;rw[if_pos (by rfl)];go_simp;simpa[upd,d8] using hK'
     case hdone=>
      intro L t w5 hx hg;have e9:t 9=.bool (!V):=by simpa using hg 9 (by decide)
      have HB5:Hid (Below w.heap.size w w5):=HB4.out.trans (hx.below.mono HB4.out.size);have cs5:w5.cell? ⟨w1.heap.size,1,none⟩=some (.int .i64 s):=by rw[hx.below.cell (p:=⟨w1.heap.size,1,none⟩) HLT1.out];exact HCS.out
      clear hg hx;simp only[e9];clear e9;cases V with
      |true=>
       have HF:Hid (tapC D U ks tk now=1):=HTV.out;clear HTV;go_wp2
       go_ret2
       exact⟨_,_,rfl,HB5.out,.inl ⟨HF.out,by rw[HSV.out];rfl,rfl⟩⟩
      |false=>
       have HF:Hid (tapC D U ks tk now=7):=HTV.out;clear HTV cs5;go_wp2
       go_ret2
       exact⟨_,_,rfl,HB5.out,.inr ⟨by rw[HF.out];decide,by rw[HF.out];rfl⟩⟩
end Go.Proofs.YtjdhhgaelgemcaaGreatDoor
