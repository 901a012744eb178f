import Derived.Test.YtilpkdnoaldfmaaGreatDoorMSwA
import Derived.Test.YtilpkdnoaldfmaaGreatDoorMCnC
import Derived.Test.YtilpkdnoaldfmaaGreatDoorMSwH
import Derived.Test.YtilpkdnoaldfmaaGreatDoorMArgDev
import Derived.Test.YtilpkdnoaldfmaaGreatDoorMSSy
import Derived.Test.YtilpkdnoaldfmaaGreatDoorSvK
import Derived.Deep.Cut
import Derived.Test.YtilpkdnoaldfmaaGreatDoorMFmP
import Derived.Test.YtilpkdnoaldfmaaGreatDoorMRows8a
import Derived.Test.YtilpkdnoaldfmaaGreatDoorMCatC
import Derived.Test.YtilpkdnoaldfmaaGreatDoorMBase
namespace Go.Proofs.YtilpkdnoaldfmaaGreatDoor
open Go.ChangeShapes Go.WideShapes Go.ChangeAt Go.RowKit
set_option linter.unusedVariables false
structure DyR where
 c:Int
 D:List Int
 U:List Int
 k:Int
 T:List Int
 n:Nat
noncomputable def opD (D U:List Int) (k:Int) (T:List Int) (n:Nat) (kind N:Int):DyR:=
 if kind=2 then(if 0≤N∧N<256 then(if memB N D=true then ⟨9,D,U,k,T,n⟩ else if D.length=16 then ⟨10,D,U,k,T,n⟩ else ⟨9,withS D N.toNat,U,k,T,n⟩) else ⟨10,D,U,k,T,n⟩)
 else(if 0≤N∧N<256 then(if memB N D=true then ⟨9,lessS D N.toNat,U,k,T,n⟩ else ⟨9,D,U,k,T,n⟩) else ⟨10,D,U,k,T,n⟩)
theorem memD_of {N:Int} {D:List Int} (h:memB N D=true):N∈D:=by unfold memB at h;simpa using h
theorem memD_not {N:Int} {D:List Int} (h:¬ memB N D=true):¬ N∈D:=fun hm=>h (memB_yes hm)
def DyP (H B g:Nat) (w:World) (r:DyR) (e:Ending) (w':World):Prop:=
 e=.returned (.int .i64 r.c)∧Below H w w'∧∃ d u v,Bk w' g d u r.k v∧SetB d (fun x=>(x:Int)∈r.D)∧SetB u (fun x=>(x:Int)∈r.U)∧TapV B w' v r.T r.n∧NeG g v
structure DyV (H B g:Nat) (w:World) (d u:List Int) (v:Value) (D U:List Int) (k:Int) (T:List Int) (n:Nat):Prop where
 bk:Bk w g d u k v
 sd:SetB d (fun x=>(x:Int)∈D)
 su:SetB u (fun x=>(x:Int)∈U)
 tv:TapV B w v T n
 ser:SerP D
 h0:0≤k
 h1:k≤1048576
 hn:n≤1048576
 hH:H≤g
 hHB:H≤B
 ne:NeG g v
 hBw:B≤w.heap.size
section
variable {H B g:Nat} {w w':World} {d u:List Int} {v:Value} {D U:List Int} {k:Int} {T:List Int} {n:Nat} {N:Int}
theorem DyV.same (h:DyV H B g w d u v D U k T n) (c:Int):DyP H B g w ⟨c,D,U,k,T,n⟩ (.returned (.int .i64 c)) w:=⟨rfl,Below.refl _ _,d,u,v,h.bk,h.sd,h.su,h.tv,h.ne⟩
theorem DyV.below (h:DyV H B g w d u v D U k T n) (b:Below w.heap.size w w'):DyV H B g w' d u v D U k T n:=
 ⟨h.bk.below b h.bk.lt,h.sd,h.su,h.tv.block b.size (fun t _ ht=>b.block t ht),h.ser,h.h0,h.h1,h.hn,h.hH,h.hHB,h.ne,Nat.le_trans h.hBw b.size⟩
theorem DyP.from {r:DyR} {e:Ending} {w1:World} (h:DyP H B g w1 r e w') (b:Below H w w1):DyP H B g w r e w':=⟨h.1,b.trans h.2.1,h.2.2⟩
theorem opD_2:opD D U k T n 2 N=if 0≤N∧N<256 then(if memB N D=true then ⟨9,D,U,k,T,n⟩ else if D.length=16 then ⟨10,D,U,k,T,n⟩ else ⟨9,withS D N.toNat,U,k,T,n⟩) else ⟨10,D,U,k,T,n⟩:=by unfold opD;rw[if_pos rfl]
theorem opD_3:opD D U k T n 3 N=if 0≤N∧N<256 then(if memB N D=true then ⟨9,lessS D N.toNat,U,k,T,n⟩ else ⟨9,D,U,k,T,n⟩) else ⟨10,D,U,k,T,n⟩:=by unfold opD;rw[if_neg (by decide)]
set_option maxRecDepth 100000 in
set_option maxHeartbeats 1000000 in
theorem ddn_any (h:DyV H B g w d u v D U k T n) :
  Calls Tryz.prog 82 #[.pointer (some ⟨g,0,none⟩),.int .i64 N] w (DyP H B g w (opD D U k T n 2 N)):=by
 have HB:=hid_ofV h;clear h;by_cases hs:0≤N∧N<256
 ·obtain⟨m,rfl⟩:∃ m:Nat,N=m:=⟨N.toNat,by omega⟩
  have hm:m<256:=by omega
  have HSO:Hid (serOk (m:Int)=true):=ser_yes hm;by_cases hin:memB (m:Int) D=true
  ·have HR:Hid (opD D U k T n 2 (m:Int)=⟨9,D,U,k,T,n⟩):=by show _=_;rw[opD_2,if_pos hs,if_pos hin]
   have HQ:Hid (m<256∧(m:Int)∈D):=⟨hm,memD_of hin⟩
   clear hs hin;go_enter Tryz.func82,Tryz.ntmps82;go_wp2_with fail;refine(isSerial_any _ _).mono ?_;rintro e w1 ⟨rfl,e1⟩;obtain rfl:w=w1:=e1.symm;rw[HSO.out];go_wp2_with fail;refine(hasYes_any m HB.out.bk.batd HB.out.sd HQ.out).mono ?_;rintro e w1 ⟨rfl,e1⟩;obtain rfl:w=w1:=e1.symm;have HF:=hid_ofV (HB.out.same 9);clear HB HSO HQ;go_wp2
   go_ret
   rw[HR.out];exact HF.out
  ·have HQ:Hid (¬ (m<256∧(m:Int)∈D)):=fun h=>memD_not hin h.2
   by_cases h16:D.length=16
   ·have HR:Hid (opD D U k T n 2 (m:Int)=⟨10,D,U,k,T,n⟩):=by show _=_;rw[opD_2,if_pos hs,if_neg hin,if_pos h16]
    have HP:Hid (decide (popS d 32=16)=true):=decide_eq_true ((pop_len HB.out.sd HB.out.ser).trans h16);clear hs hin h16;go_enter Tryz.func82,Tryz.ntmps82;go_wp2_with fail;refine(isSerial_any _ _).mono ?_;rintro e w1 ⟨rfl,e1⟩;obtain rfl:w=w1:=e1.symm;rw[HSO.out];go_wp2_with fail;refine(hasNo_any m HB.out.bk.batd HB.out.sd HQ.out).mono ?_;rintro e w1 ⟨rfl,e1⟩;obtain rfl:w=w1:=e1.symm;go_wp2_with fail;refine(full_any HB.out.bk).mono ?_;rintro e w1 ⟨rfl,e1⟩;obtain rfl:w=w1:=e1.symm;rw[HP.out];have HF:=hid_ofV (HB.out.same 10);clear HB HSO HQ HP;go_wp2
    go_ret
    rw[HR.out];exact HF.out
   ·have HR:Hid (opD D U k T n 2 (m:Int)=⟨9,withS D m,U,k,T,n⟩):=by show _=_;rw[opD_2,if_pos hs,if_neg hin,if_neg h16];rfl
    have HP:Hid (decide (popS d 32=16)=false):=decide_eq_false (fun h=>h16 ((pop_len HB.out.sd HB.out.ser).symm.trans h));have HF:∀ q,Hid (DyP H B g w ⟨9,withS D m,U,k,T,n⟩ (.returned (.int .i64 9)) ((w.setCell ⟨g,0+m/8,none⟩ (.int .u8 ((addB d m).getD (m/8) 0))).drewN q)):=fun q=>by
     have hw:Wr g w ((w.setCell ⟨g,0+m/8,none⟩ (.int .u8 ((addB d m).getD (m/8) 0))).drewN q):=((Wr.refl _ _).setCell _ _).drewN _;exact⟨rfl,hw.below HB.out.hH,_,_,_,(HB.out.bk.addD m hm).drew q,(HB.out.sd.add m hm).congr (fun x hx=>withS_mem hx),HB.out.su,HB.out.tv.wr hw HB.out.ne,HB.out.ne⟩
    clear hs hin h16;go_enter Tryz.func82,Tryz.ntmps82;go_wp2_with fail;refine(isSerial_any _ _).mono ?_;rintro e w1 ⟨rfl,e1⟩;obtain rfl:w=w1:=e1.symm;rw[HSO.out];go_wp2_with fail;refine(hasNo_any m HB.out.bk.batd HB.out.sd HQ.out).mono ?_;rintro e w1 ⟨rfl,e1⟩;obtain rfl:w=w1:=e1.symm;go_wp2_with fail;refine(full_any HB.out.bk).mono ?_;rintro e w1 ⟨rfl,e1⟩;obtain rfl:w=w1:=e1.symm;rw[HP.out];go_wp2_with fail;refine(addS_any g 0 m d _ hm HB.out.bk.batd).mono ?_;rintro e w4 ⟨rfl,q,rfl⟩;have H2:=HF q;clear HF HB HSO HQ HP;generalize (w.setCell ⟨g,0+m/8,none⟩ (.int .u8 ((addB d m).getD (m/8) 0))).drewN q=w4 at *;go_wp2
    go_ret
    rw[HR.out];exact H2.out
 ·have HR:Hid (opD D U k T n 2 N=⟨10,D,U,k,T,n⟩):=by show _=_;rw[opD_2,if_neg hs]
  have HSO:Hid (serOk N=false):=decide_eq_false hs;clear hs;go_enter Tryz.func82,Tryz.ntmps82;go_wp2_with fail;refine(isSerial_any _ _).mono ?_;rintro e w1 ⟨rfl,e1⟩;obtain rfl:w=w1:=e1.symm;rw[HSO.out];have HF:=hid_ofV (HB.out.same 10);clear HB HSO;go_wp2
  go_ret
  rw[HR.out];exact HF.out
set_option maxRecDepth 100000 in
set_option maxHeartbeats 1000000 in
theorem dal_any (h:DyV H B g w d u v D U k T n) :
  Calls Tryz.prog 83 #[.pointer (some ⟨g,0,none⟩),.int .i64 N] w (DyP H B g w (opD D U k T n 3 N)):=by
 have HB:=hid_ofV h;clear h;by_cases hs:0≤N∧N<256
 ·obtain⟨m,rfl⟩:∃ m:Nat,N=m:=⟨N.toNat,by omega⟩
  have hm:m<256:=by omega
  have HSO:Hid (serOk (m:Int)=true):=ser_yes hm;have HF:∀ q,Hid (DyP H B g w (opD D U k T n 3 (m:Int)) (.returned (.int .i64 9)) ((w.setCell ⟨g,0+m/8,none⟩ (.int .u8 ((remB d m).getD (m/8) 0))).drewN q)):=fun q=>by
   have hw:Wr g w ((w.setCell ⟨g,0+m/8,none⟩ (.int .u8 ((remB d m).getD (m/8) 0))).drewN q):=((Wr.refl _ _).setCell _ _).drewN _;show DyP _ _ _ _ _ _ _
   by_cases hin:memB (m:Int) D=true
   ·rw[opD_3,if_pos hs,if_pos hin];exact⟨rfl,hw.below HB.out.hH,_,_,_,(HB.out.bk.remD m hm).drew q,(HB.out.sd.rem m hm).congr (fun x hx=>lessS_mem),HB.out.su,HB.out.tv.wr hw HB.out.ne,HB.out.ne⟩
   ·rw[opD_3,if_pos hs,if_neg hin];refine⟨rfl,hw.below HB.out.hH,_,_,_,(HB.out.bk.remD m hm).drew q,(HB.out.sd.rem m hm).congr (fun x hx=>⟨fun h=>h.1,fun h=>⟨h,fun e=>?_⟩⟩),HB.out.su,HB.out.tv.wr hw HB.out.ne,HB.out.ne⟩;subst e;exact memD_not hin h
  clear hs;go_enter Tryz.func83,Tryz.ntmps83;go_wp2_with fail;refine(isSerial_any _ _).mono ?_;rintro e w1 ⟨rfl,e1⟩;obtain rfl:w=w1:=e1.symm;rw[HSO.out];go_wp2_with fail;refine(remS_any g 0 m d _ hm HB.out.bk.batd).mono ?_;rintro e w4 ⟨rfl,q,rfl⟩;have H2:=HF q;clear HF HB HSO;generalize (w.setCell ⟨g,0+m/8,none⟩ (.int .u8 ((remB d m).getD (m/8) 0))).drewN q=w4 at *;go_wp2
  go_ret
  exact H2.out
 ·have HR:Hid (opD D U k T n 3 N=⟨10,D,U,k,T,n⟩):=by show _=_;rw[opD_3,if_neg hs]
  have HSO:Hid (serOk N=false):=decide_eq_false hs;clear hs;go_enter Tryz.func83,Tryz.ntmps83;go_wp2_with fail;refine(isSerial_any _ _).mono ?_;rintro e w1 ⟨rfl,e1⟩;obtain rfl:w=w1:=e1.symm;rw[HSO.out];have HF:=hid_ofV (HB.out.same 10);clear HB HSO;go_wp2
  go_ret
  rw[HR.out];exact HF.out
end
structure BY2 (w:World) (t0 t1:TypeId) (c0 c1:Array Value) (wr:World):Prop where
 below:Below w.heap.size w wr
 b0:wr.heap[w.heap.size]?=some (.cells c0 t0 (0,0))
 b1:wr.heap[w.heap.size+1]?=some (.cells c1 t1 (0,0))
theorem BY2.start (w:World) (t0 t1:TypeId) (c0 c1:Array Value):BY2 w t0 t1 c0 c1 ((w.alloc (.cells c0 t0)).alloc (.cells c1 t1)):=by
 refine⟨((Below.refl _ _).alloc (Nat.le_refl _) _).alloc (by simp) _,?_,?_⟩
 ·rw[Below.heap_alloc _ _ w.heap.size (by simp)];exact heap_alloc_new w _
 ·have:=heap_alloc_new (w.alloc (.cells c0 t0)) (.cells c1 t1)
  rwa [show(w.alloc (.cells c0 t0)).heap.size=w.heap.size+1 by simp] at this
theorem BY2.lt {w wr:World} {t0 t1:TypeId} {c0 c1:Array Value} (h:BY2 w t0 t1 c0 c1 wr):w.heap.size+1<wr.heap.size:=(Array.getElem?_eq_some_iff.1 h.b1).1
theorem BY2.call {w wr w':World} {t0 t1:TypeId} {c0 c1:Array Value} (h:BY2 w t0 t1 c0 c1 wr) (b:Below wr.heap.size wr w'):BY2 w t0 t1 c0 c1 w':=by
 have:=h.lt;exact⟨h.below.trans (b.mono h.below.size),by rw[b.block _ (by omega)];exact h.b0,by rw[b.block _ (by omega)];exact h.b1⟩
structure CY3 (w:World) (sc oc:Array Value) (wr:World):Prop where
 below:Below w.heap.size w wr
 sb:wr.heap[w.heap.size]?=some (.cells sc 34 (0,0))
 ob:wr.heap[w.heap.size+1]?=some (.cells oc 44 (0,0))
 rb:wr.heap[w.heap.size+2]?=some (.cells #[.int .i64 0,.slice none 0 0,.slice none 0 0,.int .i64 0,.slice none 0 0] 87 (0,0))
theorem CY3.lt {w wr:World} {sc oc:Array Value} (h:CY3 w sc oc wr):w.heap.size+2<wr.heap.size:=(Array.getElem?_eq_some_iff.1 h.rb).1
theorem CY3.keep {w wr w':World} {sc oc:Array Value} {B:Nat} (h:CY3 w sc oc wr) (b:Below B wr w') (hB:w.heap.size+3≤B):CY3 w sc oc w':=
 ⟨h.below.trans (b.mono (by omega)),by rw[b.block _ (by omega)];exact h.sb,by rw[b.block _ (by omega)];exact h.ob,by rw[b.block _ (by omega)];exact h.rb⟩
theorem CY3.call {w wr w':World} {sc oc:Array Value} (h:CY3 w sc oc wr) (b:Below wr.heap.size wr w'):CY3 w sc oc w':=h.keep b h.lt
theorem CY3.start (w:World) (sc oc:Array Value):CY3 w sc oc (((w.alloc (.cells sc 34)).alloc (.cells oc 44)).alloc (.cells #[.int .i64 0,.slice none 0 0,.slice none 0 0,.int .i64 0,.slice none 0 0] 87)):=by
 have h:=BY2.start w 34 44 sc oc;have b:Below ((w.alloc (.cells sc 34)).alloc (.cells oc 44)).heap.size ((w.alloc (.cells sc 34)).alloc (.cells oc 44)) _:=(Below.refl _ _).alloc (Nat.le_refl _) (.cells #[.int .i64 0,.slice none 0 0,.slice none 0 0,.int .i64 0,.slice none 0 0] 87);have h2:=h.call b;refine⟨h2.below,h2.b0,h2.b1,?_⟩;have:=heap_alloc_new ((w.alloc (.cells sc 34)).alloc (.cells oc 44)) (.cells #[.int .i64 0,.slice none 0 0,.slice none 0 0,.int .i64 0,.slice none 0 0] 87)
 rwa [show((w.alloc (.cells sc 34)).alloc (.cells oc 44)).heap.size=w.heap.size+2 by simp] at this
theorem DyV.low {H B g:Nat} {w:World} {d u:List Int} {v:Value} {D U:List Int} {k:Int} {T:List Int} {n:Nat} (h:DyV H B g w d u v D U k T n):H≤w.heap.size:=Nat.le_trans h.hHB h.hBw
set_option maxRecDepth 100000 in
set_option maxHeartbeats 4000000 in
theorem dst_any {H B g:Nat} {w:World} {d u:List Int} {v:Value} {D U:List Int} {k:Int} {T:List Int} {n:Nat} (h:DyV H B g w d u v D U k T n) (kv:Value) (ta:Option Addr) (tn tc:Nat) (kind now N:Int) (hkd:kind=2∨kind=3) :
  Calls Tryz.prog 61 #[.pointer (some ⟨g,0,none⟩),kv,.agg #[.int .i64 kind,.slice ta tn tc,.int .i64 now,.int .i64 N]] w (DyP H B g w (opD D U k T n kind N)):=by
 have HR0:Hid ((w.alloc (.cells #[.int .i64 kind,.slice ta tn tc,.int .i64 now,.int .i64 N] 44)).heap[w.heap.size]?=some (.cells #[.int .i64 kind,.slice ta tn tc,.int .i64 now,.int .i64 N] 44 (0,0))):=heap_alloc_new w _;have HWW:Hid (Below w.heap.size w (w.alloc (.cells #[.int .i64 kind,.slice ta tn tc,.int .i64 now,.int .i64 N] 44))):=(Below.refl _ _).alloc (Nat.le_refl _) _;have HW:Hid (Below H w (w.alloc (.cells #[.int .i64 kind,.slice ta tn tc,.int .i64 now,.int .i64 N] 44))):=HWW.out.mono h.low;have HB:=hid_ofV (h.below HWW.out);have HOZ:Hid ((Tryz.prog.info? 44).map (·.size)=some 4):=by show _=_;kernel_rfl
 clear h HWW;go_enter Tryz.func61,Tryz.ntmps61
 go_upto_region 1 with fail
 generalize w.alloc (.cells #[.int .i64 kind,.slice ta tn tc,.int .i64 now,.int .i64 N] 44)=w0 at *;have o0:w0.cell? ⟨w.heap.size,0,none⟩=some (.int .i64 kind):=by rw[cell_of_row w0 _ 0 _ _ _ HR0.out];rfl
 have o3:w0.cell? ⟨w.heap.size,3,none⟩=some (.int .i64 N):=by rw[cell_of_row w0 _ 3 _ _ _ HR0.out];rfl
 rcases hkd with k2|k3
 ·subst k2;have HC:=hid_ofV (ddn_any (N:=N) HB.out);clear HB;go_wp2_with fail;refine HC.out.mono ?_;intro e w2 h2;have HF:=hid_ofV (h2.from HW.out);obtain⟨rfl,-⟩:=h2;clear HC o0 o3;go_wp2
  go_ret
  exact HF.out
 ·subst k3;have HC:=hid_ofV (dal_any (N:=N) HB.out);clear HB;go_wp2_with fail;refine HC.out.mono ?_;intro e w2 h2;have HF:=hid_ofV (h2.from HW.out);obtain⟨rfl,-⟩:=h2;clear HC o0 o3;go_wp2
  go_ret
  exact HF.out
def DSV (lo:Nat) (w:World) (v:Value) (r:DyR):Prop:=
 ∃ aD nD cD aU nU cU aT nT cT,v=.agg #[.int .i64 r.c,.slice aD nD cD,.slice aU nU cU,.int .i64 r.k,.slice aT nT cT]∧S3 lo w aD aU aT nD nU nT r.D r.U r.T
theorem opD_ser {D U:List Int} {k:Int} {T:List Int} {n:Nat} {kind N:Int} (hD:SerP D) (hU:SerP U):SerP (opD D U k T n kind N).D∧SerP (opD D U k T n kind N).U:=by
 unfold opD
 repeat' split
 all_goals first
  |exact⟨hD,hU⟩
  |exact⟨withS_ser _ _,hU⟩
  |exact⟨without_ser hD _,hU⟩
open Classical in
noncomputable def stQD (D U:List Int) (k:Int) (T:List Int) (n nk:Nat) (kind N:Int):DyR:=
 if stB D U k T n=true∧nk=32 then opD D U k T n kind N else ⟨10,D,U,k,T,n⟩
set_option maxRecDepth 100000 in
set_option maxHeartbeats 8000000 in
theorem isd_any (aD aU aT:Option Addr) (nD cD nU cU nT cT:Nat) (D U:List Int) (k:Int) (T:List Int) (ka:Option Addr) (nk ck:Nat) (ta:Option Addr) (tn tc:Nat) (kind now N:Int) (w:World) (hD:D.length=nD) (hU:U.length=nU) (hT:T.length=nT*2) (mD:nD≤1048576) (mU:nU≤1048576) (mT:nT≤1048576)
  (haD:At .i64 w aD D) (haU:At .i64 w aU U) (haT:At .i64 w aT T) (hk0:-9223372036854775808≤k) (hk1:k<9223372036854775808) (hkd:kind=2∨kind=3) :
  Calls Tryz.prog 37 #[.agg #[.slice aD nD cD,.slice aU nU cU,.int .i64 k,.slice aT nT cT],.slice ka nk ck,.agg #[.int .i64 kind,.slice ta tn tc,.int .i64 now,.int .i64 N]] w fun e w'=>∃ v,e=.returned v∧DSV w.heap.size w' v (stQD D U k T nT nk kind N)∧Below w.heap.size w w':=by
 have HX0:Hid (CY3 w #[.slice aD nD cD,.slice aU nU cU,.int .i64 k,.slice aT nT cT] #[.int .i64 kind,.slice ta tn tc,.int .i64 now,.int .i64 N] (((w.alloc (.cells #[.slice aD nD cD,.slice aU nU cU,.int .i64 k,.slice aT nT cT] 34)).alloc (.cells #[.int .i64 kind,.slice ta tn tc,.int .i64 now,.int .i64 N] 44)).alloc (.cells #[.int .i64 0,.slice none 0 0,.slice none 0 0,.int .i64 0,.slice none 0 0] 87))):=CY3.start _ _ _;have HZ0:Hid ((((w.alloc (.cells #[.slice aD nD cD,.slice aU nU cU,.int .i64 k,.slice aT nT cT] 34)).alloc (.cells #[.int .i64 kind,.slice ta tn tc,.int .i64 now,.int .i64 N] 44)).alloc (.cells #[.int .i64 0,.slice none 0 0,.slice none 0 0,.int .i64 0,.slice none 0 0] 87)).heap.size=w.heap.size+3):=by show _=_;simp
 have HC:=openBookN aD aU aT nD cD nU cU nT cT D U k T _ hD hU hT mD mU mT (haD.below HX0.out.below) (haU.below HX0.out.below) (haT.below HX0.out.below) hk0 hk1;have HLN:Hid (D.length=nD∧U.length=nU∧T.length=nT*2):=⟨hD,hU,hT⟩
 have HA:Hid (∀ wz,Below w.heap.size w wz→At .i64 wz aD D∧At .i64 wz aU U∧At .i64 wz aT T):=fun wz h=>⟨haD.below h,haU.below h,haT.below h⟩
 have HRZ:Hid ((Tryz.prog.info? 87).map (·.size)=some 5):=by show _=_;kernel_rfl
 have HSZ:Hid ((Tryz.prog.info? 34).map (·.size)=some 4):=by show _=_;kernel_rfl
 have HOZ:Hid ((Tryz.prog.info? 44).map (·.size)=some 4):=by show _=_;kernel_rfl
 have HST:Hid (stB D U k T nT=true→StP D U k T nT):=stP_of;clear haD haU haT hD hU hT hk0 hk1;go_enter Tryz.func37,Tryz.ntmps37
 go_upto_region 1 with fail
 generalize (((w.alloc (.cells #[.slice aD nD cD,.slice aU nU cU,.int .i64 k,.slice aT nT cT] 34)).alloc (.cells #[.int .i64 kind,.slice ta tn tc,.int .i64 now,.int .i64 N] 44)).alloc (.cells #[.int .i64 0,.slice none 0 0,.slice none 0 0,.int .i64 0,.slice none 0 0] 87))=w0 at *;go_wp2_with (first
  |(refine wpList_load_row rfl 34 (.tmp 3) rfl w.heap.size rfl 34 _ (0,0) _ HX0.out.sb Tryz.underlying34 rfl HSZ.out ?_)
  |fail)
 refine HC.mono ?_;rintro e w1 ⟨bk,rfl,hs,ho,hb,hbk⟩;have HX1:Hid (CY3 w #[.slice aD nD cD,.slice aU nU cU,.int .i64 k,.slice aT nT cT] #[.int .i64 kind,.slice ta tn tc,.int .i64 now,.int .i64 N] w1):=HX0.out.call hb;have HB1:Hid (w.heap.size+3≤w1.heap.size):=by show _≤_;have:=hb.size;rw[HZ0.out] at this;exact this
 have HN:Hid ((w1.alloc (.cells Tryz.zeroCells110 110)).heap[w1.heap.size]?=some (.cells Tryz.zeroCells110 110 (0,0))):=heap_alloc_new w1 _;have HBZ:Hid ((Tryz.prog.info? 110).map (·.size)=some bk.size):=by show _=_;rw[hs];exact Tryz.sizeBook
 have HEQ:Hid ((Tryz.zeroCells110).size=bk.size):=by show _=_;rw[hs];exact zc_size
 have HOK:Hid (bk.all (fun x=>x.oneCell')=true):=ho;have HB2:Hid (Below w1.heap.size w1 ((w1.alloc (.cells Tryz.zeroCells110 110)).setRow w1.heap.size bk)):=((Below.refl _ _).alloc (Nat.le_refl _) _).trans ((Wr.setRow _ _ _).below (Nat.le_refl _));have HR2:Hid (((w1.alloc (.cells Tryz.zeroCells110 110)).setRow w1.heap.size bk).heap[w1.heap.size]?=some (.cells bk 110 (0,0))):=setRow_heap _ _ _ _ _ _ HN.out;have HBK:Hid (stB D U k T nT=true→∃ db ub v,bk=bkC db ub k v∧SetB db (fun v=>(v:Int)∈D)∧SetB ub (fun v=>(v:Int)∈U)∧TapO (w.heap.size+3) w1 v T nT):=by
  intro h;obtain⟨db,ub,v,h1,h2,h3,h4⟩:=hbk h;rw[HZ0.out] at h4;exact⟨db,ub,v,h1,h2,h3,h4⟩
 have HX2:Hid (CY3 w #[.slice aD nD cD,.slice aU nU cU,.int .i64 k,.slice aT nT cT] #[.int .i64 kind,.slice ta tn tc,.int .i64 now,.int .i64 N] ((w1.alloc (.cells Tryz.zeroCells110 110)).setRow w1.heap.size bk)):=HX1.out.call HB2.out;clear hs ho hb HC HX0 HZ0 hbk HX1;obtain⟨q,hq⟩:∃ q,q=stB D U k T nT:=⟨_,rfl⟩
 rw[←hq];have HQ:Hid (stB D U k T nT=q):=hq.symm;clear hq
 go_upto_region 2 with (first
  |(refine wpList_store_row rfl 110 (.tmp 7) (.tmp 13) rfl w1.heap.size bk rfl rfl 110 _ HN.out HBZ.out HEQ.out HOK.out ?_)
  |fail)
 clear HN HBZ HEQ HOK;generalize ((w1.alloc (.cells Tryz.zeroCells110 110)).setRow w1.heap.size bk)=w2 at *;by_cases hbad:¬ (stB D U k T nT=true∧nk=32)
 ·have HR:Hid (stQD D U k T nT nk kind N=⟨10,D,U,k,T,nT⟩):=by
   show _=_
   unfold stQD;rw[if_neg hbad]
  have hcs:q=false∨(q=true∧((nk:Int) != 32)=true):=by
   cases q with
   |false=>exact .inl rfl
   |true=>exact .inr ⟨rfl,by have h3:¬ nk=32:=fun h=>hbad ⟨HQ.out,h⟩
                             simp;omega⟩
  clear hbad HST HBK HR2 HB2 HQ;rcases hcs with rfl|⟨rfl,h32⟩
  all_goals
   go_upto_region 3 with fail
   go_wp2_with (first
    |(refine wpList_load_row rfl 34 (.tmp 3) rfl w.heap.size rfl 34 _ (0,0) _ HX2.out.sb Tryz.underlying34 rfl HSZ.out ?_)
    |fail)
   refine(cpSt_any aD aU aT nD cD nU cU nT cT D U k T w2 HLN.out.1 HLN.out.2.1 HLN.out.2.2 mD mU mT (HA.out w2 HX2.out.below).1 (HA.out w2 HX2.out.below).2.1 (HA.out w2 HX2.out.below).2.2).mono ?_;rintro e w9 ⟨cs,rfl,hcp,hb9⟩;have HX9:Hid (CY3 w #[.slice aD nD cD,.slice aU nU cU,.int .i64 k,.slice aT nT cT] #[.int .i64 kind,.slice ta tn tc,.int .i64 now,.int .i64 N] w9):=HX2.out.call hb9;have HL9:Hid (w.heap.size+2<w2.heap.size):=HX2.out.lt;obtain⟨bD,mD',dD,bU,mU',dU,bT,dT,rfl,hs3⟩:=hcp;have HRB:Hid (w9.heap[w.heap.size+2]?=some (.cells #[.int .i64 0,.slice none 0 0,.slice none 0 0,.int .i64 0,.slice none 0 0] 87 (0,0))):=HX9.out.rb;have HF:Hid (DSV w.heap.size (w9.setRow (w.heap.size+2) #[.int .i64 10,.slice bD mD' dD,.slice bU mU' dU,.int .i64 k,.slice bT nT dT]) (.agg #[.int .i64 10,.slice bD mD' dD,.slice bU mU' dU,.int .i64 k,.slice bT nT dT]) (stQD D U k T nT nk kind N)∧Below w.heap.size w (w9.setRow (w.heap.size+2) #[.int .i64 10,.slice bD mD' dD,.slice bU mU' dU,.int .i64 k,.slice bT nT dT])):=by
    have hw:Wr (w.heap.size+2) w9 (w9.setRow (w.heap.size+2) #[.int .i64 10,.slice bD mD' dD,.slice bU mU' dU,.int .i64 k,.slice bT nT dT]):=Wr.setRow _ _ _;refine⟨?_,HX9.out.below.trans (hw.below (by omega))⟩;rw[HR.out];exact⟨_,_,_,_,_,_,_,_,_,rfl,(hs3.keep (by rw[hw.size];exact Nat.le_refl _) (fun j hj _=>hw.block j (by have:=HL9.out;omega))).lo (by have:=HL9.out;omega)⟩
   clear hb9 hs3 HL9 HX2;go_wp2_with (first
    |(refine wpList_store_row rfl 87 (.tmp 6) (.tmp 24) rfl (w.heap.size+2) #[.int .i64 10,.slice bD mD' dD,.slice bU mU' dU,.int .i64 k,.slice bT nT dT] rfl rfl 87 _ HRB.out HRZ.out rfl (by simp[Value.oneCell']) ?_)
    |fail)
   exact bodyPost_ret (v:=.agg #[.int .i64 10,.slice bD mD' dD,.slice bU mU' dU,.int .i64 k,.slice bT nT dT]) (results_cell_row rfl _ _ (w.heap.size+2) 87 _ (0,0) _ rfl (setRow_heap _ _ _ _ _ _ HRB.out) Tryz.underlying87 rfl HRZ.out) rfl ⟨_,rfl,HF.out.1,HF.out.2⟩
 obtain⟨hst0,h32⟩:=Decidable.not_not.1 hbad;have hst:=HST.out hst0;have hqt:q=true:=HQ.out.symm.trans hst0;subst hqt;have HSO:Hid (stQD D U k T nT nk kind N=opD D U k T nT kind N):=by show _=_;unfold stQD;rw[if_pos ⟨hst0,h32⟩]
 have HSER:=hid_ofV (opD_ser (k:=k) (T:=T) (n:=nT) (kind:=kind) (N:=N) hst.1 hst.2.2.1);obtain⟨db,ub,v9,rfl,hsd,hsu,hto⟩:=HBK.out hst0;have hbk:Bk w2 w1.heap.size db ub k v9:=⟨HR2.out,hsd.1,hsu.1,hsd.2.1,hsu.2.1⟩
 have hne:NeG w1.heap.size v9:=fun t ht e=>by
  rcases hto.2 with⟨h',_⟩|⟨g,c,cur,h',hb,hh,_⟩
  ·rw[h'] at ht;simp[Value.ownBlock] at ht
  ·rw[h'] at ht;simp[Value.ownBlock] at ht;have:=(Array.getElem?_eq_some_iff.1 hh).1;omega
 have hto2:TapO (w.heap.size+3) w2 v9 T nT:=by
  refine⟨hto.1,?_⟩;rcases hto.2 with h'|⟨g,c,cur,h1,h2,h3,h4⟩
  ·exact .inl h'
  ·exact .inr ⟨g,c,cur,h1,h2,by rw[HB2.out.block g (Array.getElem?_eq_some_iff.1 h3).1];exact h3,h4⟩
 have hkn:k+nT=(nU:Int):=by have:=hst.2.2.2.2.1;rw[HLN.out.2.1] at this;exact this
 have HBV:Hid (DyV (w.heap.size+3) (w.heap.size+3) w1.heap.size w2 db ub v9 D U k T nT):=⟨hbk,hsd,hsu,hto2.tapV,hst.1,hst.2.2.2.1,by omega,mT,HB1.out,Nat.le_refl _,hne,by have:=HB2.out.size;have:=HB1.out;omega⟩
 subst h32;have HSP:=hid_ofV (dst_any HBV.out (.slice ka 32 ck) ta tn tc kind now N hkd);clear hsd hsu hto hst hbk hto2 hkn hne HR2 HB2 HBV HBK HST hst0 HQ hbad HA
 go_upto_region 4 with fail
 generalize opD D U k T nT kind N=r at *;go_wp2_with (first
  |(refine wpList_load_row rfl 44 (.tmp 5) rfl (w.heap.size+1) rfl 44 _ (0,0) _ HX2.out.ob Tryz.underlying44 rfl HOZ.out ?_)
  |fail)
 refine HSP.out.mono ?_;rintro e w3 ⟨rfl,hb3,d',u',v',r1,r2,r3,r4,r5⟩;have HX3:Hid (CY3 w #[.slice aD nD cD,.slice aU nU cU,.int .i64 k,.slice aT nT cT] #[.int .i64 kind,.slice ta tn tc,.int .i64 now,.int .i64 N] w3):=HX2.out.keep hb3 (Nat.le_refl _);have HRB:Hid (w3.heap[w.heap.size+2]?=some (.cells #[.int .i64 0,.slice none 0 0,.slice none 0 0,.int .i64 0,.slice none 0 0] 87 (0,0))):=HX3.out.rb;obtain⟨aT',cT',rfl⟩:=r4.slice;have HS:=state_any aT' r.n cT' (fun v=>decide ((v:Int)∈r.D)) (fun v=>decide ((v:Int)∈r.U)) r1 (r2.congr (fun v _=>by simp)) (r3.congr (fun v _=>by simp));rw[HSER.out.1.eq_upTo _ (fun v _=>by simp),HSER.out.2.eq_upTo _ (fun v _=>by simp)] at HS;have HTV:Hid (TapV (w.heap.size+3) w3 (.slice aT' r.n cT') r.T r.n):=r4;clear r1 r2 r3 r4 r5 HSER hb3 HSP HX2;go_wp2_with fail;refine HS.mono ?_;rintro e w4 ⟨bD,mD',dD,bU,mU',dU,rfl,g1,g2,g3,hb4⟩;have HRB4:Hid (w4.heap[w.heap.size+2]?=some (.cells #[.int .i64 0,.slice none 0 0,.slice none 0 0,.int .i64 0,.slice none 0 0] 87 (0,0))):=by show _=_;rw[hb4.block _ (Array.getElem?_eq_some_iff.1 HRB.out).1];exact HRB.out
 have hw5:Wr (w.heap.size+2) w4 (w4.setRow (w.heap.size+2) #[.int .i64 r.c,.slice bD mD' dD,.slice bU mU' dU,.int .i64 r.k,.slice aT' r.n cT']):=Wr.setRow _ _ _;have HF:Hid (DSV w.heap.size (w4.setRow (w.heap.size+2) #[.int .i64 r.c,.slice bD mD' dD,.slice bU mU' dU,.int .i64 r.k,.slice aT' r.n cT']) (.agg #[.int .i64 r.c,.slice bD mD' dD,.slice bU mU' dU,.int .i64 r.k,.slice aT' r.n cT']) (stQD D U k T nT 32 kind N)∧Below w.heap.size w (w4.setRow (w.heap.size+2) #[.int .i64 r.c,.slice bD mD' dD,.slice bU mU' dU,.int .i64 r.k,.slice aT' r.n cT'])):=by
  have hlt:=(Array.getElem?_eq_some_iff.1 HRB.out).1;obtain⟨s1,s2,s3⟩:=g1.sat;obtain⟨t1,t2,t3⟩:=g2.sat;obtain⟨q1,q2,q3⟩:=HTV.out.sat;have q4:SAt w4 aT' r.T:=q1.below hb4;have q5:Lies (w.heap.size+3) w4 aT':=q3.mono (Nat.le_refl _) hb4.size;refine⟨?_,(HX3.out.below.trans (hb4.mono HX3.out.below.size)).trans (hw5.below (by omega))⟩;rw[HSO.out];refine⟨bD,mD',dD,bU,mU',dU,aT',r.n,cT',rfl,?_⟩;have z:(w4.setRow (w.heap.size+2) #[.int .i64 r.c,.slice bD mD' dD,.slice bU mU' dU,.int .i64 r.k,.slice aT' r.n cT']).heap.size=w4.heap.size:=hw5.size;refine⟨s1.keep (by rw[z];exact Nat.le_refl _) (fun ad e _=>hw5.block _ (by have:=(s3 ad e).1;omega)),t1.keep (by rw[z];exact Nat.le_refl _) (fun ad e _=>hw5.block _ (by have:=(t3 ad e).1;omega)),q4.keep (by rw[z];exact Nat.le_refl _) (fun ad e _=>hw5.block _ (by have:=(q5 ad e).1;omega)),s2,t2,q2,?_,?_,?_,?_,?_,?_⟩
  ·exact s3.mono (by omega) (by rw[z];exact Nat.le_refl _)
  ·exact t3.mono (by omega) (by rw[z];exact Nat.le_refl _)
  ·exact q5.mono (by omega) (by rw[z];exact Nat.le_refl _)
  ·exact fun x y hx hy e=>g3 x.block (by rw[hx];rfl) (by rw[hy,e];rfl)
  ·exact fun x y hx hy e=>by have:=(s3 x hx).1;have:=(q3 y hy).2;omega
  ·exact fun x y hx hy e=>by have:=(t3 x hx).1;have:=(q3 y hy).2;omega
 clear g1 g2 g3 hb4 hw5 HS HTV;go_wp2_with (first
  |(refine wpList_store_row rfl 87 (.tmp 6) (.tmp 30) rfl (w.heap.size+2) #[.int .i64 r.c,.slice bD mD' dD,.slice bU mU' dU,.int .i64 r.k,.slice aT' r.n cT'] rfl rfl 87 _ HRB4.out HRZ.out rfl (by simp[Value.oneCell']) ?_)
  |fail)
 exact bodyPost_ret (v:=.agg #[.int .i64 r.c,.slice bD mD' dD,.slice bU mU' dU,.int .i64 r.k,.slice aT' r.n cT']) (results_cell_row rfl _ _ (w.heap.size+2) 87 _ (0,0) _ rfl (setRow_heap _ _ _ _ _ _ HRB4.out) Tryz.underlying87 rfl HRZ.out) rfl ⟨_,rfl,HF.out.1,HF.out.2⟩
set_option maxRecDepth 100000 in
set_option maxHeartbeats 8000000 in
theorem ifm_yes (m zc:Nat) (za:Option Addr) (ks:List Int) (r:ImR) (w:World) (h8:8≤m) (h256:m≤256) (hk:ks.length=32) (hA:At .u8 w za ks) (hr:imG (fsD (List.replicate (m*64) 0)) [] (-1)=r) :
  Calls Tryz.prog 5 #[.int .i64 m,.slice za 32 zc] w fun e w'=>∃ X,e=.returned (.agg X)∧RP w.heap.size w' X 9 (fsD (List.replicate (m*64) 0)) ks (-1) false r∧Below w.heap.size w w':=by
 have HSR:Hid ((Tryz.prog.info? 40).map (·.size)=some 17):=by show _=_;kernel_rfl
 have HSD:Hid ((Tryz.prog.info? 27).map (·.size)=some 4):=by show _=_;kernel_rfl
 have HO0:Hid (OE w 40 #[.int .i64 0,.slice none 0 0,.slice none 0 0,.int .i64 0,.bool false,.slice none 0 0,.bool false,.int .u32 0,.int .u32 0,.slice none 0 0,.slice none 0 0,.slice none 0 0,.slice none 0 0,.slice none 0 0,.int .i64 0,.slice none 0 0,.int .u32 0] (w.alloc (.cells #[.int .i64 0,.slice none 0 0,.slice none 0 0,.int .i64 0,.bool false,.slice none 0 0,.bool false,.int .u32 0,.int .u32 0,.slice none 0 0,.slice none 0 0,.slice none 0 0,.slice none 0 0,.slice none 0 0,.int .i64 0,.slice none 0 0,.int .u32 0] 40))):=OE.start _ _ _;have t1:¬ (m:Int)<8:=by omega
 have t2:¬ (256:Int)<(m:Int):=by omega
 have HM:Hid (8≤m∧m≤256):=⟨h8,h256⟩
 have HK:Hid (At .u8 w za ks∧ks.length=32):=⟨hA,hk⟩
 have HR:=hid_of hr;clear hA hk hr h8 h256;go_enter Tryz.func5,Tryz.ntmps5
 go_upto_region 1 with fail
 generalize w.alloc (.cells #[.int .i64 0,.slice none 0 0,.slice none 0 0,.int .i64 0,.bool false,.slice none 0 0,.bool false,.int .u32 0,.int .u32 0,.slice none 0 0,.slice none 0 0,.slice none 0 0,.slice none 0 0,.slice none 0 0,.int .i64 0,.slice none 0 0,.int .u32 0] 40)=w1 at *;go_wp2_with fail;refine(idnO m w1 HM.out.1 HM.out.2).mono ?_;rintro e w2 ⟨g,gc,rfl,hO,hb⟩;have HO2:Hid (OE w 40 #[.int .i64 0,.slice none 0 0,.slice none 0 0,.int .i64 0,.bool false,.slice none 0 0,.bool false,.int .u32 0,.int .u32 0,.slice none 0 0,.slice none 0 0,.slice none 0 0,.slice none 0 0,.slice none 0 0,.int .i64 0,.slice none 0 0,.int .u32 0] w2):=HO0.out.call hb;have HG:Hid (w1.heap.size≤g∧g<w2.heap.size):=⟨(own_of hO).1,(own_of hO).2.1⟩
 have b3:=(Below.refl w2.heap.size w2).alloc (Nat.le_refl _) (.cells #[.slice (some ⟨g,0,none⟩) (m*64) gc,.slice none 0 0,.int .i64 (-1),.bool false] 27);have HD3:Hid (DB w2.heap.size g (m*64) gc w1.heap.size (List.replicate (m*64) 0) (w2.alloc (.cells #[.slice (some ⟨g,0,none⟩) (m*64) gc,.slice none 0 0,.int .i64 (-1),.bool false] 27))):=⟨heap_alloc_new w2 _,hO.grow b3⟩
 have HO3:Hid (OE w 40 #[.int .i64 0,.slice none 0 0,.slice none 0 0,.int .i64 0,.bool false,.slice none 0 0,.bool false,.int .u32 0,.int .u32 0,.slice none 0 0,.slice none 0 0,.slice none 0 0,.slice none 0 0,.slice none 0 0,.int .i64 0,.slice none 0 0,.int .u32 0] (w2.alloc (.cells #[.slice (some ⟨g,0,none⟩) (m*64) gc,.slice none 0 0,.int .i64 (-1),.bool false] 27))):=HO2.out.call b3;have HL3:Hid (w.heap.size<w1.heap.size∧w.heap.size<w2.heap.size):=⟨HO0.out.lt,HO2.out.lt⟩
 clear HO0 hb hO b3 t1 t2
 go_upto_region 4 with (first
  |(refine wpList_store_row rfl 27 (.tmp 5) (.tmp 19) rfl w2.heap.size #[.slice (some ⟨g,0,none⟩) (m*64) gc,.slice none 0 0,.int .i64 (-1),.bool false] rfl rfl 27 _ (heap_alloc_new w2 _) HSD.out rfl (by simp[Value.oneCell']) ?_)
  |fail)
 try rw[World.setRow_alloc_new]
 generalize w2.alloc (.cells #[.slice (some ⟨g,0,none⟩) (m*64) gc,.slice none 0 0,.int .i64 (-1),.bool false] 27)=w3 at *;generalize hD:w2.heap.size=D at *;clear hD;go_wp2_with fail;refine(wsn_any D g (m*64) gc w1.heap.size (List.replicate (m*64) 0) w3 HD3.out (by have:=HG.out;omega) (by simp) (by have:=HM.out;omega) (by omega) (by have:=HM.out;omega)).mono ?_;rintro e w4 ⟨rfl,D4,y4⟩;have hbw:Below w.heap.size w w4:=HO3.out.below.trans (y4.below (by have:=HL3.out;omega) (by have:=HL3.out;have:=HG.out;omega) HO3.out.below.size);have HB4:Hid (w4.heap[w.heap.size]?=some (.cells #[.int .i64 0,.slice none 0 0,.slice none 0 0,.int .i64 0,.bool false,.slice none 0 0,.bool false,.int .u32 0,.int .u32 0,.slice none 0 0,.slice none 0 0,.slice none 0 0,.slice none 0 0,.slice none 0 0,.int .i64 0,.slice none 0 0,.int .u32 0] 40 (0,0))∧Below w.heap.size w w4∧w.heap.size<w4.heap.size):=by
  have e:w4.heap[w.heap.size]?=some (.cells #[.int .i64 0,.slice none 0 0,.slice none 0 0,.int .i64 0,.bool false,.slice none 0 0,.bool false,.int .u32 0,.int .u32 0,.slice none 0 0,.slice none 0 0,.slice none 0 0,.slice none 0 0,.slice none 0 0,.int .i64 0,.slice none 0 0,.int .u32 0] 40 (0,0)):=by rw[y4.block _ HO3.out.lt (by have:=HL3.out;omega) (by have:=HL3.out;have:=HG.out;omega)];exact HO3.out.b0
  exact⟨e,hbw,(Array.getElem?_eq_some_iff.1 e).1⟩
 have HD4:Hid (w4.heap[D]?=some (.cells #[.slice (some ⟨g,0,none⟩) (m*64) gc,.slice none 0 0,.int .i64 (-1),.bool false] 27 (0,0))):=D4.row;have HA4:Hid (DAt w4 (.agg #[.slice (some ⟨g,0,none⟩) (m*64) gc,.slice none 0 0,.int .i64 (-1),.bool false]) (fsD (List.replicate (m*64) 0)) [] (-1) false):=by
  obtain⟨q1,q2,q3,q4,q5⟩:=own_of D4.own;exact⟨_,gc,none,0,by rw[fsD_len (m:=m) (by simp) HM.out.1];rfl,q4,.inl rfl,q3⟩
 clear HO2 HD3 HO3 D4 y4 hbw;go_wp2_with (first
  |(refine wpList_load_row rfl 27 (.tmp 5) rfl D rfl 27 #[.slice (some ⟨g,0,none⟩) (m*64) gc,.slice none 0 0,.int .i64 (-1),.bool false] (0,0) _ HD4.out Tryz.underlying27 rfl HSD.out ?_)
  |fail)
 have HC:=igt_any (.agg #[.slice (some ⟨g,0,none⟩) (m*64) gc,.slice none 0 0,.int .i64 (-1),.bool false]) (fsD (List.replicate (m*64) 0)) ks (-1) false r za zc w4 HA4.out (HK.out.1.below HB4.out.2.1) HR.out (fsD_byte (zero_byte _)) (by rw[fsD_len (m:=m) (by simp) HM.out.1];have:=HM.out;omega) (by rw[HK.out.2];decide);rw[HK.out.2] at HC;refine HC.mono ?_;clear HC;rintro e w5 ⟨C,rfl,hG,hb5⟩;have hrs:w5.heap[w.heap.size]?=some (.cells #[.int .i64 0,.slice none 0 0,.slice none 0 0,.int .i64 0,.bool false,.slice none 0 0,.bool false,.int .u32 0,.int .u32 0,.slice none 0 0,.slice none 0 0,.slice none 0 0,.slice none 0 0,.slice none 0 0,.int .i64 0,.slice none 0 0,.int .u32 0] 40 (0,0)):=by rw[hb5.block _ HB4.out.2.2];exact HB4.out.1
 have HGP:=hid_of hG;have HRS:=hid_of hrs;have HB5:Hid (Below w.heap.size w w5):=HB4.out.2.1.trans (hb5.mono HB4.out.2.1.size);obtain⟨da,dc,ca,cc,ka,kc,aSD,nSD,cSD,aSU,nSU,cSU,aF,mF,cF,aD,nD,cD,aU,nU,cU,aT,cT,rfl,_⟩:=hG;clear hb5 hrs;go_wp2_with (first
  |(refine wpList_store_row rfl 40 (.tmp 4) (.tmp 25) rfl w.heap.size #[.int .i64 9,.slice da (fsD (List.replicate (m*64) 0)).length dc,.slice ca 0 cc,.int .i64 (-1),.bool false,.slice ka ks.length kc,.bool r.ok,.int .u32 r.g,.int .u32 r.t,.slice aSD nSD cSD,.slice aSU nSU cSU,.slice aF mF cF,.slice aD nD cD,.slice aU nU cU,.int .i64 r.k,.slice aT r.n cT,.int .u32 r.nx] rfl rfl 40 _ HRS.out HSR.out rfl (by simp[Value.oneCell']) ?_)
  |fail)
 (try simp only[Exit.inBlock,Exit.then])
 refine bodyPost_ret (v:=.agg #[.int .i64 9,.slice da (fsD (List.replicate (m*64) 0)).length dc,.slice ca 0 cc,.int .i64 (-1),.bool false,.slice ka ks.length kc,.bool r.ok,.int .u32 r.g,.int .u32 r.t,.slice aSD nSD cSD,.slice aSU nSU cSU,.slice aF mF cF,.slice aD nD cD,.slice aU nU cU,.int .i64 r.k,.slice aT r.n cT,.int .u32 r.nx]) (results_cell_row rfl _ _ w.heap.size 40 _ (0,0) _ rfl (setRow_heap _ _ _ _ _ _ HRS.out) Tryz.underlying40 rfl HSR.out) rfl ⟨_,rfl,⟨#[.slice da (fsD (List.replicate (m*64) 0)).length dc,.slice ca 0 cc,.int .i64 (-1),.bool false,.slice ka ks.length kc,.bool r.ok,.int .u32 r.g,.int .u32 r.t,.slice aSD nSD cSD,.slice aSU nSU cSU,.slice aF mF cF,.slice aD nD cD,.slice aU nU cU,.int .i64 r.k,.slice aT r.n cT,.int .u32 r.nx],rfl,?_⟩,HB5.out.trans ((Wr.setRow _ _ _).below (Nat.le_refl _))⟩;have hw:=Wr.setRow w.heap.size w5 #[.int .i64 9,.slice da (fsD (List.replicate (m*64) 0)).length dc,.slice ca 0 cc,.int .i64 (-1),.bool false,.slice ka ks.length kc,.bool r.ok,.int .u32 r.g,.int .u32 r.t,.slice aSD nSD cSD,.slice aSU nSU cSU,.slice aF mF cF,.slice aD nD cD,.slice aU nU cU,.int .i64 r.k,.slice aT r.n cT,.int .u32 r.nx];exact(HGP.out.keep (Nat.le_of_eq hw.size.symm) (fun k hk _=>hw.block k (by have:=HB4.out.2.2;omega))).mono (Nat.le_of_lt HB4.out.2.2)
structure BX (w wr:World) (C1 C2:Array Value):Prop where
 below:Below w.heap.size w wr
 b1:wr.heap[w.heap.size]?=some (.cells C1 27 (0,0))
 b2:wr.heap[w.heap.size+1]?=some (.cells C2 49 (0,0))
 b3:wr.heap[w.heap.size+1+1]?=some (.cells #[.slice none 0 0,.slice none 0 0,.int .i64 0,.bool false] 27 (0,0))
theorem BX.grow {w wr w':World} {C1 C2:Array Value} (h:BX w wr C1 C2) (hb:Below wr.heap.size wr w'):BX w w' C1 C2:=
 ⟨h.below.trans (hb.mono h.below.size),by rw[hb.block _ (Array.getElem?_eq_some_iff.1 h.b1).1];exact h.b1,by rw[hb.block _ (Array.getElem?_eq_some_iff.1 h.b2).1];exact h.b2,by rw[hb.block _ (Array.getElem?_eq_some_iff.1 h.b3).1];exact h.b3⟩
theorem BX.start (w:World) (C1 C2:Array Value):BX w (((w.alloc (.cells C1 27)).alloc (.cells C2 49)).alloc (.cells #[.slice none 0 0,.slice none 0 0,.int .i64 0,.bool false] 27)) C1 C2:=by
 have h2:=(Below.refl _ (w.alloc (.cells C1 27))).alloc (Nat.le_refl _) (.cells C2 49);have h3:=(Below.refl _ ((w.alloc (.cells C1 27)).alloc (.cells C2 49))).alloc (Nat.le_refl _) (.cells #[.slice none 0 0,.slice none 0 0,.int .i64 0,.bool false] 27);refine⟨(((Below.refl w.heap.size w).alloc (Nat.le_refl _) (.cells C1 27)).alloc (by simp) (.cells C2 49)).alloc (by simp;omega) (.cells #[.slice none 0 0,.slice none 0 0,.int .i64 0,.bool false] 27),?_,?_,?_⟩
 ·rw[h3.block _ (by simp;omega),h2.block _ (by simp)];exact heap_alloc_new w _
 ·rw[h3.block _ (by simp)];have:=heap_alloc_new (w.alloc (.cells C1 27)) (.cells C2 49);simpa using this
 ·have:=heap_alloc_new ((w.alloc (.cells C1 27)).alloc (.cells C2 49)) (.cells #[.slice none 0 0,.slice none 0 0,.int .i64 0,.bool false] 27);simpa using this
theorem crZ_no {zs:List Int} {ps:List PD} {f:Int} {bs:List Bool} {t u:Int} (h:validB zs.length ps f=false):crZ zs ps f bs t u=[]∧crF zs.length ps f=0:=by unfold crZ crF;rw[h];exact⟨rfl,rfl⟩
theorem crZ_yes {zs:List Int} {ps:List PD} {f:Int} {bs:List Bool} {t u:Int} (h:validB zs.length ps f=true):crZ zs ps f bs t u=crL zs ps bs t u ps.length∧crF zs.length ps f=-1:=by unfold crZ crF;rw[h];exact⟨rfl,rfl⟩
end Go.Proofs.YtilpkdnoaldfmaaGreatDoor
