import Derived.Test.YtncomnkdlpoelaaGreatDoorSvK
import Derived.Test.YtncomnkdlpoelaaGreatDoorMIDd
import Derived.BigQuiet
namespace Go.Proofs.YtncomnkdlpoelaaGreatDoor
open Go.ChangeShapes Go.WideShapes Go.ChangeAt Go.RowKit
set_option linter.unusedVariables false
open Classical in
noncomputable def memB (v:Int) (xs:List Int):Bool:=decide (v∈xs)
theorem memB_no {v:Int} {xs:List Int} (h:¬ v∈xs):memB v xs=false:=by unfold memB;simp[h]
theorem memB_yes {v:Int} {xs:List Int} (h:v∈xs):memB v xs=true:=by unfold memB;simp[h]
theorem getD_mem {xs:List Int} {k:Nat} (h:k<xs.length):xs.getD k 0∈xs:=by
 rw[List.getD_eq_getElem?_getD,List.getElem?_eq_getElem h];exact List.getElem_mem h
set_option maxHeartbeats 1000000 in
theorem holds_any (a:Option Addr) (n cap:Nat) (xs:List Int) (v:Int) (w:World) (hn:xs.length=n) (hm:n≤1048576) (ha:At .i64 w a xs) :
  Calls Tryz.prog 30 #[.slice a n cap,.int .i64 v] w fun e w'=>e=.returned (.bool (memB v xs))∧w'=w:=by
 have HNX:=hdI <| hn
 have HA:Hid (At .i64 w a xs):=ha;clear hn ha;go_enter Tryz.func30,Tryz.ntmps30;go_wp2
 go_loop [5] (fun i=>∃ k:Nat,k≤n∧i=.int .i64 k∧Hid (∀ j,j<k→xs.getD j 0≠v)) (fun i=>n-(intOf i).toNat)
 case atStart=>exact⟨0,Nat.zero_le _,rfl,fun j hj=>by omega⟩
 case round=>
  obtain⟨k,hk,rfl,hno⟩:=hrel;by_cases hlt:k<n
  ·have hlt':(k:Int)<n:=by omega
   obtain⟨b,off,ea,hb,hc⟩:=HA.out.get (by have:=HNX.out;omega);subst ea;have hck:=hc k (by have:=HNX.out;omega);by_cases he:xs.getD k 0=v
   ·have HM:Hid (memB v xs=true):=memB_yes (by rw[←he];exact getD_mem (by have:=HNX.out;omega));rw[he] at hck;clear hc he hb;go_wp2
    go_ret
    exact⟨by rw[HM.out];rfl,rfl⟩
   ·have HN:Hid (∀ j,j<k+1→xs.getD j 0≠v):=fun j hj=>by
     by_cases hjk:j<k
     ·exact hno.out j hjk
     ·have:j=k:=by omega
      rw[this];exact he
    have he':(xs.getD k 0 == v)=false:=by simpa using he
    clear hc hb hno he;generalize xs.getD k 0=x at *;go_wp2
    go_round
    case rel=>exact⟨k+1,by omega,by go_num,HN⟩
    case measure=>simp[intOf];omega
  ·have hlt':¬ ((k:Int)<n):=by omega
   have HM:Hid (memB v xs=false):=memB_no (fun h=>by
    obtain⟨i,hi,rfl⟩:=List.getElem_of_mem h;have:=hno.out i (by have:=HNX.out;omega);rw[List.getD_eq_getElem?_getD,List.getElem?_eq_getElem hi] at this;exact this rfl)
   go_wp2
   go_ret
   exact⟨by rw[HM.out];rfl,rfl⟩
set_option maxHeartbeats 4000000 in
theorem serials_any (a:Option Addr) (n cap:Nat) (xs:List Int) (w:World) (hn:xs.length=n) (hm:n≤1048576) (ha:At .i64 w a xs) :
  Calls Tryz.prog 29 #[.slice a n cap] w fun e w'=>e=.returned (.bool (serB xs))∧∃ q,w'=w.drewN q:=by
 have HNX:=hdI <| hn
 have HA:Hid (At .i64 w a xs):=ha;clear hn ha;go_enter Tryz.func29,Tryz.ntmps29;go_wp2
 go_loopw [3] (fun i wr=>∃ k:Nat,k≤n∧i=.int .i64 k∧Hid (∀ j,j<k→okI xs j)∧Hid (∃ q,wr=w.drewN q)) (fun i _=>n-(intOf i).toNat)
 case atStart=>exact⟨0,Nat.zero_le _,rfl,fun j hj=>by omega,⟨0,rfl⟩⟩
 case round=>
  obtain⟨k,hk,rfl,hno,hwq⟩:=hrel;obtain⟨q,rfl⟩:=hwq.out;clear hwq;by_cases hlt:k<n
  ·have hlt':(k:Int)<n:=by omega
   obtain⟨b,off,ea,hb,hc⟩:=HA.out.get (by have:=HNX.out;omega);subst ea;have hck:=hc k (by have:=HNX.out;omega);by_cases h0:xs.getD k 0<0
   ·have HS:Hid (serB xs=false):=serB_no (fun h=>by have:=(h k (by have:=HNX.out;omega)).1;omega);clear hc hb hno;generalize xs.getD k 0=x at *;go_wp2_with fail
    go_quiet (fail)
    go_wp2
    go_ret
    exact⟨by rw[HS.out];rfl,q+nq,dN _ _ _⟩
   ·have h0':decide (xs.getD k 0<0)=false:=decide_eq_false h0;by_cases h1:256≤xs.getD k 0
    ·have HS:Hid (serB xs=false):=serB_no (fun h=>by have:=(h k (by have:=HNX.out;omega)).2.1;omega);clear hc hb hno h0;generalize xs.getD k 0=x at *;go_wp2_with fail
     go_quiet (fail)
     go_wp2
     go_ret
     exact⟨by rw[HS.out];rfl,q+nq,dN _ _ _⟩
    ·have h1':decide (256≤xs.getD k 0)=false:=decide_eq_false h1;by_cases hk0:0<k
     ·obtain⟨m,rfl⟩:∃ m,k=m+1:=⟨k-1,by omega⟩
      have hck1:=hc m (by have:=HNX.out;omega);have hk0':(0:Int)<((m+1:Nat):Int):=by omega
      by_cases h2:xs.getD (m+1) 0≤xs.getD m 0
      ·have HS:Hid (serB xs=false):=serB_no (fun h=>by have:=(h (m+1) (by have:=HNX.out;omega)).2.2 (by omega);rw[Nat.add_sub_cancel] at this;omega);clear hc hb hno h0 h1 hk0;generalize xs.getD (m+1) 0=x at *;generalize xs.getD m 0=y at *;go_wp2_with fail
       go_quiet (fail)
       go_wp2
       go_ret
       exact⟨by rw[HS.out];rfl,q+nq,dN _ _ _⟩
      ·have h2':=decide_eq_false h2;have HN:Hid (∀ j,j<m+1+1→okI xs j):=fun j hj=>by
        by_cases hjk:j<m+1
        ·exact hno.out j hjk
        ·have:j=m+1:=by omega
         rw[this];exact⟨by omega,by omega,fun _=>by rw[Nat.add_sub_cancel];omega⟩
       clear hc hb hno h0 h1 hk0 h2;generalize xs.getD (m+1) 0=x at *;generalize xs.getD m 0=y at *;go_wp2_with fail
       go_quiet (fail)
       go_wp2;go_roundw
       case rel=>exact⟨m+1+1,by omega,by go_num,HN,⟨q+nq,rfl⟩⟩
       case measure=>simp[intOf];omega
     ·have hkd:=decide_eq_false (by omega);have HN:Hid (∀ j,j<k+1→okI xs j):=fun j hj=>by
       have:j=k:=by omega
       rw[this];exact⟨by omega,by omega,fun h=>by omega⟩
      clear hc hb hno h0 h1 hk0;generalize xs.getD k 0=x at *;go_wp2_with fail
      go_quiet (fail)
      go_wp2;go_roundw
      case rel=>exact⟨k+1,by omega,by go_num,HN,⟨q+nq,rfl⟩⟩
      case measure=>simp[intOf];omega
  ·have hlt':¬ ((k:Int)<n):=by omega
   have HS:=hdI <| serB_yes (fun i hi=>hno.out i (by have:=HNX.out;omega))
   go_wp2
   go_ret
   exact⟨by rw[HS.out];rfl,q,rfl⟩
structure VSE (w:World) (sc:Array Value) (wr:World):Prop where
 below:Below w.heap.size w wr
 box:wr.heap[w.heap.size]?=some (.cells sc 26 (0,0))
theorem VSE.lt {w wr:World} {sc:Array Value} (h:VSE w sc wr):w.heap.size<wr.heap.size:=(Array.getElem?_eq_some_iff.1 h.box).1
theorem VSE.call {w wr w':World} {sc:Array Value} (h:VSE w sc wr) (b:Below wr.heap.size wr w'):VSE w sc w':=⟨h.below.trans (b.mono h.below.size),by rw[b.block _ h.lt];exact h.box⟩
theorem VSE.drew {w wr:World} {sc:Array Value} (h:VSE w sc wr) (q:Nat):VSE w sc (wr.drewN q):=⟨below_dq h.below q,h.box⟩
set_option maxRecDepth 100000 in
set_option maxHeartbeats 8000000 in
theorem svs_any (aD aU aT:Option Addr) (nD cD nU cU nT cT:Nat) (D U:List Int) (k:Int) (T:List Int) (w:World) (hD:D.length=nD) (hU:U.length=nU) (hT:T.length=nT*2) (mD:nD≤1048576) (mU:nU≤1048576) (mT:nT≤1048576)
  (haD:At .i64 w aD D) (haU:At .i64 w aU U) (haT:At .i64 w aT T) (hk0:-9223372036854775808≤k) (hk1:k<9223372036854775808) :
  Calls Tryz.prog 8 #[.agg #[.slice aD nD cD,.slice aU nU cU,.int .i64 k,.slice aT nT cT]] w fun e w'=>e=.returned (.bool (stB D U k T nT))∧Below w.heap.size w w':=by
 have HE0:Hid (VSE w #[.slice aD nD cD,.slice aU nU cU,.int .i64 k,.slice aT nT cT] (w.alloc (.cells #[.slice aD nD cD,.slice aU nU cU,.int .i64 k,.slice aT nT cT] 26))):=⟨(Below.refl _ _).alloc (Nat.le_refl _) _,heap_alloc_new w _⟩
 have HAD:=hdI <| haD
 have HAU:=hdI <| haU
 have HAT:=hdI <| haT
 have HLT:=hdI <| hT
 have HLN:Hid (D.length=nD∧U.length=nU):=⟨hD,hU⟩
 have HKB:Hid (-9223372036854775808≤k∧k<9223372036854775808):=⟨hk0,hk1⟩
 clear haD haU haT hT hD hU hk0 hk1;go_enter Tryz.func8,Tryz.ntmps8;go_wp2_with fail;generalize (w.alloc (.cells #[.slice aD nD cD,.slice aU nU cU,.int .i64 k,.slice aT nT cT] 26))=w0 at *;refine(serials_any aD nD cD D _ HLN.out.1 mD (HAD.out.below HE0.out.below)).mono ?_;rintro e w1' ⟨rfl,q1,rfl⟩;have HE1:=hdI <| HE0.out.drew q1
 clear HE0;generalize w0.drewN q1=w1 at *;have HB:=hdI <| HE1.out.below
 have c0:w1.cell? ⟨w.heap.size,0,none⟩=some (.slice aD nD cD):=by rw[cell_of_row w1 w.heap.size 0 _ _ _ HE1.out.box];rfl
 have c1:w1.cell? ⟨w.heap.size,1,none⟩=some (.slice aU nU cU):=by rw[cell_of_row w1 w.heap.size 1 _ _ _ HE1.out.box];rfl
 cases hsD:serB D with
 |false=>
  have HPD:Hid (¬ SerP D):=fun h=>by rw[serB_yes h] at hsD;cases hsD
  have HFB:Hid (stB D U k T nT=false):=stB_no (fun h=>HPD.out h.1);go_wp2
  go_ret
  exact⟨by rw[HFB.out];rfl,HB.out⟩
 |true=>
 have HPD:=hdI <| (serB_iff D).1 hsD
 by_cases h16:nD≤16
 ·have h16':decide ((16:Int)<(nD:Int))=false:=decide_eq_false (by omega);go_wp2_with fail;refine(serials_any aU nU cU U _ HLN.out.2 mU (HAU.out.below HE1.out.below)).mono ?_;rintro e w2' ⟨rfl,q2,rfl⟩;have HE2:Hid (VSE w #[.slice aD nD cD,.slice aU nU cU,.int .i64 k,.slice aT nT cT] (w1.drewN q2)):=HE1.out.drew q2;clear HE1 HB c0 c1;generalize w1.drewN q2=w2 at *;have HB:=hdI <| HE2.out.below
  have c1:w2.cell? ⟨w.heap.size,1,none⟩=some (.slice aU nU cU):=by rw[cell_of_row w2 w.heap.size 1 _ _ _ HE2.out.box];rfl
  have c2:w2.cell? ⟨w.heap.size,2,none⟩=some (.int .i64 k):=by rw[cell_of_row w2 w.heap.size 2 _ _ _ HE2.out.box];rfl
  have c3:w2.cell? ⟨w.heap.size,3,none⟩=some (.slice aT nT cT):=by rw[cell_of_row w2 w.heap.size 3 _ _ _ HE2.out.box];rfl
  cases hsU:serB U with
  |false=>
   have HPU:Hid (¬ SerP U):=fun h=>by rw[serB_yes h] at hsU;cases hsU
   have HFB:Hid (stB D U k T nT=false):=stB_no (fun h=>HPU.out h.2.2.1);go_wp2
   go_ret
   exact⟨by rw[HFB.out];rfl,HB.out⟩
  |true=>
  have HPU:=hdI <| (serB_iff U).1 hsU
  by_cases hk:k<0
  ·have HK9:=hdI <| hk
   have hkb:decide (k<0)=true:=decide_eq_true hk;clear hk c1 c3;have HFB:Hid (stB D U k T nT=false):=stB_no (fun h=>by have:=h.2.2.2.1;have:=HK9.out;omega);go_wp2
   go_ret
   exact⟨by rw[HFB.out];rfl,HB.out⟩
  ·have HK9:Hid (0≤k):=by show _≤_;omega
   have hkb:=decide_eq_false hk;by_cases hka:k+(nT:Int)=nU
   ·have HKA:Hid (k+nT=U.length):=by show _=_;rw[HLN.out.2];exact hka
    have hwr:IntKind.i64.wrap (k+(nT:Int))=(nU:Int):=by rw[IntKind.wrap_i64];omega
    have hwr2:wrap64 (k+(nT:Int))=(nU:Int):=by unfold wrap64;omega
    clear hka hk;go_wp2_with fail;clear HB c1 c2 c3 hwr hwr2 hkb h16' hsD hsU
    go_loopw [3] (fun i wr=>∃ m:Nat,m≤nT∧i=.int .i64 m∧VSE w #[.slice aD nD cD,.slice aU nU cU,.int .i64 k,.slice aT nT cT] wr∧Hid (∀ j,j<m→tapI U T j)) (fun i _=>nT-(intOf i).toNat)
    case atStart=>exact⟨0,Nat.zero_le _,rfl,HE2.out,fun j hj=>by omega⟩
    case round=>
     clear HE2;obtain⟨m,hm,rfl,hE,hno⟩:=hrel;have c1:wr.cell? ⟨w.heap.size,1,none⟩=some (.slice aU nU cU):=by rw[cell_of_row wr w.heap.size 1 _ _ _ hE.box];rfl
     have c3:wr.cell? ⟨w.heap.size,3,none⟩=some (.slice aT nT cT):=by rw[cell_of_row wr w.heap.size 3 _ _ _ hE.box];rfl
     have HE:=hdI <| hE
     clear hE;by_cases hlt:m<nT
     ·have hlt':(m:Int)<nT:=by omega
      obtain⟨b,off,ea,hb,hc⟩:=(HAT.out.below HE.out.below).get (by have:=HLT.out;omega);have t0:=hc (m*2) (by have:=HLT.out;omega);have t1:=hc (m*2+1) (by have:=HLT.out;omega);rw[←Nat.add_assoc] at t1;subst ea;have HCT:Hid (∀ j,j<nT→wr.cell? ⟨b,off+j*2,none⟩=some (.int .i64 (T.getD (j*2) 0))):=fun j hj=>hc (j*2) (by have:=HLT.out;omega)
      have HBL:=hdI <| hb
      have HTI:Hid (tapI U T m↔(T.getD (m*2) 0∈U∧(0≤T.getD (m*2+1) 0∧T.getD (m*2+1) 0≤4294967295)∧∀ j,j<m→T.getD (j*2) 0≠T.getD (m*2) 0)):=Iff.rfl;generalize T.getD (m*2) 0=s at *;generalize T.getD (m*2+1) 0=nw at *;have b1:Below wr.heap.size wr (wr.alloc (.cells #[.int .i64 s,.int .i64 nw] 70)):=(Below.refl _ _).alloc (Nat.le_refl _) _;have HEW:=hdI <| HE.out.call b1
      have HBW:=hdI <| HEW.out.below
      have HRT:Hid ((wr.alloc (.cells #[.int .i64 s,.int .i64 nw] 70)).heap[wr.heap.size]?=some (.cells #[.int .i64 s,.int .i64 nw] 70 (0,0))):=heap_alloc_new wr _;have HCW:Hid (∀ j,j<nT→(wr.alloc (.cells #[.int .i64 s,.int .i64 nw] 70)).cell? ⟨b,off+j*2,none⟩=some (.int .i64 (T.getD (j*2) 0))):=fun j hj=>by rw[b1.cell (p:=⟨b,off+j*2,none⟩) HBL.out];exact HCT.out j hj
      have d1:(wr.alloc (.cells #[.int .i64 s,.int .i64 nw] 70)).cell? ⟨w.heap.size,1,none⟩=some (.slice aU nU cU):=by rw[cell_of_row _ w.heap.size 1 _ _ _ HEW.out.box];rfl
      have d3:(wr.alloc (.cells #[.int .i64 s,.int .i64 nw] 70)).cell? ⟨w.heap.size,3,none⟩=some (.slice (some ⟨b,off,none⟩) nT cT):=by rw[cell_of_row _ w.heap.size 3 _ _ _ HEW.out.box];rfl
      clear hc hb b1 HCT;by_cases hn0:nw<0
      ·have hn0':=decide_eq_true hn0;have HX:=hdI <| hn0
       clear hn0;have HFB:Hid (stB D U k T nT=false):=stB_no (fun h=>by have:=(HTI.out.1 (h.2.2.2.2.2 m hlt)).2.1.1;have:=HX.out;omega);go_wp2
       go_ret
       exact⟨by rw[HFB.out];rfl,HBW.out⟩
      ·have hn0':=decide_eq_false hn0;by_cases hn1:4294967295<nw
       ·have hn1':=decide_eq_true hn1;have HX:=hdI <| hn1
        clear hn1 hn0;have HFB:Hid (stB D U k T nT=false):=stB_no (fun h=>by have:=(HTI.out.1 (h.2.2.2.2.2 m hlt)).2.1.2;have:=HX.out;omega);go_wp2
        go_ret
        exact⟨by rw[HFB.out];rfl,HBW.out⟩
       ·have hn1':=decide_eq_false hn1;have HNW:Hid (0≤nw∧nw≤4294967295):=⟨by omega,by omega⟩
        clear hn0 hn1;go_wp2_with fail;refine(holds_any aU nU cU U s _ HLN.out.2 mU (HAU.out.below HBW.out)).mono ?_;rintro e w5 ⟨rfl,rfl⟩;by_cases hin:s∈U
        ·rw[memB_yes hin];have HIN:=hdI <| hin
         clear hin;have d0:(wr.alloc (.cells #[.int .i64 s,.int .i64 nw] 70)).cell? ⟨wr.heap.size,0,none⟩=some (.int .i64 s):=by rw[cell_of_row _ wr.heap.size 0 _ _ _ HRT.out];rfl
         have t0':=HCW.out m hlt;clear t0 t1 t0' c1 c3;go_wp2_with fail;generalize wr.alloc (.cells #[.int .i64 s,.int .i64 nw] 70)=W at *
         go_loopw [5] (fun i wq=>∃ j:Nat,j≤m∧i=.int .i64 j∧Hid (∃ p,wq=W.drewN p)∧Hid (∀ l,l<j→T.getD (l*2) 0≠s)) (fun i _=>m-(intOf i).toNat)
         case atStart=>exact⟨0,Nat.zero_le _,rfl,⟨0,rfl⟩,fun l hl=>by omega⟩
         case round=>
          obtain⟨j,hj,rfl,hwp,hne⟩:=hrel;obtain⟨p,rfl⟩:=hwp.out;clear hwp;by_cases hjm:j<m
          ·have hjm':(j:Int)<m:=by omega
           have hjn:(j:Int)<nT:=by omega
           have tj:=HCW.out j (by omega);by_cases hes:T.getD (j*2) 0=s
           ·have HX:=hdI <| hes
            have HBQ:Hid (∀ n,Below w.heap.size w ((W.drewN p).drewN n)):=fun n=>below_dq (below_dq HBW.out p) n
            rw[hes] at tj;clear hes;have HFB:Hid (stB D U k T nT=false):=stB_no (fun h=>(HTI.out.1 (h.2.2.2.2.2 m hlt)).2.2 j hjm HX.out);go_wp2_with fail
            go_quiet (fail)
            go_wp2
            go_ret
            exact⟨by rw[HFB.out];rfl,by first|exact HBQ.out _|exact below_dq HBW.out _⟩
           ·have HN:Hid (∀ l,l<j+1→T.getD (l*2) 0≠s):=fun l hl=>by
             by_cases hlj:l<j
             ·exact hne.out l hlj
             ·have:l=j:=by omega
              rw[this];exact hes
            have hes':(T.getD (j*2) 0 == s)=false:=by simpa using hes
            clear hes hne;generalize T.getD (j*2) 0=y at *;go_wp2_with fail
            go_quiet (fail)
            go_wp2;go_roundw
            case rel=>exact⟨j+1,by omega,by go_num,by first|exact⟨_,rfl⟩|exact⟨_,dN _ _ _⟩,HN⟩
            case measure=>simp[intOf];omega
          ·have hjm':¬ ((j:Int)<m):=by omega
           have HN:Hid (∀ l,l<m+1→tapI U T l):=fun l hl=>by
            by_cases hlm:l<m
            ·exact hno.out l hlm
            ·have e:l=m:=by omega
             subst e;exact HTI.out.2 ⟨HIN.out,HNW.out,fun l' hl'=>hne.out l' (by omega)⟩
           have HEQ:=hdI <| HEW.out.drew p
           go_wp2;go_roundw
           case rel=>exact⟨m+1,by omega,by go_num,HEQ.out,HN⟩
           case measure=>simp[intOf];omega
        ·rw[memB_no hin];have HIN:=hdI <| hin
         clear hin;have HFB:Hid (stB D U k T nT=false):=stB_no (fun h=>HIN.out (HTI.out.1 (h.2.2.2.2.2 m hlt)).1);go_wp2
         go_ret
         exact⟨by rw[HFB.out];rfl,HBW.out⟩
     ·have hlt':¬ ((m:Int)<nT):=by omega
      have HYE:=hdI <| stB_yes ⟨HPD.out,by rw[HLN.out.1];exact h16,HPU.out,HK9.out,HKA.out,fun i hi=>hno.out i (by omega)⟩
      have HBW:=hdI <| HE.out.below
      go_wp2
      go_ret
      exact⟨by rw[HYE.out];rfl,HBW.out⟩
   ·have HKN:=hdI <| hka
    have hwr:(IntKind.i64.wrap (k+(nT:Int)) == (nU:Int))=false:=by
     have:=HKB.out;simp only[beq_eq_false_iff_ne,ne_eq];rw[IntKind.wrap_i64];omega
    have hwr2:(wrap64 (k+(nT:Int)) == (nU:Int))=false:=by
     have:=HKB.out;simp only[beq_eq_false_iff_ne,ne_eq];unfold wrap64;omega
    clear hka hk;have HFB:Hid (stB D U k T nT=false):=stB_no (fun h=>by have:=h.2.2.2.2.1;rw[HLN.out.2] at this;exact HKN.out this);go_wp2
    go_ret
    exact⟨by rw[HFB.out];rfl,HB.out⟩
 ·have h16':=decide_eq_true (by omega);have HFB:Hid (stB D U k T nT=false):=stB_no (fun h=>by have:=h.2.1;rw[HLN.out.1] at this;omega);go_wp2
  go_ret
  exact⟨by rw[HFB.out];rfl,HB.out⟩
end Go.Proofs.YtncomnkdlpoelaaGreatDoor
