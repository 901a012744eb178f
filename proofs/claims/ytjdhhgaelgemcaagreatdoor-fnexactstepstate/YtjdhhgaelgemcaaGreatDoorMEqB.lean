import Derived.Test.YtjdhhgaelgemcaaGreatDoorMApx
import Derived.Deep.Cut
import Derived.Test.YtjdhhgaelgemcaaGreatDoorMMkB
import Derived.Test.YtjdhhgaelgemcaaGreatDoorMISt
import Derived.Test.YtjdhhgaelgemcaaGreatDoorMSvC
import Derived.Test.YtjdhhgaelgemcaaGreatDoorMRowB
import Derived.Lib.SmallJoins
import Derived.Test.YtjdhhgaelgemcaaGreatDoorMSvE
import Derived.Test.YtjdhhgaelgemcaaGreatDoorMSvF
namespace Go.Proofs.YtjdhhgaelgemcaaGreatDoor
open Go.ChangeShapes Go.WideShapes Go.ChangeAt Go.RowKit
set_option linter.unusedVariables false
theorem hid_ofV {p:Prop} (h:p):Hid p:=h
structure BE (w:World) (t:TypeId) (sa sb:Array Value) (wr:World):Prop where
 below:Below w.heap.size w wr
 b0:wr.heap[w.heap.size]?=some (.cells sa t (0,0))
 b1:wr.heap[w.heap.size+1]?=some (.cells sb t (0,0))
theorem BE.start (w:World) (t:TypeId) (sa sb:Array Value):BE w t sa sb ((w.alloc (.cells sa t)).alloc (.cells sb t)):=by
 refine⟨((Below.refl _ _).alloc (Nat.le_refl _) _).alloc (by simp) _,?_,?_⟩
 ·rw[Below.heap_alloc _ _ w.heap.size (by simp)];exact heap_alloc_new w _
 ·have:=heap_alloc_new (w.alloc (.cells sa t)) (.cells sb t)
  rwa [show(w.alloc (.cells sa t)).heap.size=w.heap.size+1 by simp] at this
theorem BE.call {w wr w':World} {t:TypeId} {sa sb:Array Value} (h:BE w t sa sb wr) (b:Below wr.heap.size wr w'):BE w t sa sb w':=by
 have:=(Array.getElem?_eq_some_iff.1 h.b1).1;exact⟨h.below.trans (b.mono h.below.size),by rw[b.block _ (by omega)];exact h.b0,by rw[b.block _ (by omega)];exact h.b1⟩
structure OE (w:World) (t:TypeId) (sa:Array Value) (wr:World):Prop where
 below:Below w.heap.size w wr
 b0:wr.heap[w.heap.size]?=some (.cells sa t (0,0))
theorem OE.start (w:World) (t:TypeId) (sa:Array Value):OE w t sa (w.alloc (.cells sa t)):=⟨(Below.refl _ _).alloc (Nat.le_refl _) _,heap_alloc_new w _⟩
open Classical in
set_option maxRecDepth 100000 in
set_option maxHeartbeats 1000000 in
theorem with_any (ad:Option Addr) (n cap:Nat) (xs:List Int) (a:Nat) (w:World) (hn:xs.length=n) (hm:n≤1048576) (ha:At .i64 w ad xs) :
  Calls Tryz.prog 42 #[.slice ad n cap,.int .i64 a] w fun e w'=>∃ v,e=.returned v∧IO w.heap.size w' v (withS xs a)∧Below w.heap.size w w':=by
 have HW:Hid (withS xs a=upTo (fun v=>decide ((v:Int)∈xs∨v=a)) 256):=rfl;have HPD:Hid (∀ v:Nat,(fun v:Nat=>decide ((v:Int)∈xs∨v=a)) v=true↔((v:Int)∈xs∨v=a)):=fun v=>by simp
 generalize (fun v:Nat=>decide ((v:Int)∈xs∨v=a))=P at HW HPD;have HA:Hid (At .i64 w ad xs):=ha;have HNX:Hid (xs.length=n):=hn;have H0:Hid (LIS w P 0 (.slice (some ⟨w.heap.size,0,none⟩) 0 0) (w.alloc (.cells #[] 2))):=
  ⟨⟨by simp[upTo],.inr ⟨w.heap.size,0,#[],rfl,Nat.le_refl _,heap_alloc_new w _,Nat.le_refl _,by simp[maxLen],rfl,rfl⟩⟩,(Below.refl _ _).alloc (Nat.le_refl _) _⟩
 clear ha hn;go_enter Tryz.func42,Tryz.ntmps42;go_wp2_with fail
 go_loopw [5,6] (fun l i wr=>∃(k:Nat) (v:Value),k≤256∧i=.int .i64 k∧v=l∧LIS w P k v wr) (fun _ i _=>256-(intOf i).toNat)
 case atStart=>exact⟨0,_,by omega,rfl,rfl,H0.out⟩
 case round=>
  clear H0;obtain⟨k,l,hk,rfl,rfl,hst⟩:=hrel;by_cases hlt:k<256
  ·have hlt':(k:Int)<256:=by omega
   have HST:Hid (LIS w P k l wr):=hst;clear hst;by_cases hp:P k=true
   ·have HN:Hid (upTo P (k+1)=upTo P k++[(k:Int)]):=by show _=_;rw[upTo_succ,if_pos hp]
    have HL:Hid ((upTo P k).length≤1048576):=Nat.le_trans (upTo_len P k) (by omega);have HO:Hid (IO w.heap.size (wr.alloc (.cells #[.int .i64 (k:Int)] 2)) l (upTo P k)):=HST.out.own.alloc _;have HZ:Hid (w.heap.size≤(wr.alloc (.cells #[.int .i64 (k:Int)] 2)).heap.size):=by
     show _≤_
     have:=HST.out.below.size;simp;omega
    have HD:Hid ((k:Int)∈xs∨k=a):=(HPD.out k).1 hp;clear hp;by_cases hka:k=a
    ·subst hka;go_wp2_with (first
      |(refine wpList_app1 _ rfl (.tmp 20) (.tmp 22) rfl w.heap.size _ (upTo P k) rfl HO.out wr k rfl rfl HL.out HZ.out ?_)
      |fail)
     intro v' w3 h1 h2;have HF:Hid (LIS w P (k+1) v' w3):=⟨by rw[HN.out];exact h1,(HST.out.below.alloc HST.out.below.size _).trans h2⟩
     clear h1 h2 HO HZ HL;go_wp2;go_roundw
     case rel=>exact⟨k+1,_,by omega,by go_num,rfl,HF.out⟩
     case measure=>simp[intOf];omega
    ·have hka':¬ ((k:Int)=(a:Int)):=by omega
     have HM:Hid (memB (k:Int) xs=true):=memB_yes (HD.out.resolve_right hka);clear hka;go_wp2_with fail;refine(holds_any ad n cap xs k _ HNX.out hm (HA.out.below HST.out.below)).mono ?_;rintro e w2 ⟨rfl,rfl⟩;rw[HM.out];go_wp2_with (first
      |(refine wpList_app1 _ rfl (.tmp 20) (.tmp 22) rfl w.heap.size _ (upTo P k) rfl HO.out _ k rfl rfl HL.out HZ.out ?_)
      |fail)
     intro v' w3 h1 h2;have HF:Hid (LIS w P (k+1) v' w3):=⟨by rw[HN.out];exact h1,(HST.out.below.alloc HST.out.below.size _).trans h2⟩
     clear h1 h2 HO HZ HL;go_wp2;go_roundw
     case rel=>exact⟨k+1,_,by omega,by go_num,rfl,HF.out⟩
     case measure=>simp[intOf];omega
   ·have HF:Hid (LIS w P (k+1) l wr):=⟨by rw[upTo_succ,if_neg hp];exact HST.out.own,HST.out.below⟩
    have hka':¬ ((k:Int)=(a:Int)):=fun h=>hp ((HPD.out k).2 (.inr (by omega)))
    have HM:Hid (memB (k:Int) xs=false):=memB_no (fun h=>hp ((HPD.out k).2 (.inl h)));clear hp;go_wp2_with fail;refine(holds_any ad n cap xs k _ HNX.out hm (HA.out.below HST.out.below)).mono ?_;rintro e w2 ⟨rfl,rfl⟩;rw[HM.out];go_wp2;go_roundw
    case rel=>exact⟨k+1,_,by omega,by go_num,rfl,HF.out⟩
    case measure=>simp[intOf];omega
  ·have hke:k=256:=by omega
   subst hke;have HF:Hid (∃ v,Ending.returned l=.returned v∧IO w.heap.size wr v (withS xs a)∧Below w.heap.size w wr):=⟨l,rfl,by rw[HW.out];exact hst.own,hst.below⟩
   clear hst;go_wp2
   go_ret
   exact HF.out
end Go.Proofs.YtjdhhgaelgemcaaGreatDoor
namespace Go.Proofs.YtjdhhgaelgemcaaGreatDoor
open Go.ChangeShapes Go.WideShapes Go.ChangeAt Go.RowKit Go.Joins
set_option linter.unusedVariables false
set_option maxHeartbeats 400000 in
theorem iok2_any (a:Option Addr) (n cap:Nat) (zs:List Int) (w:World) (hn:zs.length=n) (ha:At .u8 w a zs) (hz:Byte zs) :
  Calls Tryz.prog 101 #[.slice a n cap] w fun e w'=>e=.returned (.bool (decide (n=32∧val 256 zs<bigL)))∧Below w.heap.size w w':=by
 by_cases h:n=32
 ·subst h;go_enter Tryz.func101,Tryz.ntmps101;go_wp2_with fail;refine(rnum_any a 32 cap zs _ hn (by omega) ha hz).mono ?_;rintro e w1 ⟨ms,hml,hmw,hmv,rfl,B1⟩;have A1:=ha.below B1;go_wp2_with fail;refine(nof_any a 32 cap zs _ hn (by omega) (by omega) A1 hz).mono ?_;rintro e w2 ⟨ns,hnl,hnw,hnv,rfl,B2⟩;have HQ:Hid (decide (ms=ns)=decide (val 256 zs<bigL)):=by
   show decide (ms=ns)=decide (val 256 zs<bigL)
   rw[List.take_of_length_le (by omega)] at hnv;have z0:0≤val 256 zs:=val_nonneg (by decide) hz;by_cases hlt:val 256 zs<bigL
   ·have e:ms=ns:=val_inj (B:=18446744073709551616) (by decide) hmw hnw (by omega) (by rw[hmv,hnv,Int.emod_eq_of_lt z0 hlt]);simp[e,hlt]
   ·have e:¬ ms=ns:=fun h=>by
     rw[h,hnv] at hmv;have:=Int.emod_lt_of_pos (val 256 zs) (show 0<bigL by decide);omega
    simp[e,hlt]
  have s1:=B1.size;have HB:Hid (Below w.heap.size w w2):=B1.trans (B2.mono s1);clear hmv hnv B1 B2 A1 ha;go_wp2_with (simp only[run_eqW _ 9998 4 143 Tryz.underlying143 ms ns hml hnl]);rw[HQ.out];obtain⟨q,hq⟩:∃ q,q=decide (val 256 zs<bigL):=⟨_,rfl⟩
  rw[←hq];have HQQ:Hid (q=decide (val 256 zs<bigL)):=hq;clear hq HQ;simp only[Result.andThen_ok];go_simp;go_wp2
  go_ret
  exact⟨by rw[HQQ.out];simp,HB.out⟩
 ·have e:decide (n=32∧val 256 zs<bigL)=false:=by simp[h]
  rw[e];have h':((n:Int) == 32)=false:=by simp;omega
  go_enter Tryz.func101,Tryz.ntmps101;go_wp2
  go_ret
  exact⟨rfl,Below.refl _ _⟩
end Go.Proofs.YtjdhhgaelgemcaaGreatDoor
namespace Go.Proofs.YtjdhhgaelgemcaaGreatDoor
open Go.ChangeShapes Go.WideShapes Go.ChangeAt Go.RowKit
set_option linter.unusedVariables false
set_option maxRecDepth 100000 in
set_option maxHeartbeats 4000000 in
theorem szSt_any (aD aU aT:Option Addr) (nD cD nU cU nT cT:Nat) (k:Int) (left:Int) (w:World) (h0:0≤left) (h1:left≤1048576) (mD:nD≤9223372036854775807) (mU:nU≤9223372036854775807) (mT:nT≤9223372036854775807) :
  Calls Tryz.prog 4 #[.agg #[.slice aD nD cD,.slice aU nU cU,.int .i64 k,.slice aT nT cT],.int .i64 left] w fun e w'=>e=.returned (.int .i64 (szQ left (nD+nU+nT)))∧Below w.heap.size w w':=by
 have HZ:Hid (∀ left n,szQ left n=if left<n then -1 else left-n):=fun _ _=>rfl
 have HE0:Hid (OE w 25 #[.slice aD nD cD,.slice aU nU cU,.int .i64 k,.slice aT nT cT] (w.alloc (.cells #[.slice aD nD cD,.slice aU nU cU,.int .i64 k,.slice aT nT cT] 25))):=OE.start _ _ _;go_enter Tryz.func4,Tryz.ntmps4;go_wp2_with fail;generalize (w.alloc (.cells #[.slice aD nD cD,.slice aU nU cU,.int .i64 k,.slice aT nT cT] 25))=w0 at *;refine(szI_any _ _ _ _ _ h0 h1 mD).mono ?_;rintro e w1 ⟨rfl,rfl⟩;have HE1:Hid (OE w 25 #[.slice aD nD cD,.slice aU nU cU,.int .i64 k,.slice aT nT cT] w1):=HE0.out;clear HE0;by_cases k0:left<((nD:Nat):Int)
 ·have r:szQ (left) (nD)=-1:=by rw[HZ.out,if_pos k0]
  have HR:Hid (szQ left (nD+nU+nT)=-1):=by show _=_;rw[HZ.out,if_pos (by omega)]
  have HF:Hid (Below w.heap.size w w1):=HE1.out.below;rw[r];clear r k0 HE1;go_wp2
  go_ret
  exact⟨ret_int HR.out.symm,HF.out⟩
 have r:szQ (left) (nD)=left-((nD:Nat):Int):=by rw[HZ.out,if_neg k0]
 rw[r];clear r;have q0:¬ (left-((nD:Nat):Int)<0):=by omega
 have z0:0≤left-((nD:Nat):Int):=by omega
 have zz0:left-((nD:Nat):Int)≤1048576:=by omega
 generalize el0:left-((nD:Nat):Int)=l0 at *;have HQ0:Hid (left-((nD:Nat):Int)=l0):=el0;clear el0;have x1:w1.cell? ⟨w.heap.size,1,none⟩=some (.slice aU nU cU):=by rw[cell_of_row w1 w.heap.size 1 _ _ _ HE1.out.b0];rfl
 go_wp2_with fail;clear x1 q0;refine(szI_any _ _ _ _ _ z0 zz0 mU).mono ?_;rintro e w2 ⟨rfl,rfl⟩;have HE2:Hid (OE w 25 #[.slice aD nD cD,.slice aU nU cU,.int .i64 k,.slice aT nT cT] w2):=HE1.out;clear HE1;by_cases k1:l0<((nU:Nat):Int)
 ·have r:szQ (l0) (nU)=-1:=by rw[HZ.out,if_pos k1]
  have HR:Hid (szQ left (nD+nU+nT)=-1):=by show _=_;have:=HQ0.out;rw[HZ.out,if_pos (by omega)]
  have HF:Hid (Below w.heap.size w w2):=HE2.out.below;rw[r];clear r k1 HE2;go_wp2
  go_ret
  exact⟨ret_int HR.out.symm,HF.out⟩
 have r:szQ (l0) (nU)=l0-((nU:Nat):Int):=by rw[HZ.out,if_neg k1]
 rw[r];clear r;have q1:¬ (l0-((nU:Nat):Int)<0):=by omega
 have z1:0≤l0-((nU:Nat):Int):=by omega
 have zz1:l0-((nU:Nat):Int)≤1048576:=by omega
 generalize el1:l0-((nU:Nat):Int)=l1 at *;have HQ1:Hid (l0-((nU:Nat):Int)=l1):=el1;clear el1;have x3:w2.cell? ⟨w.heap.size,3,none⟩=some (.slice aT nT cT):=by rw[cell_of_row w2 w.heap.size 3 _ _ _ HE2.out.b0];rfl
 go_wp2_with fail;clear x3 q1;refine(szT_any _ _ _ _ _ z1 zz1 mT).mono ?_;rintro e w3 ⟨rfl,rfl⟩;have HE3:Hid (OE w 25 #[.slice aD nD cD,.slice aU nU cU,.int .i64 k,.slice aT nT cT] w3):=HE2.out;clear HE2;by_cases k2:l1<((nT:Nat):Int)
 ·have r:szQ (l1) (nT)=-1:=by rw[HZ.out,if_pos k2]
  have HR:Hid (szQ left (nD+nU+nT)=-1):=by show _=_;have:=HQ0.out;have:=HQ1.out;rw[HZ.out,if_pos (by omega)]
  have HF:Hid (Below w.heap.size w w3):=HE3.out.below;rw[r];clear r k2 HE3;go_wp2
  go_ret
  exact⟨ret_int HR.out.symm,HF.out⟩
 have r:szQ (l1) (nT)=l1-((nT:Nat):Int):=by rw[HZ.out,if_neg k2]
 rw[r];clear r;have q2:¬ (l1-((nT:Nat):Int)<0):=by omega
 have z2:0≤l1-((nT:Nat):Int):=by omega
 have zz2:l1-((nT:Nat):Int)≤1048576:=by omega
 generalize el2:l1-((nT:Nat):Int)=l2 at *;have HQ2:Hid (l1-((nT:Nat):Int)=l2):=el2;clear el2;have HR:Hid (szQ left (nD+nU+nT)=l2):=by show _=_;rw[HZ.out];have:=HQ0.out;have:=HQ1.out;have:=HQ2.out;rw[if_neg (by omega)];omega
 have HF:Hid (Below w.heap.size w w3):=HE3.out.below;clear HE3;go_wp2
 go_ret
 exact⟨ret_int HR.out.symm,HF.out⟩
end Go.Proofs.YtjdhhgaelgemcaaGreatDoor
