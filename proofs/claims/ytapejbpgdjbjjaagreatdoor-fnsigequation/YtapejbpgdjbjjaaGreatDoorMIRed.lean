import Derived.Test.YtapejbpgdjbjjaaGreatDoorMCnC
import Derived.Test.YtapejbpgdjbjjaaGreatDoorMU8i
import Derived.Test.YtapejbpgdjbjjaaGreatDoorMFe
import Derived.Lib.SmallJoins
import Derived.Test.YtapejbpgdjbjjaaGreatDoorMIMu
namespace Go.Proofs.YtapejbpgdjbjjaaGreatDoor
open Go.ChangeShapes Go.WideShapes Go.ChangeAt Go.RowKit
set_option linter.unusedVariables false
theorem Tryz.sizeNumR:(Tryz.prog.info? 57).map (·.size)=some 4:=by kernel_rfl
theorem sizeNumR {ns:List Int} (h:ns.length=4):(Tryz.prog.info? 57).map (·.size)=some ((ns.map (Value.int .u64)).toArray).size:=by rw[Tryz.sizeNumR];simp[h]
def lW:List Int:=[6346243789798364141,1503914060200516822,0,1152921504606846976]
theorem lW_val:val 18446744073709551616 lW=bigL:=by decide
theorem lW_wrd:Wrd lW:=by unfold Wrd lW;decide
set_option maxHeartbeats 400000 in
theorem gord_any (w:World) :
  Calls Tryz.prog 97 #[] w fun e w'=>e=.returned (.agg (lW.map (Value.int .u64)).toArray)∧Below w.heap.size w w':=by
 have HR:Hid (RowW (w.alloc (.cells #[.int .u64 0,.int .u64 0,.int .u64 0,.int .u64 0] 57)) w.heap.size 57 [0,0,0,0]):=heap_alloc_new w _
 have HSZ:Hid ((Tryz.prog.info? 57).map (·.size)=some ((lW.map (Value.int .u64)).toArray).size):=sizeNumR rfl
 go_enter Tryz.func97,Tryz.ntmps97
 go_wp2_with (refine wpList_store_row rfl 57 (.tmp 0) (.tmp 1) rfl w.heap.size ((lW.map (Value.int .u64)).toArray) rfl rfl 57 _ HR.out HSZ.out rfl (all_oneCell_toArray (ints_oneCell _ _)) ?_)
 refine bodyPost_ret (v:=.agg (lW.map (Value.int .u64)).toArray) (results_cell_row rfl _ _ w.heap.size 57 _ (0,0) _ rfl (setRow_heap _ _ _ _ _ _ HR.out) Tryz.underlying57 rfl HSZ.out) rfl ⟨rfl,?_⟩
 exact(below_new2 _ _).trans ((Wr.setRow _ _ _).below (Nat.le_refl _))
theorem index_num (cs:Array Value) (k:Nat) (v:Value) (w:World) (hk:(k:Int)<4) (h:cs[k]?=some v) :
  (Instr.index 57 (.agg cs) (.int .i64 k)).run Tryz.prog w=.ok v w:=by
 simp[Instr.index,asIntOf,run_underlying Tryz.underlying57,part,h,go_sem]
 omega
def oncePost (w:World) (g:Nat) (ns:List Int) (e:Ending) (w':World):Prop:=
 e=.returned (.tuple #[])∧∃ ms,ms.length=4∧RowW w' g 57 ms∧Wrd ms∧val 18446744073709551616 ms=(if bigL≤val 18446744073709551616 ns then val 18446744073709551616 ns-bigL else val 18446744073709551616 ns)∧WrH g w w'
structure OS (w:World) (g:Nat) (ns:List Int) (k:Nat) (b:Int) (wr:World):Prop where
 bd:0≤b∧b≤1
 row:RowW wr g 57 ns
 less:∃ ms,ms.length=4∧RowW wr w.heap.size 57 ms∧Wrd ms∧val 18446744073709551616 (ns.take k)-val 18446744073709551616 (lW.take k)=val 18446744073709551616 (ms.take k)-b*18446744073709551616^k
 below:Below w.heap.size w wr
set_option maxHeartbeats 1000000 in
theorem onceR_any (g:Nat) (ns:List Int) (w:World) (hl:ns.length=4) (hr:RowW w g 57 ns) (hw:Wrd ns) :
  Calls Tryz.prog 75 #[.pointer (some ⟨g,0,none⟩)] w (oncePost w g ns):=by
 have hg:=hr.lt
 have HN:Hid (RowW w g 57 ns):=hr
 have HR:Hid (RowW (w.alloc (.cells #[.int .u64 0,.int .u64 0,.int .u64 0,.int .u64 0] 57)) w.heap.size 57 [0,0,0,0]):=heap_alloc_new w _
 have HSZ:Hid ((Tryz.prog.info? 57).map (·.size)=some ((ns.map (Value.int .u64)).toArray).size):=sizeNumR hl
 have HZ4:Hid ((#[Value.int .u64 0,.int .u64 0,.int .u64 0,.int .u64 0]:Array Value).size=((ns.map (Value.int .u64)).toArray).size):=by show _=_;simp[hl]
 have HB:Hid (Below w.heap.size w (w.alloc (.cells #[.int .u64 0,.int .u64 0,.int .u64 0,.int .u64 0] 57))):=below_new2 _ _
 clear hr
 go_enter Tryz.func75,Tryz.ntmps75
 go_wp2_with (first
  |(refine wpList_load_row rfl 57 (.tmp 7) rfl g rfl 57 _ (0,0) _ HN.out Tryz.underlying57 rfl HSZ.out ?_)
  |(refine wpList_store_row rfl 57 (.tmp 2) (.tmp 8) rfl w.heap.size ((ns.map (Value.int .u64)).toArray) rfl rfl 57 _ HR.out HSZ.out HZ4.out (all_oneCell_toArray (ints_oneCell _ _)) ?_)
  |fail)
 have R1:RowW ((w.alloc (.cells #[.int .u64 0,.int .u64 0,.int .u64 0,.int .u64 0] 57)).setRow w.heap.size (ns.map (Value.int .u64)).toArray) w.heap.size 57 ns:=HR.out.setRow ns
 have R2:RowW ((w.alloc (.cells #[.int .u64 0,.int .u64 0,.int .u64 0,.int .u64 0] 57)).setRow w.heap.size (ns.map (Value.int .u64)).toArray) g 57 ns:=(HN.out.below HB.out hg).setRow_other _ (by omega)
 have B1:Below w.heap.size w ((w.alloc (.cells #[.int .u64 0,.int .u64 0,.int .u64 0,.int .u64 0] 57)).setRow w.heap.size (ns.map (Value.int .u64)).toArray):=HB.out.trans ((Wr.setRow _ _ _).below (Nat.le_refl _))
 clear HR HZ4 HB HSZ
 generalize (w.alloc (.cells #[.int .u64 0,.int .u64 0,.int .u64 0,.int .u64 0] 57)).setRow w.heap.size (ns.map (Value.int .u64)).toArray=w1 at *
 refine(gord_any _).mono ?_
 rintro e w2 ⟨rfl,B2⟩
 have s1:=R1.lt
 have R1':=R1.below B2 s1
 have R2':=R2.below B2 R2.lt
 have B12:Below w.heap.size w w2:=B1.trans (B2.mono (by omega))
 have HS:Hid (OS w g ns 0 0 w2):=⟨⟨by decide,by decide⟩,R2',⟨ns,hl,R1',hw,by simp[val]⟩,B12⟩
 clear R1 R2 B1 B2 R1' R2' B12 HN s1
 go_wp2
 go_loopw [3,10] (fun c i wr=>∃(k:Nat) (b:Int),k≤4∧i=.int .i64 k∧c=.int .u64 b∧OS w g ns k b wr) (fun _ i _=>4-(intOf i).toNat)
 case atStart=>exact⟨0,0,Nat.zero_le _,rfl,rfl,HS.out⟩
 case round=>
  obtain⟨k,b,hk,rfl,rfl,⟨hb0,hb1⟩,hrow,⟨ms,hml,hmr,hmw,hv⟩,hbel⟩:=hrel;clear HS;by_cases hlt:k<4
  ·have cn:=hrow.cell k (by omega);have cm:=hmr.cell k (by omega);have fm:=hmr.frozen k;have hx:=hw.get k;have hy:=lW_wrd.get k;have hne:g≠w.heap.size:=by omega
   have hbe:=bor_eq _ _ _ hx.1 hx.2 hy.1 hy.2 hb0 hb1;have hbb:=bor_bd (ns.getD k 0) (lW.getD k 0) b;have hd0:0≤(ns.getD k 0-lW.getD k 0-b)%18446744073709551616:=by omega
   have hd1:(ns.getD k 0-lW.getD k 0-b)%18446744073709551616<18446744073709551616:=by omega
   have S1:=hmr.set k ((ns.getD k 0-lW.getD k 0-b)%18446744073709551616);have S2:=hmw.set k _ hd0 hd1;have S3:=sub_step _ _ _ _ _ _ _ _ _ _ hv hbe;rw[←val_take _ ns k (by omega),←val_take _ lW k (by simpa[lW] using hlt),←val_set_succ _ ms k _ (by omega),←Int.pow_succ] at S3;have R:RowW (wr.setCell ⟨w.heap.size,k,none⟩ (.int .u64 ((ns.getD k 0-lW.getD k 0-b)%18446744073709551616))) g 57 ns:=((Wr.refl _ _).setCell k _).rowW hrow hne;have HO:Hid (OS w g ns (k+1) (bor (ns.getD k 0) (lW.getD k 0) b) (wr.setCell ⟨w.heap.size,k,none⟩ (.int .u64 ((ns.getD k 0-lW.getD k 0-b)%18446744073709551616)))):=
    ⟨hbb,R,⟨_,by rw[List.length_set];exact hml,S1,S2,S3⟩,hbel.setCell (Nat.le_refl _) _⟩
   clear hbe hbb hd0 hd1 S1 S2 S3 R hrow hmr hmw hv hbel;obtain⟨hx0,hx1⟩:=hx;obtain⟨hy0,hy1⟩:=hy;generalize ns.getD k 0=x at *;have hlt':(k:Int)<4:=by omega
   have hix:(lW.map (Value.int .u64)).toArray[k]?=some (.int .u64 (lW.getD k 0)):=by
    have:k<lW.length:=by simpa[lW] using hlt
    simp[this]
   have hsz:(lW.map (Value.int .u64)).toArray.size=4:=rfl;generalize (lW.map (Value.int .u64)).toArray=la at *;generalize lW.getD k 0=y at *;go_wp2_with (first|simp only[index_num la k _ _ hlt' hix]|simp only[sub64 x y b hx0 hy0 hy1 hb0 hb1]);exact⟨⟨k+1,bor x y b,by omega,by go_num,rfl,HO.out⟩,by simp[intOf];omega⟩
  ·have hk4:k=4:=by omega
   subst hk4;rw[List.take_of_length_le (by omega),List.take_of_length_le (by simp[lW]),List.take_of_length_le (by omega),lW_val] at hv;have m0:0≤val 18446744073709551616 ms:=val_nonneg (by decide) hmw;have m1:val 18446744073709551616 ms<18446744073709551616^4:=by rw[←hml];exact val_lt (by decide) hmw
   have hne:g≠w.heap.size:=by omega
   have HSZ:Hid ((Tryz.prog.info? 57).map (·.size)=some ((ms.map (Value.int .u64)).toArray).size):=sizeNumR hml;have HSN:Hid ((ns.map (Value.int .u64)).toArray.size=(ms.map (Value.int .u64)).toArray.size):=by show _=_;simp[hl,hml]
   have HN:Hid (RowW wr g 57 ns):=hrow;have HM:Hid (RowW wr w.heap.size 57 ms):=hmr;rcases (show b=0∨b=1 by omega) with rfl|rfl
   ·have HP:Hid (oncePost w g ns (.returned (.tuple #[])) (wr.setRow g (ms.map (Value.int .u64)).toArray)):=by
     refine⟨rfl,ms,hml,hrow.setRow ms,hmw,?_,?_⟩
     ·rw[if_pos (by omega)];omega
     ·exact(WrH.of_below hbel).trans (Wr.setRow _ _ _).wrH
    clear hv m0 m1 hrow hmr hmw hbel;go_wp2_with (first
     |(refine wpList_load_row rfl 57 (.tmp 2) rfl w.heap.size rfl 57 _ (0,0) _ HM.out Tryz.underlying57 rfl HSZ.out ?_)
     |(refine wpList_store_row rfl 57 (.tmp 32) (.tmp 31) rfl g ((ms.map (Value.int .u64)).toArray) rfl rfl 57 _ HN.out HSZ.out HSN.out (all_oneCell_toArray (ints_oneCell _ _)) ?_)
     |fail)
    go_end0
    exact HP.out
   ·have HP:Hid (oncePost w g ns (.returned (.tuple #[])) wr):=by
     refine⟨rfl,ns,hl,hrow,hw,?_,WrH.of_below hbel⟩;rw[if_neg (by omega)]
    clear hv m0 m1 hrow hmr hmw hbel;go_wp2
    go_end0
    exact HP.out
def NumPostR (w:World) (v:Int) (e:Ending) (w':World):Prop:=
 ∃ ms:List Int,ms.length=4∧Wrd ms∧val 18446744073709551616 ms=v∧e=.returned (.agg (ms.map (Value.int .u64)).toArray)∧Below w.heap.size w w'
theorem u8_shr_and {x b:Int} {r:Nat} (h0:0≤x) (h1:x<256) (h:b=x/2^r%2):bits .and .u64 (IntKind.u64.wrap (x/2^r)) 1=b:=by
 have hp:(0:Int)<2^r:=Int.pow_pos (by decide)
 have a0:0≤x/2^r:=Int.ediv_nonneg h0 (by omega)
 have a1:x/2^r≤x:=Int.ediv_le_self _ h0
 generalize x/2^r=y at *
 rw[IntKind.wrap_u64,Int.emod_eq_of_lt a0 (by omega),u64_and_mask y 1 a0 (by omega) 1 (by decide) (by decide),h];rfl
structure RN (w:World) (V:Int) (j:Nat) (wr:World):Prop where
 res:RowW wr w.heap.size 57 [0,0,0,0]
 row:∃ ns,ns.length=4∧RowW wr (w.heap.size+1) 57 ns∧Wrd ns∧val 18446744073709551616 ns=restAt V j
 below:Below w.heap.size w wr
set_option maxHeartbeats 1000000 in
theorem rnum_any (a:Option Addr) (n cap:Nat) (zs:List Int) (w:World) (hn:zs.length=n) (hm:n≤1048576) (ha:At .u8 w a zs) (hz:Byte zs) :
  Calls Tryz.prog 38 #[.slice a n cap] w (NumPostR w (val 256 zs%bigL)):=by
 have hV0:0≤val 256 zs:=val_nonneg (by decide) hz
 have hV1:val 256 zs<2^(8*n):=by rw[←pow256r,←hn];exact val_lt (by decide) hz
 have HT:Hid (restAt (val 256 zs) (8*n)=0):=restAt_top _ _ hV0 hV1
 have HS:Hid (RN w (val 256 zs) (8*n) ((w.alloc (.cells #[.int .u64 0,.int .u64 0,.int .u64 0,.int .u64 0] 57)).alloc (.cells #[.int .u64 0,.int .u64 0,.int .u64 0,.int .u64 0] 57))):=
  ⟨heap_alloc2_old _ _ _,⟨[0,0,0,0],rfl,heap_alloc2_new _ _ _,by unfold Wrd;decide,by rw[HT.out];decide⟩,((Below.refl _ _).alloc (Nat.le_refl _) _).alloc (by simp) _⟩
 clear hV0 hV1 HT
 go_enter Tryz.func38,Tryz.ntmps38
 go_wp2
 go_loopw [4] (fun i wr=>∃(j:Nat),j≤8*n∧i=.int .i64 ((j:Int)-1)∧RN w (val 256 zs) j wr) (fun i _=>(intOf i+1).toNat)
 case atStart=>exact⟨8*n,Nat.le_refl _,by go_num,HS.out⟩
 case round=>
  clear HS;obtain⟨j,hj,rfl,hres,⟨ns,hl,hrow,hw,hv⟩,hbel⟩:=hrel;by_cases hj0:0<j
  ·obtain⟨j,rfl⟩:∃ i,j=i+1:=⟨j-1,by omega⟩
   have ei:((j+1:Nat):Int)-1=(j:Int):=by omega
   rw[ei];clear ei;obtain⟨b0,off,rfl,hb0,hc⟩:=(ha.below hbel).get (by omega);have c0:=hc (j/8) (by omega);have hb:=bitAt_byte zs j hz;have hx:=hz.get (j/8);generalize zs.getD (j/8) 0=x at *;obtain⟨hx0,hx1⟩:=hx;clear hc;have hand:=u8_shr_and hx0 hx1 hb;have hbd:=bitAt_bd (val 256 zs) j;have hst:=restAt_step (val 256 zs) j;have hbL:=restAt_bd (val 256 zs) (j+1);rw[←hv] at hst hbL;generalize bitAt (val 256 zs) j=bj at *;have HAND:Hid (bits .and .u64 (IntKind.u64.wrap (x/2^(j%8))) 1=bj):=hand;have HST:Hid (restAt (val 256 zs) j=if bigL≤2*val 18446744073709551616 ns+bj then 2*val 18446744073709551616 ns+bj-bigL else 2*val 18446744073709551616 ns+bj):=hst;have HV:Hid (0≤val 18446744073709551616 ns∧val 18446744073709551616 ns<bigL):=hbL;have HBD:Hid (bj=0∨bj=1):=hbd;clear hb hand hst hbL hv hbd;have HRS:Hid (RowW wr w.heap.size 57 [0,0,0,0]):=hres;have HRO:Hid (RowW wr (w.heap.size+1) 57 ns):=hrow;have HBE:Hid (Below w.heap.size w wr):=hbel;clear hres hrow hbel;go_wp2_with fail;rw[HAND.out];refine(push_any _ ns bj _ hl HRO.out hw HBD.out).mono ?_;rintro e w1 ⟨rfl,ms,hml,hmr,hmw,⟨c,hc0,hcv⟩,hwr1⟩;have hc00:c=0:=by
    rcases Int.lt_or_le 0 c with h|h
    ·exfalso
     have:=HV.out;have:=HBD.out;unfold bigL at *;have m0:0≤val 18446744073709551616 ms:=val_nonneg (by decide) hmw;have h2:(18446744073709551616:Int)^4=115792089237316195423570985008687907853269984665640564039457584007913129639936:=by decide
     rw[h2] at hcv;omega
    ·omega
   subst hc00;have hmv:val 18446744073709551616 ms=2*val 18446744073709551616 ns+bj:=by omega
   have HMR:Hid (RowW w1 (w.heap.size+1) 57 ms):=hmr;have HMV:Hid (val 18446744073709551616 ms=2*val 18446744073709551616 ns+bj):=hmv;have HRS1:Hid (RowW w1 w.heap.size 57 [0,0,0,0]):=hwr1.rowW HRS.out (by omega);have HBE1:Hid (Below w.heap.size w w1):=HBE.out.trans (hwr1.below (by omega));clear hcv hmr hmv hwr1 HRS HBE HRO c0;go_wp2_with fail;refine(onceR_any _ ms _ hml HMR.out hmw).mono ?_;rintro e w2 ⟨rfl,ls,hll,hlr,hlw,hlv,hwr2⟩;rw[HMV.out,←HST.out] at hlv;have HP:Hid (RN w (val 256 zs) j w2):=⟨hwr2.rowW HRS1.out (by omega),⟨ls,hll,hlr,hlw,hlv⟩,HBE1.out.trans (hwr2.below _ (by omega) HBE1.out.size)⟩
   clear hlv hwr2 hlr hlw HRS1 HBE1 HMR HMV HST HV HAND;go_wp2;go_roundw
   case rel=>exact⟨j,by omega,rfl,HP.out⟩
   case measure=>first|(simp[intOf];done)|(simp[intOf];omega)
  ·obtain rfl:j=0:=by omega
   rw[restAt_zero] at hv;have HSZ:Hid ((Tryz.prog.info? 57).map (·.size)=some ((ns.map (Value.int .u64)).toArray).size):=sizeNumR hl;have HZ4:Hid (([0,0,0,0].map (Value.int .u64)).toArray.size=((ns.map (Value.int .u64)).toArray).size):=by show _=_;simp[hl]
   have HRS:Hid (RowW wr w.heap.size 57 [0,0,0,0]):=hres;have HRO:Hid (RowW wr (w.heap.size+1) 57 ns):=hrow;have HBE:Hid (Below w.heap.size w wr):=hbel;have HV:Hid (val 18446744073709551616 ns=val 256 zs%bigL):=hv;clear hres hrow hbel hv;go_wp2_with (first
    |(refine wpList_load_row rfl 57 (.tmp 3) rfl (w.heap.size+1) rfl 57 _ (0,0) _ HRO.out Tryz.underlying57 rfl HSZ.out ?_)
    |(refine wpList_store_row rfl 57 (.tmp 2) (.tmp 25) rfl w.heap.size ((ns.map (Value.int .u64)).toArray) rfl rfl 57 _ HRS.out HSZ.out HZ4.out (all_oneCell_toArray (ints_oneCell _ _)) ?_))
   refine bodyPost_ret (v:=.agg (ns.map (Value.int .u64)).toArray) (results_cell_row rfl _ _ w.heap.size 57 _ (0,0) _ rfl (setRow_heap _ _ _ _ _ _ HRS.out) Tryz.underlying57 rfl HSZ.out) rfl ⟨ns,hl,hw,HV.out,rfl,?_⟩;exact HBE.out.trans ((Wr.setRow _ _ _).below (Nat.le_refl _))
end Go.Proofs.YtapejbpgdjbjjaaGreatDoor
namespace Go.Proofs.YtapejbpgdjbjjaaGreatDoor
open Go.ChangeShapes Go.WideShapes Go.ChangeAt Go.RowKit Go.Joins
set_option linter.unusedVariables false
set_option maxHeartbeats 400000 in
theorem iok2_any (a:Option Addr) (n cap:Nat) (zs:List Int) (w:World) (hn:zs.length=n) (ha:At .u8 w a zs) (hz:Byte zs) :
  Calls Tryz.prog 34 #[.slice a n cap] w fun e w'=>e=.returned (.bool (decide (n=32∧val 256 zs<bigL)))∧Below w.heap.size w w':=by
 by_cases h:n=32
 ·subst h;go_enter Tryz.func34,Tryz.ntmps34;go_wp2_with fail;refine(rnum_any a 32 cap zs _ hn (by omega) ha hz).mono ?_;rintro e w1 ⟨ms,hml,hmw,hmv,rfl,B1⟩;have A1:=ha.below B1;go_wp2_with fail;refine(nof_any a 32 cap zs _ hn (by omega) (by omega) A1 hz).mono ?_;rintro e w2 ⟨ns,hnl,hnw,hnv,rfl,B2⟩;have HQ:Hid (decide (ms=ns)=decide (val 256 zs<bigL)):=by
   show decide (ms=ns)=decide (val 256 zs<bigL)
   rw[List.take_of_length_le (by omega)] at hnv;have z0:0≤val 256 zs:=val_nonneg (by decide) hz;by_cases hlt:val 256 zs<bigL
   ·have e:ms=ns:=val_inj (B:=18446744073709551616) (by decide) hmw hnw (by omega) (by rw[hmv,hnv,Int.emod_eq_of_lt z0 hlt]);simp[e,hlt]
   ·have e:¬ ms=ns:=fun h=>by
     rw[h,hnv] at hmv;have:=Int.emod_lt_of_pos (val 256 zs) (show 0<bigL by decide);omega
    simp[e,hlt]
  have s1:=B1.size;have HB:Hid (Below w.heap.size w w2):=B1.trans (B2.mono s1);clear hmv hnv B1 B2 A1 ha;go_wp2_with (simp only[run_eqW _ 9998 4 57 Tryz.underlying57 ms ns hml hnl]);rw[HQ.out];obtain⟨q,hq⟩:∃ q,q=decide (val 256 zs<bigL):=⟨_,rfl⟩
  rw[←hq];have HQQ:Hid (q=decide (val 256 zs<bigL)):=hq;clear hq HQ;simp only[Result.andThen_ok];go_simp;go_wp2
  go_ret
  exact⟨by rw[HQQ.out];simp,HB.out⟩
 ·have e:decide (n=32∧val 256 zs<bigL)=false:=by simp[h]
  rw[e];have h':((n:Int) == 32)=false:=by simp;omega
  go_enter Tryz.func34,Tryz.ntmps34;go_wp2
  go_ret
  exact⟨rfl,Below.refl _ _⟩
end Go.Proofs.YtapejbpgdjbjjaaGreatDoor
namespace Go.Proofs.YtapejbpgdjbjjaaGreatDoor
open Go.ChangeShapes Go.WideShapes Go.ChangeAt Go.RowKit Go.Joins
set_option linter.unusedVariables false
def bW:List Int:=[7378697629483820632,7378697629483820646,7378697629483820646,7378697629483820646]
theorem bW_val:val 18446744073709551616 bW=baseY:=by decide
theorem bW_wrd:Wrd bW:=by unfold Wrd bW;decide
set_option maxHeartbeats 400000 in
theorem ibas_any (w:World):Calls Tryz.prog 12 #[] w (CodePb w baseY):=by
 have HR:Hid (RowW (w.alloc (.cells #[.int .u64 0,.int .u64 0,.int .u64 0,.int .u64 0] 57)) w.heap.size 57 [0,0,0,0]):=heap_alloc_new w _
 have HSZ:Hid ((Tryz.prog.info? 57).map (·.size)=some ((bW.map (Value.int .u64)).toArray).size):=sizeNum rfl
 go_enter Tryz.func12,Tryz.ntmps12
 go_wp2_with (first
  |(refine wpList_store_row rfl 57 (.tmp 1) (.tmp 2) rfl w.heap.size ((bW.map (Value.int .u64)).toArray) rfl rfl 57 _ HR.out HSZ.out rfl (all_oneCell_toArray (ints_oneCell _ _)) ?_)
  |fail)
 have R1:RowW ((w.alloc (.cells #[.int .u64 0,.int .u64 0,.int .u64 0,.int .u64 0] 57)).setRow w.heap.size (bW.map (Value.int .u64)).toArray) w.heap.size 57 bW:=HR.out.setRow bW
 have B2:Below w.heap.size w ((w.alloc (.cells #[.int .u64 0,.int .u64 0,.int .u64 0,.int .u64 0] 57)).setRow w.heap.size (bW.map (Value.int .u64)).toArray):=(below_new2 _ _).trans ((Wr.setRow _ _ _).below (Nat.le_refl _))
 clear HR HSZ
 generalize (w.alloc (.cells #[.int .u64 0,.int .u64 0,.int .u64 0,.int .u64 0] 57)).setRow w.heap.size (bW.map (Value.int .u64)).toArray=w2 at *
 refine(text_any _ bW _ rfl R1 bW_wrd).mono ?_
 rintro e w3 ⟨bs,hbl,hbb,hbv,rfl,O3,B3⟩
 rw[bW_val] at hbv
 have HP:Hid (CodePb w baseY (.returned (.slice (some ⟨w2.heap.size,0,none⟩) 32 32)) w3):=⟨_,bs,rfl,O3.lower3b B2.size,hbb,hbl,hbv,B2.trans (B3.mono B2.size)⟩
 clear hbv O3 B2 B3 R1
 go_wp2
 go_ret
 exact HP.out
end Go.Proofs.YtapejbpgdjbjjaaGreatDoor
