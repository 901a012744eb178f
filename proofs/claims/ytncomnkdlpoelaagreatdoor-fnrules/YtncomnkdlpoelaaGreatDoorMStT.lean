import Derived.Test.YtncomnkdlpoelaaGreatDoorMEda
import Derived.Test.YtncomnkdlpoelaaGreatDoorMEsp
import Derived.Test.YtncomnkdlpoelaaGreatDoorMEsd
import Derived.Test.YtncomnkdlpoelaaGreatDoorMSvK
import Derived.Test.YtncomnkdlpoelaaGreatDoorMEso
import Derived.Test.YtncomnkdlpoelaaGreatDoorMMuM
import Derived.Test.YtncomnkdlpoelaaGreatDoorMCat
import Derived.Test.YtncomnkdlpoelaaGreatDoorMPMi
import Derived.Test.YtncomnkdlpoelaaGreatDoorMArrW
import Derived.Deep.Cut
namespace Go.Proofs.YtncomnkdlpoelaaGreatDoor
open Go.ChangeShapes Go.WideShapes Go.ChangeAt Go.RowKit
set_option linter.unusedVariables false
theorem ErrIn.below {w w':World} (h:ErrIn w) (b:Below w.heap.size w w'):ErrIn w':=by
 have hlt:=block_lt_of_cell (a:=⟨0,0,none⟩) h;unfold ErrIn at h ⊢;rw[b.cell (p:=⟨0,0,none⟩) hlt];exact h
theorem BkV.low {H B g:Nat} {w:World} {d u:List Int} {v:Value} {D U:List Int} {k:Int} {T:List Int} {n:Nat} (h:BkV H B g w d u v D U k T n):H≤w.heap.size:=Nat.le_trans h.hHB h.hBw
theorem opR_1 {D U:List Int} {k:Int} {T:List Int} {n:Nat} {ks tk:List Int} {now N:Int}:opR D U k T n ks 1 tk now N=if tapC D U ks tk now=1 then ⟨1,D,withS U (tkS tk).toNat,k,T++[tkS tk,now],n+1⟩ else ⟨tapC D U ks tk now,D,U,k,T,n⟩:=by unfold opR;rw[if_pos rfl]
set_option maxRecDepth 100000 in
set_option maxHeartbeats 4000000 in
theorem btp_any {H B g:Nat} {w:World} {d u:List Int} {v:Value} {D U:List Int} {k:Int} {T:List Int} {n:Nat} (h:BkV H B g w d u v D U k T n) (bp op cp:Nat) (ks:List Int) (ta:Option Addr) (tn tc:Nat) (tk:List Int) (kind now N:Int) (hk:ks.length=32) (hp:PtA w bp op ks) (zk:Byte ks) (ht:tk.length=tn) (mt:tn≤1048576) (hct:tn≤tc) (hat:At .u8 w ta tk) (zt:Byte tk) (hT:TabIn w) (hV:1<w.heap.size) (hE:ErrIn w) :
  Calls Tryz.prog 47 #[.pointer (some ⟨g,0,none⟩),.slice (some ⟨bp,op,none⟩) 32 cp,.agg #[.int .i64 kind,.slice ta tn tc,.int .i64 now,.int .i64 N]] w (BkP H B g w (opR D U k T n ks 1 tk now N)):=by
 have HR0:Hid ((w.alloc (.cells #[.int .i64 kind,.slice ta tn tc,.int .i64 now,.int .i64 N] 28)).heap[w.heap.size]?=some (.cells #[.int .i64 kind,.slice ta tn tc,.int .i64 now,.int .i64 N] 28 (0,0))):=heap_alloc_new w _;have HW:Hid (Below w.heap.size w (w.alloc (.cells #[.int .i64 kind,.slice ta tn tc,.int .i64 now,.int .i64 N] 28))):=(Below.refl _ _).alloc (Nat.le_refl _) _;have HB:=hid_ofS (h.below HW.out);have HH:=hdI <| h.low
 have HC:=hid_ofS (adm_any HB.out bp op cp ks ta tn tc tk kind now N hk (hp.below HW.out) zk ht mt hct (hat.below HW.out) zt (tab_keepV hT hV HW.out) (Nat.lt_of_lt_of_le hV HW.out.size));have HE:=hid_ofS (hE.below HW.out);have HOZ:Hid ((Tryz.prog.info? 28).map (·.size)=some 4):=by show _=_;kernel_rfl
 have HT1:Hid (tapC D U ks tk now=1→∃ s m:Nat,tkS tk=s∧now=m∧s<256∧m≤4294967295∧tkB tk=true):=tapC_one zt;have HOP:=hid_ofS (opR_1 (D:=D) (U:=U) (k:=k) (T:=T) (n:=n) (ks:=ks) (tk:=tk) (now:=now) (N:=N));clear h hk hp zk ht hat zt hT hV hE mt hct;go_enter Tryz.func47,Tryz.ntmps47
 go_upto_region 1 with fail
 generalize w.alloc (.cells #[.int .i64 kind,.slice ta tn tc,.int .i64 now,.int .i64 N] 28)=w0 at *;go_wp2_with (first
  |(refine wpList_load_row rfl 28 (.tmp 5) rfl w.heap.size rfl 28 _ (0,0) _ HR0.out Tryz.underlying28 rfl HOZ.out ?_)
  |fail)
 refine HC.out.mono ?_;rintro e w1 ⟨x,y,rfl,hb1,hxy⟩;have HB1:=hid_ofS (HB.out.below hb1);have HW1:Hid (Below w.heap.size w w1):=HW.out.trans (hb1.mono HW.out.size);have HE1:=hid_ofS (HE.out.below hb1);have HR1:Hid (w1.heap[w.heap.size]?=some (.cells #[.int .i64 kind,.slice ta tn tc,.int .i64 now,.int .i64 N] 28 (0,0))):=by show _=_;rw[hb1.block _ (Array.getElem?_eq_some_iff.1 HR0.out).1];exact HR0.out
 clear HC HB HW HE HR0 hb1;rcases hxy with⟨hc,rfl,rfl⟩|⟨hc,rfl⟩
 ·obtain⟨s,m,hs,hm,hs2,hm2,-⟩:=HT1.out hc;have HF0:Hid (opR D U k T n ks 1 tk now N=⟨1,D,withS U s,k,T++[(s:Int),now],n+1⟩):=by show _=_;rw[HOP.out,if_pos hc,hs];rfl
  have o2:w1.cell? ⟨w.heap.size,2,none⟩=some (.int .i64 now):=by rw[cell_of_row w1 _ 2 _ _ _ HR1.out];rfl
  rw[hs];clear hc HT1 HOP HR1 hs hm hm2 HE1;go_wp2_with fail;refine(admit_any (H:=H) s now hs2 HB1.out.bk HB1.out.sd HB1.out.su HB1.out.tv HB1.out.hn HB1.out.hH HB1.out.hHB HB1.out.ne HB1.out.hBw).mono ?_;rintro e w2 ⟨rfl,hb2,u',v',r1,r2,r3,r4⟩;have HF:Hid (BkP H B g w ⟨1,D,withS U s,k,T++[(s:Int),now],n+1⟩ (.returned (.int .i64 1)) w2):=⟨rfl,(HW1.out.mono HH.out).trans hb2,_,_,_,r1,HB1.out.sd,r2.congr (fun x hx=>withS_mem hx),r3,r4⟩
  clear hb2 r1 r2 r3 r4 HB1 o2;go_wp2
  go_ret
  rw[HF0.out];exact HF.out
 ·have HF0:Hid (opR D U k T n ks 1 tk now N=⟨tapC D U ks tk now,D,U,k,T,n⟩):=by show _=_;rw[HOP.out,if_neg hc]
  clear hc HT1 HOP HR1;generalize tapC D U ks tk now=c at *;go_wp2_with fail;refine(cod_any c w1 HE1.out).mono ?_;rintro e w2 ⟨rfl,hb2⟩;have HF:=hid_ofS (((HB1.out.below hb2).same c).from (w:=w) ((HW1.out.trans (hb2.mono HW1.out.size)).mono HH.out));clear hb2 HB1 HE1;go_wp2
  go_ret
  rw[HF0.out];exact HF.out
set_option maxRecDepth 100000 in
set_option maxHeartbeats 4000000 in
theorem bst_any {H B g:Nat} {w:World} {d u:List Int} {v:Value} {D U:List Int} {k:Int} {T:List Int} {n:Nat} (h:BkV H B g w d u v D U k T n) (bp op cp:Nat) (ks:List Int) (ta:Option Addr) (tn tc:Nat) (tk:List Int) (kind now N:Int) (hk:ks.length=32) (hp:PtA w bp op ks) (zk:Byte ks) (ht:tk.length=tn) (mt:tn≤1048576) (hct:tn≤tc) (hat:At .u8 w ta tk) (zt:Byte tk) (hT:TabIn w) (hV:1<w.heap.size) (hE:ErrIn w) :
  Calls Tryz.prog 25 #[.pointer (some ⟨g,0,none⟩),.slice (some ⟨bp,op,none⟩) 32 cp,.agg #[.int .i64 kind,.slice ta tn tc,.int .i64 now,.int .i64 N]] w (BkP H B g w (opR D U k T n ks kind tk now N)):=by
 have HR0:Hid ((w.alloc (.cells #[.int .i64 kind,.slice ta tn tc,.int .i64 now,.int .i64 N] 28)).heap[w.heap.size]?=some (.cells #[.int .i64 kind,.slice ta tn tc,.int .i64 now,.int .i64 N] 28 (0,0))):=heap_alloc_new w _;have HWW:Hid (Below w.heap.size w (w.alloc (.cells #[.int .i64 kind,.slice ta tn tc,.int .i64 now,.int .i64 N] 28))):=(Below.refl _ _).alloc (Nat.le_refl _) _;have HW:Hid (Below H w (w.alloc (.cells #[.int .i64 kind,.slice ta tn tc,.int .i64 now,.int .i64 N] 28))):=HWW.out.mono h.low;have HB:=hid_ofS (h.below HWW.out);have HAT:Hid (∀ kk,Calls Tryz.prog 47 #[.pointer (some ⟨g,0,none⟩),.slice (some ⟨bp,op,none⟩) 32 cp,.agg #[.int .i64 kk,.slice ta tn tc,.int .i64 now,.int .i64 N]] (w.alloc (.cells #[.int .i64 kind,.slice ta tn tc,.int .i64 now,.int .i64 N] 28)) (BkP H B g (w.alloc (.cells #[.int .i64 kind,.slice ta tn tc,.int .i64 now,.int .i64 N] 28)) (opR D U k T n ks 1 tk now N))):=fun kk=>
  btp_any HB.out bp op cp ks ta tn tc tk kk now N hk (hp.below HWW.out) zk ht mt hct (hat.below HWW.out) zt (tab_keepV hT hV HWW.out) (Nat.lt_of_lt_of_le hV HWW.out.size) (hE.below HWW.out)
 have HOZ:Hid ((Tryz.prog.info? 28).map (·.size)=some 4):=by show _=_;kernel_rfl
 have HO5:Hid (opR D U k T n ks 5 tk now N=⟨9,D,U,k,T,n⟩):=by show _=_;unfold opR;rw[if_neg (by decide),if_neg (by decide),if_neg (by decide),if_neg (by decide),if_pos rfl]
 have HO6:Hid (¬ kind=1→¬ kind=2→¬ kind=3→¬ kind=4→¬ kind=5→opR D U k T n ks kind tk now N=⟨10,D,U,k,T,n⟩):=by
  intro a b c d e;unfold opR;rw[if_neg a,if_neg b,if_neg c,if_neg d,if_neg e]
 clear h hk hp zk ht hat zt hT hV hE mt hct HWW;go_enter Tryz.func25,Tryz.ntmps25
 go_upto_region 1 with fail
 generalize w.alloc (.cells #[.int .i64 kind,.slice ta tn tc,.int .i64 now,.int .i64 N] 28)=w0 at *;have o0:w0.cell? ⟨w.heap.size,0,none⟩=some (.int .i64 kind):=by rw[cell_of_row w0 _ 0 _ _ _ HR0.out];rfl
 have o3:w0.cell? ⟨w.heap.size,3,none⟩=some (.int .i64 N):=by rw[cell_of_row w0 _ 3 _ _ _ HR0.out];rfl
 by_cases k1:kind=1
 ·subst k1;have HC:=hid_ofS (HAT.out 1);clear HB HAT o3;go_wp2_with (first
   |(refine wpList_load_row rfl 28 (.tmp 5) rfl w.heap.size rfl 28 _ (0,0) _ HR0.out Tryz.underlying28 rfl HOZ.out ?_)
   |fail)
  refine HC.out.mono ?_;intro e w2 h2;have HF:=hid_ofS (h2.from HW.out);obtain⟨rfl,-⟩:=h2;clear HC o0;go_wp2
  go_ret
  exact HF.out
 by_cases k2:kind=2
 ·subst k2;clear k1;have HC:=hid_ofS (dny_any (ks:=ks) (tk:=tk) (now:=now) (N:=N) HB.out);clear HB HAT;go_wp2_with fail;refine HC.out.mono ?_;intro e w2 h2;have HF:=hid_ofS (h2.from HW.out);obtain⟨rfl,-⟩:=h2;clear HC o0 o3;go_wp2
  go_ret
  exact HF.out
 by_cases k3:kind=3
 ·subst k3;clear k1 k2;have HC:=hid_ofS (alw_any (ks:=ks) (tk:=tk) (now:=now) (N:=N) HB.out);clear HB HAT;go_wp2_with fail;refine HC.out.mono ?_;intro e w2 h2;have HF:=hid_ofS (h2.from HW.out);obtain⟨rfl,-⟩:=h2;clear HC o0 o3;go_wp2
  go_ret
  exact HF.out
 by_cases k4:kind=4
 ·subst k4;clear k1 k2 k3;have HC:=hid_ofS (bak_any (ks:=ks) (tk:=tk) (now:=now) (N:=N) HB.out);clear HB HAT;go_wp2_with fail;refine HC.out.mono ?_;intro e w2 h2;have HF:=hid_ofS (h2.from HW.out);obtain⟨rfl,-⟩:=h2;clear HC o0 o3;go_wp2
  go_ret
  exact HF.out
 by_cases k5:kind=5
 ·subst k5;have HF:=hid_ofS ((HB.out.same 9).from HW.out);clear HB HAT k1 k2 k3 k4;go_wp2
  go_ret
  rw[HO5.out];exact HF.out
 ·have HO7:=hid_ofS (HO6.out k1 k2 k3 k4 k5);have HF:=hid_ofS ((HB.out.same 10).from HW.out);clear HB HAT;go_wp2
  go_ret
  rw[HO7.out];exact HF.out
def ASV (lo:Nat) (w:World) (v:Value) (r:SpR):Prop:=
 ∃ aD nD cD aU nU cU aT nT cT,v=.agg #[.int .i64 r.c,.slice aD nD cD,.slice aU nU cU,.int .i64 r.k,.slice aT nT cT]∧S3 lo w aD aU aT nD nU nT r.D r.U r.T
theorem opR_ser {D U:List Int} {k:Int} {T:List Int} {n:Nat} {ks tk:List Int} {kind now N:Int} (hD:SerP D) (hU:SerP U):SerP (opR D U k T n ks kind tk now N).D∧SerP (opR D U k T n ks kind tk now N).U:=by
 unfold opR
 repeat' split
 all_goals first
  |exact⟨hD,hU⟩
  |exact⟨hD,withS_ser _ _⟩
  |exact⟨withS_ser _ _,hU⟩
  |exact⟨without_ser hD _,hU⟩
set_option maxRecDepth 100000 in
set_option maxHeartbeats 8000000 in
theorem iss_any (aD aU aT:Option Addr) (nD cD nU cU nT cT:Nat) (D U:List Int) (k:Int) (T:List Int) (ka:Option Addr) (nk ck:Nat) (ks:List Int) (ta:Option Addr) (tn tc:Nat) (tk:List Int) (kind now N:Int) (w:World) (hD:D.length=nD) (hU:U.length=nU) (hT:T.length=nT*2) (mD:nD≤1048576) (mU:nU≤1048576) (mT:nT≤1048576)
  (haD:At .i64 w aD D) (haU:At .i64 w aU U) (haT:At .i64 w aT T) (hnil:aT=none→nT=0∧cT=0) (hk0:-9223372036854775808≤k) (hk1:k<9223372036854775808) (hk:ks.length=nk) (mk:nk≤1048576) (hp:At .u8 w ka ks) (zk:Byte ks) (ht:tk.length=tn) (mt:tn≤1048576) (hct:tn≤tc) (hat:At .u8 w ta tk) (zt:Byte tk) (hTb:TabIn w) (hV:1<w.heap.size) (hE:ErrIn w) :
  Calls Tryz.prog 6 #[.agg #[.slice aD nD cD,.slice aU nU cU,.int .i64 k,.slice aT nT cT],.slice ka nk ck,.agg #[.int .i64 kind,.slice ta tn tc,.int .i64 now,.int .i64 N]] w fun e w'=>∃ v,e=.returned v∧ASV w.heap.size w' v (stR D U k T nT ks kind tk now N)∧Below w.heap.size w w':=by
 have HX0:Hid (CX3 w #[.slice aD nD cD,.slice aU nU cU,.int .i64 k,.slice aT nT cT] #[.int .i64 kind,.slice ta tn tc,.int .i64 now,.int .i64 N] (((w.alloc (.cells #[.slice aD nD cD,.slice aU nU cU,.int .i64 k,.slice aT nT cT] 26)).alloc (.cells #[.int .i64 kind,.slice ta tn tc,.int .i64 now,.int .i64 N] 28)).alloc (.cells #[.int .i64 0,.slice none 0 0,.slice none 0 0,.int .i64 0,.slice none 0 0] 32))):=CX3.start _ _ _;have HZ0:Hid ((((w.alloc (.cells #[.slice aD nD cD,.slice aU nU cU,.int .i64 k,.slice aT nT cT] 26)).alloc (.cells #[.int .i64 kind,.slice ta tn tc,.int .i64 now,.int .i64 N] 28)).alloc (.cells #[.int .i64 0,.slice none 0 0,.slice none 0 0,.int .i64 0,.slice none 0 0] 32)).heap.size=w.heap.size+3):=by show _=_;simp
 have HC:=openBook_any aD aU aT nD cD nU cU nT cT D U k T _ hD hU hT mD mU mT (haD.below HX0.out.below) (haU.below HX0.out.below) (haT.below HX0.out.below) hnil hk0 hk1;have HLN:Hid (D.length=nD∧U.length=nU∧T.length=nT*2):=⟨hD,hU,hT⟩
 have HA:Hid (∀ wz,Below w.heap.size w wz→At .i64 wz aD D∧At .i64 wz aU U∧At .i64 wz aT T∧At .u8 wz ka ks∧At .u8 wz ta tk∧TabIn wz∧ErrIn wz):=fun wz h=>⟨haD.below h,haU.below h,haT.below h,hp.below h,hat.below h,tab_keepV hTb hV h,hE.below h⟩
 have HKL:Hid (ks.length=nk∧Byte ks∧tk.length=tn∧Byte tk):=⟨hk,zk,ht,zt⟩
 have HV1:=hdI <| hV
 have HRZ:Hid ((Tryz.prog.info? 32).map (·.size)=some 5):=by show _=_;kernel_rfl
 have HSZ:Hid ((Tryz.prog.info? 26).map (·.size)=some 4):=by show _=_;kernel_rfl
 have HOZ:Hid ((Tryz.prog.info? 28).map (·.size)=some 4):=by show _=_;kernel_rfl
 have HST:Hid (stB D U k T nT=true→StP D U k T nT):=stP_of;clear haD haU haT hD hU hT hk hp zk ht hat zt hnil hk0 hk1 hTb hV hE;go_enter Tryz.func6,Tryz.ntmps6
 go_upto_region 1 with fail
 generalize (((w.alloc (.cells #[.slice aD nD cD,.slice aU nU cU,.int .i64 k,.slice aT nT cT] 26)).alloc (.cells #[.int .i64 kind,.slice ta tn tc,.int .i64 now,.int .i64 N] 28)).alloc (.cells #[.int .i64 0,.slice none 0 0,.slice none 0 0,.int .i64 0,.slice none 0 0] 32))=w0 at *;go_wp2_with (first
  |(refine wpList_load_row rfl 26 (.tmp 3) rfl w.heap.size rfl 26 _ (0,0) _ HX0.out.sb Tryz.underlying26 rfl HSZ.out ?_)
  |fail)
 refine HC.mono ?_;rintro e w1 ⟨bk,rfl,hs,ho,hb,hbk⟩;have HX1:=hdI <| HX0.out.call hb
 have HB1:Hid (w.heap.size+3≤w1.heap.size):=by show _≤_;have:=hb.size;rw[HZ0.out] at this;exact this
 have HN:Hid ((w1.alloc (.cells Tryz.zeroCells61 61)).heap[w1.heap.size]?=some (.cells Tryz.zeroCells61 61 (0,0))):=heap_alloc_new w1 _;have HBZ:Hid ((Tryz.prog.info? 61).map (·.size)=some bk.size):=by show _=_;rw[hs];exact Tryz.sizeBook
 have HEQ:Hid ((Tryz.zeroCells61).size=bk.size):=by show _=_;rw[hs];exact zc_size
 have HOK:=hdI <| ho
 have HB2:Hid (Below w1.heap.size w1 ((w1.alloc (.cells Tryz.zeroCells61 61)).setRow w1.heap.size bk)):=((Below.refl _ _).alloc (Nat.le_refl _) _).trans ((Wr.setRow _ _ _).below (Nat.le_refl _));have HR2:Hid (((w1.alloc (.cells Tryz.zeroCells61 61)).setRow w1.heap.size bk).heap[w1.heap.size]?=some (.cells bk 61 (0,0))):=setRow_heap _ _ _ _ _ _ HN.out;have HBK:Hid (stB D U k T nT=true→∃ db ub v,bk=bkC db ub k v∧SetB db (fun v=>(v:Int)∈D)∧SetB ub (fun v=>(v:Int)∈U)∧TapO (w.heap.size+3) w1 v T nT):=by
  intro h;obtain⟨db,ub,v,h1,h2,h3,h4⟩:=hbk h;rw[HZ0.out] at h4;exact⟨db,ub,v,h1,h2,h3,h4⟩
 have HX2:=hdI <| HX1.out.call HB2.out
 clear hs ho hb HC HX0 HZ0 hbk HX1;obtain⟨q,hq⟩:∃ q,q=stB D U k T nT:=⟨_,rfl⟩
 rw[←hq];have HQ:=hdI <| hq.symm
 clear hq
 go_upto_region 2 with (first
  |(refine wpList_store_row rfl 61 (.tmp 7) (.tmp 13) rfl w1.heap.size bk rfl rfl 61 _ HN.out HBZ.out HEQ.out HOK.out ?_)
  |fail)
 clear HN HBZ HEQ HOK;generalize ((w1.alloc (.cells Tryz.zeroCells61 61)).setRow w1.heap.size bk)=w2 at *;by_cases hbad:¬ (stB D U k T nT=true∧nk=32)
 ·have HR:Hid (stR D U k T nT ks kind tk now N=⟨10,D,U,k,T,nT⟩):=by
   show _=_
   unfold stR;rw[if_neg (fun h=>hbad ⟨h.1,HKL.out.1.symm.trans h.2⟩)]
  have hcs:q=false∨(q=true∧((nk:Int) != 32)=true):=by
   cases q with
   |false=>exact .inl rfl
   |true=>exact .inr ⟨rfl,by have h3:¬ nk=32:=fun h=>hbad ⟨HQ.out,h⟩
                             simp;omega⟩
  clear hbad HST HBK HR2 HB2 HQ;rcases hcs with rfl|⟨rfl,h32⟩
  all_goals
   go_upto_region 3 with fail
   go_wp2_with (first
    |(refine wpList_load_row rfl 26 (.tmp 3) rfl w.heap.size rfl 26 _ (0,0) _ HX2.out.sb Tryz.underlying26 rfl HSZ.out ?_)
    |fail)
   refine(cpSt_any aD aU aT nD cD nU cU nT cT D U k T w2 HLN.out.1 HLN.out.2.1 HLN.out.2.2 mD mU mT (HA.out w2 HX2.out.below).1 (HA.out w2 HX2.out.below).2.1 (HA.out w2 HX2.out.below).2.2.1).mono ?_;rintro e w9 ⟨cs,rfl,hcp,hb9⟩;have HX9:=hdI <| HX2.out.call hb9
   have HL9:=hdI <| HX2.out.lt
   obtain⟨bD,mD',dD,bU,mU',dU,bT,dT,rfl,hs3⟩:=hcp;have HRB:=hdI <| HX9.out.rb
   have HF:Hid (ASV w.heap.size (w9.setRow (w.heap.size+2) #[.int .i64 10,.slice bD mD' dD,.slice bU mU' dU,.int .i64 k,.slice bT nT dT]) (.agg #[.int .i64 10,.slice bD mD' dD,.slice bU mU' dU,.int .i64 k,.slice bT nT dT]) (stR D U k T nT ks kind tk now N)∧Below w.heap.size w (w9.setRow (w.heap.size+2) #[.int .i64 10,.slice bD mD' dD,.slice bU mU' dU,.int .i64 k,.slice bT nT dT])):=by
    have hw:Wr (w.heap.size+2) w9 (w9.setRow (w.heap.size+2) #[.int .i64 10,.slice bD mD' dD,.slice bU mU' dU,.int .i64 k,.slice bT nT dT]):=Wr.setRow _ _ _;refine⟨?_,HX9.out.below.trans (hw.below (by omega))⟩;rw[HR.out];exact⟨_,_,_,_,_,_,_,_,_,rfl,(hs3.keep (by rw[hw.size];exact Nat.le_refl _) (fun j hj _=>hw.block j (by have:=HL9.out;omega))).lo (by have:=HL9.out;omega)⟩
   clear hb9 hs3 HL9 HX2;go_wp2_with (first
    |(refine wpList_store_row rfl 32 (.tmp 6) (.tmp 24) rfl (w.heap.size+2) #[.int .i64 10,.slice bD mD' dD,.slice bU mU' dU,.int .i64 k,.slice bT nT dT] rfl rfl 32 _ HRB.out HRZ.out rfl (by simp[Value.oneCell']) ?_)
    |fail)
   exact bodyPost_ret (v:=.agg #[.int .i64 10,.slice bD mD' dD,.slice bU mU' dU,.int .i64 k,.slice bT nT dT]) (results_cell_row rfl _ _ (w.heap.size+2) 32 _ (0,0) _ rfl (setRow_heap _ _ _ _ _ _ HRB.out) Tryz.underlying32 rfl HRZ.out) rfl ⟨_,rfl,HF.out.1,HF.out.2⟩
 obtain⟨hst0,h32⟩:=Decidable.not_not.1 hbad;have hst:=HST.out hst0;have hqt:=HQ.out.symm.trans hst0;subst hqt;have HSO:Hid (stR D U k T nT ks kind tk now N=opR D U k T nT ks kind tk now N):=by show _=_;unfold stR;rw[if_pos ⟨hst0,HKL.out.1.trans h32⟩]
 have HSER:=hid_ofS (opR_ser (k:=k) (T:=T) (n:=nT) (ks:=ks) (tk:=tk) (kind:=kind) (now:=now) (N:=N) hst.1 hst.2.2.1);obtain⟨db,ub,v9,rfl,hsd,hsu,hto⟩:=HBK.out hst0;have hbk:Bk w2 w1.heap.size db ub k v9:=⟨HR2.out,hsd.1,hsu.1,hsd.2.1,hsu.2.1⟩
 have hne:NeG w1.heap.size v9:=fun t ht e=>by
  rcases hto.2 with⟨h',_⟩|⟨g,c,cur,h',hb,hh,_⟩
  ·rw[h'] at ht;simp[Value.ownBlock] at ht
  ·rw[h'] at ht;simp[Value.ownBlock] at ht;have:=(Array.getElem?_eq_some_iff.1 hh).1;omega
 have hto2:TapO (w.heap.size+3) w2 v9 T nT:=by
  refine⟨hto.1,?_⟩;rcases hto.2 with h'|⟨g,c,cur,h1,h2,h3,h4⟩
  ·exact .inl h'
  ·exact .inr ⟨g,c,cur,h1,h2,by rw[HB2.out.block g (Array.getElem?_eq_some_iff.1 h3).1];exact h3,h4⟩
 have hkn:k+nT=(nU:Int):=by have:=hst.2.2.2.2.1;rw[HLN.out.2.1] at this;exact this
 have HBV:Hid (BkV (w.heap.size+3) (w.heap.size+3) w1.heap.size w2 db ub v9 D U k T nT):=⟨hbk,hsd,hsu,hto2.tapV,hst.1,hst.2.2.2.1,by omega,mT,HB1.out,Nat.le_refl _,hne,by have:=HB2.out.size;have:=HB1.out;omega⟩
 subst h32;obtain⟨bp,op,rfl,-,-⟩:=(HA.out w2 HX2.out.below).2.2.2.1.get (by rw[HKL.out.1];decide);have HPT:Hid (PtA w2 bp op ks):=by
  obtain⟨b',o',e',hl',hc'⟩:=(HA.out w2 HX2.out.below).2.2.2.1.get (by rw[HKL.out.1];decide);cases e';exact⟨hl',hc'⟩
 have HSP:=hid_ofS (bst_any HBV.out bp op ck ks ta tn tc tk kind now N HKL.out.1 HPT.out HKL.out.2.1 HKL.out.2.2.1 mt hct (HA.out w2 HX2.out.below).2.2.2.2.1 HKL.out.2.2.2 (HA.out w2 HX2.out.below).2.2.2.2.2.1 (Nat.lt_of_lt_of_le HV1.out HX2.out.below.size) (HA.out w2 HX2.out.below).2.2.2.2.2.2);clear hsd hsu hto hst hbk hto2 hkn hne HR2 HB2 HBV HBK HST hst0 HQ hbad HPT HA
 go_upto_region 4 with fail
 generalize opR D U k T nT ks kind tk now N=r at *;go_wp2_with (first
  |(refine wpList_load_row rfl 28 (.tmp 5) rfl (w.heap.size+1) rfl 28 _ (0,0) _ HX2.out.ob Tryz.underlying28 rfl HOZ.out ?_)
  |fail)
 refine HSP.out.mono ?_;rintro e w3 ⟨rfl,hb3,d',u',v',r1,r2,r3,r4,r5⟩;have HX3:=hdI <| HX2.out.keep hb3 (Nat.le_refl _)
 have HRB:=hdI <| HX3.out.rb
 obtain⟨aT',cT',rfl⟩:=r4.slice;have HS:=state_any aT' r.n cT' (fun v=>decide ((v:Int)∈r.D)) (fun v=>decide ((v:Int)∈r.U)) r1 (r2.congr (fun v _=>by simp)) (r3.congr (fun v _=>by simp));rw[HSER.out.1.eq_upTo _ (fun v _=>by simp),HSER.out.2.eq_upTo _ (fun v _=>by simp)] at HS;have HTV:Hid (TapV (w.heap.size+3) w3 (.slice aT' r.n cT') r.T r.n):=r4;clear r1 r2 r3 r4 r5 HSER hb3 HSP HX2;go_wp2_with fail;refine HS.mono ?_;rintro e w4 ⟨bD,mD',dD,bU,mU',dU,rfl,g1,g2,g3,hb4⟩;have HRB4:Hid (w4.heap[w.heap.size+2]?=some (.cells #[.int .i64 0,.slice none 0 0,.slice none 0 0,.int .i64 0,.slice none 0 0] 32 (0,0))):=by show _=_;rw[hb4.block _ (Array.getElem?_eq_some_iff.1 HRB.out).1];exact HRB.out
 have hw5:Wr (w.heap.size+2) w4 (w4.setRow (w.heap.size+2) #[.int .i64 r.c,.slice bD mD' dD,.slice bU mU' dU,.int .i64 r.k,.slice aT' r.n cT']):=Wr.setRow _ _ _;have HF:Hid (ASV w.heap.size (w4.setRow (w.heap.size+2) #[.int .i64 r.c,.slice bD mD' dD,.slice bU mU' dU,.int .i64 r.k,.slice aT' r.n cT']) (.agg #[.int .i64 r.c,.slice bD mD' dD,.slice bU mU' dU,.int .i64 r.k,.slice aT' r.n cT']) (stR D U k T nT ks kind tk now N)∧Below w.heap.size w (w4.setRow (w.heap.size+2) #[.int .i64 r.c,.slice bD mD' dD,.slice bU mU' dU,.int .i64 r.k,.slice aT' r.n cT'])):=by
  have hlt:=(Array.getElem?_eq_some_iff.1 HRB.out).1;obtain⟨s1,s2,s3⟩:=g1.sat;obtain⟨t1,t2,t3⟩:=g2.sat;obtain⟨q1,q2,q3⟩:=HTV.out.sat;have q4:SAt w4 aT' r.T:=q1.below hb4;have q5:Lies (w.heap.size+3) w4 aT':=q3.mono (Nat.le_refl _) hb4.size;refine⟨?_,(HX3.out.below.trans (hb4.mono HX3.out.below.size)).trans (hw5.below (by omega))⟩;rw[HSO.out];refine⟨bD,mD',dD,bU,mU',dU,aT',r.n,cT',rfl,?_⟩;have z:(w4.setRow (w.heap.size+2) #[.int .i64 r.c,.slice bD mD' dD,.slice bU mU' dU,.int .i64 r.k,.slice aT' r.n cT']).heap.size=w4.heap.size:=hw5.size;refine⟨s1.keep (by rw[z];exact Nat.le_refl _) (fun ad e _=>hw5.block _ (by have:=(s3 ad e).1;omega)),t1.keep (by rw[z];exact Nat.le_refl _) (fun ad e _=>hw5.block _ (by have:=(t3 ad e).1;omega)),q4.keep (by rw[z];exact Nat.le_refl _) (fun ad e _=>hw5.block _ (by have:=(q5 ad e).1;omega)),s2,t2,q2,?_,?_,?_,?_,?_,?_⟩
  ·exact s3.mono (by omega) (by rw[z];exact Nat.le_refl _)
  ·exact t3.mono (by omega) (by rw[z];exact Nat.le_refl _)
  ·exact q5.mono (by omega) (by rw[z];exact Nat.le_refl _)
  ·exact fun x y hx hy e=>g3 x.block (by rw[hx];rfl) (by rw[hy,e];rfl)
  ·exact fun x y hx hy e=>by have:=(s3 x hx).1;have:=(q3 y hy).2;omega
  ·exact fun x y hx hy e=>by have:=(t3 x hx).1;have:=(q3 y hy).2;omega
 clear g1 g2 g3 hb4 hw5 HS HTV;go_wp2_with (first
  |(refine wpList_store_row rfl 32 (.tmp 6) (.tmp 30) rfl (w.heap.size+2) #[.int .i64 r.c,.slice bD mD' dD,.slice bU mU' dU,.int .i64 r.k,.slice aT' r.n cT'] rfl rfl 32 _ HRB4.out HRZ.out rfl (by simp[Value.oneCell']) ?_)
  |fail)
 exact bodyPost_ret (v:=.agg #[.int .i64 r.c,.slice bD mD' dD,.slice bU mU' dU,.int .i64 r.k,.slice aT' r.n cT']) (results_cell_row rfl _ _ (w.heap.size+2) 32 _ (0,0) _ rfl (setRow_heap _ _ _ _ _ _ HRB4.out) Tryz.underlying32 rfl HRZ.out) rfl ⟨_,rfl,HF.out.1,HF.out.2⟩
section
variable {D U:List Int} {k:Int} {T:List Int} {n:Nat} {ks:List Int} {kind:Int} {tk:List Int} {now N:Int} {a b:Nat}
theorem apF_st (hT:T.length=n*2) (hb:b<4294967296) (ho:(apF D U k T n kind a b).ok=true):stB (apF D U k T n kind a b).D (apF D U k T n kind a b).U (apF D U k T n kind a b).k (apF D U k T n kind a b).T (apF D U k T n kind a b).n=true:=by
 unfold apF at ho ⊢;by_cases hs:stB D U k T n=true
 ·rw[if_pos hs] at ho ⊢;exact stB_yes (apR_st (stP_of hs) hT hb ho).1
 ·rw[if_neg hs] at ho;cases ho
theorem stR_st (hs:stB D U k T n=true) (hT:T.length=n*2) (hz:Byte tk):stB (stR D U k T n ks kind tk now N).D (stR D U k T n ks kind tk now N).U (stR D U k T n ks kind tk now N).k (stR D U k T n ks kind tk now N).T (stR D U k T n ks kind tk now N).n=true:=by
 obtain⟨h1,h2,h3,h4,h5,h6⟩:=stP_of hs;have hl:=h3.len;unfold stR;by_cases hk:ks.length=32
 ·rw[if_pos ⟨hs,hk⟩];by_cases h15:1≤kind∧kind≤5
  ·obtain⟨d0,d1⟩:=du_op (T:=T) (ks:=ks) (now:=now) (N:=N) hs hz h4 (by omega) (by omega) h2 h15.1 h15.2;by_cases hf:(duR D U k n ks kind tk now N).fk=0
   ·rw[d0 hf];exact hs
   ·obtain⟨o,e,_,ha,_,hb⟩:=d1 hf;have:=apF_st (D:=D) (U:=U) (k:=k) (T:=T) (n:=n) (kind:=(duR D U k n ks kind tk now N).fk) (a:=(duR D U k n ks kind tk now N).a) (b:=(duR D U k n ks kind tk now N).b) hT hb (by rw[ha]);rw[ha] at this;rw[e];exact this
  ·have:opR D U k T n ks kind tk now N=⟨10,D,U,k,T,n⟩:=by
    unfold opR;rw[if_neg (by omega),if_neg (by omega),if_neg (by omega),if_neg (by omega),if_neg (by omega)]
   rw[this];exact hs
 ·rw[if_neg (fun h=>hk h.2)];exact hs
theorem opR_Tn (hT:T.length=n*2):(opR D U k T n ks kind tk now N).T.length≤n*2+2:=by
 unfold opR
 repeat' split
 all_goals first
  |(simp;omega)
theorem stR_T2 (hT:T.length=n*2):(stR D U k T n ks kind tk now N).T.length=(stR D U k T n ks kind tk now N).n*2:=by
 unfold stR opR
 repeat' split
 all_goals first
  |exact hT
  |(simp;omega)
theorem apF_T2 (hT:T.length=n*2):(apF D U k T n kind a b).T.length=(apF D U k T n kind a b).n*2:=by
 by_cases hs:stB D U k T n=true
 ·by_cases ho:(apF D U k T n kind a b).ok=true
  ·unfold apF at ho ⊢;rw[if_pos hs] at ho ⊢;unfold apR at ho ⊢
   repeat' split
   all_goals first
    |exact hT
    |rfl
    |(simp;omega)
  ·unfold apF at ho ⊢;rw[if_pos hs] at ho ⊢;unfold apR at ho ⊢
   repeat' split
   all_goals first
    |exact hT
    |rfl
    |(simp;omega)
 ·unfold apF;rw[if_neg hs];rfl
theorem stR_bd (hD:D.length≤300) (hU:U.length≤300) (hT:T.length=n*2) (hn:n≤300):(stR D U k T n ks kind tk now N).D.length≤300∧(stR D U k T n ks kind tk now N).U.length≤300∧(stR D U k T n ks kind tk now N).T.length≤1000:=by
 unfold stR;by_cases hs:stB D U k T n=true∧ks.length=32
 ·rw[if_pos hs];have hp:=stP_of hs.1;obtain⟨s1,s2⟩:=opR_ser (k:=k) (T:=T) (n:=n) (ks:=ks) (tk:=tk) (kind:=kind) (now:=now) (N:=N) hp.1 hp.2.2.1;have:=s1.len;have:=s2.len;have:=opR_Tn (D:=D) (U:=U) (k:=k) (ks:=ks) (tk:=tk) (kind:=kind) (now:=now) (N:=N) hT;exact⟨by omega,by omega,by omega⟩
 ·rw[if_neg hs];exact⟨hD,hU,by show T.length≤1000;omega⟩
end
structure Stt (w:World) (aD:Option Addr) (nD:Nat) (aU:Option Addr) (nU:Nat) (aT:Option Addr) (nT cT:Nat) (D U T:List Int):Prop where
 hD:D.length=nD
 hU:U.length=nU
 hT:T.length=nT*2
 mD:nD≤300
 mU:nU≤300
 mT:nT≤300
 d:At .i64 w aD D
 u:At .i64 w aU U
 t:At .i64 w aT T
 c:nT≤cT∧cT≤9223372036854775807
 nl:aT=none→nT=0∧cT=0
theorem Stt.below {w w':World} {aD:Option Addr} {nD:Nat} {aU:Option Addr} {nU:Nat} {aT:Option Addr} {nT cT:Nat} {D U T:List Int} (h:Stt w aD nD aU nU aT nT cT D U T) (b:Below w.heap.size w w'):Stt w' aD nD aU nU aT nT cT D U T:=
 ⟨h.hD,h.hU,h.hT,h.mD,h.mU,h.mT,h.d.below b,h.u.below b,h.t.below b,h.c,h.nl⟩
theorem Ls.stt {g:Nat} {w:World} {aD:Option Addr} {nD cD:Nat} {aU:Option Addr} {nU cU:Nat} {aT:Option Addr} {nT cT:Nat} {D U T:List Int} (h:Ls g w (.slice aD nD cD) (.slice aU nU cU) (.slice aT nT cT) D U T nT):Stt w aD nD aU nU aT nT cT D U T:=by
 obtain⟨s1,e1,_⟩:=h.d.sat;obtain⟨s2,e2,_⟩:=h.u.sat;have hl:=h.l;have hT:T.length=nT*2:=by simpa using h.t.1
 refine⟨e1,e2,hT,by omega,by omega,hl.2.2,s1.at_,s2.at_,?_,h.t.cap,?_⟩
 ·obtain⟨q1,_,_⟩:=h.t.tapV.sat;exact q1.at_
 ·intro e;subst e;rcases h.t.2 with⟨h',h0⟩|⟨g,c,cur,h',_⟩
  ·cases h';exact⟨h0,rfl⟩
  ·cases h'
set_option linter.unusedSimpArgs false
theorem Tryz.sizeSr:(Tryz.prog.info? 32).map (·.size)=some 5:=by kernel_rfl
theorem Tryz.sizeAr:(Tryz.prog.info? 42).map (·.size)=some 5:=by kernel_rfl
theorem two_box (w:World) (t1 t2:TypeId) (z1 z2 c1 c2:Array Value):((w.alloc (.cells z1 t1)).alloc (.cells z2 t2)).heap[w.heap.size]?=some (.cells z1 t1 (0,0))∧(((w.alloc (.cells z1 t1)).alloc (.cells z2 t2)).setRow w.heap.size c1).heap[w.heap.size+1]?=some (.cells z2 t2 (0,0))∧
  ((((w.alloc (.cells z1 t1)).alloc (.cells z2 t2)).setRow w.heap.size c1).setRow (w.heap.size+1) c2).heap[w.heap.size]?=some (.cells c1 t1 (0,0))∧((((w.alloc (.cells z1 t1)).alloc (.cells z2 t2)).setRow w.heap.size c1).setRow (w.heap.size+1) c2).heap[w.heap.size+1]?=some (.cells c2 t2 (0,0))∧
  Below w.heap.size w ((((w.alloc (.cells z1 t1)).alloc (.cells z2 t2)).setRow w.heap.size c1).setRow (w.heap.size+1) c2):=by
 have e1:=heap_alloc2_old w (.cells z1 t1) (.cells z2 t2);have e2:=heap_alloc2_new w (.cells z1 t1) (.cells z2 t2);have w1:=Wr.setRow w.heap.size ((w.alloc (.cells z1 t1)).alloc (.cells z2 t2)) c1;have w2:=Wr.setRow (w.heap.size+1) (((w.alloc (.cells z1 t1)).alloc (.cells z2 t2)).setRow w.heap.size c1) c2;have e3:(((w.alloc (.cells z1 t1)).alloc (.cells z2 t2)).setRow w.heap.size c1).heap[w.heap.size+1]?=some (.cells z2 t2 (0,0)):=by rw[w1.block _ (by omega)];exact e2
 exact⟨e1,e3,by rw[w2.block _ (by omega)];exact setRow_heap _ _ _ _ _ _ e1,setRow_heap _ _ _ _ _ _ e3,(((((Below.refl _ _).alloc (Nat.le_refl _) _).alloc (by simp) _).trans (w1.below (Nat.le_refl _))).trans (w2.below (by omega)))⟩
theorem one_box (w:World) (t1:TypeId) (z1 c1:Array Value):(w.alloc (.cells z1 t1)).heap[w.heap.size]?=some (.cells z1 t1 (0,0))∧((w.alloc (.cells z1 t1)).setRow w.heap.size c1).heap[w.heap.size]?=some (.cells c1 t1 (0,0))∧Below w.heap.size w ((w.alloc (.cells z1 t1)).setRow w.heap.size c1):=
 ⟨heap_alloc_new w _,setRow_heap _ _ _ _ _ _ (heap_alloc_new w _),(below_new w _).trans ((Wr.setRow _ _ _).below (Nat.le_refl _))⟩
theorem row_bel {w w':World} {g:Nat} {o:Obj} (h:w.heap[g]?=some o) (b:Below w.heap.size w w'):w'.heap[g]?=some o:=by rw[b.block g (lt_of_heap h)];exact h
set_option maxRecDepth 100000 in
set_option maxHeartbeats 16000000 in
theorem rules_any (x y:Option Addr) (n cap m cap':Nat) (zs ys:List Int) (w:World) (hn:zs.length=n) (hm:ys.length=m) (hz:Byte zs) (hy:Byte ys) (ha:At .u8 w x zs) (hb:At .u8 w y ys) (nN:n≤9223372036854775807) (mN:m≤9223372036854775807) (hTb:TabIn w) (hV:1<w.heap.size) (hE:ErrIn w) :
  Calls Tryz.prog 3 #[.slice x n cap,.slice y m cap'] w fun e w'=>e=.returned (.bool true)∧Below w.heap.size w w':=by
 by_cases h1:n≤1048576;rotate_left
 ·have h1':(n:Int)>1048576:=by omega
  go_enter Tryz.func3,Tryz.ntmps3;go_wp2
  go_ret
  exact⟨rfl,Below.refl _ _⟩
 by_cases h2:m≤1048576;rotate_left
 ·have h1':¬ (n:Int)>1048576:=by omega
  have h2':(m:Int)>1048576:=by omega
  go_enter Tryz.func3,Tryz.ntmps3;go_wp2
  go_ret
  exact⟨rfl,Below.refl _ _⟩
 have h1':¬ (n:Int)>1048576:=by omega
 have h2':¬ (m:Int)>1048576:=by omega
 have HBW:=hdI (drawSS_any x n cap zs w hn h1 hz ha);have HM:=hdI (fun wz (h:Below w.heap.size w wz)=>drawAF_any y m cap' ys wz hm h2 hy (hb.below h));have HG:=hdI (show ∀ wz,Below w.heap.size w wz→TabIn wz∧1<wz.heap.size∧ErrIn wz from fun wz h=>⟨tab_keepV hTb hV h,Nat.lt_of_lt_of_le hV h.size,hE.below h⟩);clear hn hm hz hy ha hb hTb hV hE;go_enter Tryz.func3,Tryz.ntmps3;go_wp2_with fail;refine HBW.out.mono ?_;rintro e w1 ⟨aD,nD,cD,aU,nU,cU,k,aT,nT,cT,ak,nk,ck,kd,ta,tn,tc,nw,nn,rfl,hx,hnk,b1⟩;obtain⟨⟨D,U,T,hl⟩,hke,htk,hk⟩:=hx;have S1:=hl.stt;obtain⟨_,_,ks,ek,k1,k2,k3,k4⟩:=hke.at_;cases ek;obtain⟨t0,t1,tk,t2,t3,t4⟩:=htk.rd;obtain⟨x1,x2,r1,r2,b2⟩:=two_box w1 26 28 #[.slice none 0 0,.slice none 0 0,.int .i64 0,.slice none 0 0] #[.int .i64 0,.slice none 0 0,.int .i64 0,.int .i64 0] #[.slice aD nD cD,.slice aU nU cU,.int .i64 k,.slice aT nT cT] #[.int .i64 kd,.slice ta tn tc,.int .i64 nw,.int .i64 nn];have HX:=hdI (And.intro x1 x2);have HB2:=hdI (b1.trans (b2.mono b1.size));have HR:=hdI (And.intro r1 r2);have HS:=hdI (S1.below b2);have HK:=hdI (show ks.length=nk∧Byte ks∧tk.length=tn∧Byte tk∧tn≤tc∧nk≤1048576∧tn≤1048576 from⟨k2,k3,t2,t3,t1,by omega,by omega⟩);have HA:=hdI (And.intro (k4.below b2) (t4.below b2));have HKB:=hdI hk;clear hl hke htk S1 k1 k2 k3 k4 t0 t1 t2 t3 t4 x1 x2 r1 r2 b1 b2 hnk hk HBW
 go_upto_region 4 with (first
  |(refine wpList_store_row rfl 26 (.tmp 5) (.tmp 25) rfl w1.heap.size #[.slice aD nD cD,.slice aU nU cU,.int .i64 k,.slice aT nT cT] rfl rfl 26 _ HX.out.1 Tryz.sizeSt rfl (by simp[Value.oneCell']) ?_)
  |(refine wpList_store_row rfl 28 (.tmp 7) (.tmp 27) rfl (w1.heap.size+1) #[.int .i64 kd,.slice ta tn tc,.int .i64 nw,.int .i64 nn] rfl rfl 28 _ HX.out.2 Tryz.sizeOp rfl (by simp[Value.oneCell']) ?_)
  |fail)
 clear HX;generalize (((w1.alloc (.cells #[.slice none 0 0,.slice none 0 0,.int .i64 0,.slice none 0 0] 26)).alloc (.cells #[.int .i64 0,.slice none 0 0,.int .i64 0,.int .i64 0] 28)).setRow w1.heap.size #[.slice aD nD cD,.slice aU nU cU,.int .i64 k,.slice aT nT cT]).setRow (w1.heap.size+1) #[.int .i64 kd,.slice ta tn tc,.int .i64 nw,.int .i64 nn]=w2 at *;generalize w1.heap.size=B1 at *;have HBW:=hdI (sss_any aD aU aT nD cD nU cU nT cT D U k T ak nk ck ks ta tn tc tk kd nw nn w2 HS.out.hD HS.out.hU HS.out.hT (Nat.le_trans HS.out.mD (by decide)) (Nat.le_trans HS.out.mU (by decide)) (Nat.le_trans HS.out.mT (by decide)) HS.out.d HS.out.u HS.out.t HS.out.c.1 HS.out.c.2 HKB.out.1 (by have:=HKB.out.2;omega) HK.out.1 HK.out.2.2.2.2.2.1 HA.out.1 HK.out.2.1 HK.out.2.2.1 HK.out.2.2.2.2.2.2 HK.out.2.2.2.2.1 HA.out.2 HK.out.2.2.2.1);have HC:=hdI (fun wz (h:Below w2.heap.size w2 wz)=>iss_any aD aU aT nD cD nU cU nT cT D U k T ak nk ck ks ta tn tc tk kd nw nn wz HS.out.hD HS.out.hU HS.out.hT (Nat.le_trans HS.out.mD (by decide)) (Nat.le_trans HS.out.mU (by decide)) (Nat.le_trans HS.out.mT (by decide)) (HS.out.d.below h) (HS.out.u.below h) (HS.out.t.below h) HS.out.nl HKB.out.1 (by have:=HKB.out.2;omega) HK.out.1 HK.out.2.2.2.2.2.1 (HA.out.1.below h) HK.out.2.1 HK.out.2.2.1 HK.out.2.2.2.2.2.2 HK.out.2.2.2.2.1 (HA.out.2.below h) HK.out.2.2.2.1 (HG.out wz (HB2.out.trans (h.mono HB2.out.size))).1 (HG.out wz (HB2.out.trans (h.mono HB2.out.size))).2.1 (HG.out wz (HB2.out.trans (h.mono HB2.out.size))).2.2);have HSB:=hdI (stR_bd (k:=k) (ks:=ks) (kind:=kd) (tk:=tk) (now:=nw) (N:=nn) (HS.out.hD ▸ HS.out.mD) (HS.out.hU ▸ HS.out.mU) HS.out.hT HS.out.mT);have HST:=hdI (fun h=>stR_st (ks:=ks) (kind:=kd) (now:=nw) (N:=nn) (D:=D) (U:=U) (k:=k) (T:=T) (n:=nT) h HS.out.hT HK.out.2.2.2.1);have HRN:=hdI (stR_T2 (D:=D) (U:=U) (k:=k) (ks:=ks) (kind:=kd) (tk:=tk) (now:=nw) (N:=nn) HS.out.hT);clear HK HA;generalize stR D U k T nT ks kd tk nw nn=r at *;go_wp2_with (first
  |(refine wpList_load_row rfl 26 (.tmp 5) rfl B1 rfl 26 _ (0,0) _ HR.out.1 Tryz.underlying26 rfl Tryz.sizeSt ?_)
  |(refine wpList_load_row rfl 28 (.tmp 7) rfl (B1+1) rfl 28 _ (0,0) _ HR.out.2 Tryz.underlying28 rfl Tryz.sizeOp ?_)
  |fail)
 refine HBW.out.mono ?_;rintro e w3 ⟨v,rfl,⟨wD,nD1,wd,wU,nU1,wu,wT,nT1,wt,rfl,a1,a2,a3,l1,l2,l3,_,_,_,c1,c2⟩,b3⟩;obtain⟨x1,r3,b4⟩:=one_box w3 32 #[.int .i64 0,.slice none 0 0,.slice none 0 0,.int .i64 0,.slice none 0 0] #[.int .i64 r.c,.slice wD nD1 wd,.slice wU nU1 wu,.int .i64 r.k,.slice wT nT1 wt];have HX:=hdI x1;have HB4:=hdI (b3.trans (b4.mono b3.size));have HR4:=hdI (And.intro (row_bel HR.out.1 (b3.trans (b4.mono b3.size))) (And.intro (row_bel HR.out.2 (b3.trans (b4.mono b3.size))) r3));have HW:=hdI (show(At .i64 _ wD r.D∧At .i64 _ wU r.U∧At .i64 _ wT r.T)∧r.D.length=nD1∧r.U.length=nU1∧r.T.length=nT1*2 from⟨⟨a1.below b4,a2.below b4,a3.below b4⟩,l1,l2,l3⟩);clear HBW a1 a2 a3 l1 l2 l3 c1 c2 b3 b4 x1 r3 HR
 go_upto_region 5 with (first
  |(refine wpList_store_row rfl 32 (.tmp 8) (.tmp 31) rfl w3.heap.size #[.int .i64 r.c,.slice wD nD1 wd,.slice wU nU1 wu,.int .i64 r.k,.slice wT nT1 wt] rfl rfl 32 _ HX.out Tryz.sizeSr rfl (by simp[Value.oneCell']) ?_)
  |fail)
 clear HX;generalize (w3.alloc (.cells #[.int .i64 0,.slice none 0 0,.slice none 0 0,.int .i64 0,.slice none 0 0] 32)).setRow w3.heap.size #[.int .i64 r.c,.slice wD nD1 wd,.slice wU nU1 wu,.int .i64 r.k,.slice wT nT1 wt]=w4 at *;generalize w3.heap.size=B2 at *;go_wp2_with (first
  |(refine wpList_load_row rfl 26 (.tmp 5) rfl B1 rfl 26 _ (0,0) _ HR4.out.1 Tryz.underlying26 rfl Tryz.sizeSt ?_)
  |(refine wpList_load_row rfl 28 (.tmp 7) rfl (B1+1) rfl 28 _ (0,0) _ HR4.out.2.1 Tryz.underlying28 rfl Tryz.sizeOp ?_)
  |fail)
 refine(HC.out w4 HB4.out).mono ?_;rintro e w5 ⟨v,rfl,⟨vD,nD2,vd,vU,nU2,vu,vT,nT2,vt,rfl,s3⟩,b5⟩;obtain rfl:nD2=nD1:=by have:=s3.nd;have:=HW.out.2.1;omega
 obtain rfl:nU2=nU1:=by have:=s3.nu;have:=HW.out.2.2.1;omega
 obtain rfl:nT2=nT1:=by have:=s3.nt;have:=HW.out.2.2.2;omega
 have HRM:=hdI (show r.n=nT2 by have:=HRN.out;have:=HW.out.2.2.2;omega);obtain⟨x1,r3,b6⟩:=one_box w5 32 #[.int .i64 0,.slice none 0 0,.slice none 0 0,.int .i64 0,.slice none 0 0] #[.int .i64 r.c,.slice vD nD2 vd,.slice vU nU2 vu,.int .i64 r.k,.slice vT nT2 vt];have HX:=hdI x1;have b56:=b5.trans (b6.mono b5.size);have HB6:=hdI (HB4.out.trans (b56.mono HB4.out.size));have HR6:=hdI (And.intro (row_bel HR4.out.1 b56) (And.intro (row_bel HR4.out.2.2 b56) r3));have HL:=hdI (fun wz (h:Below _ _ wz)=>lwS_eq vD vU vT wD wU wT nD2 vd nU2 vu nT2 vt wd wu wt r.D r.U r.T r.k wz HW.out.2.1 HW.out.2.2.1 HW.out.2.2.2 (by have:=HSB.out;have:=HW.out.2;omega) (by have:=HSB.out;have:=HW.out.2;omega) (by have:=HSB.out;have:=HW.out.2;omega) ((s3.d.at_.below b6).below h) ((s3.u.at_.below b6).below h) ((s3.t.at_.below b6).below h) ((HW.out.1.1.below b56).below h) ((HW.out.1.2.1.below b56).below h) ((HW.out.1.2.2.below b56).below h));have HVS:=hdI (fun wz (h:Below w2.heap.size w2 wz)=>svs_any aD aU aT nD cD nU cU nT cT D U k T wz HS.out.hD HS.out.hU HS.out.hT (Nat.le_trans HS.out.mD (by decide)) (Nat.le_trans HS.out.mU (by decide)) (Nat.le_trans HS.out.mT (by decide)) (HS.out.d.below h) (HS.out.u.below h) (HS.out.t.below h) HKB.out.1 (by have:=HKB.out.2;omega));have HVR:=hdI (fun wz (h:Below _ _ wz) (k0:-9223372036854775808≤r.k) (k1:r.k<9223372036854775808)=>svs_any vD vU vT nD2 vd nU2 vu nT2 vt r.D r.U r.k r.T wz HW.out.2.1 HW.out.2.2.1 HW.out.2.2.2 (by have:=HSB.out;have:=HW.out.2;omega) (by have:=HSB.out;have:=HW.out.2;omega) (by have:=HSB.out;have:=HW.out.2;omega) ((s3.d.at_.below b6).below h) ((s3.u.at_.below b6).below h) ((s3.t.at_.below b6).below h) k0 k1);clear HC HW HSB b5 b6 b56 x1 r3 s3 HR4 HS HKB
 go_upto_region 6 with (first
  |(refine wpList_store_row rfl 32 (.tmp 9) (.tmp 35) rfl w5.heap.size #[.int .i64 r.c,.slice vD nD2 vd,.slice vU nU2 vu,.int .i64 r.k,.slice vT nT2 vt] rfl rfl 32 _ HX.out Tryz.sizeSr rfl (by simp[Value.oneCell']) ?_)
  |fail)
 clear HX;generalize (w5.alloc (.cells #[.int .i64 0,.slice none 0 0,.slice none 0 0,.int .i64 0,.slice none 0 0] 32)).setRow w5.heap.size #[.int .i64 r.c,.slice vD nD2 vd,.slice vU nU2 vu,.int .i64 r.k,.slice vT nT2 vt]=w6 at *;generalize w5.heap.size=B3 at *;try dsimp only[Act.put]
 go_cut [58] from 14 (fun v ww=>v=.bool false∧Below w6.heap.size w6 ww)
 case first=>
  have hcc:(r.c != r.c)=false:=by simp
  have p0:=cell_of_row w6 B3 0 _ _ _ HR6.out.2.2;have p1:=cell_of_row w6 B3 1 _ _ _ HR6.out.2.2;have p2:=cell_of_row w6 B3 2 _ _ _ HR6.out.2.2;have p3:=cell_of_row w6 B3 3 _ _ _ HR6.out.2.2;have p4:=cell_of_row w6 B3 4 _ _ _ HR6.out.2.2;simp at p0 p1 p2 p3 p4;have q0:=cell_of_row w6 B2 0 _ _ _ HR6.out.2.1;have q1:=cell_of_row w6 B2 1 _ _ _ HR6.out.2.1;have q2:=cell_of_row w6 B2 2 _ _ _ HR6.out.2.1;have q3:=cell_of_row w6 B2 3 _ _ _ HR6.out.2.1;have q4:=cell_of_row w6 B2 4 _ _ _ HR6.out.2.1;simp at q0 q1 q2 q3 q4;go_wp2_with fail;refine(HL.out w6 (Below.refl _ _)).mono ?_;rintro e w7 ⟨rfl,b7⟩;have x0:=cell_of_row w7 B1 0 _ _ _ (row_bel HR6.out.1 b7);have x1:=cell_of_row w7 B1 1 _ _ _ (row_bel HR6.out.1 b7);have x2:=cell_of_row w7 B1 2 _ _ _ (row_bel HR6.out.1 b7);have x3:=cell_of_row w7 B1 3 _ _ _ (row_bel HR6.out.1 b7);simp at x0 x1 x2 x3;have HB7:=hdI b7;clear p0 p1 p2 p3 p4 q0 q1 q2 q3 q4 hcc b7;go_wp2_with fail;refine(HVS.out w7 (HB6.out.trans (HB7.out.mono HB6.out.size))).mono ?_;rintro e w8 ⟨rfl,b8⟩;have HB8:=hdI (HB7.out.trans (b8.mono HB7.out.size));clear b8 x0 x1 x2 x3;by_cases hs:stB D U k T nT=true
  ·have hr:=HST.out hs;rw[HRM.out] at hr;obtain⟨h1,h2,h3,h4,h5,h6⟩:=stP_of hr;have h7:=h3.len;have p0:=cell_of_row w8 B3 0 _ _ _ (row_bel HR6.out.2.2 HB8.out);have p1:=cell_of_row w8 B3 1 _ _ _ (row_bel HR6.out.2.2 HB8.out);have p2:=cell_of_row w8 B3 2 _ _ _ (row_bel HR6.out.2.2 HB8.out);have p3:=cell_of_row w8 B3 3 _ _ _ (row_bel HR6.out.2.2 HB8.out);have p4:=cell_of_row w8 B3 4 _ _ _ (row_bel HR6.out.2.2 HB8.out);simp at p0 p1 p2 p3 p4;rw[hs];have HV:=hdI (HVR.out w8 HB8.out (by omega) (by omega));have HRR:=hdI hr;clear h1 h2 h3 h4 h5 h6 h7 hr hs;go_wp2_with fail;refine HV.out.mono ?_;rintro e w9 ⟨rfl,b9⟩;rw[HRR.out];have HB9:=hdI (HB8.out.trans (b9.mono HB8.out.size));clear HV b9;go_wp2
   go_meet
   case rel=>exact⟨rfl,HB9.out⟩
  ·rw[Bool.eq_false_iff.2 hs];clear hs;go_wp2
   go_meet
   case rel=>exact⟨rfl,HB8.out⟩
 case rest=>
  obtain⟨rfl,b9⟩:=hcut;have HB9:=hdI (HB2.out.trans ((HB6.out.trans (b9.mono HB6.out.size)).mono HB2.out.size));clear b9 HL HVS HVR HR6 HB6 HRN HRM HST HB4;have HD:=hdI (HM.out _ HB9.out);go_wp2_with fail;refine HD.out.mono ?_;rintro e w1 ⟨eD,mD,dD,eU,mU,dU,l,eT,mT,dT,kf,fa,fb,rfl,hfa,hfb,⟨⟨D1,U1,T1,hl⟩,hk⟩,b1⟩;have S1:=hl.stt;obtain⟨x1,x2,r1,r2,b2⟩:=two_box w1 26 38 #[.slice none 0 0,.slice none 0 0,.int .i64 0,.slice none 0 0] #[.int .u32 0,.int .i64 0,.int .u32 0,.int .u32 0] #[.slice eD mD dD,.slice eU mU dU,.int .i64 l,.slice eT mT dT] #[.int .u32 5,.int .i64 kf,.int .u32 fa,.int .u32 fb];have HX:=hdI (And.intro x1 x2);have HB2':=hdI (HB9.out.trans ((b1.trans (b2.mono b1.size)).mono HB9.out.size));have HR:=hdI (And.intro r1 r2);have HS:=hdI (S1.below b2);have HKB:=hdI (And.intro hk (And.intro hfa hfb));clear hl S1 x1 x2 r1 r2 b1 b2 hk hfa hfb HD HB9 HB2 HM
  go_upto_region 9 with (first
   |(refine wpList_store_row rfl 26 (.tmp 10) (.tmp 62) rfl w1.heap.size #[.slice eD mD dD,.slice eU mU dU,.int .i64 l,.slice eT mT dT] rfl rfl 26 _ HX.out.1 Tryz.sizeSt rfl (by simp[Value.oneCell']) ?_)
   |(refine wpList_store_row rfl 38 (.tmp 11) (.tmp 63) rfl (w1.heap.size+1) #[.int .u32 5,.int .i64 kf,.int .u32 fa,.int .u32 fb] rfl rfl 38 _ HX.out.2 Tryz.sizeFr rfl (by simp[Value.oneCell']) ?_)
   |fail)
  clear HX;generalize (((w1.alloc (.cells #[.slice none 0 0,.slice none 0 0,.int .i64 0,.slice none 0 0] 26)).alloc (.cells #[.int .u32 0,.int .i64 0,.int .u32 0,.int .u32 0] 38)).setRow w1.heap.size #[.slice eD mD dD,.slice eU mU dU,.int .i64 l,.slice eT mT dT]).setRow (w1.heap.size+1) #[.int .u32 5,.int .i64 kf,.int .u32 fa,.int .u32 fb]=w2 at *;generalize w1.heap.size=E1 at *;have HC:=hdI (iap_any eD eU eT mD dD mU dU mT dT D1 U1 l T1 5 kf fa fb w2 HS.out.hD HS.out.hU HS.out.hT (Nat.le_trans HS.out.mD (by decide)) (Nat.le_trans HS.out.mU (by decide)) (Nat.le_trans HS.out.mT (by decide)) HS.out.d HS.out.u HS.out.t HS.out.nl HKB.out.1.1 (by have:=HKB.out.1.2;omega) HKB.out.2.1 HKB.out.2.2);have HBW:=hdI (fun wz (h:Below w2.heap.size w2 wz)=>sap_any eD eU eT mD dD mU dU mT dT D1 U1 l T1 5 kf fa fb wz HS.out.hD HS.out.hU HS.out.hT (Nat.le_trans HS.out.mD (by decide)) (Nat.le_trans HS.out.mU (by decide)) (Nat.le_trans HS.out.mT (by decide)) (HS.out.d.below h) (HS.out.u.below h) (HS.out.t.below h) HS.out.c.1 HS.out.c.2 HKB.out.1.1 (by have:=HKB.out.1.2;omega) HKB.out.2.1 HKB.out.2.2);have HSB:=hdI (apF_len (D:=D1) (U:=U1) (k:=l) (kind:=kf) (a:=fa) (b:=fb) HS.out.hT);have HT2:=hdI (apF_T2 (D:=D1) (U:=U1) (k:=l) (kind:=kf) (a:=fa) (b:=fb) HS.out.hT);have HST:=hdI (fun h=>apF_st (D:=D1) (U:=U1) (k:=l) (T:=T1) (n:=mT) (kind:=kf) (a:=fa) (b:=fb) HS.out.hT HKB.out.2.2 h);have HVS:=hdI (fun wz (h:Below w2.heap.size w2 wz)=>svs_any eD eU eT mD dD mU dU mT dT D1 U1 l T1 wz HS.out.hD HS.out.hU HS.out.hT (Nat.le_trans HS.out.mD (by decide)) (Nat.le_trans HS.out.mU (by decide)) (Nat.le_trans HS.out.mT (by decide)) (HS.out.d.below h) (HS.out.u.below h) (HS.out.t.below h) HKB.out.1.1 (by have:=HKB.out.1.2;omega));have HVI:=hdI (fun wz (h:Below w2.heap.size w2 wz)=>ivs_any eD eU eT mD dD mU dU mT dT D1 U1 l T1 wz HS.out.hD HS.out.hU HS.out.hT (Nat.le_trans HS.out.mD (by decide)) (Nat.le_trans HS.out.mU (by decide)) (Nat.le_trans HS.out.mT (by decide)) (HS.out.d.below h) (HS.out.u.below h) (HS.out.t.below h) HS.out.nl HKB.out.1.1 (by have:=HKB.out.1.2;omega));generalize apF D1 U1 l T1 mT kf fa fb=q at *;generalize stB D1 U1 l T1 mT=sb at *;go_wp2_with (first
   |(refine wpList_load_row rfl 26 (.tmp 10) rfl E1 rfl 26 _ (0,0) _ HR.out.1 Tryz.underlying26 rfl Tryz.sizeSt ?_)
   |(refine wpList_load_row rfl 38 (.tmp 11) rfl (E1+1) rfl 38 _ (0,0) _ HR.out.2 Tryz.underlying38 rfl Tryz.sizeFr ?_)
   |fail)
  refine HC.out.mono ?_;rintro e w3 ⟨v,rfl,⟨gD,nD3,gd,gU,nU3,gu,gT,nT3,gt,rfl,s3⟩,b3⟩;obtain⟨x1,r3,b4⟩:=one_box w3 42 #[.bool false,.slice none 0 0,.slice none 0 0,.int .i64 0,.slice none 0 0] #[.bool q.ok,.slice gD nD3 gd,.slice gU nU3 gu,.int .i64 q.k,.slice gT nT3 gt];have HX:=hdI x1;have b34:=b3.trans (b4.mono b3.size);have HB4:=hdI b34;have HR4:=hdI (And.intro (row_bel HR.out.1 b34) (And.intro (row_bel HR.out.2 b34) r3));have HA:=hdI (show(At .i64 _ gD q.D∧At .i64 _ gU q.U∧At .i64 _ gT q.T)∧q.D.length=nD3∧q.U.length=nU3∧q.T.length=nT3*2 from⟨⟨s3.d.at_.below b4,s3.u.at_.below b4,s3.t.at_.below b4⟩,s3.nd,s3.nu,s3.nt⟩);clear HC s3 b3 b4 b34 x1 r3 HR HS HKB
  go_upto_region 10 with (first
   |(refine wpList_store_row rfl 42 (.tmp 12) (.tmp 66) rfl w3.heap.size #[.bool q.ok,.slice gD nD3 gd,.slice gU nU3 gu,.int .i64 q.k,.slice gT nT3 gt] rfl rfl 42 _ HX.out Tryz.sizeAr rfl (by simp[Value.oneCell']) ?_)
   |fail)
  clear HX;generalize (w3.alloc (.cells #[.bool false,.slice none 0 0,.slice none 0 0,.int .i64 0,.slice none 0 0] 42)).setRow w3.heap.size #[.bool q.ok,.slice gD nD3 gd,.slice gU nU3 gu,.int .i64 q.k,.slice gT nT3 gt]=w4 at *;generalize w3.heap.size=E2 at *;go_wp2_with (first
   |(refine wpList_load_row rfl 26 (.tmp 10) rfl E1 rfl 26 _ (0,0) _ HR4.out.1 Tryz.underlying26 rfl Tryz.sizeSt ?_)
   |(refine wpList_load_row rfl 38 (.tmp 11) rfl (E1+1) rfl 38 _ (0,0) _ HR4.out.2.1 Tryz.underlying38 rfl Tryz.sizeFr ?_)
   |fail)
  refine(HBW.out w4 HB4.out).mono ?_;rintro e w5 ⟨v,rfl,⟨hD,nD4,hd,hU,nU4,hu,hT,nT4,ht,rfl,a1,a2,a3,l1,l2,l3,_,_,_,_,_⟩,b5⟩;obtain rfl:nD4=nD3:=by have:=HA.out.2;omega
  obtain rfl:nU4=nU3:=by have:=HA.out.2;omega
  obtain rfl:nT4=nT3:=by have:=HA.out.2;omega
  obtain⟨x1,r3,b6⟩:=one_box w5 42 #[.bool false,.slice none 0 0,.slice none 0 0,.int .i64 0,.slice none 0 0] #[.bool q.ok,.slice hD nD4 hd,.slice hU nU4 hu,.int .i64 q.k,.slice hT nT4 ht];have HX:=hdI x1;have b56:=b5.trans (b6.mono b5.size);have HB6:=hdI (HB4.out.trans (b56.mono HB4.out.size));have HR6:=hdI (And.intro (row_bel HR4.out.1 b56) (And.intro (row_bel HR4.out.2.2 b56) r3));have HL:=hdI (fun wz (h:Below _ _ wz)=>lwS_eq gD gU gT hD hU hT nD4 gd nU4 gu nT4 gt hd hu ht q.D q.U q.T q.k wz l1 l2 l3 (by have:=HSB.out;omega) (by have:=HSB.out;omega) (by have:=HSB.out;omega) ((HA.out.1.1.below b56).below h) ((HA.out.1.2.1.below b56).below h) ((HA.out.1.2.2.below b56).below h) ((a1.below b6).below h) ((a2.below b6).below h) ((a3.below b6).below h));have HVA:=hdI (fun wz (h:Below _ _ wz) (k0:-9223372036854775808≤q.k) (k1:q.k<9223372036854775808)=>svs_any gD gU gT nD4 gd nU4 gu nT4 gt q.D q.U q.k q.T wz l1 l2 l3 (by have:=HSB.out;omega) (by have:=HSB.out;omega) (by have:=HSB.out;omega) ((HA.out.1.1.below b56).below h) ((HA.out.1.2.1.below b56).below h) ((HA.out.1.2.2.below b56).below h) k0 k1);have HN:=hdI (show q.n=nT4 by have:=HT2.out;omega);clear HBW HA HSB HT2 b5 b6 b56 x1 r3 HR4 a1 a2 a3 l1 l2 l3
  go_upto_region 11 with (first
   |(refine wpList_store_row rfl 42 (.tmp 13) (.tmp 69) rfl w5.heap.size #[.bool q.ok,.slice hD nD4 hd,.slice hU nU4 hu,.int .i64 q.k,.slice hT nT4 ht] rfl rfl 42 _ HX.out Tryz.sizeAr rfl (by simp[Value.oneCell']) ?_)
   |fail)
  clear HX;generalize (w5.alloc (.cells #[.bool false,.slice none 0 0,.slice none 0 0,.int .i64 0,.slice none 0 0] 42)).setRow w5.heap.size #[.bool q.ok,.slice hD nD4 hd,.slice hU nU4 hu,.int .i64 q.k,.slice hT nT4 ht]=w6 at *;generalize w5.heap.size=E3 at *;generalize hok:q.ok=ok at *;cases ok with
  |true=>
   have hr:=HST.out rfl;rw[HN.out] at hr;obtain⟨h1,h2,h3,h4,h5,h6⟩:=stP_of hr;have h7:=h3.len;have HQK:=hdI (show -9223372036854775808≤q.k∧q.k<9223372036854775808 by omega);have HRR:=hdI hr;clear h1 h2 h3 h4 h5 h6 h7 hr HST hok;refine wp_region_any (by kernel_rfl) ?_;refine wpAny_slotsV (fun _ _ _=>True) (frame:=(fun (a b c d e f g h i j k l m n o p q r s u v w x y z A B C D E F G H I J K L M N O P Q R S T U V W X Y Z a0 a1 a2 a3 a4 a5 a6 a7 a8 a9 b0 b1 b2 b3 b4 b5 b6 b7:Value)=>fun (t:Nat→Value)=>({ tmps:=List.toArray [a,b,c,d,t 29,e,f,g,h,i,j,k,l,m,n,o,p,q,r,s,u,v,w,x,y,z,A,B,C,D,E,F,G,H,I,J,K,L,M,N,O,P,Q,R,S,T,U,V,W,X,Y,Z,a0,a1,a2,a3,a4,a5,a6,a7,a8,a9,b0,b1,b2,b3,b4,b5,b6,b7,t 0,t 1,t 2,t 3,t 4,t 5,t 6,t 7,t 8,t 9,t 10,t 11,t 12,t 13,t 14,t 15,t 16,t 17,t 18,t 19,t 20,t 21,t 22,t 23,t 24,t 25,t 26,t 27,t 28],defers:=[] }:Act)) _ _ _ _ _ _ _ _ _ _ _ _ _ _ _ _ _ _ _ _ _ _ _ _ _ _ _ _ _ _ _ _ _ _ _ _ _ _ _ _ _ _ _ _ _ _ _ _ _ _ _ _ _ _ _ _ _ _ _ _ _ _ _ _ _ _ _ _ _)
    (Ext:=fun L u w'=>Below w6.heap.size w6 w') (Good:=fun i L w' v=>if i=0 then v=.pointer (some ⟨E2,0,none⟩) else if i=1 then v=.bool true else if i=2 then v=.pointer (some ⟨E3,0,none⟩) else if i=3 then v=.bool true else if i=4 then v=.bool true else if i=5 then v=.bool true else if i=6 then v=.pointer (some ⟨E2,1,none⟩) else if i=7 then v=.agg #[.slice gD nD4 gd,.slice gU nU4 gu,.int .i64 q.k,.slice gT nT4 gt] else if i=8 then v=.pointer (some ⟨E3,1,none⟩) else if i=9 then v=.agg #[.slice hD nD4 hd,.slice hU nU4 hu,.int .i64 q.k,.slice hT nT4 ht] else if i=10 then v=.bool true else if i=11 then v=.bool true else if i=12 then v=.bool true else if i=13 then v=.pointer (some ⟨E3,0,none⟩) else if i=14 then v=.bool true else if i=15 then v=.bool false else if i=16 then v=.bool false else if i=17 then v=.pointer (some ⟨E2,1,none⟩) else if i=18 then v=.agg #[.slice gD nD4 gd,.slice gU nU4 gu,.int .i64 q.k,.slice gT nT4 gt] else if i=19 then v=.bool true else if i=20 then v=.bool true else if i=21 then v=.bool true else if i=22 then v=.bool true else if i=23 then v=.agg #[.slice eD mD dD,.slice eU mU dU,.int .i64 l,.slice eT mT dT] else if i=24 then v=.bool sb else if i=25 then v=.agg #[.slice eD mD dD,.slice eU mU dU,.int .i64 l,.slice eT mT dT] else if i=26 then v=.bool sb else if i=27 then v=.bool true else if i=28 then v=.bool true else if i=29 then v=.bool true else True) ?hstab (by kernel_rfl) ?hop ?hdone _ _ ((fun (x0 x1 x2 x3 x4 x5 x6 x7 x8 x9 x10 x11 x12 x13 x14 x15 x16 x17 x18 x19 x20 x21 x22 x23 x24 x25 x26 x27 x28 x29:Value)=>fun (i:Nat)=>if i=0 then x0 else if i=1 then x1 else if i=2 then x2 else if i=3 then x3 else if i=4 then x4 else if i=5 then x5 else if i=6 then x6 else if i=7 then x7 else if i=8 then x8 else if i=9 then x9 else if i=10 then x10 else if i=11 then x11 else if i=12 then x12 else if i=13 then x13 else if i=14 then x14 else if i=15 then x15 else if i=16 then x16 else if i=17 then x17 else if i=18 then x18 else if i=19 then x19 else if i=20 then x20 else if i=21 then x21 else if i=22 then x22 else if i=23 then x23 else if i=24 then x24 else if i=25 then x25 else if i=26 then x26 else if i=27 then x27 else if i=28 then x28 else if i=29 then x29 else undef) _ _ _ _ _ _ _ _ _ _ _ _ _ _ _ _ _ _ _ _ _ _ _ _ _ _ _ _ _ _) _ (by simp) ?ext ?start (by simp)
   case start=>intro i hi h;exact absurd h (by rw[Array.getD_eq_getD_getElem?,Array.getElem?_replicate];split<;>simp)
   case ext=>exact(Below.refl _ _).drew
   case hstab=>intro j L w9 w' i v hM hij hLi h;exact h
   case hop=>
    intro i o L t w' ho hLi hx hdep K hK;have hi:i<30:=(Array.getElem?_eq_some_iff.1 ho).1;have ra:=row_bel HR6.out.2.1 hx;have ra0:=cell_of_row w' E2 0 _ _ _ ra;have ra1:=cell_of_row w' E2 1 _ _ _ ra;have ra2:=cell_of_row w' E2 2 _ _ _ ra;have ra3:=cell_of_row w' E2 3 _ _ _ ra;have ra4:=cell_of_row w' E2 4 _ _ _ ra;simp at ra0 ra1 ra2 ra3 ra4;have rb:=row_bel HR6.out.2.2 hx;have rb0:=cell_of_row w' E3 0 _ _ _ rb;have rb1:=cell_of_row w' E3 1 _ _ _ rb;have rb2:=cell_of_row w' E3 2 _ _ _ rb;have rb3:=cell_of_row w' E3 3 _ _ _ rb;have rb4:=cell_of_row w' E3 4 _ _ _ rb;simp at rb0 rb1 rb2 rb3 rb4;have rc:=row_bel HR6.out.1 hx;have rc0:=cell_of_row w' E1 0 _ _ _ rc;have rc1:=cell_of_row w' E1 1 _ _ _ rc;have rc2:=cell_of_row w' E1 2 _ _ _ rc;have rc3:=cell_of_row w' E1 3 _ _ _ rc;simp at rc0 rc1 rc2 rc3;clear ra rb rc;obtain rfl|rfl|rfl|rfl|rfl|rfl|rfl|rfl|rfl|rfl|rfl|rfl|rfl|rfl|rfl|rfl|rfl|rfl|rfl|rfl|rfl|rfl|rfl|rfl|rfl|rfl|rfl|rfl|rfl|rfl:i=0∨i=1∨i=2∨i=3∨i=4∨i=5∨i=6∨i=7∨i=8∨i=9∨i=10∨i=11∨i=12∨i=13∨i=14∨i=15∨i=16∨i=17∨i=18∨i=19∨i=20∨i=21∨i=22∨i=23∨i=24∨i=25∨i=26∨i=27∨i=28∨i=29:=by omega
    all_goals(simp at ho;subst ho)
    all_goals try(have hK':=hK w' _ rfl hx trivial;clear hK;simp[Region.binds] at hdep;(first|rw[if_pos (by simp[Region.wanted,yielded,hdep])]|rw[if_neg (by simp[Region.wanted,yielded,hdep])]);(try go_simp);simpa[upd,hdep,Act.put] using hK';done)
    ·have d7:t 7=.agg #[.slice gD nD4 gd,.slice gU nU4 gu,.int .i64 q.k,.slice gT nT4 gt]:=by simpa using(hdep ⟨7,.data⟩ (by simp) rfl).2
     have d9:t 9=.agg #[.slice hD nD4 hd,.slice hU nU4 hu,.int .i64 q.k,.slice hT nT4 ht]:=by simpa using(hdep ⟨9,.data⟩ (by simp) rfl).2
     have d5:t 5=.bool true:=by simpa using(hdep ⟨5,.guard⟩ (by simp) rfl).2
     clear hdep;have A:=HL.out w' hx;have hK':∀ ww,Below w'.heap.size w' ww→K _ ww:=fun ww hb=>hK ww (.bool true) (by simp) (hx.trans (hb.mono hx.size)) trivial
     clear hK ra0 ra1 ra2 ra3 ra4 rb0 rb1 rb2 rb3 rb4 rc0 rc1 rc2 rc3;rw[if_pos (by simp[Region.wanted,yielded,d5])];go_simp;try simp only[d7,d9]
     refine A.mono ?_;rintro e w9 ⟨rfl,hb9⟩;have hK2:=hK' w9 hb9;clear hK' A hb9;go_simp;simpa[upd,d7,d9,d5] using hK2
    ·have d18:t 18=.agg #[.slice gD nD4 gd,.slice gU nU4 gu,.int .i64 q.k,.slice gT nT4 gt]:=by simpa using(hdep ⟨18,.data⟩ (by simp) rfl).2
     have d16:t 16=.bool false:=by simpa using(hdep ⟨16,.guard⟩ (by simp) rfl).2
     clear hdep;have A:=HVA.out w' hx HQK.out.1 HQK.out.2;rw[HRR.out] at A;have hK':∀ ww,Below w'.heap.size w' ww→K _ ww:=fun ww hb=>hK ww (.bool true) (by simp) (hx.trans (hb.mono hx.size)) trivial
     clear hK ra0 ra1 ra2 ra3 ra4 rb0 rb1 rb2 rb3 rb4 rc0 rc1 rc2 rc3;rw[if_pos (by simp[Region.wanted,yielded,d16])];go_simp;try simp only[d18]
     refine A.mono ?_;rintro e w9 ⟨rfl,hb9⟩;have hK2:=hK' w9 hb9;clear hK' A hb9;go_simp;simpa[upd,d18,d16] using hK2
    ·have d23:t 23=.agg #[.slice eD mD dD,.slice eU mU dU,.int .i64 l,.slice eT mT dT]:=by simpa using(hdep ⟨23,.data⟩ (by simp) rfl).2
     have d22:t 22=.bool true:=by simpa using(hdep ⟨22,.guard⟩ (by simp) rfl).2
     clear hdep;have A:=HVI.out w' (HB6.out.trans (hx.mono HB6.out.size));have hK':∀ ww,Below w'.heap.size w' ww→K _ ww:=fun ww hb=>hK ww (.bool sb) (by simp) (hx.trans (hb.mono hx.size)) trivial
     clear hK ra0 ra1 ra2 ra3 ra4 rb0 rb1 rb2 rb3 rb4 rc0 rc1 rc2 rc3;rw[if_pos (by simp[Region.wanted,yielded,d22])];go_simp;try simp only[d23]
     refine A.mono ?_;rintro e w9 ⟨rfl,hb9⟩;have hK2:=hK' w9 hb9;clear hK' A hb9;go_simp;simpa[upd,d23,d22] using hK2
    ·have d25:t 25=.agg #[.slice eD mD dD,.slice eU mU dU,.int .i64 l,.slice eT mT dT]:=by simpa using(hdep ⟨25,.data⟩ (by simp) rfl).2
     have d22:t 22=.bool true:=by simpa using(hdep ⟨22,.guard⟩ (by simp) rfl).2
     clear hdep;have A:=HVS.out w' (HB6.out.trans (hx.mono HB6.out.size));have hK':∀ ww,Below w'.heap.size w' ww→K _ ww:=fun ww hb=>hK ww (.bool sb) (by simp) (hx.trans (hb.mono hx.size)) trivial
     clear hK ra0 ra1 ra2 ra3 ra4 rb0 rb1 rb2 rb3 rb4 rc0 rc1 rc2 rc3;rw[if_pos (by simp[Region.wanted,yielded,d22])];go_simp;try simp only[d25]
     refine A.mono ?_;rintro e w9 ⟨rfl,hb9⟩;have hK2:=hK' w9 hb9;clear hK' A hb9;go_simp;simpa[upd,d25,d22] using hK2
   case hdone=>
    intro L t w' hx hg;have d29:t 29=.bool true:=by simpa using hg 29 (by decide)
    have HF:=hdI (HB2'.out.trans ((HB6.out.trans (hx.mono HB6.out.size)).mono HB2'.out.size));clear hg hx;simp only[d29];go_wp2
    go_ret
    exact⟨rfl,HF.out⟩
  |false=>
   clear HST hok;refine wp_region_any (by kernel_rfl) ?_;refine wpAny_slotsV (fun _ _ _=>True) (frame:=(fun (a b c d e f g h i j k l m n o p q r s u v w x y z A B C D E F G H I J K L M N O P Q R S T U V W X Y Z a0 a1 a2 a3 a4 a5 a6 a7 a8 a9 b0 b1 b2 b3 b4 b5 b6 b7:Value)=>fun (t:Nat→Value)=>({ tmps:=List.toArray [a,b,c,d,t 29,e,f,g,h,i,j,k,l,m,n,o,p,q,r,s,u,v,w,x,y,z,A,B,C,D,E,F,G,H,I,J,K,L,M,N,O,P,Q,R,S,T,U,V,W,X,Y,Z,a0,a1,a2,a3,a4,a5,a6,a7,a8,a9,b0,b1,b2,b3,b4,b5,b6,b7,t 0,t 1,t 2,t 3,t 4,t 5,t 6,t 7,t 8,t 9,t 10,t 11,t 12,t 13,t 14,t 15,t 16,t 17,t 18,t 19,t 20,t 21,t 22,t 23,t 24,t 25,t 26,t 27,t 28],defers:=[] }:Act)) _ _ _ _ _ _ _ _ _ _ _ _ _ _ _ _ _ _ _ _ _ _ _ _ _ _ _ _ _ _ _ _ _ _ _ _ _ _ _ _ _ _ _ _ _ _ _ _ _ _ _ _ _ _ _ _ _ _ _ _ _ _ _ _ _ _ _ _ _)
    (Ext:=fun L u w'=>Below w6.heap.size w6 w') (Good:=fun i L w' v=>if i=0 then v=.pointer (some ⟨E2,0,none⟩) else if i=1 then v=.bool false else if i=2 then v=.pointer (some ⟨E3,0,none⟩) else if i=3 then v=.bool false else if i=4 then v=.bool true else if i=5 then v=.bool true else if i=6 then v=.pointer (some ⟨E2,1,none⟩) else if i=7 then v=.agg #[.slice gD nD4 gd,.slice gU nU4 gu,.int .i64 q.k,.slice gT nT4 gt] else if i=8 then v=.pointer (some ⟨E3,1,none⟩) else if i=9 then v=.agg #[.slice hD nD4 hd,.slice hU nU4 hu,.int .i64 q.k,.slice hT nT4 ht] else if i=10 then v=.bool true else if i=11 then v=.bool true else if i=12 then v=.bool true else if i=13 then v=.pointer (some ⟨E3,0,none⟩) else if i=14 then v=.bool false else if i=15 then v=.bool true else if i=16 then v=.bool true else if i=17 then v=undef else if i=18 then v=undef else if i=19 then v=undef else if i=20 then v=.bool true else if i=21 then v=.bool true else if i=22 then v=.bool true else if i=23 then v=.agg #[.slice eD mD dD,.slice eU mU dU,.int .i64 l,.slice eT mT dT] else if i=24 then v=.bool sb else if i=25 then v=.agg #[.slice eD mD dD,.slice eU mU dU,.int .i64 l,.slice eT mT dT] else if i=26 then v=.bool sb else if i=27 then v=.bool true else if i=28 then v=.bool true else if i=29 then v=.bool true else True) ?hstab (by kernel_rfl) ?hop ?hdone _ _ ((fun (x0 x1 x2 x3 x4 x5 x6 x7 x8 x9 x10 x11 x12 x13 x14 x15 x16 x17 x18 x19 x20 x21 x22 x23 x24 x25 x26 x27 x28 x29:Value)=>fun (i:Nat)=>if i=0 then x0 else if i=1 then x1 else if i=2 then x2 else if i=3 then x3 else if i=4 then x4 else if i=5 then x5 else if i=6 then x6 else if i=7 then x7 else if i=8 then x8 else if i=9 then x9 else if i=10 then x10 else if i=11 then x11 else if i=12 then x12 else if i=13 then x13 else if i=14 then x14 else if i=15 then x15 else if i=16 then x16 else if i=17 then x17 else if i=18 then x18 else if i=19 then x19 else if i=20 then x20 else if i=21 then x21 else if i=22 then x22 else if i=23 then x23 else if i=24 then x24 else if i=25 then x25 else if i=26 then x26 else if i=27 then x27 else if i=28 then x28 else if i=29 then x29 else undef) _ _ _ _ _ _ _ _ _ _ _ _ _ _ _ _ _ _ _ _ _ _ _ _ _ _ _ _ _ _) _ (by simp) ?ext ?start (by simp)
   case start=>intro i hi h;exact absurd h (by rw[Array.getD_eq_getD_getElem?,Array.getElem?_replicate];split<;>simp)
   case ext=>exact(Below.refl _ _).drew
   case hstab=>intro j L w9 w' i v hM hij hLi h;exact h
   case hop=>
    intro i o L t w' ho hLi hx hdep K hK;have hi:i<30:=(Array.getElem?_eq_some_iff.1 ho).1;have ra:=row_bel HR6.out.2.1 hx;have ra0:=cell_of_row w' E2 0 _ _ _ ra;have ra1:=cell_of_row w' E2 1 _ _ _ ra;have ra2:=cell_of_row w' E2 2 _ _ _ ra;have ra3:=cell_of_row w' E2 3 _ _ _ ra;have ra4:=cell_of_row w' E2 4 _ _ _ ra;simp at ra0 ra1 ra2 ra3 ra4;have rb:=row_bel HR6.out.2.2 hx;have rb0:=cell_of_row w' E3 0 _ _ _ rb;have rb1:=cell_of_row w' E3 1 _ _ _ rb;have rb2:=cell_of_row w' E3 2 _ _ _ rb;have rb3:=cell_of_row w' E3 3 _ _ _ rb;have rb4:=cell_of_row w' E3 4 _ _ _ rb;simp at rb0 rb1 rb2 rb3 rb4;have rc:=row_bel HR6.out.1 hx;have rc0:=cell_of_row w' E1 0 _ _ _ rc;have rc1:=cell_of_row w' E1 1 _ _ _ rc;have rc2:=cell_of_row w' E1 2 _ _ _ rc;have rc3:=cell_of_row w' E1 3 _ _ _ rc;simp at rc0 rc1 rc2 rc3;clear ra rb rc;obtain rfl|rfl|rfl|rfl|rfl|rfl|rfl|rfl|rfl|rfl|rfl|rfl|rfl|rfl|rfl|rfl|rfl|rfl|rfl|rfl|rfl|rfl|rfl|rfl|rfl|rfl|rfl|rfl|rfl|rfl:i=0∨i=1∨i=2∨i=3∨i=4∨i=5∨i=6∨i=7∨i=8∨i=9∨i=10∨i=11∨i=12∨i=13∨i=14∨i=15∨i=16∨i=17∨i=18∨i=19∨i=20∨i=21∨i=22∨i=23∨i=24∨i=25∨i=26∨i=27∨i=28∨i=29:=by omega
    all_goals(simp at ho;subst ho)
    all_goals try(have hK':=hK w' _ rfl hx trivial;clear hK;simp[Region.binds] at hdep;(first|rw[if_pos (by simp[Region.wanted,yielded,hdep])]|rw[if_neg (by simp[Region.wanted,yielded,hdep])]);(try go_simp);simpa[upd,hdep,Act.put] using hK';done)
    ·have d7:t 7=.agg #[.slice gD nD4 gd,.slice gU nU4 gu,.int .i64 q.k,.slice gT nT4 gt]:=by simpa using(hdep ⟨7,.data⟩ (by simp) rfl).2
     have d9:t 9=.agg #[.slice hD nD4 hd,.slice hU nU4 hu,.int .i64 q.k,.slice hT nT4 ht]:=by simpa using(hdep ⟨9,.data⟩ (by simp) rfl).2
     have d5:t 5=.bool true:=by simpa using(hdep ⟨5,.guard⟩ (by simp) rfl).2
     clear hdep;have A:=HL.out w' hx;have hK':∀ ww,Below w'.heap.size w' ww→K _ ww:=fun ww hb=>hK ww (.bool true) (by simp) (hx.trans (hb.mono hx.size)) trivial
     clear hK ra0 ra1 ra2 ra3 ra4 rb0 rb1 rb2 rb3 rb4 rc0 rc1 rc2 rc3;rw[if_pos (by simp[Region.wanted,yielded,d5])];go_simp;try simp only[d7,d9]
     refine A.mono ?_;rintro e w9 ⟨rfl,hb9⟩;have hK2:=hK' w9 hb9;clear hK' A hb9;go_simp;simpa[upd,d7,d9,d5] using hK2
    ·have d16:t 16=.bool true:=by simpa using(hdep ⟨16,.guard⟩ (by simp) rfl).2
     clear hdep;have hK':=hK w' undef (by simp) hx trivial;clear hK ra0 ra1 ra2 ra3 ra4 rb0 rb1 rb2 rb3 rb4 rc0 rc1 rc2 rc3;rw[if_neg (by simp[Region.wanted,yielded,d16])];simpa[upd,Act.put] using hK'
    ·have d16:t 16=.bool true:=by simpa using(hdep ⟨16,.guard⟩ (by simp) rfl).2
     clear hdep;have hK':=hK w' undef (by simp) hx trivial;clear hK ra0 ra1 ra2 ra3 ra4 rb0 rb1 rb2 rb3 rb4 rc0 rc1 rc2 rc3;rw[if_neg (by simp[Region.wanted,yielded,d16])];simpa[upd,Act.put] using hK'
    ·have d16:t 16=.bool true:=by simpa using(hdep ⟨16,.guard⟩ (by simp) rfl).2
     clear hdep;have hK':=hK w' undef (by simp) hx trivial;clear hK ra0 ra1 ra2 ra3 ra4 rb0 rb1 rb2 rb3 rb4 rc0 rc1 rc2 rc3;rw[if_neg (by simp[Region.wanted,yielded,d16])];simpa[upd,Act.put] using hK'
    ·have d23:t 23=.agg #[.slice eD mD dD,.slice eU mU dU,.int .i64 l,.slice eT mT dT]:=by simpa using(hdep ⟨23,.data⟩ (by simp) rfl).2
     have d22:t 22=.bool true:=by simpa using(hdep ⟨22,.guard⟩ (by simp) rfl).2
     clear hdep;have A:=HVI.out w' (HB6.out.trans (hx.mono HB6.out.size));have hK':∀ ww,Below w'.heap.size w' ww→K _ ww:=fun ww hb=>hK ww (.bool sb) (by simp) (hx.trans (hb.mono hx.size)) trivial
     clear hK ra0 ra1 ra2 ra3 ra4 rb0 rb1 rb2 rb3 rb4 rc0 rc1 rc2 rc3;rw[if_pos (by simp[Region.wanted,yielded,d22])];go_simp;try simp only[d23]
     refine A.mono ?_;rintro e w9 ⟨rfl,hb9⟩;have hK2:=hK' w9 hb9;clear hK' A hb9;go_simp;simpa[upd,d23,d22] using hK2
    ·have d25:t 25=.agg #[.slice eD mD dD,.slice eU mU dU,.int .i64 l,.slice eT mT dT]:=by simpa using(hdep ⟨25,.data⟩ (by simp) rfl).2
     have d22:t 22=.bool true:=by simpa using(hdep ⟨22,.guard⟩ (by simp) rfl).2
     clear hdep;have A:=HVS.out w' (HB6.out.trans (hx.mono HB6.out.size));have hK':∀ ww,Below w'.heap.size w' ww→K _ ww:=fun ww hb=>hK ww (.bool sb) (by simp) (hx.trans (hb.mono hx.size)) trivial
     clear hK ra0 ra1 ra2 ra3 ra4 rb0 rb1 rb2 rb3 rb4 rc0 rc1 rc2 rc3;rw[if_pos (by simp[Region.wanted,yielded,d22])];go_simp;try simp only[d25]
     refine A.mono ?_;rintro e w9 ⟨rfl,hb9⟩;have hK2:=hK' w9 hb9;clear hK' A hb9;go_simp;simpa[upd,d25,d22] using hK2
   case hdone=>
    intro L t w' hx hg;have d29:t 29=.bool true:=by simpa using hg 29 (by decide)
    have HF:=hdI (HB2'.out.trans ((HB6.out.trans (hx.mono HB6.out.size)).mono HB2'.out.size));clear hg hx;simp only[d29];go_wp2
    go_ret
    exact⟨rfl,HF.out⟩
end Go.Proofs.YtncomnkdlpoelaaGreatDoor
