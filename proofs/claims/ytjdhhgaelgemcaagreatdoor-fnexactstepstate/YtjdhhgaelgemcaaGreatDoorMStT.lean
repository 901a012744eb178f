import Derived.Test.YtjdhhgaelgemcaaGreatDoorMCgS
import Derived.Test.YtjdhhgaelgemcaaGreatDoorStQ
import Derived.Test.YtjdhhgaelgemcaaGreatDoorMSvC
import Derived.Test.YtjdhhgaelgemcaaGreatDoorMEqSt
import Derived.Test.YtjdhhgaelgemcaaGreatDoorMEqB
import Derived.Test.YtjdhhgaelgemcaaGreatDoorMSvF
import Derived.Deep.Cut
namespace Go.Proofs.YtjdhhgaelgemcaaGreatDoor
open Go.ChangeShapes Go.WideShapes Go.ChangeAt Go.RowKit
set_option linter.unusedVariables false
theorem ErrIn.below {w w':World} (h:ErrIn w) (b:Below w.heap.size w w'):ErrIn w':=by
 have hlt:0<w.heap.size:=block_lt_of_cell (a:=⟨0,0,none⟩) h;unfold ErrIn at h ⊢;rw[b.cell (p:=⟨0,0,none⟩) hlt];exact h
theorem BkV.low {H B g:Nat} {w:World} {d u:List Int} {v:Value} {D U:List Int} {k:Int} {T:List Int} {n:Nat} (h:BkV H B g w d u v D U k T n):H≤w.heap.size:=Nat.le_trans h.hHB h.hBw
theorem opR_1 {D U:List Int} {k:Int} {T:List Int} {n:Nat} {ks tk:List Int} {now N:Int}:opR D U k T n ks 1 tk now N=if tapC D U ks tk now=1 then ⟨1,D,withS U (tkS tk).toNat,k,T++[tkS tk,now],n+1⟩ else ⟨tapC D U ks tk now,D,U,k,T,n⟩:=by unfold opR;rw[if_pos rfl]
set_option maxRecDepth 100000 in
set_option maxHeartbeats 4000000 in
theorem btp_any {H B g:Nat} {w:World} {d u:List Int} {v:Value} {D U:List Int} {k:Int} {T:List Int} {n:Nat} (h:BkV H B g w d u v D U k T n) (bp op cp:Nat) (ks:List Int) (ta:Option Addr) (tn tc:Nat) (tk:List Int) (kind now N:Int) (hk:ks.length=32) (hp:PtA w bp op ks) (zk:Byte ks) (ht:tk.length=tn) (mt:tn≤1048576) (hct:tn≤tc) (hat:At .u8 w ta tk) (zt:Byte tk) (hT:TabIn w) (hV:1<w.heap.size) (hE:ErrIn w) :
  Calls Tryz.prog 49 #[.pointer (some ⟨g,0,none⟩),.slice (some ⟨bp,op,none⟩) 32 cp,.agg #[.int .i64 kind,.slice ta tn tc,.int .i64 now,.int .i64 N]] w (BkP H B g w (opR D U k T n ks 1 tk now N)):=by
 have HR0:Hid ((w.alloc (.cells #[.int .i64 kind,.slice ta tn tc,.int .i64 now,.int .i64 N] 39)).heap[w.heap.size]?=some (.cells #[.int .i64 kind,.slice ta tn tc,.int .i64 now,.int .i64 N] 39 (0,0))):=heap_alloc_new w _;have HW:Hid (Below w.heap.size w (w.alloc (.cells #[.int .i64 kind,.slice ta tn tc,.int .i64 now,.int .i64 N] 39))):=(Below.refl _ _).alloc (Nat.le_refl _) _;have HB:=hid_ofS (h.below HW.out);have HH:Hid (H≤w.heap.size):=h.low;have HC:=hid_ofS (adm_any HB.out bp op cp ks ta tn tc tk kind now N hk (hp.below HW.out) zk ht mt hct (hat.below HW.out) zt (tab_keepV hT hV HW.out) (Nat.lt_of_lt_of_le hV HW.out.size));have HE:=hid_ofS (hE.below HW.out);have HOZ:Hid ((Tryz.prog.info? 39).map (·.size)=some 4):=by show _=_;kernel_rfl
 have HT1:Hid (tapC D U ks tk now=1→∃ s m:Nat,tkS tk=s∧now=m∧s<256∧m≤4294967295∧tkB tk=true):=tapC_one zt;have HOP:=hid_ofS (opR_1 (D:=D) (U:=U) (k:=k) (T:=T) (n:=n) (ks:=ks) (tk:=tk) (now:=now) (N:=N));clear h hk hp zk ht hat zt hT hV hE mt hct;go_enter Tryz.func49,Tryz.ntmps49
 go_upto_region 1 with fail
 generalize w.alloc (.cells #[.int .i64 kind,.slice ta tn tc,.int .i64 now,.int .i64 N] 39)=w0 at *;go_wp2_with (first
  |(refine wpList_load_row rfl 39 (.tmp 5) rfl w.heap.size rfl 39 _ (0,0) _ HR0.out Tryz.underlying39 rfl HOZ.out ?_)
  |fail)
 refine HC.out.mono ?_;rintro e w1 ⟨x,y,rfl,hb1,hxy⟩;have HB1:=hid_ofS (HB.out.below hb1);have HW1:Hid (Below w.heap.size w w1):=HW.out.trans (hb1.mono HW.out.size);have HE1:=hid_ofS (HE.out.below hb1);have HR1:Hid (w1.heap[w.heap.size]?=some (.cells #[.int .i64 kind,.slice ta tn tc,.int .i64 now,.int .i64 N] 39 (0,0))):=by show _=_;rw[hb1.block _ (Array.getElem?_eq_some_iff.1 HR0.out).1];exact HR0.out
 clear HC HB HW HE HR0 hb1;rcases hxy with⟨hc,rfl,rfl⟩|⟨hc,rfl⟩
 ·obtain⟨s,m,hs,hm,hs2,hm2,-⟩:=HT1.out hc;have HF0:Hid (opR D U k T n ks 1 tk now N=⟨1,D,withS U s,k,T++[(s:Int),now],n+1⟩):=by show _=_;rw[HOP.out,if_pos hc,hs];rfl
  have o2:w1.cell? ⟨w.heap.size,2,none⟩=some (.int .i64 now):=by rw[cell_of_row w1 _ 2 _ _ _ HR1.out];rfl
  rw[hs];clear hc HT1 HOP HR1 hs hm hm2 HE1;go_wp2_with fail;refine(admit_any (H:=H) s now hs2 HB1.out.bk HB1.out.sd HB1.out.su HB1.out.tv HB1.out.hn HB1.out.hH HB1.out.hHB HB1.out.ne HB1.out.hBw).mono ?_;rintro e w2 ⟨rfl,hb2,u',v',r1,r2,r3,r4⟩;have HF:Hid (BkP H B g w ⟨1,D,withS U s,k,T++[(s:Int),now],n+1⟩ (.returned (.int .i64 1)) w2):=⟨rfl,(HW1.out.mono HH.out).trans hb2,_,_,_,r1,HB1.out.sd,r2.congr (fun x hx=>withS_mem hx),r3,r4⟩
  clear hb2 r1 r2 r3 r4 HB1 o2;go_wp2
  go_ret
  rw[HF0.out];exact HF.out
 ·have HF0:Hid (opR D U k T n ks 1 tk now N=⟨tapC D U ks tk now,D,U,k,T,n⟩):=by show _=_;rw[HOP.out,if_neg hc]
  clear hc HT1 HOP HR1;generalize tapC D U ks tk now=c at *;go_wp2_with fail;refine(cod_any c w1 HE1.out).mono ?_;rintro e w2 ⟨rfl,hb2⟩;have HF:=hid_ofS (((HB1.out.below hb2).same c).from (w:=w) ((HW1.out.trans (hb2.mono HW1.out.size)).mono HH.out));clear hb2 HB1 HE1;go_wp2
  go_ret
  rw[HF0.out];exact HF.out
set_option maxRecDepth 100000 in
set_option maxHeartbeats 4000000 in
theorem bst_any {H B g:Nat} {w:World} {d u:List Int} {v:Value} {D U:List Int} {k:Int} {T:List Int} {n:Nat} (h:BkV H B g w d u v D U k T n) (bp op cp:Nat) (ks:List Int) (ta:Option Addr) (tn tc:Nat) (tk:List Int) (kind now N:Int) (hk:ks.length=32) (hp:PtA w bp op ks) (zk:Byte ks) (ht:tk.length=tn) (mt:tn≤1048576) (hct:tn≤tc) (hat:At .u8 w ta tk) (zt:Byte tk) (hT:TabIn w) (hV:1<w.heap.size) (hE:ErrIn w) :
  Calls Tryz.prog 31 #[.pointer (some ⟨g,0,none⟩),.slice (some ⟨bp,op,none⟩) 32 cp,.agg #[.int .i64 kind,.slice ta tn tc,.int .i64 now,.int .i64 N]] w (BkP H B g w (opR D U k T n ks kind tk now N)):=by
 have HR0:Hid ((w.alloc (.cells #[.int .i64 kind,.slice ta tn tc,.int .i64 now,.int .i64 N] 39)).heap[w.heap.size]?=some (.cells #[.int .i64 kind,.slice ta tn tc,.int .i64 now,.int .i64 N] 39 (0,0))):=heap_alloc_new w _;have HWW:Hid (Below w.heap.size w (w.alloc (.cells #[.int .i64 kind,.slice ta tn tc,.int .i64 now,.int .i64 N] 39))):=(Below.refl _ _).alloc (Nat.le_refl _) _;have HW:Hid (Below H w (w.alloc (.cells #[.int .i64 kind,.slice ta tn tc,.int .i64 now,.int .i64 N] 39))):=HWW.out.mono h.low;have HB:=hid_ofS (h.below HWW.out);have HAT:Hid (∀ kk,Calls Tryz.prog 49 #[.pointer (some ⟨g,0,none⟩),.slice (some ⟨bp,op,none⟩) 32 cp,.agg #[.int .i64 kk,.slice ta tn tc,.int .i64 now,.int .i64 N]] (w.alloc (.cells #[.int .i64 kind,.slice ta tn tc,.int .i64 now,.int .i64 N] 39)) (BkP H B g (w.alloc (.cells #[.int .i64 kind,.slice ta tn tc,.int .i64 now,.int .i64 N] 39)) (opR D U k T n ks 1 tk now N))):=fun kk=>
  btp_any HB.out bp op cp ks ta tn tc tk kk now N hk (hp.below HWW.out) zk ht mt hct (hat.below HWW.out) zt (tab_keepV hT hV HWW.out) (Nat.lt_of_lt_of_le hV HWW.out.size) (hE.below HWW.out)
 have HOZ:Hid ((Tryz.prog.info? 39).map (·.size)=some 4):=by show _=_;kernel_rfl
 have HO5:Hid (opR D U k T n ks 5 tk now N=⟨9,D,U,k,T,n⟩):=by show _=_;unfold opR;rw[if_neg (by decide),if_neg (by decide),if_neg (by decide),if_neg (by decide),if_pos rfl]
 have HO6:Hid (¬ kind=1→¬ kind=2→¬ kind=3→¬ kind=4→¬ kind=5→opR D U k T n ks kind tk now N=⟨10,D,U,k,T,n⟩):=by
  intro a b c d e;unfold opR;rw[if_neg a,if_neg b,if_neg c,if_neg d,if_neg e]
 clear h hk hp zk ht hat zt hT hV hE mt hct HWW;go_enter Tryz.func31,Tryz.ntmps31
 go_upto_region 1 with fail
 generalize w.alloc (.cells #[.int .i64 kind,.slice ta tn tc,.int .i64 now,.int .i64 N] 39)=w0 at *;have o0:w0.cell? ⟨w.heap.size,0,none⟩=some (.int .i64 kind):=by rw[cell_of_row w0 _ 0 _ _ _ HR0.out];rfl
 have o3:w0.cell? ⟨w.heap.size,3,none⟩=some (.int .i64 N):=by rw[cell_of_row w0 _ 3 _ _ _ HR0.out];rfl
 by_cases k1:kind=1
 ·subst k1;have HC:=hid_ofS (HAT.out 1);clear HB HAT o3;go_wp2_with (first
   |(refine wpList_load_row rfl 39 (.tmp 5) rfl w.heap.size rfl 39 _ (0,0) _ HR0.out Tryz.underlying39 rfl HOZ.out ?_)
   |fail)
  refine HC.out.mono ?_;intro e w2 h2;have HF:=hid_ofS (h2.from HW.out);obtain⟨rfl,-⟩:=h2;clear HC o0;go_wp2
  go_ret
  exact HF.out
 by_cases k2:kind=2
 ·subst k2;clear k1;have HC:=hid_ofS (dny_any (ks:=ks) (tk:=tk) (now:=now) (N:=N) HB.out);clear HB HAT;go_wp2_with fail;refine HC.out.mono ?_;intro e w2 h2;have HF:=hid_ofS (h2.from HW.out);obtain⟨rfl,-⟩:=h2;clear HC o0 o3;go_wp2
  go_ret
  exact HF.out
 by_cases k3:kind=3
 ·subst k3;clear k1 k2;have HC:=hid_ofS (alw_any (ks:=ks) (tk:=tk) (now:=now) (N:=N) HB.out);clear HB HAT;go_wp2_with fail;refine HC.out.mono ?_;intro e w2 h2;have HF:=hid_ofS (h2.from HW.out);obtain⟨rfl,-⟩:=h2;clear HC o0 o3;go_wp2
  go_ret
  exact HF.out
 by_cases k4:kind=4
 ·subst k4;clear k1 k2 k3;have HC:=hid_ofS (bak_any (ks:=ks) (tk:=tk) (now:=now) (N:=N) HB.out);clear HB HAT;go_wp2_with fail;refine HC.out.mono ?_;intro e w2 h2;have HF:=hid_ofS (h2.from HW.out);obtain⟨rfl,-⟩:=h2;clear HC o0 o3;go_wp2
  go_ret
  exact HF.out
 by_cases k5:kind=5
 ·subst k5;have HF:=hid_ofS ((HB.out.same 9).from HW.out);clear HB HAT k1 k2 k3 k4;go_wp2
  go_ret
  rw[HO5.out];exact HF.out
 ·have HO7:=hid_ofS (HO6.out k1 k2 k3 k4 k5);have HF:=hid_ofS ((HB.out.same 10).from HW.out);clear HB HAT;go_wp2
  go_ret
  rw[HO7.out];exact HF.out
def ASV (lo:Nat) (w:World) (v:Value) (r:SpR):Prop:=
 ∃ aD nD cD aU nU cU aT nT cT,v=.agg #[.int .i64 r.c,.slice aD nD cD,.slice aU nU cU,.int .i64 r.k,.slice aT nT cT]∧S3 lo w aD aU aT nD nU nT r.D r.U r.T
theorem opR_ser {D U:List Int} {k:Int} {T:List Int} {n:Nat} {ks tk:List Int} {kind now N:Int} (hD:SerP D) (hU:SerP U):SerP (opR D U k T n ks kind tk now N).D∧SerP (opR D U k T n ks kind tk now N).U:=by
 unfold opR
 repeat' split
 all_goals first
  |exact⟨hD,hU⟩
  |exact⟨hD,withS_ser _ _⟩
  |exact⟨withS_ser _ _,hU⟩
  |exact⟨without_ser hD _,hU⟩
set_option maxRecDepth 100000 in
set_option maxHeartbeats 8000000 in
theorem iss_any (aD aU aT:Option Addr) (nD cD nU cU nT cT:Nat) (D U:List Int) (k:Int) (T:List Int) (ka:Option Addr) (nk ck:Nat) (ks:List Int) (ta:Option Addr) (tn tc:Nat) (tk:List Int) (kind now N:Int) (w:World) (hD:D.length=nD) (hU:U.length=nU) (hT:T.length=nT*2) (mD:nD≤1048576) (mU:nU≤1048576) (mT:nT≤1048576)
  (haD:At .i64 w aD D) (haU:At .i64 w aU U) (haT:At .i64 w aT T) (hnil:aT=none→nT=0∧cT=0) (hk0:-9223372036854775808≤k) (hk1:k<9223372036854775808) (hk:ks.length=nk) (mk:nk≤1048576) (hp:At .u8 w ka ks) (zk:Byte ks) (ht:tk.length=tn) (mt:tn≤1048576) (hct:tn≤tc) (hat:At .u8 w ta tk) (zt:Byte tk) (hTb:TabIn w) (hV:1<w.heap.size) (hE:ErrIn w) :
  Calls Tryz.prog 10 #[.agg #[.slice aD nD cD,.slice aU nU cU,.int .i64 k,.slice aT nT cT],.slice ka nk ck,.agg #[.int .i64 kind,.slice ta tn tc,.int .i64 now,.int .i64 N]] w fun e w'=>∃ v,e=.returned v∧ASV w.heap.size w' v (stR D U k T nT ks kind tk now N)∧Below w.heap.size w w':=by
 have HX0:Hid (CX3 w #[.slice aD nD cD,.slice aU nU cU,.int .i64 k,.slice aT nT cT] #[.int .i64 kind,.slice ta tn tc,.int .i64 now,.int .i64 N] (((w.alloc (.cells #[.slice aD nD cD,.slice aU nU cU,.int .i64 k,.slice aT nT cT] 33)).alloc (.cells #[.int .i64 kind,.slice ta tn tc,.int .i64 now,.int .i64 N] 39)).alloc (.cells #[.int .i64 0,.slice none 0 0,.slice none 0 0,.int .i64 0,.slice none 0 0] 35))):=CX3.start _ _ _;have HZ0:Hid ((((w.alloc (.cells #[.slice aD nD cD,.slice aU nU cU,.int .i64 k,.slice aT nT cT] 33)).alloc (.cells #[.int .i64 kind,.slice ta tn tc,.int .i64 now,.int .i64 N] 39)).alloc (.cells #[.int .i64 0,.slice none 0 0,.slice none 0 0,.int .i64 0,.slice none 0 0] 35)).heap.size=w.heap.size+3):=by show _=_;simp
 have HC:=openBook_any aD aU aT nD cD nU cU nT cT D U k T _ hD hU hT mD mU mT (haD.below HX0.out.below) (haU.below HX0.out.below) (haT.below HX0.out.below) hnil hk0 hk1;have HLN:Hid (D.length=nD∧U.length=nU∧T.length=nT*2):=⟨hD,hU,hT⟩
 have HA:Hid (∀ wz,Below w.heap.size w wz→At .i64 wz aD D∧At .i64 wz aU U∧At .i64 wz aT T∧At .u8 wz ka ks∧At .u8 wz ta tk∧TabIn wz∧ErrIn wz):=fun wz h=>⟨haD.below h,haU.below h,haT.below h,hp.below h,hat.below h,tab_keepV hTb hV h,hE.below h⟩
 have HKL:Hid (ks.length=nk∧Byte ks∧tk.length=tn∧Byte tk):=⟨hk,zk,ht,zt⟩
 have HV1:Hid (1<w.heap.size):=hV;have HRZ:Hid ((Tryz.prog.info? 35).map (·.size)=some 5):=by show _=_;kernel_rfl
 have HSZ:Hid ((Tryz.prog.info? 33).map (·.size)=some 4):=by show _=_;kernel_rfl
 have HOZ:Hid ((Tryz.prog.info? 39).map (·.size)=some 4):=by show _=_;kernel_rfl
 have HST:Hid (stB D U k T nT=true→StP D U k T nT):=stP_of;clear haD haU haT hD hU hT hk hp zk ht hat zt hnil hk0 hk1 hTb hV hE;go_enter Tryz.func10,Tryz.ntmps10
 go_upto_region 1 with fail
 generalize (((w.alloc (.cells #[.slice aD nD cD,.slice aU nU cU,.int .i64 k,.slice aT nT cT] 33)).alloc (.cells #[.int .i64 kind,.slice ta tn tc,.int .i64 now,.int .i64 N] 39)).alloc (.cells #[.int .i64 0,.slice none 0 0,.slice none 0 0,.int .i64 0,.slice none 0 0] 35))=w0 at *;go_wp2_with (first
  |(refine wpList_load_row rfl 33 (.tmp 3) rfl w.heap.size rfl 33 _ (0,0) _ HX0.out.sb Tryz.underlying33 rfl HSZ.out ?_)
  |fail)
 refine HC.mono ?_;rintro e w1 ⟨bk,rfl,hs,ho,hb,hbk⟩;have HX1:Hid (CX3 w #[.slice aD nD cD,.slice aU nU cU,.int .i64 k,.slice aT nT cT] #[.int .i64 kind,.slice ta tn tc,.int .i64 now,.int .i64 N] w1):=HX0.out.call hb;have HB1:Hid (w.heap.size+3≤w1.heap.size):=by show _≤_;have:=hb.size;rw[HZ0.out] at this;exact this
 have HN:Hid ((w1.alloc (.cells Tryz.zeroCells67 67)).heap[w1.heap.size]?=some (.cells Tryz.zeroCells67 67 (0,0))):=heap_alloc_new w1 _;have HBZ:Hid ((Tryz.prog.info? 67).map (·.size)=some bk.size):=by show _=_;rw[hs];exact Tryz.sizeBook
 have HEQ:Hid ((Tryz.zeroCells67).size=bk.size):=by show _=_;rw[hs];exact zc_size
 have HOK:Hid (bk.all (fun x=>x.oneCell')=true):=ho;have HB2:Hid (Below w1.heap.size w1 ((w1.alloc (.cells Tryz.zeroCells67 67)).setRow w1.heap.size bk)):=((Below.refl _ _).alloc (Nat.le_refl _) _).trans ((Wr.setRow _ _ _).below (Nat.le_refl _));have HR2:Hid (((w1.alloc (.cells Tryz.zeroCells67 67)).setRow w1.heap.size bk).heap[w1.heap.size]?=some (.cells bk 67 (0,0))):=setRow_heap _ _ _ _ _ _ HN.out;have HBK:Hid (stB D U k T nT=true→∃ db ub v,bk=bkC db ub k v∧SetB db (fun v=>(v:Int)∈D)∧SetB ub (fun v=>(v:Int)∈U)∧TapO (w.heap.size+3) w1 v T nT):=by
  intro h;obtain⟨db,ub,v,h1,h2,h3,h4⟩:=hbk h;rw[HZ0.out] at h4;exact⟨db,ub,v,h1,h2,h3,h4⟩
 have HX2:Hid (CX3 w #[.slice aD nD cD,.slice aU nU cU,.int .i64 k,.slice aT nT cT] #[.int .i64 kind,.slice ta tn tc,.int .i64 now,.int .i64 N] ((w1.alloc (.cells Tryz.zeroCells67 67)).setRow w1.heap.size bk)):=HX1.out.call HB2.out;clear hs ho hb HC HX0 HZ0 hbk HX1;obtain⟨q,hq⟩:∃ q,q=stB D U k T nT:=⟨_,rfl⟩
 rw[←hq];have HQ:Hid (stB D U k T nT=q):=hq.symm;clear hq
 go_upto_region 2 with (first
  |(refine wpList_store_row rfl 67 (.tmp 7) (.tmp 13) rfl w1.heap.size bk rfl rfl 67 _ HN.out HBZ.out HEQ.out HOK.out ?_)
  |fail)
 clear HN HBZ HEQ HOK;generalize ((w1.alloc (.cells Tryz.zeroCells67 67)).setRow w1.heap.size bk)=w2 at *;by_cases hbad:¬ (stB D U k T nT=true∧nk=32)
 ·have HR:Hid (stR D U k T nT ks kind tk now N=⟨10,D,U,k,T,nT⟩):=by
   show _=_
   unfold stR;rw[if_neg (fun h=>hbad ⟨h.1,HKL.out.1.symm.trans h.2⟩)]
  have hcs:q=false∨(q=true∧((nk:Int) != 32)=true):=by
   cases q with
   |false=>exact .inl rfl
   |true=>exact .inr ⟨rfl,by have h3:¬ nk=32:=fun h=>hbad ⟨HQ.out,h⟩
                             simp;omega⟩
  clear hbad HST HBK HR2 HB2 HQ;rcases hcs with rfl|⟨rfl,h32⟩
  all_goals
   go_upto_region 3 with fail
   go_wp2_with (first
    |(refine wpList_load_row rfl 33 (.tmp 3) rfl w.heap.size rfl 33 _ (0,0) _ HX2.out.sb Tryz.underlying33 rfl HSZ.out ?_)
    |fail)
   refine(cpSt_any aD aU aT nD cD nU cU nT cT D U k T w2 HLN.out.1 HLN.out.2.1 HLN.out.2.2 mD mU mT (HA.out w2 HX2.out.below).1 (HA.out w2 HX2.out.below).2.1 (HA.out w2 HX2.out.below).2.2.1).mono ?_;rintro e w9 ⟨cs,rfl,hcp,hb9⟩;have HX9:Hid (CX3 w #[.slice aD nD cD,.slice aU nU cU,.int .i64 k,.slice aT nT cT] #[.int .i64 kind,.slice ta tn tc,.int .i64 now,.int .i64 N] w9):=HX2.out.call hb9;have HL9:Hid (w.heap.size+2<w2.heap.size):=HX2.out.lt;obtain⟨bD,mD',dD,bU,mU',dU,bT,dT,rfl,hs3⟩:=hcp;have HRB:Hid (w9.heap[w.heap.size+2]?=some (.cells #[.int .i64 0,.slice none 0 0,.slice none 0 0,.int .i64 0,.slice none 0 0] 35 (0,0))):=HX9.out.rb;have HF:Hid (ASV w.heap.size (w9.setRow (w.heap.size+2) #[.int .i64 10,.slice bD mD' dD,.slice bU mU' dU,.int .i64 k,.slice bT nT dT]) (.agg #[.int .i64 10,.slice bD mD' dD,.slice bU mU' dU,.int .i64 k,.slice bT nT dT]) (stR D U k T nT ks kind tk now N)∧Below w.heap.size w (w9.setRow (w.heap.size+2) #[.int .i64 10,.slice bD mD' dD,.slice bU mU' dU,.int .i64 k,.slice bT nT dT])):=by
    have hw:Wr (w.heap.size+2) w9 (w9.setRow (w.heap.size+2) #[.int .i64 10,.slice bD mD' dD,.slice bU mU' dU,.int .i64 k,.slice bT nT dT]):=Wr.setRow _ _ _;refine⟨?_,HX9.out.below.trans (hw.below (by omega))⟩;rw[HR.out];exact⟨_,_,_,_,_,_,_,_,_,rfl,(hs3.keep (by rw[hw.size];exact Nat.le_refl _) (fun j hj _=>hw.block j (by have:=HL9.out;omega))).lo (by have:=HL9.out;omega)⟩
   clear hb9 hs3 HL9 HX2;go_wp2_with (first
    |(refine wpList_store_row rfl 35 (.tmp 6) (.tmp 24) rfl (w.heap.size+2) #[.int .i64 10,.slice bD mD' dD,.slice bU mU' dU,.int .i64 k,.slice bT nT dT] rfl rfl 35 _ HRB.out HRZ.out rfl (by simp[Value.oneCell']) ?_)
    |fail)
   exact bodyPost_ret (v:=.agg #[.int .i64 10,.slice bD mD' dD,.slice bU mU' dU,.int .i64 k,.slice bT nT dT]) (results_cell_row rfl _ _ (w.heap.size+2) 35 _ (0,0) _ rfl (setRow_heap _ _ _ _ _ _ HRB.out) Tryz.underlying35 rfl HRZ.out) rfl ⟨_,rfl,HF.out.1,HF.out.2⟩
 obtain⟨hst0,h32⟩:=Decidable.not_not.1 hbad;have hst:=HST.out hst0;have hqt:q=true:=HQ.out.symm.trans hst0;subst hqt;have HSO:Hid (stR D U k T nT ks kind tk now N=opR D U k T nT ks kind tk now N):=by show _=_;unfold stR;rw[if_pos ⟨hst0,HKL.out.1.trans h32⟩]
 have HSER:=hid_ofS (opR_ser (k:=k) (T:=T) (n:=nT) (ks:=ks) (tk:=tk) (kind:=kind) (now:=now) (N:=N) hst.1 hst.2.2.1);obtain⟨db,ub,v9,rfl,hsd,hsu,hto⟩:=HBK.out hst0;have hbk:Bk w2 w1.heap.size db ub k v9:=⟨HR2.out,hsd.1,hsu.1,hsd.2.1,hsu.2.1⟩
 have hne:NeG w1.heap.size v9:=fun t ht e=>by
  rcases hto.2 with⟨h',_⟩|⟨g,c,cur,h',hb,hh,_⟩
  ·rw[h'] at ht;simp[Value.ownBlock] at ht
  ·rw[h'] at ht;simp[Value.ownBlock] at ht;have:=(Array.getElem?_eq_some_iff.1 hh).1;omega
 have hto2:TapO (w.heap.size+3) w2 v9 T nT:=by
  refine⟨hto.1,?_⟩;rcases hto.2 with h'|⟨g,c,cur,h1,h2,h3,h4⟩
  ·exact .inl h'
  ·exact .inr ⟨g,c,cur,h1,h2,by rw[HB2.out.block g (Array.getElem?_eq_some_iff.1 h3).1];exact h3,h4⟩
 have hkn:k+nT=(nU:Int):=by have:=hst.2.2.2.2.1;rw[HLN.out.2.1] at this;exact this
 have HBV:Hid (BkV (w.heap.size+3) (w.heap.size+3) w1.heap.size w2 db ub v9 D U k T nT):=⟨hbk,hsd,hsu,hto2.tapV,hst.1,hst.2.2.2.1,by omega,mT,HB1.out,Nat.le_refl _,hne,by have:=HB2.out.size;have:=HB1.out;omega⟩
 subst h32;obtain⟨bp,op,rfl,-,-⟩:=(HA.out w2 HX2.out.below).2.2.2.1.get (by rw[HKL.out.1];decide);have HPT:Hid (PtA w2 bp op ks):=by
  obtain⟨b',o',e',hl',hc'⟩:=(HA.out w2 HX2.out.below).2.2.2.1.get (by rw[HKL.out.1];decide);cases e';exact⟨hl',hc'⟩
 have HSP:=hid_ofS (bst_any HBV.out bp op ck ks ta tn tc tk kind now N HKL.out.1 HPT.out HKL.out.2.1 HKL.out.2.2.1 mt hct (HA.out w2 HX2.out.below).2.2.2.2.1 HKL.out.2.2.2 (HA.out w2 HX2.out.below).2.2.2.2.2.1 (Nat.lt_of_lt_of_le HV1.out HX2.out.below.size) (HA.out w2 HX2.out.below).2.2.2.2.2.2);clear hsd hsu hto hst hbk hto2 hkn hne HR2 HB2 HBV HBK HST hst0 HQ hbad HPT HA
 go_upto_region 4 with fail
 generalize opR D U k T nT ks kind tk now N=r at *;go_wp2_with (first
  |(refine wpList_load_row rfl 39 (.tmp 5) rfl (w.heap.size+1) rfl 39 _ (0,0) _ HX2.out.ob Tryz.underlying39 rfl HOZ.out ?_)
  |fail)
 refine HSP.out.mono ?_;rintro e w3 ⟨rfl,hb3,d',u',v',r1,r2,r3,r4,r5⟩;have HX3:Hid (CX3 w #[.slice aD nD cD,.slice aU nU cU,.int .i64 k,.slice aT nT cT] #[.int .i64 kind,.slice ta tn tc,.int .i64 now,.int .i64 N] w3):=HX2.out.keep hb3 (Nat.le_refl _);have HRB:Hid (w3.heap[w.heap.size+2]?=some (.cells #[.int .i64 0,.slice none 0 0,.slice none 0 0,.int .i64 0,.slice none 0 0] 35 (0,0))):=HX3.out.rb;obtain⟨aT',cT',rfl⟩:=r4.slice;have HS:=state_any aT' r.n cT' (fun v=>decide ((v:Int)∈r.D)) (fun v=>decide ((v:Int)∈r.U)) r1 (r2.congr (fun v _=>by simp)) (r3.congr (fun v _=>by simp));rw[HSER.out.1.eq_upTo _ (fun v _=>by simp),HSER.out.2.eq_upTo _ (fun v _=>by simp)] at HS;have HTV:Hid (TapV (w.heap.size+3) w3 (.slice aT' r.n cT') r.T r.n):=r4;clear r1 r2 r3 r4 r5 HSER hb3 HSP HX2;go_wp2_with fail;refine HS.mono ?_;rintro e w4 ⟨bD,mD',dD,bU,mU',dU,rfl,g1,g2,g3,hb4⟩;have HRB4:Hid (w4.heap[w.heap.size+2]?=some (.cells #[.int .i64 0,.slice none 0 0,.slice none 0 0,.int .i64 0,.slice none 0 0] 35 (0,0))):=by show _=_;rw[hb4.block _ (Array.getElem?_eq_some_iff.1 HRB.out).1];exact HRB.out
 have hw5:Wr (w.heap.size+2) w4 (w4.setRow (w.heap.size+2) #[.int .i64 r.c,.slice bD mD' dD,.slice bU mU' dU,.int .i64 r.k,.slice aT' r.n cT']):=Wr.setRow _ _ _;have HF:Hid (ASV w.heap.size (w4.setRow (w.heap.size+2) #[.int .i64 r.c,.slice bD mD' dD,.slice bU mU' dU,.int .i64 r.k,.slice aT' r.n cT']) (.agg #[.int .i64 r.c,.slice bD mD' dD,.slice bU mU' dU,.int .i64 r.k,.slice aT' r.n cT']) (stR D U k T nT ks kind tk now N)∧Below w.heap.size w (w4.setRow (w.heap.size+2) #[.int .i64 r.c,.slice bD mD' dD,.slice bU mU' dU,.int .i64 r.k,.slice aT' r.n cT'])):=by
  have hlt:=(Array.getElem?_eq_some_iff.1 HRB.out).1;obtain⟨s1,s2,s3⟩:=g1.sat;obtain⟨t1,t2,t3⟩:=g2.sat;obtain⟨q1,q2,q3⟩:=HTV.out.sat;have q4:SAt w4 aT' r.T:=q1.below hb4;have q5:Lies (w.heap.size+3) w4 aT':=q3.mono (Nat.le_refl _) hb4.size;refine⟨?_,(HX3.out.below.trans (hb4.mono HX3.out.below.size)).trans (hw5.below (by omega))⟩;rw[HSO.out];refine⟨bD,mD',dD,bU,mU',dU,aT',r.n,cT',rfl,?_⟩;have z:(w4.setRow (w.heap.size+2) #[.int .i64 r.c,.slice bD mD' dD,.slice bU mU' dU,.int .i64 r.k,.slice aT' r.n cT']).heap.size=w4.heap.size:=hw5.size;refine⟨s1.keep (by rw[z];exact Nat.le_refl _) (fun ad e _=>hw5.block _ (by have:=(s3 ad e).1;omega)),t1.keep (by rw[z];exact Nat.le_refl _) (fun ad e _=>hw5.block _ (by have:=(t3 ad e).1;omega)),q4.keep (by rw[z];exact Nat.le_refl _) (fun ad e _=>hw5.block _ (by have:=(q5 ad e).1;omega)),s2,t2,q2,?_,?_,?_,?_,?_,?_⟩
  ·exact s3.mono (by omega) (by rw[z];exact Nat.le_refl _)
  ·exact t3.mono (by omega) (by rw[z];exact Nat.le_refl _)
  ·exact q5.mono (by omega) (by rw[z];exact Nat.le_refl _)
  ·exact fun x y hx hy e=>g3 x.block (by rw[hx];rfl) (by rw[hy,e];rfl)
  ·exact fun x y hx hy e=>by have:=(s3 x hx).1;have:=(q3 y hy).2;omega
  ·exact fun x y hx hy e=>by have:=(t3 x hx).1;have:=(q3 y hy).2;omega
 clear g1 g2 g3 hb4 hw5 HS HTV;go_wp2_with (first
  |(refine wpList_store_row rfl 35 (.tmp 6) (.tmp 30) rfl (w.heap.size+2) #[.int .i64 r.c,.slice bD mD' dD,.slice bU mU' dU,.int .i64 r.k,.slice aT' r.n cT'] rfl rfl 35 _ HRB4.out HRZ.out rfl (by simp[Value.oneCell']) ?_)
  |fail)
 exact bodyPost_ret (v:=.agg #[.int .i64 r.c,.slice bD mD' dD,.slice bU mU' dU,.int .i64 r.k,.slice aT' r.n cT']) (results_cell_row rfl _ _ (w.heap.size+2) 35 _ (0,0) _ rfl (setRow_heap _ _ _ _ _ _ HRB4.out) Tryz.underlying35 rfl HRZ.out) rfl ⟨_,rfl,HF.out.1,HF.out.2⟩
theorem SerP.lenS {xs:List Int} (h:SerP xs):xs.length≤256:=by
 have e:=h.eq_upTo (fun v=>decide ((v:Int)∈xs)) (fun v _=>by simp);rw[←e];exact upTo_len _ _
theorem opR_T {D U:List Int} {k:Int} {T:List Int} {n:Nat} {ks tk:List Int} {kind now N:Int}:(opR D U k T n ks kind tk now N).T.length≤T.length+2:=by
 unfold opR
 repeat' split
 all_goals simp
 omega
theorem stR_len {D U:List Int} {k:Int} {T:List Int} {n:Nat} {ks tk:List Int} {kind now N:Int} (hD:D.length≤1048576) (hU:U.length≤1048576) (hT:T.length=n*2) (hn:n≤1048576):(stR D U k T n ks kind tk now N).D.length≤1048576∧(stR D U k T n ks kind tk now N).U.length≤1048576∧(stR D U k T n ks kind tk now N).T.length≤2097152:=by
 unfold stR;split
 ·rename_i h
  have hs:=stP_of h.1;have h1:=opR_ser (k:=k) (T:=T) (n:=n) (ks:=ks) (tk:=tk) (kind:=kind) (now:=now) (N:=N) hs.1 hs.2.2.1;have h2:=hs.2.2.1.lenS;have h3:=hs.2.2.2.2.1;have h4:=hs.2.2.2.1;have h5:=h1.1.lenS;have h6:=h1.2.lenS;have h7:=opR_T (D:=D) (U:=U) (k:=k) (T:=T) (n:=n) (ks:=ks) (tk:=tk) (kind:=kind) (now:=now) (N:=N);exact⟨by omega,by omega,by omega⟩
 ·exact⟨hD,hU,by show T.length≤_;omega⟩
section
variable (cc:Int) (aD aU aT:Option Addr) (nD cD nU cU nT cT:Nat) (k0 k:Int) (w:World)
set_option maxRecDepth 100000 in
set_option maxHeartbeats 1000000 in
theorem mkSR_any (lo:Nat) (hlo:lo≤w.heap.size)
  (oD:Open w aD nD) (oU:Open w aU nU) (oT:Open w aT (nT*2)) (lD:Lies lo w aD) (lU:Lies lo w aU) (lT:Lies lo w aT) (dU:Aprt aD aU) (dT:Aprt aD aT) (uT:Aprt aU aT) (hk:0≤k) (hk':k+nD+nU+nT*2≤1099511627776) :
  Calls Tryz.prog 18 #[.agg #[.int .i64 cc,.slice aD nD cD,.slice aU nU cU,.int .i64 k0,.slice aT nT cT],.int .i64 k] w fun e w'=>e=.returned (.int .i64 (k+nD+nU+nT*2))∧At .i64 w' aD (mks k nD)∧At .i64 w' aU (mks (k+nD) nU)∧At .i64 w' aT (mks (k+nD+nU) (nT*2))∧Below lo w w'∧∀ j,j<w.heap.size→NotIn j aD→NotIn j aU→NotIn j aT→w'.heap[j]?=w.heap[j]?:=by
 have b1:Below w.heap.size w (w.alloc (.cells #[.int .i64 cc,.slice aD nD cD,.slice aU nU cU,.int .i64 k0,.slice aT nT cT] 35)):=(Below.refl _ _).alloc (Nat.le_refl _) _;have HC:=markS_any aD aU aT nD cD nU cU nT cT k0 k _ lo (Nat.le_trans hlo b1.size) (oD.below b1) (oU.below b1) (oT.below b1) (lD.mono (Nat.le_refl _) b1.size) (lU.mono (Nat.le_refl _) b1.size) (lT.mono (Nat.le_refl _) b1.size) dU dT uT hk hk';have HB1:Hid (Below w.heap.size w (w.alloc (.cells #[.int .i64 cc,.slice aD nD cD,.slice aU nU cU,.int .i64 k0,.slice aT nT cT] 35))):=b1;clear oD oU oT lD lU lT dU dT uT b1;go_enter Tryz.func18,Tryz.ntmps18;go_wp2_with fail;refine HC.mono ?_;rintro e w2 ⟨rfl,h1,h2,h3,hb,hn⟩;have HF:Hid (At .i64 w2 aD (mks k nD)∧At .i64 w2 aU (mks (k+nD) nU)∧At .i64 w2 aT (mks (k+nD+nU) (nT*2))∧Below lo w w2∧∀ j,j<w.heap.size→NotIn j aD→NotIn j aU→NotIn j aT→w2.heap[j]?=w.heap[j]?):=
  ⟨h1,h2,h3,(HB1.out.mono hlo).trans hb,fun j hj q1 q2 q3=>(hn j (Nat.lt_of_lt_of_le hj HB1.out.size) q1 q2 q3).trans (HB1.out.block j hj)⟩
 clear h1 h2 h3 hb hn HC HB1;go_wp2
 go_ret
 exact⟨rfl,HF.out⟩
set_option maxRecDepth 100000 in
set_option maxHeartbeats 1000000 in
theorem hdSR_any (hD:At .i64 w aD (mks k nD)) (hU:At .i64 w aU (mks (k+nD) nU)) (hT:At .i64 w aT (mks (k+nD+nU) (nT*2))) (hk:0≤k) (hk':k+nD+nU+nT*2≤1099511627776) :
  Calls Tryz.prog 19 #[.agg #[.int .i64 cc,.slice aD nD cD,.slice aU nU cU,.int .i64 k0,.slice aT nT cT],.int .i64 k] w fun e w'=>e=.returned (.int .i64 (k+nD+nU+nT*2))∧Below w.heap.size w w':=by
 have b1:Below w.heap.size w (w.alloc (.cells #[.int .i64 cc,.slice aD nD cD,.slice aU nU cU,.int .i64 k0,.slice aT nT cT] 35)):=(Below.refl _ _).alloc (Nat.le_refl _) _;have HC:=heldS_any aD aU aT nD cD nU cU nT cT k0 k _ (hD.below b1) (hU.below b1) (hT.below b1) hk hk';have HB1:Hid (Below w.heap.size w (w.alloc (.cells #[.int .i64 cc,.slice aD nD cD,.slice aU nU cU,.int .i64 k0,.slice aT nT cT] 35))):=b1;have g3:¬ (k+(nD:Int)+nU+nT*2<0):=by omega
 clear hD hU hT b1;go_enter Tryz.func19,Tryz.ntmps19;go_wp2_with fail;refine HC.mono ?_;rintro e w2 ⟨rfl,hb⟩;have HF:Hid (Below w.heap.size w w2):=HB1.out.trans (hb.mono HB1.out.size);clear hb HC HB1;go_wp2
 go_ret
 exact⟨rfl,HF.out⟩
end
set_option maxRecDepth 100000 in
set_option maxHeartbeats 1000000 in
theorem eqSR_any (cc:Int) (aD bD aU bU aT bT:Option Addr) (nD cD dD nU cU dU nT cT dT:Nat) (D U T:List Int) (k:Int) (w:World) (hD:D.length=nD) (hU:U.length=nU) (hT:T.length=nT*2) (mD:nD≤1048576) (mU:nU≤1048576) (mT:nT≤1048576)
  (AD:At .i64 w aD D) (BD:At .i64 w bD D) (AU:At .i64 w aU U) (BU:At .i64 w bU U) (AT:At .i64 w aT T) (BT:At .i64 w bT T) :
  Calls Tryz.prog 11 #[.agg #[.int .i64 cc,.slice aD nD cD,.slice aU nU cU,.int .i64 k,.slice aT nT cT],.agg #[.int .i64 cc,.slice bD nD dD,.slice bU nU dU,.int .i64 k,.slice bT nT dT]] w fun e w'=>e=.returned (.bool true)∧Below w.heap.size w w':=by
 have b1:Below w.heap.size w ((w.alloc (.cells #[.int .i64 cc,.slice aD nD cD,.slice aU nU cU,.int .i64 k,.slice aT nT cT] 35)).alloc (.cells #[.int .i64 cc,.slice bD nD dD,.slice bU nU dU,.int .i64 k,.slice bT nT dT] 35)):=((Below.refl _ _).alloc (Nat.le_refl _) _).alloc (by simp) _;have HC:=eqSt_any aD bD aU bU aT bT nD cD dD nU cU dU nT cT dT D U T k _ hD hU hT mD mU mT (AD.below b1) (BD.below b1) (AU.below b1) (BU.below b1) (AT.below b1) (BT.below b1);have HB1:Hid (Below w.heap.size w ((w.alloc (.cells #[.int .i64 cc,.slice aD nD cD,.slice aU nU cU,.int .i64 k,.slice aT nT cT] 35)).alloc (.cells #[.int .i64 cc,.slice bD nD dD,.slice bU nU dU,.int .i64 k,.slice bT nT dT] 35))):=b1;have ne:(cc != cc)=false:=by simp
 clear AD BD AU BU AT BT b1 hD hU hT;go_enter Tryz.func11,Tryz.ntmps11;go_wp2_with fail;refine HC.mono ?_;rintro e w2 ⟨rfl,hb⟩;have HF:Hid (Below w.heap.size w w2):=HB1.out.trans (hb.mono HB1.out.size);clear hb HC HB1;go_wp2
 go_ret
 exact⟨rfl,HF.out⟩
def NwS (lo:Nat) (w:World) (v:Value):Prop:=∃ g,v=.pointer (some ⟨g,0,none⟩)∧lo≤g∧w.heap[g]?=some (.cells #[.int .i64 0,.slice none 0 0,.slice none 0 0,.int .i64 0,.slice none 0 0] 35 (0,0))
theorem NwS.below {lo:Nat} {w w':World} {v:Value} (h:NwS lo w v) (b:Below w.heap.size w w'):NwS lo w' v:=by
 obtain⟨g,e,h1,h2⟩:=h;exact⟨g,e,h1,by rw[b.block g (Array.getElem?_eq_some_iff.1 h2).1];exact h2⟩
theorem hasS5 {cc:Int} {k:Int} {aD aU aT:Option Addr} {nD cD nU cU nT cT j:Nat} (h:Value.has (.agg #[.int .i64 cc,.slice aD nD cD,.slice aU nU cU,.int .i64 k,.slice aT nT cT]) j):(∃ ad,aD=some ad∧ad.block=j)∨(∃ ad,aU=some ad∧ad.block=j)∨∃ ad,aT=some ad∧ad.block=j:=by
 rw[has_agg] at h;obtain⟨c,hc,a,ha,hj⟩:=h;simp at hc;rcases hc with rfl|rfl|rfl|rfl|rfl
 ·cases ha
 ·exact .inl ⟨a,ha,hj⟩
 ·exact .inr (.inl ⟨a,ha,hj⟩)
 ·cases ha
 ·exact .inr (.inr ⟨a,ha,hj⟩)
theorem hasS5' {cc:Int} {k:Int} {aD aU aT:Option Addr} {nD cD nU cU nT cT:Nat} {ad:Addr} (h:aD=some ad∨aU=some ad∨aT=some ad):Value.has (.agg #[.int .i64 cc,.slice aD nD cD,.slice aU nU cU,.int .i64 k,.slice aT nT cT]) ad.block:=by
 rw[has_agg];rcases h with h|h|h
 ·exact⟨.slice aD nD cD,by simp,ad,h,rfl⟩
 ·exact⟨.slice aU nU cU,by simp,ad,h,rfl⟩
 ·exact⟨.slice aT nT cT,by simp,ad,h,rfl⟩
theorem WSV.cells {lo:Nat} {w:World} {v:Value} {r:SpR} (h:WSV lo w v r):∃ cs,v=.agg cs∧cs.size=5∧cs.all (fun x=>x.oneCell')=true:=by
 obtain⟨aD,nD,cD,aU,nU,cU,aT,nT,cT,e,_⟩:=h;exact⟨_,e,rfl,by simp[Value.oneCell']⟩
theorem ASV.cells {lo:Nat} {w:World} {v:Value} {r:SpR} (h:ASV lo w v r):∃ cs,v=.agg cs∧cs.size=5∧cs.all (fun x=>x.oneCell')=true:=by
 obtain⟨aD,nD,cD,aU,nU,cU,aT,nT,cT,e,_⟩:=h;exact⟨_,e,rfl,by simp[Value.oneCell']⟩
theorem WSV.fresh {w w':World} {v:Value} {r:SpR} (h:WSV w.heap.size w' v r):FreshH w w' v:=by
 obtain⟨aD,nD,cD,aU,nU,cU,aT,nT,cT,e,_,_,_,_,_,_,l1,l2,l3,_⟩:=h;intro j hj;rw[e] at hj;rcases hasS5 hj with⟨ad,h,rfl⟩|⟨ad,h,rfl⟩|⟨ad,h,rfl⟩
 ·exact l1 ad h
 ·exact l2 ad h
 ·exact l3 ad h
theorem ASV.fresh {w w':World} {v:Value} {r:SpR} (h:ASV w.heap.size w' v r):FreshH w w' v:=by
 obtain⟨aD,nD,cD,aU,nU,cU,aT,nT,cT,e,s⟩:=h;intro j hj;rw[e] at hj;rcases hasS5 hj with⟨ad,h,rfl⟩|⟨ad,h,rfl⟩|⟨ad,h,rfl⟩
 ·exact s.ld ad h
 ·exact s.lu ad h
 ·exact s.lt ad h
theorem WSV.keep {lo:Nat} {w w':World} {v:Value} {r:SpR} (h:WSV lo w v r) (hs:w.heap.size≤w'.heap.size) (hb:∀ j,Value.has v j→j<w.heap.size→w'.heap[j]?=w.heap[j]?):WSV lo w' v r:=by
 obtain⟨aD,nD,cD,aU,nU,cU,aT,nT,cT,e,h1,h2,h3,h4,h5,h6,l1,l2,l3,l4,l5⟩:=h;subst e;exact⟨aD,nD,cD,aU,nU,cU,aT,nT,cT,rfl,h1.keepT hs (fun ad e hl=>hb _ (hasS5' (.inl e)) hl),h2.keepT hs (fun ad e hl=>hb _ (hasS5' (.inr (.inl e))) hl),h3.keepT hs (fun ad e hl=>hb _ (hasS5' (.inr (.inr e))) hl),h4,h5,h6,l1.mono (Nat.le_refl _) hs,l2.mono (Nat.le_refl _) hs,l3.mono (Nat.le_refl _) hs,l4,l5⟩
theorem ASV.keep {lo:Nat} {w w':World} {v:Value} {r:SpR} (h:ASV lo w v r) (hs:w.heap.size≤w'.heap.size) (hb:∀ j,Value.has v j→j<w.heap.size→w'.heap[j]?=w.heap[j]?):ASV lo w' v r:=by
 obtain⟨aD,nD,cD,aU,nU,cU,aT,nT,cT,e,s⟩:=h;subst e;exact⟨aD,nD,cD,aU,nU,cU,aT,nT,cT,rfl,s.d.keep hs (fun ad e hl=>hb _ (hasS5' (.inl e)) hl),s.u.keep hs (fun ad e hl=>hb _ (hasS5' (.inr (.inl e))) hl),s.t.keep hs (fun ad e hl=>hb _ (hasS5' (.inr (.inr e))) hl),s.nd,s.nu,s.nt,s.ld.mono (Nat.le_refl _) hs,s.lu.mono (Nat.le_refl _) hs,s.lt.mono (Nat.le_refl _) hs,s.du,s.dt,s.ut⟩
theorem WSV.wrG {lo G:Nat} {w w':World} {v:Value} {r:SpR} (h:WSV lo w v r) (hw:Wr G w w') (hn:∀ j,Value.has v j→j≠G):WSV lo w' v r:=h.keep (by rw[hw.size];exact Nat.le_refl _) (fun j hj _=>hw.block j (hn j hj))
theorem ASV.wrG {lo G:Nat} {w w':World} {v:Value} {r:SpR} (h:ASV lo w v r) (hw:Wr G w w') (hn:∀ j,Value.has v j→j≠G):ASV lo w' v r:=h.keep (by rw[hw.size];exact Nat.le_refl _) (fun j hj _=>hw.block j (hn j hj))
theorem ASV.below {lo:Nat} {w w':World} {v:Value} {r:SpR} (h:ASV lo w v r) (b:Below w.heap.size w w'):ASV lo w' v r:=h.keep b.size (fun j _ hj=>b.block j hj)
theorem ASV.mono {lo lo':Nat} {w:World} {v:Value} {r:SpR} (h:ASV lo w v r) (hl:lo'≤lo):ASV lo' w v r:=by
 obtain⟨aD,nD,cD,aU,nU,cU,aT,nT,cT,e,s⟩:=h;exact⟨aD,nD,cD,aU,nU,cU,aT,nT,cT,e,s.d,s.u,s.t,s.nd,s.nu,s.nt,s.ld.mono hl (Nat.le_refl _),s.lu.mono hl (Nat.le_refl _),s.lt.mono hl (Nat.le_refl _),s.du,s.dt,s.ut⟩
theorem WSV.below {lo:Nat} {w w':World} {v:Value} {r:SpR} (h:WSV lo w v r) (b:Below w.heap.size w w'):WSV lo w' v r:=h.keep b.size (fun j _ hj=>b.block j hj)
def FinS (PV:Nat→World→Value→SpR→Prop) (p:Nat) (W:World) (r:SpR) (u:Nat→Value) (w:World):Prop:=
 ∃ G cs,u p=.pointer (some ⟨G,0,none⟩)∧W.heap.size≤G∧w.heap[G]?=some (.cells cs 35 (0,0))∧PV W.heap.size w (.agg cs) r∧(∀ j,Value.has (.agg cs) j→j≠G)∧Below W.heap.size W w
theorem ASV.lo {lo:Nat} {w:World} {v:Value} {r:SpR} (h:ASV lo w v r) {j:Nat} (hj:Value.has v j):lo≤j:=by
 obtain⟨aD,nD,cD,aU,nU,cU,aT,nT,cT,e,s⟩:=h;rw[e] at hj;rcases hasS5 hj with⟨ad,h,rfl⟩|⟨ad,h,rfl⟩|⟨ad,h,rfl⟩
 ·exact(s.ld ad h).1
 ·exact(s.lu ad h).1
 ·exact(s.lt ad h).1
structure SA where
 D:List Int
 U:List Int
 T:List Int
 nD:Nat
 nU:Nat
 nT:Nat
 k:Int
 ks:List Int
 nk:Nat
 tk:List Int
 tn:Nat
 kind:Int
 now:Int
 N:Int
noncomputable def SA.R (a:SA):SpR:=stR a.D a.U a.k a.T a.nT a.ks a.kind a.tk a.now a.N
structure SA.Ok (a:SA):Prop where
 hD:a.D.length=a.nD
 hU:a.U.length=a.nU
 hT:a.T.length=a.nT*2
 hk:a.ks.length=a.nk
 ht:a.tk.length=a.tn
 bD:a.nD≤1048576
 bU:a.nU≤1048576
 bT:a.nT≤1048576
 bk:a.nk≤1048576
 bt:a.tn≤1048576
 k0:-9223372036854775808≤a.k
 k1:a.k<9223372036854775808
 zk:Byte a.ks
 zt:Byte a.tk
structure Mid (lo hi:Nat) (w w':World):Prop where
 os:w'.os=w.os
 tape:w'.tape=w.tape
 output:w'.output=w.output
 size:w.heap.size≤w'.heap.size
 block:∀ j,j<w.heap.size→(j<lo∨hi≤j)→w'.heap[j]?=w.heap[j]?
theorem Mid.below {lo hi B:Nat} {w w':World} (h:Mid lo hi w w') (hB:B≤lo) (hw:B≤w.heap.size):Below B w w':=⟨h.os,h.tape,h.output,h.size,fun j hj=>h.block j (by omega) (.inl (by omega))⟩
theorem Mid.of {lo hi:Nat} {w w':World} (b:Below w.heap.size w w'):Mid lo hi w w':=⟨b.os,b.tape,b.output,b.size,fun j hj _=>b.block j hj⟩
theorem Mid.mono {lo hi lo' hi':Nat} {w w':World} (h:Mid lo hi w w') (h1:lo'≤lo) (h2:hi≤hi'):Mid lo' hi' w w':=⟨h.os,h.tape,h.output,h.size,fun j hj hn=>h.block j hj (by omega)⟩
theorem RowV.mid {w w':World} {g lo hi:Nat} {t:TypeId} {cs:Array Value} (h:RowV w g t cs) (hm:Mid lo hi w w') (hg:g<lo∨hi≤g):RowV w' g t cs:=by unfold RowV;rw[hm.block g h.lt hg];exact h
def TS (a:SA) (lo hi:Nat) (w:World) (v:Value):Prop:=∃ gD gU gT,v=.agg #[.slice (some ⟨gD,0,none⟩) a.nD a.nD,.slice (some ⟨gU,0,none⟩) a.nU a.nU,.int .i64 a.k,.slice (some ⟨gT,0,none⟩) a.nT a.nT]∧RowV w gD 2 (iC a.D)∧RowV w gU 2 (iC a.U)∧RowV w gT 77 (iC a.T)∧lo≤gD∧gD<gU∧gU<gT∧gT<hi
def TB (a:SA) (lo hi:Nat) (w:World) (v:Value):Prop:=∃ g,v=.slice (some ⟨g,0,none⟩) a.nk a.nk∧RowV w g 5 (uC a.ks)∧lo≤g∧g<hi
def TO (a:SA) (lo hi:Nat) (w:World) (v:Value):Prop:=∃ g,v=.agg #[.int .i64 a.kind,.slice (some ⟨g,0,none⟩) a.tn a.tn,.int .i64 a.now,.int .i64 a.N]∧RowV w g 5 (uC a.tk)∧lo≤g∧g<hi
section
variable {a:SA} {lo hi lo' hi':Nat} {w w':World} {v v':Value}
theorem TS.mid (h:TS a lo hi w v) (hm:Mid lo' hi' w w') (ho:hi≤lo'∨hi'≤lo):TS a lo hi w' v:=by
 obtain⟨gD,gU,gT,e,h1,h2,h3,o1,o2,o3,o4⟩:=h;exact⟨gD,gU,gT,e,h1.mid hm (by omega),h2.mid hm (by omega),h3.mid hm (by omega),o1,o2,o3,o4⟩
theorem TB.mid (h:TB a lo hi w v) (hm:Mid lo' hi' w w') (ho:hi≤lo'∨hi'≤lo):TB a lo hi w' v:=by
 obtain⟨g,e,h1,o1,o2⟩:=h;exact⟨g,e,h1.mid hm (by omega),o1,o2⟩
theorem TO.mid (h:TO a lo hi w v) (hm:Mid lo' hi' w w') (ho:hi≤lo'∨hi'≤lo):TO a lo hi w' v:=by
 obtain⟨g,e,h1,o1,o2⟩:=h;exact⟨g,e,h1.mid hm (by omega),o1,o2⟩
theorem TS.below (h:TS a lo hi w v) (b:Below w.heap.size w w'):TS a lo hi w' v:=h.mid (Mid.of (lo:=hi) (hi:=lo) b) (.inl (Nat.le_refl _))
theorem TB.below (h:TB a lo hi w v) (b:Below w.heap.size w w'):TB a lo hi w' v:=h.mid (Mid.of (lo:=hi) (hi:=lo) b) (.inl (Nat.le_refl _))
theorem TO.below (h:TO a lo hi w v) (b:Below w.heap.size w w'):TO a lo hi w' v:=h.mid (Mid.of (lo:=hi) (hi:=lo) b) (.inl (Nat.le_refl _))
theorem TS.cells (h:TS a lo hi w v):∃ cs,v=.agg cs∧cs.size=4∧cs.all (fun x=>x.oneCell')=true:=by
 obtain⟨gD,gU,gT,e,_⟩:=h;exact⟨_,e,rfl,by simp[Value.oneCell']⟩
theorem TO.cells (h:TO a lo hi w v):∃ cs,v=.agg cs∧cs.size=4∧cs.all (fun x=>x.oneCell')=true:=by
 obtain⟨g,e,_⟩:=h;exact⟨_,e,rfl,by simp[Value.oneCell']⟩
theorem TB.slice (h:TB a lo hi w v):∃ x,v=.slice x a.nk a.nk:=by
 obtain⟨g,e,_⟩:=h;exact⟨_,e⟩
theorem tyS_any (hok:a.Ok) (aD aU aT:Option Addr) (cD cU cT:Nat) (AD:At .i64 w aD a.D) (AU:At .i64 w aU a.U) (AT:At .i64 w aT a.T) :
  Calls Tryz.prog 7 #[.agg #[.slice aD a.nD cD,.slice aU a.nU cU,.int .i64 a.k,.slice aT a.nT cT]] w fun e w'=>∃ v,e=.returned v∧TS a w.heap.size w'.heap.size w' v∧Below w.heap.size w w':=
 (toSt_any aD aU aT a.nD cD a.nU cU a.nT cT a.D a.U a.T a.k w hok.hD hok.hU hok.hT hok.bD hok.bU hok.bT AD AU AT).mono (by
  rintro e w' ⟨gD,gU,gT,rfl,o1,o2,o3,r1,r2,r3,hb⟩;exact⟨_,rfl,⟨gD,gU,gT,rfl,r1,r2,r3,o1,o2,o3,r3.lt⟩,hb⟩)
theorem tyY_any (hok:a.Ok) (ka:Option Addr) (ck:Nat) (A:At .u8 w ka a.ks) :
  Calls Tryz.prog 8 #[.slice ka a.nk ck] w fun e w'=>∃ v,e=.returned v∧TB a w.heap.size w'.heap.size w' v∧Below w.heap.size w w':=
 (toBR_any ka a.nk ck a.ks w hok.hk hok.bk A).mono (by
  rintro e w' ⟨rfl,r,hb⟩;exact⟨_,rfl,⟨_,rfl,r,Nat.le_refl _,r.lt⟩,hb⟩)
theorem tyO_any (hok:a.Ok) (ta:Option Addr) (tc:Nat) (A:At .u8 w ta a.tk) :
  Calls Tryz.prog 9 #[.agg #[.int .i64 a.kind,.slice ta a.tn tc,.int .i64 a.now,.int .i64 a.N]] w fun e w'=>∃ v,e=.returned v∧TO a w.heap.size w'.heap.size w' v∧Below w.heap.size w w':=
 (toOp_any ta a.tn tc a.tk a.kind a.now a.N w hok.ht hok.bt A).mono (by
  rintro e w' ⟨g,rfl,o,r,hb⟩;exact⟨_,rfl,⟨g,rfl,r,o,r.lt⟩,hb⟩)
variable {l1 h1 l2 h2 l3 h3:Nat} {v1 v2 v3:Value}
theorem ssC_any (hok:a.Ok) (s:TS a l1 h1 w v1) (b:TB a l2 h2 w v2) (o:TO a l3 h3 w v3) :
  Calls Tryz.prog 6 #[v1,v2,v3] w fun e w'=>∃ v,e=.returned v∧WSV w.heap.size w' v a.R∧Below w.heap.size w w':=by
 obtain⟨gD,gU,gT,rfl,r1,r2,r3,-⟩:=s;obtain⟨g,rfl,rb,-⟩:=b;obtain⟨g',rfl,ro,-⟩:=o;exact sss_any _ _ _ a.nD a.nD a.nU a.nU a.nT a.nT a.D a.U a.k a.T _ a.nk a.nk a.ks _ a.tn a.tn a.tk a.kind a.now a.N w hok.hD hok.hU hok.hT hok.bD hok.bU hok.bT r1.i64 r2.i64 r3.i64 (Nat.le_refl _) (by have:=hok.bT;omega) hok.k0 hok.k1 hok.hk hok.bk rb.u8 hok.zk hok.ht hok.bt (Nat.le_refl _) ro.u8 hok.zt
theorem isC_any (hok:a.Ok) (s:TS a l1 h1 w v1) (b:TB a l2 h2 w v2) (o:TO a l3 h3 w v3) (hT:TabIn w) (hV:1<w.heap.size) (hE:ErrIn w) :
  Calls Tryz.prog 10 #[v1,v2,v3] w fun e w'=>∃ v,e=.returned v∧ASV w.heap.size w' v a.R∧Below w.heap.size w w':=by
 obtain⟨gD,gU,gT,rfl,r1,r2,r3,-⟩:=s;obtain⟨g,rfl,rb,-⟩:=b;obtain⟨g',rfl,ro,-⟩:=o;exact iss_any _ _ _ a.nD a.nD a.nU a.nU a.nT a.nT a.D a.U a.k a.T _ a.nk a.nk a.ks _ a.tn a.tn a.tk a.kind a.now a.N w hok.hD hok.hU hok.hT hok.bD hok.bU hok.bT r1.i64 r2.i64 r3.i64 (fun h=>by cases h) hok.k0 hok.k1 hok.hk hok.bk rb.u8 hok.zk hok.ht hok.bt (Nat.le_refl _) ro.u8 hok.zt hT hV hE
theorem eyS_any (hok:a.Ok) (s:TS a l1 h1 w v1) (s':TS a l2 h2 w v2):Calls Tryz.prog 12 #[v1,v2] w fun e w'=>e=.returned (.bool true)∧Below w.heap.size w w':=by
 obtain⟨gD,gU,gT,rfl,r1,r2,r3,-⟩:=s;obtain⟨gD',gU',gT',rfl,r1',r2',r3',-⟩:=s';exact eqSt_any _ _ _ _ _ _ a.nD _ _ a.nU _ _ a.nT _ _ a.D a.U a.T a.k w hok.hD hok.hU hok.hT hok.bD hok.bU hok.bT r1.i64 r1'.i64 r2.i64 r2'.i64 r3.i64 r3'.i64
theorem eyY_any (hok:a.Ok) (s:TB a l1 h1 w v1) (s':TB a l2 h2 w v2):Calls Tryz.prog 13 #[v1,v2] w fun e w'=>e=.returned (.bool true)∧Below w.heap.size w w':=by
 obtain⟨g,rfl,r,-⟩:=s;obtain⟨g',rfl,r',-⟩:=s';refine(eqB_any _ _ a.nk _ _ a.ks w hok.hk hok.bk r.u8 r'.u8).mono ?_;rintro e w' ⟨rfl,q,rfl⟩;exact⟨rfl,below_dq (Below.refl _ _) _⟩
theorem eyO_any (hok:a.Ok) (s:TO a l1 h1 w v1) (s':TO a l2 h2 w v2):Calls Tryz.prog 14 #[v1,v2] w fun e w'=>e=.returned (.bool true)∧Below w.heap.size w w':=by
 obtain⟨g,rfl,r,-⟩:=s;obtain⟨g',rfl,r',-⟩:=s';exact eqOp_any _ _ a.tn _ _ a.tk a.kind a.now a.N w hok.ht hok.bt r.u8 r'.u8
theorem SA.len (hok:a.Ok):a.R.D.length≤1048576∧a.R.U.length≤1048576∧a.R.T.length≤2097152:=stR_len (by rw[hok.hD];exact hok.bD) (by rw[hok.hU];exact hok.bU) hok.hT hok.bT
theorem eyR_any (hok:a.Ok) (s:ASV l1 w v1 a.R) (s':WSV l2 w v2 a.R):Calls Tryz.prog 11 #[v1,v2] w fun e w'=>e=.returned (.bool true)∧Below w.heap.size w w':=by
 have hl:=SA.len hok;obtain⟨aD,nD,cD,aU,nU,cU,aT,nT,cT,rfl,s⟩:=s;obtain⟨bD,mD,dD,bU,mU,dU,bT,mT,dT,rfl,q1,q2,q3,q4,q5,q6,-⟩:=s';obtain rfl:nD=mD:=s.nd.symm.trans q4;obtain rfl:nU=mU:=s.nu.symm.trans q5;obtain rfl:nT=mT:=by have:=s.nt;omega
 have:=s.nd;have:=s.nu;have:=s.nt;exact eqSR_any _ aD bD aU bU aT bT nD cD dD nU cU dU nT cT dT _ _ _ _ w s.nd s.nu s.nt (by omega) (by omega) (by omega) s.d.at_ q1 s.u.at_ q2 s.t.at_ q3
theorem mkS_any (hok:a.Ok) (s:TS a lo hi w v) (k:Int) (hk:0≤k) (hk':k≤8388608) (hlo:lo≤w.heap.size):Calls Tryz.prog 15 #[v,.int .i64 k] w fun e w'=>e=.returned (.int .i64 (k+a.nD+a.nU+a.nT*2))∧Mid lo hi w w':=by
 obtain⟨gD,gU,gT,rfl,r1,r2,r3,o1,o2,o3,o4⟩:=s;have:=hok.bD;have:=hok.bU;have:=hok.bT;refine(markS_any (some ⟨gD,0,none⟩) (some ⟨gU,0,none⟩) (some ⟨gT,0,none⟩) a.nD a.nD a.nU a.nU a.nT a.nT a.k k w lo hlo (r1.opn (by rw[iC_size];exact hok.hD)) (r2.opn (by rw[iC_size];exact hok.hU)) (r3.opn (by rw[iC_size];exact hok.hT)) (fun ad e=>by cases e;exact⟨o1,r1.lt⟩) (fun ad e=>by cases e;exact⟨by show lo≤gU;omega,r2.lt⟩) (fun ad e=>by cases e;exact⟨by show lo≤gT;omega,r3.lt⟩) (fun x y e1 e2=>by cases e1;cases e2;show gD≠gU;omega) (fun x y e1 e2=>by cases e1;cases e2;show gD≠gT;omega) (fun x y e1 e2=>by cases e1;cases e2;show gU≠gT;omega) hk (by omega)).mono ?_;rintro e w' ⟨rfl,-,-,-,hb,hn⟩;refine⟨rfl,hb.os,hb.tape,hb.output,hb.size,fun j hj ho=>hn j hj ?_ ?_ ?_⟩
 ·intro ad e;cases e;show j≠gD;omega
 ·intro ad e;cases e;show j≠gU;omega
 ·intro ad e;cases e;show j≠gT;omega
theorem mkY_any (hok:a.Ok) (s:TB a lo hi w v) (k:Int) (hk:0≤k) (hk':k≤16777216):Calls Tryz.prog 16 #[v,.int .i64 k] w fun e w'=>e=.returned (.int .i64 (k+a.nk))∧Mid lo hi w w':=by
 obtain⟨g,rfl,r,o1,o2⟩:=s;have:=hok.bk;refine(markB_any (some ⟨g,0,none⟩) a.nk a.nk k w (r.opn (by rw[uC_size];exact hok.hk)) hk (by omega)).mono ?_;rintro e w' ⟨rfl,-,hw⟩;refine⟨rfl,hw.os,hw.tape,hw.output,by rw[hw.size];exact Nat.le_refl _,fun j hj ho=>hw.block j ?_⟩;intro ad e;cases e;show j≠g;omega
theorem mkO_any (hok:a.Ok) (s:TO a lo hi w v) (k:Int) (hk:0≤k) (hk':k≤33554432):Calls Tryz.prog 17 #[v,.int .i64 k] w fun e w'=>e=.returned (.int .i64 (k+a.tn))∧Mid lo hi w w':=by
 obtain⟨g,rfl,r,o1,o2⟩:=s;have:=hok.bt;refine(mkOp_any (some ⟨g,0,none⟩) a.tn a.tn a.kind a.now a.N k w (r.opn (by rw[uC_size];exact hok.ht)) hk (by omega)).mono ?_;rintro e w' ⟨rfl,hs,ho,ht,hu,hn⟩;refine⟨rfl,ho,ht,hu,hs,fun j hj ho=>hn j hj ?_⟩;intro ad e;cases e;show j≠g;omega
def MkR (m:Int) (w:World) (v:Value):Prop:=∃ c k aD nD cD aU nU cU aT nT cT,v=.agg #[.int .i64 c,.slice aD nD cD,.slice aU nU cU,.int .i64 k,.slice aT nT cT]∧At .i64 w aD (mks 1 nD)∧At .i64 w aU (mks (1+nD) nU)∧At .i64 w aT (mks (1+nD+nU) (nT*2))∧m=1+(nD:Int)+nU+nT*2∧m≤8388608
theorem mkR_any (hok:a.Ok) (s:ASV lo w v a.R) (hlo:lo≤w.heap.size):Calls Tryz.prog 18 #[v,.int .i64 1] w fun e w'=>∃ m,e=.returned (.int .i64 m)∧MkR m w' v∧0≤m∧Below lo w w'∧∀ j,j<w.heap.size→¬ Value.has v j→w'.heap[j]?=w.heap[j]?:=by
 have hl:=SA.len hok;obtain⟨aD,nD,cD,aU,nU,cU,aT,nT,cT,rfl,s⟩:=s;have:=s.nd;have:=s.nu;have:=s.nt;refine(mkSR_any _ aD aU aT nD cD nU cU nT cT _ 1 w lo hlo (s.d.open_ s.nd) (s.u.open_ s.nu) (s.t.open_ s.nt) s.ld s.lu s.lt s.du s.dt s.ut (by decide) (by omega)).mono ?_;rintro e w' ⟨rfl,m1,m2,m3,hb,hn⟩;exact⟨_,rfl,⟨_,_,aD,nD,cD,aU,nU,cU,aT,nT,cT,rfl,m1,m2,m3,rfl,by omega⟩,by omega,hb,fun j hj hh=>hn j hj (fun ad e h=>hh (h ▸ hasS5' (.inl e))) (fun ad e h=>hh (h ▸ hasS5' (.inr (.inl e)))) (fun ad e h=>hh (h ▸ hasS5' (.inr (.inr e))))⟩
theorem hdR_any {m:Int} (s:MkR m w v):Calls Tryz.prog 19 #[v,.int .i64 1] w fun e w'=>e=.returned (.int .i64 m)∧Below w.heap.size w w':=by
 obtain⟨c,k,aD,nD,cD,aU,nU,cU,aT,nT,cT,rfl,m1,m2,m3,rfl,hm⟩:=s;exact hdSR_any c aD aU aT nD cD nU cU nT cT k 1 w m1 m2 m3 (by decide) (by omega)
end
theorem wpList_want {ops:Array Oper} {rest:List Oper} {o:Oper} {a:Act} {w:World} {Q:Exit→Act→World→Prop} (hw:Region.wanted o (yielded ops a.tmps)=true)
  (h:∀ K:Act→World→Prop,(∀ a w,wpList Tryz.prog ops Q rest a w→K a w)→o.wp Tryz.prog a w K Q):wpList Tryz.prog ops Q (o::rest) a w:=
 wpList_step fun K hK=>by rw[if_pos hw];exact h K hK
theorem lt_of {w:World} {g:Nat} {o:Obj} (h:w.heap[g]?=some o):g<w.heap.size:=(Array.getElem?_eq_some_iff.1 h).1
theorem WSV.hi {lo:Nat} {w:World} {v:Value} {r:SpR} (h:WSV lo w v r) {j:Nat} (hj:Value.has v j):j<w.heap.size:=by
 obtain⟨aD,nD,cD,aU,nU,cU,aT,nT,cT,e,_,_,_,_,_,_,l1,l2,l3,_⟩:=h;rw[e] at hj;rcases hasS5 hj with⟨ad,h,rfl⟩|⟨ad,h,rfl⟩|⟨ad,h,rfl⟩
 ·exact(l1 ad h).2
 ·exact(l2 ad h).2
 ·exact(l3 ad h).2
theorem ASV.hi {lo:Nat} {w:World} {v:Value} {r:SpR} (h:ASV lo w v r) {j:Nat} (hj:Value.has v j):j<w.heap.size:=by
 obtain⟨aD,nD,cD,aU,nU,cU,aT,nT,cT,e,s⟩:=h;rw[e] at hj;rcases hasS5 hj with⟨ad,h,rfl⟩|⟨ad,h,rfl⟩|⟨ad,h,rfl⟩
 ·exact(s.ld ad h).2
 ·exact(s.lu ad h).2
 ·exact(s.lt ad h).2
def TSx (a:SA) (w:World) (v:Value):Prop:=∃ lo hi,TS a lo hi w v
def TBx (a:SA) (w:World) (v:Value):Prop:=∃ lo hi,TB a lo hi w v
def TOx (a:SA) (w:World) (v:Value):Prop:=∃ lo hi,TO a lo hi w v
theorem TSx.below {a:SA} {w w':World} {v:Value} (h:TSx a w v) (b:Below w.heap.size w w'):TSx a w' v:=by obtain⟨lo,hi,h⟩:=h;exact⟨lo,hi,h.below b⟩
theorem TBx.below {a:SA} {w w':World} {v:Value} (h:TBx a w v) (b:Below w.heap.size w w'):TBx a w' v:=by obtain⟨lo,hi,h⟩:=h;exact⟨lo,hi,h.below b⟩
theorem TOx.below {a:SA} {w w':World} {v:Value} (h:TOx a w v) (b:Below w.heap.size w w'):TOx a w' v:=by obtain⟨lo,hi,h⟩:=h;exact⟨lo,hi,h.below b⟩
structure L0 (w:World) (sc oc:Array Value) (wr:World):Prop where
 below:Below w.heap.size w wr
 b0:wr.heap[w.heap.size]?=some (.cells sc 25 (0,0))
 b1:wr.heap[w.heap.size+1]?=some (.cells oc 28 (0,0))
theorem L0.lt {w wr:World} {sc oc:Array Value} (h:L0 w sc oc wr):w.heap.size+1<wr.heap.size:=lt_of h.b1
theorem L0.keep {w wr w':World} {sc oc:Array Value} {B:Nat} (h:L0 w sc oc wr) (b:Below B wr w') (hB:w.heap.size+2≤B):L0 w sc oc w':=
 ⟨h.below.trans (b.mono (by omega)),by rw[b.block _ (by omega)];exact h.b0,by rw[b.block _ (by omega)];exact h.b1⟩
theorem L0.call {w wr w':World} {sc oc:Array Value} (h:L0 w sc oc wr) (b:Below wr.heap.size wr w'):L0 w sc oc w':=h.keep b h.lt
theorem L0.start (w:World) (sc oc:Array Value):L0 w sc oc ((w.alloc (.cells sc 25)).alloc (.cells oc 28)):=by
 have h:=BX2.start w 25 28 sc oc;exact⟨h.below,h.b0,h.b1⟩
structure L5 (a:SA) (w:World) (sc oc:Array Value) (n5 G0:Nat) (cs0:Array Value) (wr:World):Prop where
 l0:L0 w sc oc wr
 h5:w.heap.size+2≤n5
 g0:wr.heap[G0]?=some (.cells cs0 35 (0,0))
 g0lt:G0<n5
 s0:WSV w.heap.size wr (.agg cs0) a.R
 s0lt:∀ j,Value.has (.agg cs0) j→j<n5
theorem L5.keep {a:SA} {w wr w':World} {sc oc cs0:Array Value} {n5 G0:Nat} (h:L5 a w sc oc n5 G0 cs0 wr) (b:Below n5 wr w') (hn:n5≤wr.heap.size):L5 a w sc oc n5 G0 cs0 w':=
 ⟨h.l0.keep b h.h5,h.h5,by rw[b.block _ h.g0lt];exact h.g0,h.g0lt,h.s0.keep b.size (fun j hj _=>b.block j (h.s0lt j hj)),h.s0lt⟩
theorem L5.call {a:SA} {w wr w':World} {sc oc cs0:Array Value} {n5 G0:Nat} (h:L5 a w sc oc n5 G0 cs0 wr) (b:Below wr.heap.size wr w'):L5 a w sc oc n5 G0 cs0 w':=
 ⟨h.l0.call b,h.h5,by rw[b.block _ (lt_of h.g0)];exact h.g0,h.g0lt,h.s0.below b,h.s0lt⟩
structure L9 (a:SA) (w:World) (sc oc:Array Value) (n5 G0:Nat) (cs0:Array Value) (n10 G1:Nat) (cs4:Array Value) (wr:World):Prop where
 l5:L5 a w sc oc n5 G0 cs0 wr
 h10:n5≤n10
 g1:wr.heap[G1]?=some (.cells cs4 35 (0,0))
 g1ge:n10≤G1
 s1:ASV n10 wr (.agg cs4) a.R
 s1ne:∀ j,Value.has (.agg cs4) j→j≠G1
theorem L9.mid {a:SA} {w wr w':World} {sc oc cs0 cs4:Array Value} {n5 G0 n10 G1:Nat} (h:L9 a w sc oc n5 G0 cs0 n10 G1 cs4 wr) (hm:Mid n5 n10 wr w'):L9 a w sc oc n5 G0 cs0 n10 G1 cs4 w':=by
 have hl:=lt_of h.g1;have h1:=h.h10;have h2:=h.g1ge;exact⟨h.l5.keep (hm.below (Nat.le_refl _) (by omega)) (by omega),h.h10,by rw[hm.block _ hl (.inr h2)];exact h.g1,h2,h.s1.keep hm.size (fun j hj hl=>hm.block j hl (.inr (h.s1.lo hj))),h.s1ne⟩
theorem L9.call {a:SA} {w wr w':World} {sc oc cs0 cs4:Array Value} {n5 G0 n10 G1:Nat} (h:L9 a w sc oc n5 G0 cs0 n10 G1 cs4 wr) (b:Below wr.heap.size wr w'):L9 a w sc oc n5 G0 cs0 n10 G1 cs4 w':=h.mid (Mid.of b)
set_option maxRecDepth 100000 in
set_option maxHeartbeats 16000000 in
theorem stw_any (a:SA) (aD aU aT ka ta:Option Addr) (cD cU cT ck tc:Nat) (w:World) (hD:a.D.length=a.nD) (hU:a.U.length=a.nU) (hT:a.T.length=a.nT*2) (hk:a.ks.length=a.nk) (ht:a.tk.length=a.tn)
  (mD:a.nD≤9223372036854775807) (mU:a.nU≤9223372036854775807) (mT:a.nT≤9223372036854775807) (mk:a.nk≤9223372036854775807) (mt:a.tn≤9223372036854775807) (k0:-9223372036854775808≤a.k) (k1:a.k<9223372036854775808) (zk:Byte a.ks) (zt:Byte a.tk)
  (haD:At .i64 w aD a.D) (haU:At .i64 w aU a.U) (haT:At .i64 w aT a.T) (hak:At .u8 w ka a.ks) (hat:At .u8 w ta a.tk) (hTb:TabIn w) (hV:1<w.heap.size) (hE:ErrIn w) :
  Calls Tryz.prog 3 #[.agg #[.slice aD a.nD cD,.slice aU a.nU cU,.int .i64 a.k,.slice aT a.nT cT],.slice ka a.nk ck,.agg #[.int .i64 a.kind,.slice ta a.tn tc,.int .i64 a.now,.int .i64 a.N]] w fun e w'=>e=.returned (.bool true)∧Below w.heap.size w w':=by
 have HZ:Hid (∀ left n,szQ left n=if left<n then -1 else left-n):=fun _ _=>rfl
 have HM0:Hid (L0 w #[.slice aD a.nD cD,.slice aU a.nU cU,.int .i64 a.k,.slice aT a.nT cT] #[.int .i64 a.kind,.slice ta a.tn tc,.int .i64 a.now,.int .i64 a.N] ((w.alloc (.cells #[.slice aD a.nD cD,.slice aU a.nU cU,.int .i64 a.k,.slice aT a.nT cT] 25)).alloc (.cells #[.int .i64 a.kind,.slice ta a.tn tc,.int .i64 a.now,.int .i64 a.N] 28))):=L0.start _ _ _;have HA:Hid (∀ wz,Below w.heap.size w wz→At .i64 wz aD a.D∧At .i64 wz aU a.U∧At .i64 wz aT a.T∧At .u8 wz ka a.ks∧At .u8 wz ta a.tk∧TabIn wz∧ErrIn wz):=fun wz h=>⟨haD.below h,haU.below h,haT.below h,hak.below h,hat.below h,tab_keepV hTb hV h,hE.below h⟩
 have HV1:Hid (1<w.heap.size):=hV;have HOL:Hid (a.nD≤1048576→a.nU≤1048576→a.nT≤1048576→a.nk≤1048576→a.tn≤1048576→a.Ok):=fun b1 b2 b3 b4 b5=>⟨hD,hU,hT,hk,ht,b1,b2,b3,b4,b5,k0,k1,zk,zt⟩
 have HRZ:Hid ((Tryz.prog.info? 35).map (·.size)=some 5):=by show _=_;kernel_rfl
 have HSS:Hid ((Tryz.prog.info? 33).map (·.size)=some 4):=by show _=_;kernel_rfl
 have HOO:Hid ((Tryz.prog.info? 39).map (·.size)=some 4):=by show _=_;kernel_rfl
 have HSL:Hid ((Tryz.prog.info? 25).map (·.size)=some (#[.slice aD a.nD cD,.slice aU a.nU cU,.int .i64 a.k,.slice aT a.nT cT]:Array Value).size):=by show _=_;kernel_rfl
 have HSO:Hid ((Tryz.prog.info? 28).map (·.size)=some (#[.int .i64 a.kind,.slice ta a.tn tc,.int .i64 a.now,.int .i64 a.N]:Array Value).size):=by show _=_;kernel_rfl
 clear haD haU haT hak hat hTb hV hE hD hU hT hk ht k0 k1 zk zt;go_enter Tryz.func3,Tryz.ntmps3
 go_upto_region 1 with fail
 generalize ((w.alloc (.cells #[.slice aD a.nD cD,.slice aU a.nU cU,.int .i64 a.k,.slice aT a.nT cT] 25)).alloc (.cells #[.int .i64 a.kind,.slice ta a.tn tc,.int .i64 a.now,.int .i64 a.N] 28))=w0 at *;by_cases hkb:(1048576:Int)<(a.nk:Int)
 ·have HB0:Hid (Below w.heap.size w w0):=HM0.out.below;clear HM0;go_wp2
  go_ret
  exact⟨rfl,HB0.out⟩
 go_wp2_with (first
  |(refine wpList_load_row rfl 25 (.tmp 3) rfl (w.heap.size) rfl 25 _ (0,0) _ HM0.out.b0 Tryz.underlying25 rfl HSL.out ?_)
  |fail)
 refine(szSt_any aD aU aT a.nD cD a.nU cU a.nT cT a.k 1048576 _ (by decide) (by decide) mD mU mT).mono ?_;rintro e w2 ⟨rfl,hb2⟩;have HM2:Hid (L0 w #[.slice aD a.nD cD,.slice aU a.nU cU,.int .i64 a.k,.slice aT a.nT cT] #[.int .i64 a.kind,.slice ta a.tn tc,.int .i64 a.now,.int .i64 a.N] w2):=HM0.out.call hb2;clear HM0 hb2;by_cases hbig:(1048576:Int)<((a.nD+a.nU+a.nT:Nat):Int)
 ·have hr:szQ 1048576 (a.nD+a.nU+a.nT)=-1:=by rw[HZ.out,if_pos hbig]
  rw[hr];have HB1:Hid (Below w.heap.size w w2):=HM2.out.below;clear HM2 hr hbig;go_wp2
  go_ret
  exact⟨rfl,HB1.out⟩
 have hr:szQ 1048576 (a.nD+a.nU+a.nT)=1048576-((a.nD+a.nU+a.nT:Nat):Int):=by rw[HZ.out,if_neg hbig]
 have hneg:¬ (szQ 1048576 (a.nD+a.nU+a.nT)<0):=by rw[hr];omega
 have HLF:Hid (0≤szQ 1048576 (a.nD+a.nU+a.nT)∧szQ 1048576 (a.nD+a.nU+a.nT)≤1048576):=by rw[hr];exact⟨by omega,by omega⟩
 have HBB:Hid (a.nD≤1048576∧a.nU≤1048576∧a.nT≤1048576∧a.nk≤1048576):=⟨by omega,by omega,by omega,by omega⟩
 generalize szQ 1048576 (a.nD+a.nU+a.nT)=left at *;clear hr hbig hkb;go_wp2_with (first
  |(refine wpList_load_row rfl 28 (.tmp 5) rfl (w.heap.size+1) rfl 28 _ (0,0) _ HM2.out.b1 Tryz.underlying28 rfl HSO.out ?_)
  |fail)
 refine(szOp_any ta a.tn tc a.kind a.now a.N left _ HLF.out.1 HLF.out.2 mt).mono ?_;rintro e w4 ⟨rfl,hb4⟩;have HM4:Hid (L0 w #[.slice aD a.nD cD,.slice aU a.nU cU,.int .i64 a.k,.slice aT a.nT cT] #[.int .i64 a.kind,.slice ta a.tn tc,.int .i64 a.now,.int .i64 a.N] w4):=HM2.out.call hb4;clear HM2 hb4 hneg;by_cases hbig:left<((a.tn:Nat):Int)
 ·have hr:szQ left a.tn=-1:=by rw[HZ.out,if_pos hbig]
  rw[hr];have HB1:Hid (Below w.heap.size w w4):=HM4.out.below;clear HM4 hr hbig;go_wp2
  go_ret
  exact⟨rfl,HB1.out⟩
 have hr:szQ left a.tn=left-((a.tn:Nat):Int):=by rw[HZ.out,if_neg hbig]
 have hneg:¬ (szQ left a.tn<0):=by rw[hr];omega
 have HOK:Hid a.Ok:=HOL.out HBB.out.1 HBB.out.2.1 HBB.out.2.2.1 HBB.out.2.2.2 (by have:=HLF.out;omega);generalize szQ left a.tn=left2 at *;have HCS:Hid (∀ wz,Below w.heap.size w wz→Calls Tryz.prog 7 #[.agg #[.slice aD a.nD cD,.slice aU a.nU cU,.int .i64 a.k,.slice aT a.nT cT]] wz fun e w'=>∃ v,e=.returned v∧TS a wz.heap.size w'.heap.size w' v∧Below wz.heap.size wz w'):=fun wz h=>tyS_any HOK.out aD aU aT cD cU cT (HA.out wz h).1 (HA.out wz h).2.1 (HA.out wz h).2.2.1
 have HCO:Hid (∀ wz,Below w.heap.size w wz→Calls Tryz.prog 9 #[.agg #[.int .i64 a.kind,.slice ta a.tn tc,.int .i64 a.now,.int .i64 a.N]] wz fun e w'=>∃ v,e=.returned v∧TO a wz.heap.size w'.heap.size w' v∧Below wz.heap.size wz w'):=fun wz h=>tyO_any HOK.out ta tc (HA.out wz h).2.2.2.2.1
 generalize (#[.slice aD a.nD cD,.slice aU a.nU cU,.int .i64 a.k,.slice aT a.nT cT]:Array Value)=sc at *;generalize (#[.int .i64 a.kind,.slice ta a.tn tc,.int .i64 a.now,.int .i64 a.N]:Array Value)=oc at *;clear hr hbig mD mU mT mk mt HZ HOL HBB HLF;go_wp2_with fail;refine wp_region_any (by kernel_rfl) ?_;refine wpAny_slotsF 8 (fun _ a b=>Below a.heap.size a b) (frame:=(fun (a b c d e f g h i j k l m n o p q r s u v w x y z A B C D E F G H I J K L M N O P Q R S T U V W X Y Z a0 a1 a2 a3 a4 a5 a6 a7 a8 a9 b0 b1 b2 b3 b4 b5 b6 b7 b8 b9 c0 c1 c2 c3 c4 c5 c6 c7 c8 c9 d0 d1 d2 d3 d4 d5 d6 d7 d8 d9 e0 e1 e2 e3 e4 e5:Value)=>fun (t:Nat→Value)=>({ tmps:=List.toArray [a,b,c,d,e,f,g,h,t 7,i,j,k,l,m,n,o,p,q,r,s,u,v,w,x,y,z,A,B,C,D,t 0,t 1,t 2,t 3,t 4,t 5,t 6,E,F,G,H,I,J,K,L,M,N,O,P,Q,R,S,T,U,V,W,X,Y,Z,a0,a1,a2,a3,a4,a5,a6,a7,a8,a9,b0,b1,b2,b3,b4,b5,b6,b7,b8,b9,c0,c1,c2,c3,c4,c5,c6,c7,c8,c9,d0,d1,d2,d3,d4,d5,d6,d7,d8,d9,e0,e1,e2,e3,e4,e5],defers:=[] }:Act)) _ _ _ _ _ _ _ _ _ _ _ _ _ _ _ _ _ _ _ _ _ _ _ _ _ _ _ _ _ _ _ _ _ _ _ _ _ _ _ _ _ _ _ _ _ _ _ _ _ _ _ _ _ _ _ _ _ _ _ _ _ _ _ _ _ _ _ _ _ _ _ _ _ _ _ _ _ _ _ _ _ _ _ _ _ _ _ _ _ _ _ _ _ _ _ _ _)
  (Ext:=fun L u w'=>ApH w4 [6,7] L u w') (Good:=fun i L w' v=>if i=0 then v=.agg sc else if i=1 then TSx a w' v else if i=2 then v=.slice ka a.nk ck else if i=3 then TBx a w' v else if i=4 then v=.agg oc else if i=5 then TOx a w' v else if i=6 then WSV w4.heap.size w' v a.R else if i=7 then NwS w4.heap.size w' v else True) (Fin:=FinS WSV 7 w4 a.R) rfl (by kernel_rfl) ?hstab (by kernel_rfl) ?hop ?hend ?hdone _ _ ((fun (x0 x1 x2 x3 x4 x5 x6 x7:Value)=>fun (i:Nat)=>if i=0 then x0 else if i=1 then x1 else if i=2 then x2 else if i=3 then x3 else if i=4 then x4 else if i=5 then x5 else if i=6 then x6 else if i=7 then x7 else undef) _ _ _ _ _ _ _ _) _ (by simp) ?none ?ext (by simp)
 case none=>intro i;rw[Array.getD_eq_getD_getElem?,Array.getElem?_replicate];split<;>rfl
 case ext=>exact ApH.start w4 [6,7] _ _ (fun i=>by rw[Array.getD_eq_getD_getElem?,Array.getElem?_replicate];split<;>rfl) ⟨rfl,rfl,rfl,Nat.le_refl _,fun _ _=>rfl⟩
 case hstab=>
  intro j L w9 w' i v _ hM _ _ h;by_cases h1:j=1
  ·subst h1;simp at h ⊢;exact h.below hM
  by_cases h3:j=3
  ·subst h3;simp at h ⊢;exact h.below hM
  by_cases h5:j=5
  ·subst h5;simp at h ⊢;exact h.below hM
  by_cases h6:j=6
  ·subst h6;simp at h ⊢;exact h.below hM
  by_cases h7:j=7
  ·subst h7;simp at h ⊢;exact h.below hM
  simp only[if_neg h1,if_neg h3,if_neg h5,if_neg h6,if_neg h7] at h ⊢;exact h
 case hop=>
  intro i o L t w' hi ho hLi hx hdep K hK;obtain rfl|rfl|rfl|rfl|rfl|rfl|rfl|rfl:i=0∨i=1∨i=2∨i=3∨i=4∨i=5∨i=6∨i=7:=by omega
  all_goals(simp at ho;subst ho)
  ·clear hdep;have hr:w'.heap[w.heap.size]?=some (.cells sc 25 (0,0)):=by rw[hx.below.block _ (Nat.lt_trans (Nat.lt_succ_self _) HM4.out.lt)];exact HM4.out.b0
   have hK':=hK w' (.agg sc) (by simp) (hx.step 0 _ (Below.refl _ _) (fun h=>absurd h (by decide))) (Below.refl _ _);clear hK;rw[if_pos (by rfl)];refine wp_load_row 25 (.tmp 3) rfl (w.heap.size) rfl 25 _ (0,0) _ hr Tryz.underlying25 rfl HSL.out ?_;go_simp;simpa[upd] using hK'
  ·have d0:t 0=.agg sc:=by simpa using(hdep ⟨0,.data⟩ (by simp) rfl).2
   clear hdep;have bw:Below w.heap.size w w':=HM4.out.below.trans (hx.below.mono HM4.out.below.size);have A:=HCS.out w' bw;have hK':∀ ww v,TSx a ww v→Below w'.heap.size w' ww→K _ ww:=fun ww v hv hb=>hK ww v (by simpa using hv) (hx.step 1 v hb (fun h=>absurd h (by decide))) hb
   clear hK bw;rw[if_pos (by rfl)];go_simp;try simp only[d0]
   refine A.mono ?_;rintro e w9 ⟨v9,rfl,hv9,hb9⟩;have hK2:=hK' w9 v9 ⟨_,_,hv9⟩ hb9;clear hK' A hv9 hb9;go_simp;simpa[upd,d0] using hK2
  ·clear hdep;have hK':=hK w' (.slice ka a.nk ck) (by simp) (hx.step 2 _ (Below.refl _ _) (fun h=>absurd h (by decide))) (Below.refl _ _);clear hK;rw[if_pos (by rfl)];go_simp;simpa[upd] using hK'
  ·have d2:t 2=.slice ka a.nk ck:=by simpa using(hdep ⟨2,.data⟩ (by simp) rfl).2
   clear hdep;have bw:Below w.heap.size w w':=HM4.out.below.trans (hx.below.mono HM4.out.below.size);have A:=tyY_any HOK.out ka ck (HA.out w' bw).2.2.2.1;have hK':∀ ww v,TBx a ww v→Below w'.heap.size w' ww→K _ ww:=fun ww v hv hb=>hK ww v (by simpa using hv) (hx.step 3 v hb (fun h=>absurd h (by decide))) hb
   clear hK bw;rw[if_pos (by rfl)];go_simp;try simp only[d2]
   refine A.mono ?_;rintro e w9 ⟨v9,rfl,hv9,hb9⟩;have hK2:=hK' w9 v9 ⟨_,_,hv9⟩ hb9;clear hK' A hv9 hb9;go_simp;simpa[upd,d2] using hK2
  ·clear hdep;have hr:w'.heap[w.heap.size+1]?=some (.cells oc 28 (0,0)):=by rw[hx.below.block _ HM4.out.lt];exact HM4.out.b1
   have hK':=hK w' (.agg oc) (by simp) (hx.step 4 _ (Below.refl _ _) (fun h=>absurd h (by decide))) (Below.refl _ _);clear hK;rw[if_pos (by rfl)];refine wp_load_row 28 (.tmp 5) rfl (w.heap.size+1) rfl 28 _ (0,0) _ hr Tryz.underlying28 rfl HSO.out ?_;go_simp;simpa[upd] using hK'
  ·have d4:t 4=.agg oc:=by simpa using(hdep ⟨4,.data⟩ (by simp) rfl).2
   clear hdep;have bw:Below w.heap.size w w':=HM4.out.below.trans (hx.below.mono HM4.out.below.size);have A:=HCO.out w' bw;have hK':∀ ww v,TOx a ww v→Below w'.heap.size w' ww→K _ ww:=fun ww v hv hb=>hK ww v (by simpa using hv) (hx.step 5 v hb (fun h=>absurd h (by decide))) hb
   clear hK bw;rw[if_pos (by rfl)];go_simp;try simp only[d4]
   refine A.mono ?_;rintro e w9 ⟨v9,rfl,hv9,hb9⟩;have hK2:=hK' w9 v9 ⟨_,_,hv9⟩ hb9;clear hK' A hv9 hb9;go_simp;simpa[upd,d4] using hK2
  ·have f1:TSx a w' (t 1):=by simpa using(hdep ⟨1,.data⟩ (by simp) rfl).2
   have f3:TBx a w' (t 3):=by simpa using(hdep ⟨3,.data⟩ (by simp) rfl).2
   have f5:TOx a w' (t 5):=by simpa using(hdep ⟨5,.data⟩ (by simp) rfl).2
   clear hdep;have bw:Below w.heap.size w w':=HM4.out.below.trans (hx.below.mono HM4.out.below.size);obtain⟨lS,hS,f1⟩:=f1;obtain⟨lB,hB,f3⟩:=f3;obtain⟨lO,hO,f5⟩:=f5;have hszw:w4.heap.size≤w'.heap.size:=hx.below.size;have A:=ssC_any HOK.out f1 f3 f5;have hK':∀ ww v,WSV w'.heap.size ww v a.R→Below w'.heap.size w' ww→K _ ww:=fun ww v hv hb=>hK ww v (by simpa using hv.mono hszw) (hx.step 6 v hb (fun _=>hv.fresh)) hb
   clear hK bw f1 f3 f5;rw[if_pos (by rfl)];go_simp;refine A.mono ?_;rintro e w9 ⟨v9,rfl,hv9,hb9⟩;have hK2:=hK' w9 v9 hv9 hb9;clear hK' A hv9 hb9;go_simp;simpa[upd] using hK2
  ·clear hdep;have hsz:w4.heap.size≤w'.heap.size:=hx.below.size;have bb:Below w'.heap.size w' (w'.alloc (.cells #[.int .i64 0,.slice none 0 0,.slice none 0 0,.int .i64 0,.slice none 0 0] 35)):=(Below.refl _ _).alloc (Nat.le_refl _) _;have hK':=hK (w'.alloc (.cells #[.int .i64 0,.slice none 0 0,.slice none 0 0,.int .i64 0,.slice none 0 0] 35)) (.pointer (some ⟨w'.heap.size,0,none⟩)) (by simpa using⟨w'.heap.size,rfl,hsz,heap_alloc_new w' _⟩) (hx.step 7 _ bb (fun _=>fun j hj=>by rw[has_ptr] at hj;subst hj;exact⟨Nat.le_refl _,by simp⟩)) bb;clear hK bb;rw[if_pos (by rfl)];go_simp;simpa[upd] using hK'
 case hend=>
  intro o L t w' ho hx hg K hK;simp at ho;subst ho;have l6:L 6=true:=(hg 6 (by decide)).1;have f6:WSV w4.heap.size w' (t 6) a.R:=by simpa using(hg 6 (by decide)).2
  have l7:L 7=true:=(hg 7 (by decide)).1;have f7:NwS w4.heap.size w' (t 7):=by simpa using(hg 7 (by decide)).2
  clear hg;obtain⟨G,e7,hG,hrow⟩:=f7;have hap:=hx.ap 6 (by decide) 7 (by decide) (by decide) l6 l7;obtain⟨cs,e6,h1,h2⟩:=f6.cells;have hK':∀ ww,Wr G w' ww→ww.heap[G]?=some (.cells cs 35 (0,0))→K _ ww:=fun ww hw hr=>hK ww undef ⟨G,cs,by simp[upd];exact e7,hG,hr,(e6 ▸ f6).wrG hw (fun j hj e=>hap j (by rw[e6];exact hj) (by rw[e7,has_ptr];exact e)),fun j hj e=>hap j (by rw[e6];exact hj) (by rw[e7,has_ptr];exact e),hx.below.trans (hw.below hG)⟩
  clear hK;rw[if_pos (by rfl)];refine wp_store_row 35 (.tmp 8) (.tmp 36) rfl G cs e7 e6 35 _ hrow (by rw[h1];exact HRZ.out) (by rw[h1];rfl) h2 ?_;have hK2:=hK' _ (Wr.setRow _ _ _) (setRow_heap _ _ _ _ _ _ hrow);clear hK';simpa[upd,Act.put] using hK2
 case hdone=>
  intro t w5 hf;obtain⟨G0,cs0,e7,hG,hrow,hpv,hne,hbw⟩:=hf;obtain⟨cs,ec,hz0,-⟩:=hpv.cells;cases ec;have HI0:Hid ((Tryz.prog.info? 35).map (·.size)=some cs0.size):=by show _=_;rw[hz0];exact HRZ.out
  have HL5:Hid (L5 a w sc oc w5.heap.size G0 cs0 w5):=⟨HM4.out.call hbw,by have:=(HM4.out.call hbw).lt;omega,hrow,lt_of hrow,hpv.mono HM4.out.below.size,fun j hj=>hpv.hi hj⟩
  simp only[e7];clear hbw hrow hpv hne hz0 e7 hG HM4;go_wp2_with (first
   |(refine wpList_load_row rfl 25 (.tmp 3) rfl (w.heap.size) rfl 25 _ (0,0) _ HL5.out.l0.b0 Tryz.underlying25 rfl HSL.out ?_)
   |fail)
  refine(HCS.out w5 HL5.out.l0.below).mono ?_;rintro e w6 ⟨v1,rfl,hts,hb6⟩;obtain⟨cs1,rfl,hz1,ho1⟩:=hts.cells;have HL6:Hid (L5 a w sc oc w5.heap.size G0 cs0 w6):=HL5.out.call hb6;have HTS6:=hid_ofS hts;have HO6:Hid (w5.heap.size≤w6.heap.size):=hb6.size;clear hts hb6 HL5;have HN:Hid ((w6.alloc (.cells #[.slice none 0 0,.slice none 0 0,.int .i64 0,.slice none 0 0] 33)).heap[w6.heap.size]?=some (.cells #[.slice none 0 0,.slice none 0 0,.int .i64 0,.slice none 0 0] 33 (0,0))):=heap_alloc_new w6 _;have HIn:Hid ((Tryz.prog.info? 33).map (·.size)=some cs1.size):=by show _=_;rw[hz1];exact HSS.out
  have HEn:Hid ((#[.slice none 0 0,.slice none 0 0,.int .i64 0,.slice none 0 0]:Array Value).size=cs1.size):=by show _=_;rw[hz1];rfl
  have HOn:Hid (cs1.all (fun x=>x.oneCell')=true):=ho1;have HBn:Hid (Below w6.heap.size w6 ((w6.alloc (.cells #[.slice none 0 0,.slice none 0 0,.int .i64 0,.slice none 0 0] 33)).setRow w6.heap.size cs1)):=((Below.refl _ _).alloc (Nat.le_refl _) _).trans ((Wr.setRow _ _ _).below (Nat.le_refl _));have HRn:Hid (((w6.alloc (.cells #[.slice none 0 0,.slice none 0 0,.int .i64 0,.slice none 0 0] 33)).setRow w6.heap.size cs1).heap[w6.heap.size]?=some (.cells cs1 33 (0,0))):=setRow_heap _ _ _ _ _ _ HN.out;have HQn:Hid (((w6.alloc (.cells #[.slice none 0 0,.slice none 0 0,.int .i64 0,.slice none 0 0] 33)).setRow w6.heap.size cs1).heap.size=w6.heap.size+1):=by show _=_;rw[(Wr.setRow _ _ _).size];simp
  go_upto_region 12 with (first
   |(refine wpList_store_row rfl 33 (.tmp 9) (.tmp 38) rfl w6.heap.size cs1 rfl rfl 33 _ HN.out HIn.out HEn.out HOn.out ?_)
   |fail)
  clear HN HEn HOn hz1 ho1;generalize ((w6.alloc (.cells #[.slice none 0 0,.slice none 0 0,.int .i64 0,.slice none 0 0] 33)).setRow w6.heap.size cs1)=w7 at *;have HI1:=HIn;have HL7:Hid (L5 a w sc oc w5.heap.size G0 cs0 w7):=HL6.out.call HBn.out;have HTS7:=hid_ofS (HTS6.out.below HBn.out);have HX7:=HRn;have HO7:Hid (w5.heap.size≤w6.heap.size∧w7.heap.size=w6.heap.size+1):=⟨HO6.out,HQn.out⟩
  clear HIn HBn HRn HQn HL6 HTS6 HO6;go_wp2_with fail;refine(tyY_any HOK.out ka ck (HA.out w7 HL7.out.l0.below).2.2.2.1).mono ?_;rintro e w8 ⟨v2,rfl,htb,hb8⟩;obtain⟨x2,rfl⟩:=htb.slice;have HL8:Hid (L5 a w sc oc w5.heap.size G0 cs0 w8):=HL7.out.call hb8;have HTS8:=hid_ofS (HTS7.out.below hb8);have HX8:Hid (w8.heap[w6.heap.size]?=some (.cells cs1 33 (0,0))):=by show _=_;rw[hb8.block _ (lt_of HX7.out)];exact HX7.out
  have HTB8:=hid_ofS htb;have HO8:Hid (w5.heap.size≤w6.heap.size∧w7.heap.size=w6.heap.size+1∧w7.heap.size≤w8.heap.size):=⟨HO7.out.1,HO7.out.2,hb8.size⟩
  clear htb hb8 HL7 HTS7 HX7 HO7;go_wp2_with (first
   |(refine wpList_load_row rfl 28 (.tmp 5) rfl (w.heap.size+1) rfl 28 _ (0,0) _ HL8.out.l0.b1 Tryz.underlying28 rfl HSO.out ?_)
   |fail)
  refine(HCO.out w8 HL8.out.l0.below).mono ?_;rintro e w9 ⟨v3,rfl,hto,hb9⟩;obtain⟨cs3,rfl,hz3,ho3⟩:=hto.cells;have HL9:Hid (L5 a w sc oc w5.heap.size G0 cs0 w9):=HL8.out.call hb9;have HTS9:=hid_ofS (HTS8.out.below hb9);have HX9:Hid (w9.heap[w6.heap.size]?=some (.cells cs1 33 (0,0))):=by show _=_;rw[hb9.block _ (lt_of HX8.out)];exact HX8.out
  have HTB9:=hid_ofS (HTB8.out.below hb9);have HTO9:=hid_ofS hto;have HO9:Hid (w8.heap.size≤w9.heap.size):=hb9.size;clear hto hb9 HL8 HTS8 HX8 HTB8;have HN:Hid ((w9.alloc (.cells #[.int .i64 0,.slice none 0 0,.int .i64 0,.int .i64 0] 39)).heap[w9.heap.size]?=some (.cells #[.int .i64 0,.slice none 0 0,.int .i64 0,.int .i64 0] 39 (0,0))):=heap_alloc_new w9 _;have HIn:Hid ((Tryz.prog.info? 39).map (·.size)=some cs3.size):=by show _=_;rw[hz3];exact HOO.out
  have HEn:Hid ((#[.int .i64 0,.slice none 0 0,.int .i64 0,.int .i64 0]:Array Value).size=cs3.size):=by show _=_;rw[hz3];rfl
  have HOn:Hid (cs3.all (fun x=>x.oneCell')=true):=ho3;have HBn:Hid (Below w9.heap.size w9 ((w9.alloc (.cells #[.int .i64 0,.slice none 0 0,.int .i64 0,.int .i64 0] 39)).setRow w9.heap.size cs3)):=((Below.refl _ _).alloc (Nat.le_refl _) _).trans ((Wr.setRow _ _ _).below (Nat.le_refl _));have HRn:Hid (((w9.alloc (.cells #[.int .i64 0,.slice none 0 0,.int .i64 0,.int .i64 0] 39)).setRow w9.heap.size cs3).heap[w9.heap.size]?=some (.cells cs3 39 (0,0))):=setRow_heap _ _ _ _ _ _ HN.out;have HQn:Hid (((w9.alloc (.cells #[.int .i64 0,.slice none 0 0,.int .i64 0,.int .i64 0] 39)).setRow w9.heap.size cs3).heap.size=w9.heap.size+1):=by show _=_;rw[(Wr.setRow _ _ _).size];simp
  go_upto_region 14 with (first
   |(refine wpList_store_row rfl 39 (.tmp 11) (.tmp 42) rfl w9.heap.size cs3 rfl rfl 39 _ HN.out HIn.out HEn.out HOn.out ?_)
   |fail)
  clear HN HEn HOn hz3 ho3;generalize ((w9.alloc (.cells #[.int .i64 0,.slice none 0 0,.int .i64 0,.int .i64 0] 39)).setRow w9.heap.size cs3)=w10 at *;have HI3:=HIn;have HL10:Hid (L5 a w sc oc w5.heap.size G0 cs0 w10):=HL9.out.call HBn.out;have HTS10:=hid_ofS (HTS9.out.below HBn.out);have HTB10:=hid_ofS (HTB9.out.below HBn.out);have HTO10:=hid_ofS (HTO9.out.below HBn.out);have HX10:Hid (w10.heap[w6.heap.size]?=some (.cells cs1 33 (0,0))):=by show _=_;rw[HBn.out.block _ (lt_of HX9.out)];exact HX9.out
  have HY10:=HRn;have HO:Hid (w5.heap.size≤w6.heap.size∧w7.heap.size=w6.heap.size+1∧w7.heap.size≤w8.heap.size∧w8.heap.size≤w9.heap.size∧w10.heap.size=w9.heap.size+1∧w10.heap.size≤w10.heap.size):=⟨HO8.out.1,HO8.out.2.1,HO8.out.2.2,HO9.out,HQn.out,Nat.le_refl _⟩
  clear HIn HBn HRn HQn HL9 HTS9 HTB9 HTO9 HX9 HO8 HO9;go_wp2_with (first
   |(refine wpList_load_row rfl 33 (.tmp 9) rfl (w6.heap.size) rfl 33 _ (0,0) _ HX10.out Tryz.underlying33 rfl HI1.out ?_)
   |(refine wpList_load_row rfl 39 (.tmp 11) rfl (w9.heap.size) rfl 39 _ (0,0) _ HY10.out Tryz.underlying39 rfl HI3.out ?_)
   |fail)
  refine(isC_any HOK.out HTS10.out HTB10.out HTO10.out (HA.out w10 HL10.out.l0.below).2.2.2.2.2.1 (Nat.lt_of_lt_of_le HV1.out HL10.out.l0.below.size) (HA.out w10 HL10.out.l0.below).2.2.2.2.2.2).mono ?_;rintro e w11 ⟨v4,rfl,has,hb11⟩;obtain⟨cs4,rfl,hz4,ho4⟩:=has.cells;have HAS:=hid_ofS has;have HB11:=hid_ofS hb11;clear has hb11;have HN:Hid ((w11.alloc (.cells #[.int .i64 0,.slice none 0 0,.slice none 0 0,.int .i64 0,.slice none 0 0] 35)).heap[w11.heap.size]?=some (.cells #[.int .i64 0,.slice none 0 0,.slice none 0 0,.int .i64 0,.slice none 0 0] 35 (0,0))):=heap_alloc_new w11 _;have HIn:Hid ((Tryz.prog.info? 35).map (·.size)=some cs4.size):=by show _=_;rw[hz4];exact HRZ.out
  have HEn:Hid ((#[.int .i64 0,.slice none 0 0,.slice none 0 0,.int .i64 0,.slice none 0 0]:Array Value).size=cs4.size):=by show _=_;rw[hz4];rfl
  have HOn:Hid (cs4.all (fun x=>x.oneCell')=true):=ho4;have HBn:Hid (Below w11.heap.size w11 ((w11.alloc (.cells #[.int .i64 0,.slice none 0 0,.slice none 0 0,.int .i64 0,.slice none 0 0] 35)).setRow w11.heap.size cs4)):=((Below.refl _ _).alloc (Nat.le_refl _) _).trans ((Wr.setRow _ _ _).below (Nat.le_refl _));have HRn:Hid (((w11.alloc (.cells #[.int .i64 0,.slice none 0 0,.slice none 0 0,.int .i64 0,.slice none 0 0] 35)).setRow w11.heap.size cs4).heap[w11.heap.size]?=some (.cells cs4 35 (0,0))):=setRow_heap _ _ _ _ _ _ HN.out;have HQn:Hid (((w11.alloc (.cells #[.int .i64 0,.slice none 0 0,.slice none 0 0,.int .i64 0,.slice none 0 0] 35)).setRow w11.heap.size cs4).heap.size=w11.heap.size+1):=by show _=_;rw[(Wr.setRow _ _ _).size];simp
  go_upto_region 15 with (first
   |(refine wpList_store_row rfl 35 (.tmp 12) (.tmp 46) rfl w11.heap.size cs4 rfl rfl 35 _ HN.out HIn.out HEn.out HOn.out ?_)
   |fail)
  clear HN HEn HOn hz4 ho4;generalize ((w11.alloc (.cells #[.int .i64 0,.slice none 0 0,.slice none 0 0,.int .i64 0,.slice none 0 0] 35)).setRow w11.heap.size cs4)=w12 at *;have HI4:=HIn;have HB12:Hid (Below w10.heap.size w10 w12):=HB11.out.trans (HBn.out.mono HB11.out.size);obtain⟨G1,hG1⟩:∃ G1,G1=w11.heap.size:=⟨_,rfl⟩
  rw[←hG1] at HRn;rw[←hG1];have HL12:Hid (L9 a w sc oc w5.heap.size G0 cs0 w10.heap.size G1 cs4 w12):=⟨HL10.out.call HB12.out,by have:=HO.out;omega,HRn.out,by rw[hG1];exact HB11.out.size,HAS.out.below HBn.out,fun j hj=>by rw[hG1];exact Nat.ne_of_lt (HAS.out.hi hj)⟩
  have HX:Hid (∀ wz,Below w12.heap.size w12 wz→wz.heap[w6.heap.size]?=some (.cells cs1 33 (0,0))):=fun wz h=>by
   have h2:w12.heap[w6.heap.size]?=some (.cells cs1 33 (0,0)):=by rw[HB12.out.block _ (lt_of HX10.out)];exact HX10.out
   rw[h.block _ (lt_of h2)];exact h2
  have HY:Hid (∀ wz,Below w12.heap.size w12 wz→wz.heap[w9.heap.size]?=some (.cells cs3 39 (0,0))):=fun wz h=>by
   have h2:w12.heap[w9.heap.size]?=some (.cells cs3 39 (0,0)):=by rw[HB12.out.block _ (lt_of HY10.out)];exact HY10.out
   rw[h.block _ (lt_of h2)];exact h2
  have HTS:Hid (∀ wz,Below w12.heap.size w12 wz→TS a w5.heap.size w6.heap.size wz (.agg cs1)):=fun wz h=>(HTS10.out.below HB12.out).below h
  have HTB:Hid (∀ wz,Below w12.heap.size w12 wz→TB a w7.heap.size w8.heap.size wz (.slice x2 a.nk a.nk)):=fun wz h=>(HTB10.out.below HB12.out).below h
  have HTO:Hid (∀ wz,Below w12.heap.size w12 wz→TO a w8.heap.size w9.heap.size wz (.agg cs3)):=fun wz h=>(HTO10.out.below HB12.out).below h
  have HO12:Hid (w10.heap.size≤w12.heap.size):=HB12.out.size;have HO2:Hid (w5.heap.size≤w6.heap.size∧w7.heap.size=w6.heap.size+1∧w7.heap.size≤w8.heap.size∧w8.heap.size≤w9.heap.size∧w10.heap.size=w9.heap.size+1∧w10.heap.size≤w12.heap.size):=⟨HO.out.1,HO.out.2.1,HO.out.2.2.1,HO.out.2.2.2.1,HO.out.2.2.2.2.1,HB12.out.size⟩
  clear HO;have HO:=HO2;clear HO2 HO12 HIn HBn HRn HQn HB11 HB12 HAS HL10 HTS10 HTB10 HTO10 HX10 HY10 hG1;have A:=eyR_any HOK.out HL12.out.s1 HL12.out.l5.s0;go_wp2_with (first
   |(refine wpList_load_row rfl 35 (.tmp 12) rfl (G1) rfl 35 _ (0,0) _ HL12.out.g1 Tryz.underlying35 rfl HI4.out ?_)
   |(refine wpList_load_row rfl 35 (.tmp 8) rfl (G0) rfl 35 _ (0,0) _ HL12.out.l5.g0 Tryz.underlying35 rfl HI0.out ?_)
   |fail)
  refine A.mono ?_;rintro e w13 ⟨rfl,hb13⟩;have HL13:Hid (L9 a w sc oc w5.heap.size G0 cs0 w10.heap.size G1 cs4 w13):=HL12.out.call hb13;have HB13:Hid (Below w12.heap.size w12 w13):=hb13;clear A hb13 HL12;go_wp2_with fail;refine wp_region_any (by kernel_rfl) ?_;refine wpAny_slotsU (fun _ a b=>Below a.heap.size a b) (frame:=(fun (a b c d e f g h i j k l m n o p q r s u v w x y z A B C D E F G H I J K L M N O P Q R S T U V W X Y Z a0 a1 a2 a3 a4 a5 a6 a7 a8 a9 b0 b1 b2 b3 b4 b5 b6 b7 b8 b9 c0 c1 c2 c3 c4 c5 c6 c7 c8 c9 d0 d1 d2 d3 d4 d5 d6 d7 d8 d9 e0 e1 e2 e3 e4 e5 e6 e7 e8:Value)=>fun (t:Nat→Value)=>({ tmps:=List.toArray [a,b,c,d,e,f,g,h,i,j,k,l,m,n,o,p,q,r,s,u,v,w,x,y,z,A,B,C,D,E,F,G,H,I,J,K,L,M,N,O,P,Q,R,S,T,U,V,W,X,Y,Z,t 0,t 1,t 2,t 3,t 4,a0,a1,a2,a3,a4,a5,a6,a7,a8,a9,b0,b1,b2,b3,b4,b5,b6,b7,b8,b9,c0,c1,c2,c3,c4,c5,c6,c7,c8,c9,d0,d1,d2,d3,d4,d5,d6,d7,d8,d9,e0,e1,e2,e3,e4,e5,e6,e7,e8],defers:=[] }:Act)) _ _ _ _ _ _ _ _ _ _ _ _ _ _ _ _ _ _ _ _ _ _ _ _ _ _ _ _ _ _ _ _ _ _ _ _ _ _ _ _ _ _ _ _ _ _ _ _ _ _ _ _ _ _ _ _ _ _ _ _ _ _ _ _ _ _ _ _ _ _ _ _ _ _ _ _ _ _ _ _ _ _ _ _ _ _ _ _ _ _ _ _ _ _ _ _ _ _ _ _)
   (Ext:=fun L u w'=>ApX w13 [] L u w') (Good:=fun i L w' v=>if i=0 then v=.agg cs1 else if i=1 then v=.agg sc else if i=2 then TSx a w' v else if i=3 then v=.bool true else if i=4 then v=.bool false else True) ?hstab (by kernel_rfl) ?hop ?hdone _ _ ((fun (x0 x1 x2 x3 x4:Value)=>fun (i:Nat)=>if i=0 then x0 else if i=1 then x1 else if i=2 then x2 else if i=3 then x3 else if i=4 then x4 else undef) _ _ _ _ _) _ (by simp) ?ext ?start (by simp)
  case start=>intro i hi h;exact absurd h (by rw[Array.getD_eq_getD_getElem?,Array.getElem?_replicate];split<;>simp)
  case ext=>exact(ApX.start w13 [] _ _ (fun i=>by rw[Array.getD_eq_getD_getElem?,Array.getElem?_replicate];split<;>rfl)).drew
  case hstab=>
   intro j L w9 w' i v hM _ _ h;by_cases h2:j=2
   ·subst h2;simp at h ⊢;exact h.below hM
   simp only[if_neg h2] at h ⊢;exact h
  case hop=>
   intro i o L t w' ho hLi hx hdep K hK;have hi:i<5:=(Array.getElem?_eq_some_iff.1 ho).1;obtain rfl|rfl|rfl|rfl|rfl:i=0∨i=1∨i=2∨i=3∨i=4:=by omega
   all_goals(simp at ho;subst ho)
   ·clear hdep;have hr:w'.heap[w6.heap.size]?=some (.cells cs1 33 (0,0)):=by rw[hx.below.block _ (lt_of (HX.out w13 HB13.out))];exact(HX.out w13 HB13.out)
    have hK':=hK w' (.agg cs1) (by simp) (hx.step 0 _ (Below.refl _ _) (fun h=>absurd h (by decide))) (Below.refl _ _);clear hK;rw[if_pos (by rfl)];refine wp_load_row 33 (.tmp 9) rfl (w6.heap.size) rfl 33 _ (0,0) _ hr Tryz.underlying33 rfl HI1.out ?_;go_simp;simpa[upd] using hK'
   ·clear hdep;have hr:w'.heap[w.heap.size]?=some (.cells sc 25 (0,0)):=by rw[hx.below.block _ (Nat.lt_trans (Nat.lt_succ_self _) HL13.out.l5.l0.lt)];exact HL13.out.l5.l0.b0
    have hK':=hK w' (.agg sc) (by simp) (hx.step 1 _ (Below.refl _ _) (fun h=>absurd h (by decide))) (Below.refl _ _);clear hK;rw[if_pos (by rfl)];refine wp_load_row 25 (.tmp 3) rfl (w.heap.size) rfl 25 _ (0,0) _ hr Tryz.underlying25 rfl HSL.out ?_;go_simp;simpa[upd] using hK'
   ·have d1:t 1=.agg sc:=by simpa using(hdep ⟨1,.data⟩ (by simp) rfl).2
    clear hdep;have bw:Below w.heap.size w w':=HL13.out.l5.l0.below.trans (hx.below.mono HL13.out.l5.l0.below.size);have A:=HCS.out w' bw;have hK':∀ ww v,TSx a ww v→Below w'.heap.size w' ww→K _ ww:=fun ww v hv hb=>hK ww v (by simpa using hv) (hx.step 2 v hb (fun h=>absurd h (by decide))) hb
    clear hK bw;rw[if_pos (by rfl)];go_simp;try simp only[d1]
    refine A.mono ?_;rintro e w9 ⟨v9,rfl,hv9,hb9⟩;have hK2:=hK' w9 v9 ⟨_,_,hv9⟩ hb9;clear hK' A hv9 hb9;go_simp;simpa[upd,d1] using hK2
   ·have d0:t 0=.agg cs1:=by simpa using(hdep ⟨0,.data⟩ (by simp) rfl).2
    have f2:TSx a w' (t 2):=by simpa using(hdep ⟨2,.data⟩ (by simp) rfl).2
    clear hdep;obtain⟨lS,hS,f2⟩:=f2;have A:=eyS_any HOK.out ((HTS.out w13 HB13.out).below hx.below) f2;have hK':∀ ww,Below w'.heap.size w' ww→K _ ww:=fun ww hb=>hK ww (.bool true) (by simp) (hx.step 3 _ hb (fun h=>absurd h (by decide))) hb
    clear hK f2;rw[if_pos (by rfl)];go_simp;try simp only[d0]
    refine A.mono ?_;rintro e w9 ⟨rfl,hb⟩;have hK2:=hK' w9 hb;clear hK' A hb;go_simp;simpa[upd,d0] using hK2
   ·have d3:t 3=.bool true:=by simpa using(hdep ⟨3,.data⟩ (by simp) rfl).2
    clear hdep;have hK':=hK w' (.bool false) (by simp) (hx.step 4 _ (Below.refl _ _) (fun h=>absurd h (by decide))) (Below.refl _ _);clear hK;rw[if_pos (by rfl)];go_simp;simpa[upd,d3] using hK'
  case hdone=>
   intro L t w14 hx hg;have e4:t 4=.bool false:=by simpa using hg 4 (by decide)
   have HL14:Hid (L9 a w sc oc w5.heap.size G0 cs0 w10.heap.size G1 cs4 w14):=HL13.out.call hx.below;have HB14:Hid (Below w12.heap.size w12 w14):=HB13.out.trans (hx.below.mono HB13.out.size);clear hg hx HL13 HB13;simp only[e4];clear e4;go_wp2_with fail;refine(tyY_any HOK.out ka ck (HA.out w14 HL14.out.l5.l0.below).2.2.2.1).mono ?_;rintro e w15 ⟨v15,rfl,ht15,hb15⟩;have HB15:Hid (Below w12.heap.size w12 w15):=HB14.out.trans (hb15.mono HB14.out.size);have HL15:Hid (L9 a w sc oc w5.heap.size G0 cs0 w10.heap.size G1 cs4 w15):=HL14.out.call hb15;have A:=eyY_any HOK.out (HTB.out w15 HB15.out) ht15;obtain⟨x15,rfl⟩:=ht15.slice;clear ht15 hb15 HL14 HB14;go_wp2_with fail;refine A.mono ?_;rintro e w16 ⟨rfl,hb16⟩;have HL16:Hid (L9 a w sc oc w5.heap.size G0 cs0 w10.heap.size G1 cs4 w16):=HL15.out.call hb16;have HB16:Hid (Below w12.heap.size w12 w16):=HB15.out.trans (hb16.mono HB15.out.size);clear A hb16 HL15 HB15;go_wp2_with fail;refine wp_region_any (by kernel_rfl) ?_;refine wpAny_slotsU (fun _ a b=>Below a.heap.size a b) (frame:=(fun (a b c d e f g h i j k l m n o p q r s u v w x y z A B C D E F G H I J K L M N O P Q R S T U V W X Y Z a0 a1 a2 a3 a4 a5 a6 a7 a8 a9 b0 b1 b2 b3 b4 b5 b6 b7 b8 b9 c0 c1 c2 c3 c4 c5 c6 c7 c8 c9 d0 d1 d2 d3 d4 d5 d6 d7 d8 d9 e0 e1 e2 e3 e4 e5 e6 e7 e8:Value)=>fun (t:Nat→Value)=>({ tmps:=List.toArray [a,b,c,d,e,f,g,h,i,j,k,l,m,n,o,p,q,r,s,u,v,w,x,y,z,A,B,C,D,E,F,G,H,I,J,K,L,M,N,O,P,Q,R,S,T,U,V,W,X,Y,Z,a0,a1,a2,a3,a4,a5,a6,a7,a8,a9,t 0,t 1,t 2,t 3,t 4,b0,b1,b2,b3,b4,b5,b6,b7,b8,b9,c0,c1,c2,c3,c4,c5,c6,c7,c8,c9,d0,d1,d2,d3,d4,d5,d6,d7,d8,d9,e0,e1,e2,e3,e4,e5,e6,e7,e8],defers:=[] }:Act)) _ _ _ _ _ _ _ _ _ _ _ _ _ _ _ _ _ _ _ _ _ _ _ _ _ _ _ _ _ _ _ _ _ _ _ _ _ _ _ _ _ _ _ _ _ _ _ _ _ _ _ _ _ _ _ _ _ _ _ _ _ _ _ _ _ _ _ _ _ _ _ _ _ _ _ _ _ _ _ _ _ _ _ _ _ _ _ _ _ _ _ _ _ _ _ _ _ _ _ _)
    (Ext:=fun L u w'=>ApX w16 [] L u w') (Good:=fun i L w' v=>if i=0 then v=.agg cs3 else if i=1 then v=.agg oc else if i=2 then TOx a w' v else if i=3 then v=.bool true else if i=4 then v=.bool false else True) ?hstab (by kernel_rfl) ?hop ?hdone _ _ ((fun (x0 x1 x2 x3 x4:Value)=>fun (i:Nat)=>if i=0 then x0 else if i=1 then x1 else if i=2 then x2 else if i=3 then x3 else if i=4 then x4 else undef) _ _ _ _ _) _ (by simp) ?ext ?start (by simp)
   case start=>intro i hi h;exact absurd h (by rw[Array.getD_eq_getD_getElem?,Array.getElem?_replicate];split<;>simp)
   case ext=>exact(ApX.start w16 [] _ _ (fun i=>by rw[Array.getD_eq_getD_getElem?,Array.getElem?_replicate];split<;>rfl)).drew
   case hstab=>
    intro j L w9 w' i v hM _ _ h;by_cases h2:j=2
    ·subst h2;simp at h ⊢;exact h.below hM
    simp only[if_neg h2] at h ⊢;exact h
   case hop=>
    intro i o L t w' ho hLi hx hdep K hK;have hi:i<5:=(Array.getElem?_eq_some_iff.1 ho).1;obtain rfl|rfl|rfl|rfl|rfl:i=0∨i=1∨i=2∨i=3∨i=4:=by omega
    all_goals(simp at ho;subst ho)
    ·clear hdep;have hr:w'.heap[w9.heap.size]?=some (.cells cs3 39 (0,0)):=by rw[hx.below.block _ (lt_of (HY.out w16 HB16.out))];exact(HY.out w16 HB16.out)
     have hK':=hK w' (.agg cs3) (by simp) (hx.step 0 _ (Below.refl _ _) (fun h=>absurd h (by decide))) (Below.refl _ _);clear hK;rw[if_pos (by rfl)];refine wp_load_row 39 (.tmp 11) rfl (w9.heap.size) rfl 39 _ (0,0) _ hr Tryz.underlying39 rfl HI3.out ?_;go_simp;simpa[upd] using hK'
    ·clear hdep;have hr:w'.heap[w.heap.size+1]?=some (.cells oc 28 (0,0)):=by rw[hx.below.block _ HL16.out.l5.l0.lt];exact HL16.out.l5.l0.b1
     have hK':=hK w' (.agg oc) (by simp) (hx.step 1 _ (Below.refl _ _) (fun h=>absurd h (by decide))) (Below.refl _ _);clear hK;rw[if_pos (by rfl)];refine wp_load_row 28 (.tmp 5) rfl (w.heap.size+1) rfl 28 _ (0,0) _ hr Tryz.underlying28 rfl HSO.out ?_;go_simp;simpa[upd] using hK'
    ·have d1:t 1=.agg oc:=by simpa using(hdep ⟨1,.data⟩ (by simp) rfl).2
     clear hdep;have bw:Below w.heap.size w w':=HL16.out.l5.l0.below.trans (hx.below.mono HL16.out.l5.l0.below.size);have A:=HCO.out w' bw;have hK':∀ ww v,TOx a ww v→Below w'.heap.size w' ww→K _ ww:=fun ww v hv hb=>hK ww v (by simpa using hv) (hx.step 2 v hb (fun h=>absurd h (by decide))) hb
     clear hK bw;rw[if_pos (by rfl)];go_simp;try simp only[d1]
     refine A.mono ?_;rintro e w9 ⟨v9,rfl,hv9,hb9⟩;have hK2:=hK' w9 v9 ⟨_,_,hv9⟩ hb9;clear hK' A hv9 hb9;go_simp;simpa[upd,d1] using hK2
    ·have d0:t 0=.agg cs3:=by simpa using(hdep ⟨0,.data⟩ (by simp) rfl).2
     have f2:TOx a w' (t 2):=by simpa using(hdep ⟨2,.data⟩ (by simp) rfl).2
     clear hdep;obtain⟨lS,hS,f2⟩:=f2;have A:=eyO_any HOK.out ((HTO.out w16 HB16.out).below hx.below) f2;have hK':∀ ww,Below w'.heap.size w' ww→K _ ww:=fun ww hb=>hK ww (.bool true) (by simp) (hx.step 3 _ hb (fun h=>absurd h (by decide))) hb
     clear hK f2;rw[if_pos (by rfl)];go_simp;try simp only[d0]
     refine A.mono ?_;rintro e w9 ⟨rfl,hb⟩;have hK2:=hK' w9 hb;clear hK' A hb;go_simp;simpa[upd,d0] using hK2
    ·have d3:t 3=.bool true:=by simpa using(hdep ⟨3,.data⟩ (by simp) rfl).2
     clear hdep;have hK':=hK w' (.bool false) (by simp) (hx.step 4 _ (Below.refl _ _) (fun h=>absurd h (by decide))) (Below.refl _ _);clear hK;rw[if_pos (by rfl)];go_simp;simpa[upd,d3] using hK'
   case hdone=>
    intro L t w17 hx hg;have e4:t 4=.bool false:=by simpa using hg 4 (by decide)
    have HL17:Hid (L9 a w sc oc w5.heap.size G0 cs0 w10.heap.size G1 cs4 w17):=HL16.out.call hx.below;have HB17:Hid (Below w12.heap.size w12 w17):=HB16.out.trans (hx.below.mono HB16.out.size);clear hg hx HL16 HB16;simp only[e4];clear e4;have HX17:=HX.out w17 HB17.out;go_wp2_with (first
     |(refine wpList_load_row rfl 33 (.tmp 9) rfl (w6.heap.size) rfl 33 _ (0,0) _ HX17 Tryz.underlying33 rfl HI1.out ?_)
     |fail)
    refine(mkS_any HOK.out (HTS.out w17 HB17.out) 1 (by decide) (by decide) (by have:=HO.out;have:=HB17.out.size;omega)).mono ?_;rintro e w18 ⟨rfl,hm18⟩;have HL18:Hid (L9 a w sc oc w5.heap.size G0 cs0 w10.heap.size G1 cs4 w18):=HL17.out.mid (hm18.mono (Nat.le_refl _) (by have:=HO.out;omega));have HTB18:Hid (TB a w7.heap.size w8.heap.size w18 (.slice x2 a.nk a.nk)):=(HTB.out w17 HB17.out).mid hm18 (.inr (by have:=HO.out;omega));have HTO18:Hid (TO a w8.heap.size w9.heap.size w18 (.agg cs3)):=(HTO.out w17 HB17.out).mid hm18 (.inr (by have:=HO.out;omega));have HY18:Hid (w18.heap[w9.heap.size]?=some (.cells cs3 39 (0,0))):=by
     show _=_
     have hy:=HY.out w17 HB17.out;rw[hm18.block _ (Array.getElem?_eq_some_iff.1 hy).1 (.inr (by have:=HO.out;omega))];exact hy
    have hbn:(0:Int)≤1+a.nD+a.nU+a.nT*2∧1+(a.nD:Int)+a.nU+a.nT*2≤8388608:=by have:=HOK.out.bD;have:=HOK.out.bU;have:=HOK.out.bT;exact⟨by omega,by omega⟩
    generalize 1+(a.nD:Int)+a.nU+a.nT*2=k1 at *;have HK1:=hid_ofS hbn;clear hbn hm18 HX17 HX HTS HTB HTO HY HL17 HB17;go_wp2_with fail;refine(mkY_any HOK.out HTB18.out k1 HK1.out.1 (by have:=HK1.out.2;omega)).mono ?_;rintro e w19 ⟨rfl,hm19⟩;have HL19:Hid (L9 a w sc oc w5.heap.size G0 cs0 w10.heap.size G1 cs4 w19):=HL18.out.mid (hm19.mono (by have:=HO.out;omega) (by have:=HO.out;omega));have HTO19:Hid (TO a w8.heap.size w9.heap.size w19 (.agg cs3)):=HTO18.out.mid hm19 (.inr (Nat.le_refl _));have HY19:Hid (w19.heap[w9.heap.size]?=some (.cells cs3 39 (0,0))):=by
     show _=_
     rw[hm19.block _ (Array.getElem?_eq_some_iff.1 HY18.out).1 (.inr (by have:=HO.out;omega))];exact HY18.out
    have hbn:(0:Int)≤k1+a.nk∧k1+a.nk≤16777216:=by have:=HOK.out.bk;have:=HK1.out;exact⟨by omega,by omega⟩
    generalize k1+(a.nk:Int)=k2 at *;have HK2:=hid_ofS hbn;clear hbn hm19 HL18 HTB18 HTO18 HY18 HK1;go_wp2_with (first
     |(refine wpList_load_row rfl 39 (.tmp 11) rfl (w9.heap.size) rfl 39 _ (0,0) _ HY19.out Tryz.underlying39 rfl HI3.out ?_)
     |fail)
    refine(mkO_any HOK.out HTO19.out k2 HK2.out.1 (by have:=HK2.out.2;omega)).mono ?_;rintro e w20 ⟨rfl,hm20⟩;have HL20:Hid (L9 a w sc oc w5.heap.size G0 cs0 w10.heap.size G1 cs4 w20):=HL19.out.mid (hm20.mono (by have:=HO.out;omega) (by have:=HO.out;omega));have hkk:¬ (k2+(a.tn:Int)<0):=by have:=HK2.out;omega
    generalize k2+(a.tn:Int)=k3 at *;clear hm20 HL19 HTO19 HY19 HK2;have A:=eyR_any HOK.out HL20.out.s1 HL20.out.l5.s0;go_wp2_with (first
     |(refine wpList_want (by first|rfl|(simp[Region.wanted,yielded,Act.put,hkk];done)) fun _ hK=>wp_load_row 35 (.tmp 12) rfl (G1) rfl 35 _ (0,0) _ HL20.out.g1 Tryz.underlying35 rfl HI4.out (hK _ _ ?_))
     |(refine wpList_want (by first|rfl|(simp[Region.wanted,yielded,Act.put,hkk];done)) fun _ hK=>wp_load_row 35 (.tmp 8) rfl (G0) rfl 35 _ (0,0) _ HL20.out.l5.g0 Tryz.underlying35 rfl HI0.out (hK _ _ ?_))
     |fail)
    refine A.mono ?_;rintro e w21 ⟨rfl,hb21⟩;have HL21:Hid (L9 a w sc oc w5.heap.size G0 cs0 w10.heap.size G1 cs4 w21):=HL20.out.call hb21;clear A hb21 HL20;go_wp2_with (first
     |(refine wpList_load_row rfl 35 (.tmp 12) rfl (G1) rfl 35 _ (0,0) _ HL21.out.g1 Tryz.underlying35 rfl HI4.out ?_)
     |fail)
    refine(mkR_any HOK.out HL21.out.s1 (by have:=lt_of HL21.out.g1;have:=HL21.out.g1ge;omega)).mono ?_;rintro e w22 ⟨m,rfl,hmr,hm0,hb22,hn22⟩;have HM22:Hid (L5 a w sc oc w5.heap.size G0 cs0 w22):=HL21.out.l5.keep (hb22.mono HL21.out.h10) (by have:=lt_of HL21.out.g1;have:=HL21.out.g1ge;have:=HL21.out.h10;omega);have HG22:Hid (w22.heap[G1]?=some (.cells cs4 35 (0,0))):=by
     show _=_
     rw[hn22 _ (lt_of HL21.out.g1) (fun h=>HL21.out.s1ne _ h rfl)];exact HL21.out.g1
    have HMR:=hid_ofS hmr;have hmm:¬ (m<0):=by omega
    have hme:(m != m)=false:=by simp
    clear hmr hm0 hb22 hn22 HL21;go_wp2_with (first
     |(refine wpList_load_row rfl 35 (.tmp 12) rfl (G1) rfl 35 _ (0,0) _ HG22.out Tryz.underlying35 rfl HI4.out ?_)
     |fail)
    refine(hdR_any HMR.out).mono ?_;rintro e w23 ⟨rfl,hb23⟩;have HM23:Hid (L5 a w sc oc w5.heap.size G0 cs0 w23):=HM22.out.call hb23;clear hb23 HM22 HMR HG22;go_wp2_with fail;refine wp_region_any (by kernel_rfl) ?_;refine wpAny_slotsF 8 (fun _ a b=>Below a.heap.size a b) (frame:=(fun (a b c d e f g h i j k l m n o p q r s u v w x y z A B C D E F G H I J K L M N O P Q R S T U V W X Y Z a0 a1 a2 a3 a4 a5 a6 a7 a8 a9 b0 b1 b2 b3 b4 b5 b6 b7 b8 b9 c0 c1 c2 c3 c4 c5 c6 c7 c8 c9 d0 d1 d2 d3 d4 d5 d6 d7 d8 d9 e0 e1 e2 e3 e4 e5:Value)=>fun (t:Nat→Value)=>({ tmps:=List.toArray [a,b,c,d,e,f,g,h,i,j,k,l,m,n,o,p,t 7,q,r,s,u,v,w,x,y,z,A,B,C,D,E,F,G,H,I,J,K,L,M,N,O,P,Q,R,S,T,U,V,W,X,Y,Z,a0,a1,a2,a3,a4,a5,a6,a7,a8,a9,b0,b1,b2,b3,b4,b5,b6,b7,b8,b9,c0,c1,c2,c3,c4,c5,c6,c7,c8,c9,d0,d1,d2,d3,d4,d5,d6,d7,d8,d9,e0,e1,t 0,t 1,t 2,t 3,t 4,t 5,t 6,e2,e3,e4,e5],defers:=[] }:Act)) _ _ _ _ _ _ _ _ _ _ _ _ _ _ _ _ _ _ _ _ _ _ _ _ _ _ _ _ _ _ _ _ _ _ _ _ _ _ _ _ _ _ _ _ _ _ _ _ _ _ _ _ _ _ _ _ _ _ _ _ _ _ _ _ _ _ _ _ _ _ _ _ _ _ _ _ _ _ _ _ _ _ _ _ _ _ _ _ _ _ _ _ _ _ _ _ _)
     (Ext:=fun L u w'=>ApH w23 [6,7] L u w') (Good:=fun i L w' v=>if i=0 then v=.agg sc else if i=1 then TSx a w' v else if i=2 then v=.slice ka a.nk ck else if i=3 then TBx a w' v else if i=4 then v=.agg oc else if i=5 then TOx a w' v else if i=6 then ASV w23.heap.size w' v a.R else if i=7 then NwS w23.heap.size w' v else True) (Fin:=FinS ASV 7 w23 a.R) rfl (by kernel_rfl) ?hstab (by kernel_rfl) ?hop ?hend ?hdone _ _ ((fun (x0 x1 x2 x3 x4 x5 x6 x7:Value)=>fun (i:Nat)=>if i=0 then x0 else if i=1 then x1 else if i=2 then x2 else if i=3 then x3 else if i=4 then x4 else if i=5 then x5 else if i=6 then x6 else if i=7 then x7 else undef) _ _ _ _ _ _ _ _) _ (by simp) ?none ?ext (by simp)
    case none=>intro i;rw[Array.getD_eq_getD_getElem?,Array.getElem?_replicate];split<;>rfl
    case ext=>exact ApH.start w23 [6,7] _ _ (fun i=>by rw[Array.getD_eq_getD_getElem?,Array.getElem?_replicate];split<;>rfl) ⟨rfl,rfl,rfl,Nat.le_refl _,fun _ _=>rfl⟩
    case hstab=>
     intro j L w9 w' i v _ hM _ _ h;by_cases h1:j=1
     ·subst h1;simp at h ⊢;exact h.below hM
     by_cases h3:j=3
     ·subst h3;simp at h ⊢;exact h.below hM
     by_cases h5:j=5
     ·subst h5;simp at h ⊢;exact h.below hM
     by_cases h6:j=6
     ·subst h6;simp at h ⊢;exact h.below hM
     by_cases h7:j=7
     ·subst h7;simp at h ⊢;exact h.below hM
     simp only[if_neg h1,if_neg h3,if_neg h5,if_neg h6,if_neg h7] at h ⊢;exact h
    case hop=>
     intro i o L t w' hi ho hLi hx hdep K hK;obtain rfl|rfl|rfl|rfl|rfl|rfl|rfl|rfl:i=0∨i=1∨i=2∨i=3∨i=4∨i=5∨i=6∨i=7:=by omega
     all_goals(simp at ho;subst ho)
     ·clear hdep;have hr:w'.heap[w.heap.size]?=some (.cells sc 25 (0,0)):=by rw[hx.below.block _ (Nat.lt_trans (Nat.lt_succ_self _) HM23.out.l0.lt)];exact HM23.out.l0.b0
      have hK':=hK w' (.agg sc) (by simp) (hx.step 0 _ (Below.refl _ _) (fun h=>absurd h (by decide))) (Below.refl _ _);clear hK;rw[if_pos (by rfl)];refine wp_load_row 25 (.tmp 3) rfl (w.heap.size) rfl 25 _ (0,0) _ hr Tryz.underlying25 rfl HSL.out ?_;go_simp;simpa[upd] using hK'
     ·have d0:t 0=.agg sc:=by simpa using(hdep ⟨0,.data⟩ (by simp) rfl).2
      clear hdep;have bw:Below w.heap.size w w':=HM23.out.l0.below.trans (hx.below.mono HM23.out.l0.below.size);have A:=HCS.out w' bw;have hK':∀ ww v,TSx a ww v→Below w'.heap.size w' ww→K _ ww:=fun ww v hv hb=>hK ww v (by simpa using hv) (hx.step 1 v hb (fun h=>absurd h (by decide))) hb
      clear hK bw;rw[if_pos (by rfl)];go_simp;try simp only[d0]
      refine A.mono ?_;rintro e w9 ⟨v9,rfl,hv9,hb9⟩;have hK2:=hK' w9 v9 ⟨_,_,hv9⟩ hb9;clear hK' A hv9 hb9;go_simp;simpa[upd,d0] using hK2
     ·clear hdep;have hK':=hK w' (.slice ka a.nk ck) (by simp) (hx.step 2 _ (Below.refl _ _) (fun h=>absurd h (by decide))) (Below.refl _ _);clear hK;rw[if_pos (by rfl)];go_simp;simpa[upd] using hK'
     ·have d2:t 2=.slice ka a.nk ck:=by simpa using(hdep ⟨2,.data⟩ (by simp) rfl).2
      clear hdep;have bw:Below w.heap.size w w':=HM23.out.l0.below.trans (hx.below.mono HM23.out.l0.below.size);have A:=tyY_any HOK.out ka ck (HA.out w' bw).2.2.2.1;have hK':∀ ww v,TBx a ww v→Below w'.heap.size w' ww→K _ ww:=fun ww v hv hb=>hK ww v (by simpa using hv) (hx.step 3 v hb (fun h=>absurd h (by decide))) hb
      clear hK bw;rw[if_pos (by rfl)];go_simp;try simp only[d2]
      refine A.mono ?_;rintro e w9 ⟨v9,rfl,hv9,hb9⟩;have hK2:=hK' w9 v9 ⟨_,_,hv9⟩ hb9;clear hK' A hv9 hb9;go_simp;simpa[upd,d2] using hK2
     ·clear hdep;have hr:w'.heap[w.heap.size+1]?=some (.cells oc 28 (0,0)):=by rw[hx.below.block _ HM23.out.l0.lt];exact HM23.out.l0.b1
      have hK':=hK w' (.agg oc) (by simp) (hx.step 4 _ (Below.refl _ _) (fun h=>absurd h (by decide))) (Below.refl _ _);clear hK;rw[if_pos (by rfl)];refine wp_load_row 28 (.tmp 5) rfl (w.heap.size+1) rfl 28 _ (0,0) _ hr Tryz.underlying28 rfl HSO.out ?_;go_simp;simpa[upd] using hK'
     ·have d4:t 4=.agg oc:=by simpa using(hdep ⟨4,.data⟩ (by simp) rfl).2
      clear hdep;have bw:Below w.heap.size w w':=HM23.out.l0.below.trans (hx.below.mono HM23.out.l0.below.size);have A:=HCO.out w' bw;have hK':∀ ww v,TOx a ww v→Below w'.heap.size w' ww→K _ ww:=fun ww v hv hb=>hK ww v (by simpa using hv) (hx.step 5 v hb (fun h=>absurd h (by decide))) hb
      clear hK bw;rw[if_pos (by rfl)];go_simp;try simp only[d4]
      refine A.mono ?_;rintro e w9 ⟨v9,rfl,hv9,hb9⟩;have hK2:=hK' w9 v9 ⟨_,_,hv9⟩ hb9;clear hK' A hv9 hb9;go_simp;simpa[upd,d4] using hK2
     ·have f1:TSx a w' (t 1):=by simpa using(hdep ⟨1,.data⟩ (by simp) rfl).2
      have f3:TBx a w' (t 3):=by simpa using(hdep ⟨3,.data⟩ (by simp) rfl).2
      have f5:TOx a w' (t 5):=by simpa using(hdep ⟨5,.data⟩ (by simp) rfl).2
      clear hdep;have bw:Below w.heap.size w w':=HM23.out.l0.below.trans (hx.below.mono HM23.out.l0.below.size);obtain⟨lS,hS,f1⟩:=f1;obtain⟨lB,hB,f3⟩:=f3;obtain⟨lO,hO,f5⟩:=f5;have hszw:w23.heap.size≤w'.heap.size:=hx.below.size;have A:=isC_any HOK.out f1 f3 f5 (HA.out w' bw).2.2.2.2.2.1 (Nat.lt_of_lt_of_le HV1.out bw.size) (HA.out w' bw).2.2.2.2.2.2;have hK':∀ ww v,ASV w'.heap.size ww v a.R→Below w'.heap.size w' ww→K _ ww:=fun ww v hv hb=>hK ww v (by simpa using hv.mono hszw) (hx.step 6 v hb (fun _=>hv.fresh)) hb
      clear hK bw f1 f3 f5;rw[if_pos (by rfl)];go_simp;refine A.mono ?_;rintro e w9 ⟨v9,rfl,hv9,hb9⟩;have hK2:=hK' w9 v9 hv9 hb9;clear hK' A hv9 hb9;go_simp;simpa[upd] using hK2
     ·clear hdep;have hsz:w23.heap.size≤w'.heap.size:=hx.below.size;have bb:Below w'.heap.size w' (w'.alloc (.cells #[.int .i64 0,.slice none 0 0,.slice none 0 0,.int .i64 0,.slice none 0 0] 35)):=(Below.refl _ _).alloc (Nat.le_refl _) _;have hK':=hK (w'.alloc (.cells #[.int .i64 0,.slice none 0 0,.slice none 0 0,.int .i64 0,.slice none 0 0] 35)) (.pointer (some ⟨w'.heap.size,0,none⟩)) (by simpa using⟨w'.heap.size,rfl,hsz,heap_alloc_new w' _⟩) (hx.step 7 _ bb (fun _=>fun j hj=>by rw[has_ptr] at hj;subst hj;exact⟨Nat.le_refl _,by simp⟩)) bb;clear hK bb;rw[if_pos (by rfl)];go_simp;simpa[upd] using hK'
    case hend=>
     intro o L t w' ho hx hg K hK;simp at ho;subst ho;have l6:L 6=true:=(hg 6 (by decide)).1;have f6:ASV w23.heap.size w' (t 6) a.R:=by simpa using(hg 6 (by decide)).2
     have l7:L 7=true:=(hg 7 (by decide)).1;have f7:NwS w23.heap.size w' (t 7):=by simpa using(hg 7 (by decide)).2
     clear hg;obtain⟨G,e7,hG,hrow⟩:=f7;have hap:=hx.ap 6 (by decide) 7 (by decide) (by decide) l6 l7;obtain⟨cs,e6,h1,h2⟩:=f6.cells;have hK':∀ ww,Wr G w' ww→ww.heap[G]?=some (.cells cs 35 (0,0))→K _ ww:=fun ww hw hr=>hK ww undef ⟨G,cs,by simp[upd];exact e7,hG,hr,(e6 ▸ f6).wrG hw (fun j hj e=>hap j (by rw[e6];exact hj) (by rw[e7,has_ptr];exact e)),fun j hj e=>hap j (by rw[e6];exact hj) (by rw[e7,has_ptr];exact e),hx.below.trans (hw.below hG)⟩
     clear hK;rw[if_pos (by rfl)];refine wp_store_row 35 (.tmp 16) (.tmp 100) rfl G cs e7 e6 35 _ hrow (by rw[h1];exact HRZ.out) (by rw[h1];rfl) h2 ?_;have hK2:=hK' _ (Wr.setRow _ _ _) (setRow_heap _ _ _ _ _ _ hrow);clear hK';simpa[upd,Act.put] using hK2
    case hdone=>
     intro t w24 hf;obtain⟨G2,cs,e7,hG,hrow,hpv,hne,hbw⟩:=hf;obtain⟨cs5,e5,hz5,-⟩:=hpv.cells;cases e5;have HI5:Hid ((Tryz.prog.info? 35).map (·.size)=some cs.size):=by show _=_;rw[hz5];exact HRZ.out
     have HM24:Hid (L5 a w sc oc w5.heap.size G0 cs0 w24):=HM23.out.call hbw;have HG2:Hid (w24.heap[G2]?=some (.cells cs 35 (0,0))):=hrow;have A:=eyR_any HOK.out hpv HM24.out.s0;simp only[e7];clear hbw hrow hpv hne hz5 HM23 e7;go_wp2_with (first
      |(refine wpList_load_row rfl 35 (.tmp 16) rfl (G2) rfl 35 _ (0,0) _ HG2.out Tryz.underlying35 rfl HI5.out ?_)
      |(refine wpList_load_row rfl 35 (.tmp 8) rfl (G0) rfl 35 _ (0,0) _ HM24.out.g0 Tryz.underlying35 rfl HI0.out ?_)
      |fail)
     refine A.mono ?_;rintro e w25 ⟨rfl,hb25⟩;have HF:Hid (Below w.heap.size w w25):=HM24.out.l0.below.trans (hb25.mono HM24.out.l0.below.size);clear A hb25 HM24 HG2;go_wp2
     go_ret
     exact⟨rfl,HF.out⟩
end Go.Proofs.YtjdhhgaelgemcaaGreatDoor
