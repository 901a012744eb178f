import Derived.Test.YtncomnkdlpoelaaGreatDoorMEpl
import Derived.Test.YtncomnkdlpoelaaGreatDoorMShQ
import Derived.Test.YtncomnkdlpoelaaGreatDoorMEpt
import Derived.Test.YtncomnkdlpoelaaGreatDoorMMuM
import Derived.Test.YtncomnkdlpoelaaGreatDoorMIAd
import Derived.Lib.SmallJoins
namespace Go.Proofs.YtncomnkdlpoelaaGreatDoor
open Go.ChangeShapes Go.WideShapes Go.ChangeAt Go.RowKit
set_option linter.unusedVariables false
theorem TxO.frm {w:World} {B:Nat} {v:Value} {m:Nat} (h:TxO w B v m):∃ q c,v=.slice (some ⟨q,0,none⟩) m c:=by
 obtain⟨zs,h1,h2,h3⟩:=h;obtain⟨q,c,e⟩:=h1.2;exact⟨q,c,by rw[e,h2]⟩
set_option maxRecDepth 100000 in
set_option maxHeartbeats 8000000 in
theorem pool_any (g:Nat) (x:Option Addr) (n cap:Nat) (a:Int) (sg:Nat) (w:World) (hc:CurB w g x n cap) (ht:CurT w g x n) (ha0:1≤a) (ha1:a≤1000) (hs0:1≤sg) (hs1:sg≤8) :
  Calls Tryz.prog 17 #[.pointer (some ⟨g,0,none⟩),.int .i64 a,.int .i64 sg] w fun e w'=>∃ v m vs,e=.returned v∧sg+3≤m∧m≤16∧PS 0 w g x n cap v m vs w':=by
 have HCT:=hdI ht;have HS0:=hdI (PS.start 72 hc);clear hc ht;go_enter Tryz.func17,Tryz.ntmps17;go_wp2_with fail
 go_loopw [7,8] (fun v i wr=>∃(k:Nat) (vs:List Value),k≤sg∧i=.int .i64 k∧PS 72 w g x n cap v k vs wr) (fun _ i _=>sg-(intOf i).toNat)
 case atStart=>exact⟨0,[],Nat.zero_le _,rfl,HS0.out⟩
 case round=>
  clear HS0;obtain⟨k,vs,hk,rfl,hp⟩:=hrel;obtain⟨av,cv,rfl⟩:=hp.form;have HP:=hdI hp;clear hp;by_cases hlt:k<sg
  ·have hlt':(k:Int)<sg:=by omega
   go_wp2_with fail;refine(below_any g x n cap 3 _ HP.out.cb (HP.out.ct HCT.out) (by decide) (by decide)).mono ?_;rintro e w1 ⟨y1,rfl,h10,h11,hc1,hw1⟩;have HP1:=hdI (HP.out.cur hc1 hw1);clear HP hc1 hw1;go_wp2_with fail;refine(below_any g x n cap 100 _ HP1.out.cb (HP1.out.ct HCT.out) (by decide) (by decide)).mono ?_;rintro e w2 ⟨y2,rfl,h20,h21,hc2,hw2⟩;have HP2:=hdI (HP1.out.cur hc2 hw2);clear HP1 hc2 hw2;go_wp2_with fail;refine(below_any g x n cap 200 _ HP2.out.cb (HP2.out.ct HCT.out) (by decide) (by decide)).mono ?_;rintro e w3 ⟨y3,rfl,h30,h31,hc3,hw3⟩;have HP3:=hdI (HP2.out.cur hc3 hw3);clear HP2 hc3 hw3;go_wp2_with fail;refine(ticket_any a (1+y3) (3*k+y1) (40+y2) w3 (by omega) ha1 (by omega) (by omega) (by omega) (by omega) (by omega) (by omega)).mono ?_;rintro e w4 ⟨u,rfl,hu,hb4⟩;obtain⟨q4,c4,rfl⟩:=hu.frm;have bA:=below_new w4 (.cells #[.slice (some ⟨q4,0,none⟩) 72 c4] 22);have HU:=hdI ((TxB.of_txO (hu.lower HP3.out.wg.size)).below bA);have HP4:=hdI ((HP3.out.call hb4).call bA);have hz4:=hdI (Nat.le_trans HP3.out.wg.size hb4.size);clear HP3 hb4 hu bA;go_wp2_with (at_builtin;refine wpList_appP1 w4 rfl _ _ rfl w.heap.size (.slice av k cv) k vs (.slice (some ⟨q4,0,none⟩) 72 c4) rfl HP4.out.row rfl rfl ?c1 hz4.out ?_)
   case c1=>omega
   intro v5 w5 hr5 hg5;have HP5:=hdI (HP4.out.app HU.out (by decide) (by decide) hg5 hr5);clear HP4 HU hr5 hg5 hz4;go_wp2;go_roundw
   case rel=>exact⟨k+1,_,by omega,by go_num,HP5.out⟩
   case measure=>simp[intOf];omega
  ·have hkn:k=sg:=by omega
   subst hkn;clear hlt;go_wp2_with fail;refine(below_any g x n cap 12 _ HP.out.cb (HP.out.ct HCT.out) (by decide) (by decide)).mono ?_;rintro e w1 ⟨y1,rfl,h10,h11,hc1,hw1⟩;have HP1:=hdI (HP.out.cur hc1 hw1);clear HP hc1 hw1;go_wp2_with fail;refine(below_any g x n cap 60 _ HP1.out.cb (HP1.out.ct HCT.out) (by decide) (by decide)).mono ?_;rintro e w2 ⟨y2,rfl,h20,h21,hc2,hw2⟩;have HP2:=hdI (HP1.out.cur hc2 hw2);clear HP1 hc2 hw2;go_wp2_with fail;refine(ticket_any 0 0 y1 90 w2 (by omega) (by omega) (by omega) (by omega) (by omega) (by omega) (by omega) (by omega)).mono ?_;rintro e w4 ⟨u,rfl,hu,hb4⟩;obtain⟨q4,c4,rfl⟩:=hu.frm;have bA:=below_new w4 (.cells #[.slice (some ⟨q4,0,none⟩) 72 c4] 22);have HU:=hdI ((TxB.of_txO (hu.lower HP2.out.wg.size)).below bA);have HP4:=hdI ((HP2.out.call hb4).call bA);have hz4:=hdI (Nat.le_trans HP2.out.wg.size hb4.size);clear HP2 hb4 hu bA;go_wp2_with (at_builtin;refine wpList_appP1 w4 rfl _ _ rfl w.heap.size (.slice av k cv) k vs (.slice (some ⟨q4,0,none⟩) 72 c4) rfl HP4.out.row rfl rfl ?c2 hz4.out ?_)
   case c2=>omega
   intro v5 w5 hr5 hg5;have HP5:=hdI (HP4.out.app HU.out (by decide) (by decide) hg5 hr5);obtain⟨a5,c5,rfl⟩:=HP5.out.form;clear HP4 HU hr5 hg5 hz4;go_wp2_with fail;refine(ticket_any 0 0 (250+y2) 90 w5 (by omega) (by omega) (by omega) (by omega) (by omega) (by omega) (by omega) (by omega)).mono ?_;rintro e w6 ⟨u2,rfl,hu2,hb6⟩;obtain⟨q6,c6,rfl⟩:=hu2.frm;have bA:=below_new w6 (.cells #[.slice (some ⟨q6,0,none⟩) 72 c6] 22);have HU:=hdI ((TxB.of_txO (hu2.lower HP5.out.wg.size)).below bA);have HP6:=hdI ((HP5.out.call hb6).call bA);have hz6:=hdI (Nat.le_trans HP5.out.wg.size hb6.size);clear HP5 hb6 hu2 bA;generalize vs++[Value.slice (some ⟨q4,0,none⟩) 72 c4]=vs at *;go_wp2_with (at_builtin;refine wpList_appP1 w6 rfl _ _ rfl w.heap.size (.slice a5 (k+1) c5) (k+1) vs (.slice (some ⟨q6,0,none⟩) 72 c6) rfl HP6.out.row rfl rfl ?c3 hz6.out ?_)
   case c3=>omega
   intro v7 w7 hr7 hg7;have hp7:=HP6.out.app HU.out (by decide) (by decide) hg7 hr7;clear HP6 HU hr7 hg7 hz6;generalize vs++[Value.slice (some ⟨q6,0,none⟩) 72 c6]=vs at *;obtain⟨q7,c7,rfl,hc7,hq7,hce⟩:=hp7.form1 (by omega);have hl7:0<vs.length:=by rw[hp7.row.1];omega
   obtain⟨k0,l0,l1,T0⟩:=hp7.tx vs[0] (List.getElem_mem hl7);obtain rfl:k0=72:=by omega
   have hc0:=hce 0 (by omega);rw[List.getElem?_eq_getElem hl7] at hc0;generalize vs[0]=u0 at *;obtain⟨b0,o0,c0,rfl⟩:∃ b o c,u0=.slice (some ⟨b,o,none⟩) 72 c:=by obtain⟨b,o,c,zs,cs,fr,h1,_⟩:=T0;exact⟨b,o,c,h1⟩
   have HP7:=hdI hp7;have HT0:=hdI T0;have bE:=below_new w7 (.cells #[] 5);have HOE:=hdI (Own.empty w7 w7.heap.size (Nat.le_refl _));have HP8:=hdI (hp7.call bE);have HT8:=hdI (T0.below bE);have hc8:(w7.alloc (.cells #[] 5)).cell? ⟨q7,0,none⟩=some (.slice (some ⟨b0,o0,none⟩) 72 c0):=by
    rw[World.cell?_of_block (a:=⟨q7,0,none⟩) (bE.block q7 hp7.lt)];exact hc0
   obtain⟨y,rfl⟩:=Int.eq_ofNat_of_zero_le h20;clear hp7 T0 hce l0 l1 bE;go_wp2_with (at_builtin;refine wpList_cpy rfl _ _ rfl w7.heap.size w7.heap.size w.heap.size (.slice (some ⟨b0,o0,none⟩) 72 c0) 72 rfl HOE.out rfl HT8.out (by decide) ?c4 ?_)
   case c4=>simp
   intro v9 w9 zs O9 l9 y9 b9;obtain⟨q9,c9,e9⟩:=O9.2;rw[l9] at e9;subst e9;have hq9:w7.heap.size≤q9:=by obtain⟨_,_,e,h,_⟩:=O9.base;rw[l9] at e;cases e;exact h
   have hj:2+y<72:=by omega
   obtain⟨cj,fj,Oj⟩:=O9.setE l9 (2+y) (bits .xor .u8 (zs.getD (2+y) 0) (1+y1)) hj;have hsz:=HP7.out.wg.size;have HTB:=hdI ((TxB.of_own Oj (by simpa using l9) (byte_setE y9 _ (xor_bdP _ _))).mono hsz);have HPA:=hdI (HP7.out.call (((below_new w7 (.cells #[] 5)).trans b9).trans (below_setE (i:=2+y) (v:=.int .u8 (bits .xor .u8 (zs.getD (2+y) 0) (1+y1))) hq9)));have hj':(2:Int)+y<72:=by omega
   have ej:((2:Int)+y).toNat=2+y:=by omega
   have ex:(1+y1)%256=1+y1:=by omega
   clear O9 Oj b9 HOE HP8 HT8 HP7 hc8 hc0 hsz;generalize zs.getD (2+y) 0=zj at *
   go_upto_region 15 with fail
   generalize w9.setCell ⟨q9,2+y,none⟩ (.int .u8 (bits .xor .u8 zj (1+y1)))=wA at *;have bA:=below_new wA (.cells #[.slice (some ⟨q9,0,none⟩) 72 c9] 22);have HU:=hdI (HTB.out.below bA);have HPB:=hdI (HPA.out.call bA);have hzA:=hdI HPA.out.wg.size;clear HTB HPA bA cj fj HT0 hq9 hj hj' ej ex;go_wp2_with (at_builtin;refine wpList_appP1 wA rfl _ _ rfl w.heap.size (.slice (some ⟨q7,0,none⟩) (k+1+1) c7) (k+1+1) vs (.slice (some ⟨q9,0,none⟩) 72 c9) rfl HPB.out.row rfl rfl ?c5 hzA.out ?_)
   case c5=>omega
   intro vB wB hrB hgB;have hp:=HPB.out.app HU.out (by decide) (by decide) hgB hrB;clear HPB HU hrB hgB hzA hc7 hq7 hl7;generalize vs++[Value.slice (some ⟨q9,0,none⟩) 72 c9]=vs at *;obtain⟨qB,cB,rfl,hcB,hqB,hce⟩:=hp.form1 (by omega);have hl:0<vs.length:=by rw[hp.row.1];omega
   obtain⟨k0,l0,l1,T0⟩:=hp.tx vs[0] (List.getElem_mem hl);obtain rfl:k0=72:=by omega
   have hc0:=hce 0 (by omega);rw[List.getElem?_eq_getElem hl] at hc0;generalize vs[0]=u0 at *;obtain⟨b1,o1,c1,rfl,hc1⟩:∃ b o c,u0=.slice (some ⟨b,o,none⟩) 72 c∧72≤c:=by obtain⟨b,o,c,zs,cs,fr,h1,h2,_⟩:=T0;exact⟨b,o,c,h1,h2⟩
   have bC:=below_new wB (.cells #[.slice (some ⟨b1,o1,none⟩) y c1] 22);have HU:=hdI ((T0.cut y (by omega)).below bC);have HPC:=hdI (hp.weak.call bC);have hzC:=hdI hp.wg.size;have hyc:(y:Int)≤c1:=by omega
   clear hp T0 bC hce l0 l1 hcB hl;go_wp2_with (at_builtin;refine wpList_appP1 wB rfl _ _ rfl w.heap.size (.slice (some ⟨qB,0,none⟩) (k+1+1+1) cB) (k+1+1+1) vs (.slice (some ⟨b1,o1,none⟩) y c1) rfl HPC.out.row rfl rfl ?c6 hzC.out ?_)
   case c6=>omega
   intro vD wD hrD hgD;have HF:=hdI (HPC.out.app HU.out (Nat.zero_le _) (by omega) hgD hrD);clear HPC HU hrD hgD hzC;go_wp2
   go_ret
   exact⟨_,_,_,rfl,by omega,by omega,HF.out⟩
theorem WSV.mono {lo lo':Nat} {w:World} {v:Value} {r:SpR} (h:WSV lo w v r) (hl:lo'≤lo):WSV lo' w v r:=by
 obtain⟨aD,nD,cD,aU,nU,cU,aT,nT,cT,e,h1,h2,h3,h4,h5,h6,l1,l2,l3,l4,l5⟩:=h;exact⟨aD,nD,cD,aU,nU,cU,aT,nT,cT,e,h1,h2,h3,h4,h5,h6,l1.mono hl (Nat.le_refl _),l2.mono hl (Nat.le_refl _),l3.mono hl (Nat.le_refl _),l4,l5⟩
theorem cpf_wsv {lo R:Nat} {k c:Int} {D U T:List Int} {nT:Nat} {w w':World} {aD aU aT:Option Addr} {nD cD nU cU cT:Nat} (h:CpFin lo k D U T nT w #[.slice aD nD cD,.slice aU nU cU,.int .i64 k,.slice aT nT cT]) (hR:R<lo) (hw:Wr R w w') :
  WSV lo w' (.agg #[.int .i64 c,.slice aD nD cD,.slice aU nU cU,.int .i64 k,.slice aT nT cT]) ⟨c,D,U,k,T,nT⟩:=by
 obtain⟨bD,mD,dD,bU,mU,dU,bT,dT,e,h1,h2,h3⟩:=h;simp at e;obtain⟨⟨rfl,rfl,rfl⟩,⟨rfl,rfl,rfl⟩,rfl,rfl⟩:=e;obtain⟨-,q1,-⟩:=h1.sat;obtain⟨-,q2,-⟩:=h2.sat;obtain⟨-,q3,-⟩:=h3.tapV.sat;have y1:=(h1.lk (lo:=lo) (O:=R) (Nat.le_refl _) (.inl hR)).wr hw;have y2:=(h2.lk (lo:=lo) (O:=R) (Nat.le_refl _) (.inl hR)).wr hw;have y3:=(h3.lk (lo:=lo) (O:=R) (Nat.le_refl _) (.inl hR)).wr hw;have hc:=h3.cap;exact⟨_,_,_,_,_,_,_,_,_,rfl,y1.1,y2.1,y3.1,q1,q2,q3,fun ad e=>⟨(y1.2 ad e).1,(y1.2 ad e).2.2⟩,fun ad e=>⟨(y2.2 ad e).1,(y2.2 ad e).2.2⟩,fun ad e=>⟨(y3.2 ad e).1,(y3.2 ad e).2.2⟩,hc.1,hc.2⟩
theorem run_g5 (w:World) (o:Bool) (aD aU aT:Option Addr) (nD cD nU cU nT cT:Nat) (k:Int):(Instr.field 42 (.agg #[.bool o,.slice aD nD cD,.slice aU nU cU,.int .i64 k,.slice aT nT cT]) 1).run Tryz.prog w=.ok (.agg #[.slice aD nD cD,.slice aU nU cU,.int .i64 k,.slice aT nT cT]) w:=by kernel_rfl
structure CX3 (w:World) (sc oc:Array Value) (wr:World):Prop where
 below:Below w.heap.size w wr
 sb:wr.heap[w.heap.size]?=some (.cells sc 26 (0,0))
 ob:wr.heap[w.heap.size+1]?=some (.cells oc 28 (0,0))
 rb:wr.heap[w.heap.size+2]?=some (.cells #[.int .i64 0,.slice none 0 0,.slice none 0 0,.int .i64 0,.slice none 0 0] 32 (0,0))
theorem CX3.lt {w wr:World} {sc oc:Array Value} (h:CX3 w sc oc wr):w.heap.size+2<wr.heap.size:=(Array.getElem?_eq_some_iff.1 h.rb).1
theorem CX3.keep {w wr w':World} {sc oc:Array Value} {B:Nat} (h:CX3 w sc oc wr) (b:Below B wr w') (hB:w.heap.size+3≤B):CX3 w sc oc w':=
 ⟨h.below.trans (b.mono (by omega)),by rw[b.block _ (by omega)];exact h.sb,by rw[b.block _ (by omega)];exact h.ob,by rw[b.block _ (by omega)];exact h.rb⟩
theorem CX3.call {w wr w':World} {sc oc:Array Value} (h:CX3 w sc oc wr) (b:Below wr.heap.size wr w'):CX3 w sc oc w':=h.keep b h.lt
theorem CX3.start (w:World) (sc oc:Array Value):CX3 w sc oc (((w.alloc (.cells sc 26)).alloc (.cells oc 28)).alloc (.cells #[.int .i64 0,.slice none 0 0,.slice none 0 0,.int .i64 0,.slice none 0 0] 32)):=by
 have h:=BX2.start w 26 28 sc oc;have b:Below ((w.alloc (.cells sc 26)).alloc (.cells oc 28)).heap.size ((w.alloc (.cells sc 26)).alloc (.cells oc 28)) _:=(Below.refl _ _).alloc (Nat.le_refl _) (.cells #[.int .i64 0,.slice none 0 0,.slice none 0 0,.int .i64 0,.slice none 0 0] 32);have h2:=h.call b;refine⟨h2.below,h2.b0,h2.b1,?_⟩;have:=heap_alloc_new ((w.alloc (.cells sc 26)).alloc (.cells oc 28)) (.cells #[.int .i64 0,.slice none 0 0,.slice none 0 0,.int .i64 0,.slice none 0 0] 32)
 rwa [show((w.alloc (.cells sc 26)).alloc (.cells oc 28)).heap.size=w.heap.size+2 by simp] at this
set_option maxRecDepth 100000 in
set_option maxHeartbeats 8000000 in
theorem sss_any (aD aU aT:Option Addr) (nD cD nU cU nT cT:Nat) (D U:List Int) (k:Int) (T:List Int) (ka:Option Addr) (nk ck:Nat) (ks:List Int) (ta:Option Addr) (tn tc:Nat) (tk:List Int) (kind now N:Int) (w:World) (hD:D.length=nD) (hU:U.length=nU) (hT:T.length=nT*2) (mD:nD≤1048576) (mU:nU≤1048576) (mT:nT≤1048576)
  (haD:At .i64 w aD D) (haU:At .i64 w aU U) (haT:At .i64 w aT T) (hcT:nT≤cT) (hcm:cT≤9223372036854775807) (hk0:-9223372036854775808≤k) (hk1:k<9223372036854775808) (hk:ks.length=nk) (mk:nk≤1048576) (hp:At .u8 w ka ks) (zk:Byte ks) (ht:tk.length=tn) (mt:tn≤1048576) (hct:tn≤tc) (hat:At .u8 w ta tk) (zt:Byte tk) :
  Calls Tryz.prog 5 #[.agg #[.slice aD nD cD,.slice aU nU cU,.int .i64 k,.slice aT nT cT],.slice ka nk ck,.agg #[.int .i64 kind,.slice ta tn tc,.int .i64 now,.int .i64 N]] w fun e w'=>∃ v,e=.returned v∧WSV w.heap.size w' v (stR D U k T nT ks kind tk now N)∧Below w.heap.size w w':=by
 have HX0:Hid (CX3 w #[.slice aD nD cD,.slice aU nU cU,.int .i64 k,.slice aT nT cT] #[.int .i64 kind,.slice ta tn tc,.int .i64 now,.int .i64 N] (((w.alloc (.cells #[.slice aD nD cD,.slice aU nU cU,.int .i64 k,.slice aT nT cT] 26)).alloc (.cells #[.int .i64 kind,.slice ta tn tc,.int .i64 now,.int .i64 N] 28)).alloc (.cells #[.int .i64 0,.slice none 0 0,.slice none 0 0,.int .i64 0,.slice none 0 0] 32))):=CX3.start _ _ _;have HLN:Hid (D.length=nD∧U.length=nU∧T.length=nT*2):=⟨hD,hU,hT⟩
 have HA:Hid (∀ wz,Below w.heap.size w wz→At .i64 wz aD D∧At .i64 wz aU U∧At .i64 wz aT T∧At .u8 wz ka ks∧At .u8 wz ta tk):=fun wz h=>⟨haD.below h,haU.below h,haT.below h,hp.below h,hat.below h⟩
 have HKL:Hid (ks.length=nk∧Byte ks∧tk.length=tn∧Byte tk):=⟨hk,zk,ht,zt⟩
 have HC:=svs_any aD aU aT nD cD nU cU nT cT D U k T _ hD hU hT mD mU mT (haD.below HX0.out.below) (haU.below HX0.out.below) (haT.below HX0.out.below) hk0 hk1;have HRZ:Hid ((Tryz.prog.info? 32).map (·.size)=some 5):=by show _=_;kernel_rfl
 have HSZ:Hid ((Tryz.prog.info? 26).map (·.size)=some 4):=by show _=_;kernel_rfl
 have HOZ:Hid ((Tryz.prog.info? 28).map (·.size)=some 4):=by show _=_;kernel_rfl
 have HFZ:Hid ((Tryz.prog.info? 38).map (·.size)=some 4):=by show _=_;kernel_rfl
 have HST:Hid (stB D U k T nT=true→StP D U k T nT):=stP_of;have HSR:Hid (stR D U k T nT ks kind tk now N=stR D U k T nT ks kind tk now N):=rfl;clear haD haU haT hD hU hT hk hp zk ht hat zt;go_enter Tryz.func5,Tryz.ntmps5
 go_upto_region 1 with fail
 generalize (((w.alloc (.cells #[.slice aD nD cD,.slice aU nU cU,.int .i64 k,.slice aT nT cT] 26)).alloc (.cells #[.int .i64 kind,.slice ta tn tc,.int .i64 now,.int .i64 N] 28)).alloc (.cells #[.int .i64 0,.slice none 0 0,.slice none 0 0,.int .i64 0,.slice none 0 0] 32))=w0 at *;have o0:w0.cell? ⟨w.heap.size+1,0,none⟩=some (.int .i64 kind):=by rw[cell_of_row w0 _ 0 _ _ _ HX0.out.ob];rfl
 go_wp2_with (first
  |(refine wpList_load_row rfl 26 (.tmp 3) rfl w.heap.size rfl 26 _ (0,0) _ HX0.out.sb Tryz.underlying26 rfl HSZ.out ?_)
  |fail)
 refine HC.mono ?_;rintro e w1 ⟨rfl,hb1⟩;have HX1:=hdI <| HX0.out.call hb1
 have o1:w1.cell? ⟨w.heap.size+1,0,none⟩=some (.int .i64 kind):=by rw[cell_of_row w1 _ 0 _ _ _ HX1.out.ob];rfl
 clear HC HX0 hb1 o0;by_cases hbad:¬ (stB D U k T nT=true∧nk=32∧1≤kind∧kind≤5)
 ·have HR:Hid (stR D U k T nT ks kind tk now N=⟨10,D,U,k,T,nT⟩):=by
   show _=_
   unfold stR;by_cases h:stB D U k T nT=true∧ks.length=32
   ·rw[if_pos h];unfold opR;have h2:¬ (1≤kind∧kind≤5):=fun h3=>hbad ⟨h.1,HKL.out.1.symm.trans h.2,h3⟩
    rw[if_neg (by omega),if_neg (by omega),if_neg (by omega),if_neg (by omega),if_neg (by omega)]
   ·rw[if_neg h]
  have hcs:stB D U k T nT=false∨(stB D U k T nT=true∧((nk:Int) != 32)=true)∨(stB D U k T nT=true∧nk=32∧kind<1)∨(stB D U k T nT=true∧nk=32∧¬ kind<1∧5<kind):=by
   cases hq:stB D U k T nT with
   |false=>exact .inl rfl
   |true=>
    by_cases h32:nk=32
    ·by_cases h1:kind<1
     ·exact .inr (.inr (.inl ⟨rfl,h32,h1⟩))
     ·have h3:¬ (1≤kind∧kind≤5):=fun h=>hbad ⟨hq,h32,h⟩
      exact .inr (.inr (.inr ⟨rfl,h32,h1,by omega⟩))
    ·exact .inr (.inl ⟨rfl,by simp;omega⟩)
  clear hbad HST HSR;generalize hq:stB D U k T nT=q at *;clear hq;rcases hcs with rfl|⟨rfl,h32⟩|⟨rfl,rfl,h1⟩|⟨rfl,rfl,h1,h5⟩
  all_goals
   go_upto_region 2 with fail
   go_wp2_with (first
    |(refine wpList_load_row rfl 26 (.tmp 3) rfl w.heap.size rfl 26 _ (0,0) _ HX1.out.sb Tryz.underlying26 rfl HSZ.out ?_)
    |fail)
   refine(l5c_any aD aU aT nD cD nU cU nT cT D U k T w1 HLN.out.1 HLN.out.2.1 HLN.out.2.2 mD mU mT (HA.out w1 HX1.out.below).1 (HA.out w1 HX1.out.below).2.1 (HA.out w1 HX1.out.below).2.2.1).mono ?_;rintro e w9 ⟨cs,rfl,hcp,hb9⟩;have HX9:=hdI <| HX1.out.call hb9
   have HL9:=hdI <| HX1.out.lt
   have HCP:=hdI <| hcp
   obtain⟨bD,mD',dD,bU,mU',dU,bT,dT,rfl,-⟩:=hcp;have HRB:=hdI <| HX9.out.rb
   have HF:Hid (WSV w.heap.size (w9.setRow (w.heap.size+2) #[.int .i64 10,.slice bD mD' dD,.slice bU mU' dU,.int .i64 k,.slice bT nT dT]) (.agg #[.int .i64 10,.slice bD mD' dD,.slice bU mU' dU,.int .i64 k,.slice bT nT dT]) (stR D U k T nT ks kind tk now N)∧Below w.heap.size w (w9.setRow (w.heap.size+2) #[.int .i64 10,.slice bD mD' dD,.slice bU mU' dU,.int .i64 k,.slice bT nT dT])):=⟨by rw[HR.out];exact(cpf_wsv HCP.out HL9.out (Wr.setRow _ _ _)).mono (by have:=HX9.out.below.size;have:=HL9.out;omega),HX9.out.below.trans ((Wr.setRow _ _ _).below (by omega))⟩
   clear hb9 HCP HL9 HX1;go_wp2_with (first
    |(refine wpList_store_row rfl 32 (.tmp 6) (.tmp 29) rfl (w.heap.size+2) #[.int .i64 10,.slice bD mD' dD,.slice bU mU' dU,.int .i64 k,.slice bT nT dT] rfl rfl 32 _ HRB.out HRZ.out rfl (by simp[Value.oneCell']) ?_)
    |fail)
   exact bodyPost_ret (v:=.agg #[.int .i64 10,.slice bD mD' dD,.slice bU mU' dU,.int .i64 k,.slice bT nT dT]) (results_cell_row rfl _ _ (w.heap.size+2) 32 _ (0,0) _ rfl (setRow_heap _ _ _ _ _ _ HRB.out) Tryz.underlying32 rfl HRZ.out) rfl ⟨_,rfl,HF.out.1,HF.out.2⟩
 have hgood:=Decidable.not_not.1 hbad;obtain⟨hq,h32,hki,hk5⟩:=hgood;have hst:=HST.out hq;have hkn:k+nT=(nU:Int):=by have:=hst.2.2.2.2.1;rw[HLN.out.2.1] at this;exact this
 have hkk:=hst.2.2.2.1;have hd16:=hst.2.1;have HSO:Hid (stR D U k T nT ks kind tk now N=opR D U k T nT ks kind tk now N):=by show _=_;unfold stR;rw[if_pos ⟨hq,HKL.out.1.trans h32⟩]
 have HDO:=hid_ofS (du_op (ks:=ks) (kind:=kind) (tk:=tk) (now:=now) (N:=N) hq HKL.out.2.2.2 hkk (by omega) mT hd16 hki hk5);have hkb:k≤1048576:=by omega
 have h1:¬ kind<1:=by omega
 have h5:¬ 5<kind:=by omega
 have HQ:=hdI <| hq
 rw[hq];clear hst hbad HST hkn hd16 hq hki hk5 HSR;subst h32;obtain⟨bp,op,rfl,-,-⟩:=(HA.out w1 HX1.out.below).2.2.2.1.get (by rw[HKL.out.1];decide);have HPT:Hid (∀ wz,Below w.heap.size w wz→PtA wz bp op ks):=fun wz h=>by
  obtain⟨b',o',e',hl',hc'⟩:=(HA.out wz h).2.2.2.1.get (by rw[HKL.out.1];decide);cases e';exact⟨hl',hc'⟩
 go_upto_region 3 with fail
 clear h1 h5 o1;go_wp2_with (first
  |(refine wpList_load_row rfl 26 (.tmp 3) rfl w.heap.size rfl 26 _ (0,0) _ HX1.out.sb Tryz.underlying26 rfl HSZ.out ?_)
  |(refine wpList_load_row rfl 28 (.tmp 5) rfl (w.heap.size+1) rfl 28 _ (0,0) _ HX1.out.ob Tryz.underlying28 rfl HOZ.out ?_)
  |fail)
 refine(due_any aD aU aT nD cD nU cU nT cT D U k bp op ck ks ta tn tc tk kind now N w1 HLN.out.1 HLN.out.2.1 mD mU mT (HA.out w1 HX1.out.below).1 (HA.out w1 HX1.out.below).2.1 hkk hkb HKL.out.1 (HPT.out w1 HX1.out.below) HKL.out.2.1 HKL.out.2.2.1 mt hct (HA.out w1 HX1.out.below).2.2.2.2 HKL.out.2.2.2).mono ?_;rintro e w4 ⟨rfl,hb4⟩;have HX4:=hdI <| HX1.out.call hb4
 clear hb4 HX1 HPT;generalize duR D U k nT ks kind tk now N=r at *;obtain⟨c,fk,a,b⟩:=r;unfold duV;dsimp only at HDO ⊢;have HN:Hid ((w4.alloc (.cells #[.int .u32 0,.int .i64 0,.int .u32 0,.int .u32 0] 38)).heap[w4.heap.size]?=some (.cells #[.int .u32 0,.int .i64 0,.int .u32 0,.int .u32 0] 38 (0,0))):=heap_alloc_new w4 _;have HB5:Hid (Below w4.heap.size w4 ((w4.alloc (.cells #[.int .u32 0,.int .i64 0,.int .u32 0,.int .u32 0] 38)).setRow w4.heap.size #[.int .u32 0,.int .i64 fk,.int .u32 (a:Int),.int .u32 (b:Int)])):=((Below.refl _ _).alloc (Nat.le_refl _) _).trans ((Wr.setRow _ _ _).below (Nat.le_refl _));have HR5:Hid (((w4.alloc (.cells #[.int .u32 0,.int .i64 0,.int .u32 0,.int .u32 0] 38)).setRow w4.heap.size #[.int .u32 0,.int .i64 fk,.int .u32 (a:Int),.int .u32 (b:Int)]).heap[w4.heap.size]?=some (.cells #[.int .u32 0,.int .i64 fk,.int .u32 (a:Int),.int .u32 (b:Int)] 38 (0,0))):=setRow_heap _ _ _ _ _ _ HN.out;have HX5:=hdI <| HX4.out.call HB5.out
 go_upto_region 4 with (first
  |(refine wpList_store_row rfl 38 (.tmp 8) (.tmp 36) rfl w4.heap.size #[.int .u32 0,.int .i64 fk,.int .u32 (a:Int),.int .u32 (b:Int)] rfl rfl 38 _ HN.out HFZ.out rfl (by simp[Value.oneCell']) ?_)
  |fail)
 clear HN HB5 HX4;generalize ((w4.alloc (.cells #[.int .u32 0,.int .i64 0,.int .u32 0,.int .u32 0] 38)).setRow w4.heap.size #[.int .u32 0,.int .i64 fk,.int .u32 (a:Int),.int .u32 (b:Int)])=w5 at *;have f1:w5.cell? ⟨w4.heap.size,1,none⟩=some (.int .i64 fk):=by rw[cell_of_row w5 _ 1 _ _ _ HR5.out];rfl
 by_cases hfk:fk=0
 ·have HR:Hid (stR D U k T nT ks kind tk now N=⟨c,D,U,k,T,nT⟩):=by show _=_;rw[HSO.out];exact HDO.out.1 hfk
  subst hfk;clear HDO HSO HR5
  go_upto_region 5 with fail
  go_wp2_with (first
   |(refine wpList_load_row rfl 26 (.tmp 3) rfl w.heap.size rfl 26 _ (0,0) _ HX5.out.sb Tryz.underlying26 rfl HSZ.out ?_)
   |fail)
  refine(l5c_any aD aU aT nD cD nU cU nT cT D U k T w5 HLN.out.1 HLN.out.2.1 HLN.out.2.2 mD mU mT (HA.out w5 HX5.out.below).1 (HA.out w5 HX5.out.below).2.1 (HA.out w5 HX5.out.below).2.2.1).mono ?_;rintro e w9 ⟨cs,rfl,hcp,hb9⟩;have HX9:=hdI <| HX5.out.call hb9
  have HL9:=hdI <| HX5.out.lt
  have HCP:=hdI <| hcp
  obtain⟨bD,mD',dD,bU,mU',dU,bT,dT,rfl,-⟩:=hcp;have HRB:=hdI <| HX9.out.rb
  have HF:Hid (WSV w.heap.size (w9.setRow (w.heap.size+2) #[.int .i64 c,.slice bD mD' dD,.slice bU mU' dU,.int .i64 k,.slice bT nT dT]) (.agg #[.int .i64 c,.slice bD mD' dD,.slice bU mU' dU,.int .i64 k,.slice bT nT dT]) (stR D U k T nT ks kind tk now N)∧Below w.heap.size w (w9.setRow (w.heap.size+2) #[.int .i64 c,.slice bD mD' dD,.slice bU mU' dU,.int .i64 k,.slice bT nT dT])):=⟨by rw[HR.out];exact(cpf_wsv HCP.out HL9.out (Wr.setRow _ _ _)).mono (by have:=HX9.out.below.size;have:=HL9.out;omega),HX9.out.below.trans ((Wr.setRow _ _ _).below (by omega))⟩
  clear hb9 HCP HL9 HX5;go_wp2_with (first
   |(refine wpList_store_row rfl 32 (.tmp 6) (.tmp 43) rfl (w.heap.size+2) #[.int .i64 c,.slice bD mD' dD,.slice bU mU' dU,.int .i64 k,.slice bT nT dT] rfl rfl 32 _ HRB.out HRZ.out rfl (by simp[Value.oneCell']) ?_)
   |fail)
  exact bodyPost_ret (v:=.agg #[.int .i64 c,.slice bD mD' dD,.slice bU mU' dU,.int .i64 k,.slice bT nT dT]) (results_cell_row rfl _ _ (w.heap.size+2) 32 _ (0,0) _ rfl (setRow_heap _ _ _ _ _ _ HRB.out) Tryz.underlying32 rfl HRZ.out) rfl ⟨_,rfl,HF.out.1,HF.out.2⟩
 obtain⟨o,ho,hoc,hap,ha,hb⟩:=HDO.out.2 hfk;have HSO2:Hid (stR D U k T nT ks kind tk now N=o):=by show _=_;rw[HSO.out];exact ho
 have HOC:=hdI <| hoc
 have HAP:=hdI <| hap
 clear HDO HSO ho hoc hap HQ
 go_upto_region 6 with fail
 clear f1 hfk;go_wp2_with (first
  |(refine wpList_load_row rfl 26 (.tmp 3) rfl w.heap.size rfl 26 _ (0,0) _ HX5.out.sb Tryz.underlying26 rfl HSZ.out ?_)
  |(refine wpList_load_row rfl 38 (.tmp 8) rfl w4.heap.size rfl 38 _ (0,0) _ HR5.out Tryz.underlying38 rfl HFZ.out ?_)
  |fail)
 have HAP2:=HAP;refine(sap_any aD aU aT nD cD nU cU nT cT D U k T 0 fk a b w5 HLN.out.1 HLN.out.2.1 HLN.out.2.2 mD mU mT (HA.out w5 HX5.out.below).1 (HA.out w5 HX5.out.below).2.1 (HA.out w5 HX5.out.below).2.2.1 hcT hcm hk0 hk1 ha hb).mono ?_;rintro e w9 ⟨v,rfl,hv,hb9⟩;have HX9:Hid (CX3 w #[.slice aD nD cD,.slice aU nU cU,.int .i64 k,.slice aT nT cT] #[.int .i64 kind,.slice ta tn tc,.int .i64 now,.int .i64 N] w9):=HX5.out.call hb9;have HL9:Hid (w.heap.size+2<w5.heap.size):=HX5.out.lt;rw[HAP.out] at hv;obtain⟨bD,mD',dD,bU,mU',dU,bT,mT',dT,rfl,hv⟩:=hv;have HV:Hid (At .i64 w9 bD o.D∧At .i64 w9 bU o.U∧At .i64 w9 bT o.T∧o.D.length=mD'∧o.U.length=mU'∧o.T.length=mT'*2∧Lies w5.heap.size w9 bD∧Lies w5.heap.size w9 bU∧Lies w5.heap.size w9 bT∧mT'≤dT∧dT≤9223372036854775807):=hv;have HRB:Hid (w9.heap[w.heap.size+2]?=some (.cells #[.int .i64 0,.slice none 0 0,.slice none 0 0,.int .i64 0,.slice none 0 0] 32 (0,0))):=HX9.out.rb;have HF:Hid (WSV w.heap.size (w9.setRow (w.heap.size+2) #[.int .i64 c,.slice bD mD' dD,.slice bU mU' dU,.int .i64 o.k,.slice bT mT' dT]) (.agg #[.int .i64 c,.slice bD mD' dD,.slice bU mU' dU,.int .i64 o.k,.slice bT mT' dT]) (stR D U k T nT ks kind tk now N)∧Below w.heap.size w (w9.setRow (w.heap.size+2) #[.int .i64 c,.slice bD mD' dD,.slice bU mU' dU,.int .i64 o.k,.slice bT mT' dT])):=by
  refine⟨?_,HX9.out.below.trans ((Wr.setRow _ _ _).below (by omega))⟩;rw[HSO2.out];obtain⟨v1,v2,v3,v4,v5,v6,l1,l2,l3,v7,v8⟩:=HV.out;have hl:=HL9.out;have hw:Wr (w.heap.size+2) w9 (w9.setRow (w.heap.size+2) #[.int .i64 c,.slice bD mD' dD,.slice bU mU' dU,.int .i64 o.k,.slice bT mT' dT]):=Wr.setRow _ _ _;have K:∀ {x:Option Addr} {xs:List Int},At .i64 w9 x xs→Lies w5.heap.size w9 x→At .i64 (w9.setRow (w.heap.size+2) #[.int .i64 c,.slice bD mD' dD,.slice bU mU' dU,.int .i64 o.k,.slice bT mT' dT]) x xs∧Lies w.heap.size (w9.setRow (w.heap.size+2) #[.int .i64 c,.slice bD mD' dD,.slice bU mU' dU,.int .i64 o.k,.slice bT mT' dT]) x:=fun h l=>by
   refine⟨h.keepT (by rw[hw.size];exact Nat.le_refl _) (fun ad e _=>hw.block _ (by have:=(l ad e).1;omega)),fun ad e=>?_⟩;have:=l ad e;rw[hw.size];omega
  exact⟨_,_,_,_,_,_,_,_,_,by rw[HOC.out],(K v1 l1).1,(K v2 l2).1,(K v3 l3).1,v4,v5,v6,(K v1 l1).2,(K v2 l2).2,(K v3 l3).2,v7,v8⟩
 have hfd:=run_g5 w9 true bD bU bT mD' dD mU' dU mT' dT o.k;clear hb9 HV HL9 HX5 hv;go_wp2_with (first
  |(refine wpList_store_row rfl 32 (.tmp 6) (.tmp 49) rfl (w.heap.size+2) #[.int .i64 c,.slice bD mD' dD,.slice bU mU' dU,.int .i64 o.k,.slice bT mT' dT] rfl rfl 32 _ HRB.out HRZ.out rfl (by simp[Value.oneCell']) ?_)
  |fail)
 exact bodyPost_ret (v:=.agg #[.int .i64 c,.slice bD mD' dD,.slice bU mU' dU,.int .i64 o.k,.slice bT mT' dT]) (results_cell_row rfl _ _ (w.heap.size+2) 32 _ (0,0) _ rfl (setRow_heap _ _ _ _ _ _ HRB.out) Tryz.underlying32 rfl HRZ.out) rfl ⟨_,rfl,HF.out.1,HF.out.2⟩
end Go.Proofs.YtncomnkdlpoelaaGreatDoor
namespace Go.Proofs.YtncomnkdlpoelaaGreatDoor
open Go.ChangeShapes Go.WideShapes Go.ChangeAt Go.RowKit Go.Joins
set_option linter.unusedVariables false
theorem tab_keepV {w w':World} (h:TabIn w) (hz:1<w.heap.size) (hb:Below w.heap.size w w'):TabIn w':=fun i hi=>by rw[hb.cell (p:=⟨1,i,none⟩) hz];exact h i hi
theorem pt_newV (w:World):Pt (w.alloc (.cells #[.int .u64 0,.int .u64 0,.int .u64 0,.int .u64 0,.int .u64 0,.int .u64 0,.int .u64 0,.int .u64 0,.int .u64 0,.int .u64 0,.int .u64 0,.int .u64 0,.int .u64 0,.int .u64 0,.int .u64 0,.int .u64 0,.int .u64 0,.int .u64 0,.int .u64 0,.int .u64 0] 143)) w.heap.size [0,0,0,0,0] [0,0,0,0,0] [0,0,0,0,0] [0,0,0,0,0]:=⟨heap_alloc_new w _,zero_ok,zero_ok,zero_ok,zero_ok⟩
theorem vsR_64 {pub msg sig:List Int} (h:¬ sig.length=64):vsR pub msg sig=false:=by unfold vsR;simp[h]
theorem vsR_q {pub msg sig:List Int} (h:decide (val 256 (sig.drop 32)<bigL)=false):vsR pub msg sig=false:=by unfold vsR;simp[h]
theorem vsR_p {pub msg sig:List Int} (h:mB pub mdD=false):vsR pub msg sig=false:=by unfold vsR;simp[h]
theorem vsR_r {pub msg sig:List Int} (h:mB (sig.take 32) mdD=false):vsR pub msg sig=false:=by unfold vsR;simp[h]
theorem vsR_e {pub msg sig:List Int} (h1:sig.length=64) (h2:decide (val 256 (sig.drop 32)<bigL)=true) (h3:mB pub mdD=true) (h4:mB (sig.take 32) mdD=true):vsR pub msg sig=eqnS pub msg sig:=by unfold vsR;rw[h2,h3,h4,decide_eq_true h1];simp
theorem dc_pt {zs x y z t:List Int} (hz:Byte zs) (hb:mB zs mdD=true) (hv:dcR zs=true→ev x=dcX zs∧ev y=dcY zs∧ev z=1∧ev t=dcX zs*dcY zs%fp):((ev x,ev y,ev z,ev t):Q4)=ptQ zs:=by
 obtain⟨e1,e2,e3,e4⟩:=hv (by rw[dec_same zs hz];exact hb);have q1:=decX_same zs (mB_len2 hb).1 hz (mB_len2 hb).2;unfold ptQ;rw[e1,q1,e2,e3,e4,q1];rfl
theorem ev_rd (x y z t:List Int):Rd ((ev x,ev y,ev z,ev t):Q4):=⟨ev_bd _,ev_bd _,ev_bd _,ev_bd _⟩
set_option maxRecDepth 100000 in
set_option maxHeartbeats 4000000 in
theorem vsI_any (bp op cp bm om cm bs os cs np nm ns:Nat) (pub msg sig:List Int) (w:World) (hpl:pub.length=np) (hml:msg.length=nm) (hsl:sig.length=ns) (hp:PtA w bp op pub) (hm:PtA w bm om msg) (hs:PtA w bs os sig)
  (zp:Byte pub) (zm:Byte msg) (zs:Byte sig) (hcs:ns≤cs) (bnp:np≤1048576) (bnm:nm≤1048576) (bns:ns≤1048576) (hT:TabIn w) (h0:1<w.heap.size) :
  Calls Tryz.prog 92 #[.slice (some ⟨bp,op,none⟩) np cp,.slice (some ⟨bm,om,none⟩) nm cm,.slice (some ⟨bs,os,none⟩) ns cs] w fun e w'=>e=.returned (.bool (vsR pub msg sig))∧Below w.heap.size w w':=by
 have HB0:Hid (Below w.heap.size w (((w.alloc (.cells #[.int .u64 0,.int .u64 0,.int .u64 0,.int .u64 0,.int .u64 0,.int .u64 0,.int .u64 0,.int .u64 0,.int .u64 0,.int .u64 0,.int .u64 0,.int .u64 0,.int .u64 0,.int .u64 0,.int .u64 0,.int .u64 0,.int .u64 0,.int .u64 0,.int .u64 0,.int .u64 0] 143)).alloc (.cells #[.int .u64 0,.int .u64 0,.int .u64 0,.int .u64 0,.int .u64 0,.int .u64 0,.int .u64 0,.int .u64 0,.int .u64 0,.int .u64 0,.int .u64 0,.int .u64 0,.int .u64 0,.int .u64 0,.int .u64 0,.int .u64 0,.int .u64 0,.int .u64 0,.int .u64 0,.int .u64 0] 143)).alloc (.cells #[.int .u64 0,.int .u64 0,.int .u64 0,.int .u64 0,.int .u64 0,.int .u64 0,.int .u64 0,.int .u64 0,.int .u64 0,.int .u64 0,.int .u64 0,.int .u64 0,.int .u64 0,.int .u64 0,.int .u64 0,.int .u64 0,.int .u64 0,.int .u64 0,.int .u64 0,.int .u64 0] 143))):=((below_new3 _ _).trans ((below_new3 _ _).mono (by simp))).trans ((below_new3 _ _).mono (by simp;omega));have HK0:Hid (Pt (((w.alloc (.cells #[.int .u64 0,.int .u64 0,.int .u64 0,.int .u64 0,.int .u64 0,.int .u64 0,.int .u64 0,.int .u64 0,.int .u64 0,.int .u64 0,.int .u64 0,.int .u64 0,.int .u64 0,.int .u64 0,.int .u64 0,.int .u64 0,.int .u64 0,.int .u64 0,.int .u64 0,.int .u64 0] 143)).alloc (.cells #[.int .u64 0,.int .u64 0,.int .u64 0,.int .u64 0,.int .u64 0,.int .u64 0,.int .u64 0,.int .u64 0,.int .u64 0,.int .u64 0,.int .u64 0,.int .u64 0,.int .u64 0,.int .u64 0,.int .u64 0,.int .u64 0,.int .u64 0,.int .u64 0,.int .u64 0,.int .u64 0] 143)).alloc (.cells #[.int .u64 0,.int .u64 0,.int .u64 0,.int .u64 0,.int .u64 0,.int .u64 0,.int .u64 0,.int .u64 0,.int .u64 0,.int .u64 0,.int .u64 0,.int .u64 0,.int .u64 0,.int .u64 0,.int .u64 0,.int .u64 0,.int .u64 0,.int .u64 0,.int .u64 0,.int .u64 0] 143)) w.heap.size [0,0,0,0,0] [0,0,0,0,0] [0,0,0,0,0] [0,0,0,0,0]):=((pt_newV w).below (below_new3 _ _) (by simp)).below (below_new3 _ _) (by simp;omega);have HN0:Hid (Pt (((w.alloc (.cells #[.int .u64 0,.int .u64 0,.int .u64 0,.int .u64 0,.int .u64 0,.int .u64 0,.int .u64 0,.int .u64 0,.int .u64 0,.int .u64 0,.int .u64 0,.int .u64 0,.int .u64 0,.int .u64 0,.int .u64 0,.int .u64 0,.int .u64 0,.int .u64 0,.int .u64 0,.int .u64 0] 143)).alloc (.cells #[.int .u64 0,.int .u64 0,.int .u64 0,.int .u64 0,.int .u64 0,.int .u64 0,.int .u64 0,.int .u64 0,.int .u64 0,.int .u64 0,.int .u64 0,.int .u64 0,.int .u64 0,.int .u64 0,.int .u64 0,.int .u64 0,.int .u64 0,.int .u64 0,.int .u64 0,.int .u64 0] 143)).alloc (.cells #[.int .u64 0,.int .u64 0,.int .u64 0,.int .u64 0,.int .u64 0,.int .u64 0,.int .u64 0,.int .u64 0,.int .u64 0,.int .u64 0,.int .u64 0,.int .u64 0,.int .u64 0,.int .u64 0,.int .u64 0,.int .u64 0,.int .u64 0,.int .u64 0,.int .u64 0,.int .u64 0] 143)) (w.heap.size+1) [0,0,0,0,0] [0,0,0,0,0] [0,0,0,0,0] [0,0,0,0,0]):=by
  have:=(pt_newV (w.alloc (.cells #[.int .u64 0,.int .u64 0,.int .u64 0,.int .u64 0,.int .u64 0,.int .u64 0,.int .u64 0,.int .u64 0,.int .u64 0,.int .u64 0,.int .u64 0,.int .u64 0,.int .u64 0,.int .u64 0,.int .u64 0,.int .u64 0,.int .u64 0,.int .u64 0,.int .u64 0,.int .u64 0] 143))).below (below_new3 ((w.alloc (.cells #[.int .u64 0,.int .u64 0,.int .u64 0,.int .u64 0,.int .u64 0,.int .u64 0,.int .u64 0,.int .u64 0,.int .u64 0,.int .u64 0,.int .u64 0,.int .u64 0,.int .u64 0,.int .u64 0,.int .u64 0,.int .u64 0,.int .u64 0,.int .u64 0,.int .u64 0,.int .u64 0] 143)).alloc (.cells #[.int .u64 0,.int .u64 0,.int .u64 0,.int .u64 0,.int .u64 0,.int .u64 0,.int .u64 0,.int .u64 0,.int .u64 0,.int .u64 0,.int .u64 0,.int .u64 0,.int .u64 0,.int .u64 0,.int .u64 0,.int .u64 0,.int .u64 0,.int .u64 0,.int .u64 0,.int .u64 0] 143)) (.cells #[.int .u64 0,.int .u64 0,.int .u64 0,.int .u64 0,.int .u64 0,.int .u64 0,.int .u64 0,.int .u64 0,.int .u64 0,.int .u64 0,.int .u64 0,.int .u64 0,.int .u64 0,.int .u64 0,.int .u64 0,.int .u64 0,.int .u64 0,.int .u64 0,.int .u64 0,.int .u64 0] 143)) (by simp);rw[show(w.alloc (.cells #[.int .u64 0,.int .u64 0,.int .u64 0,.int .u64 0,.int .u64 0,.int .u64 0,.int .u64 0,.int .u64 0,.int .u64 0,.int .u64 0,.int .u64 0,.int .u64 0,.int .u64 0,.int .u64 0,.int .u64 0,.int .u64 0,.int .u64 0,.int .u64 0,.int .u64 0,.int .u64 0] 143)).heap.size=w.heap.size+1 by simp] at this;exact this
 have HL0:Hid (Pt (((w.alloc (.cells #[.int .u64 0,.int .u64 0,.int .u64 0,.int .u64 0,.int .u64 0,.int .u64 0,.int .u64 0,.int .u64 0,.int .u64 0,.int .u64 0,.int .u64 0,.int .u64 0,.int .u64 0,.int .u64 0,.int .u64 0,.int .u64 0,.int .u64 0,.int .u64 0,.int .u64 0,.int .u64 0] 143)).alloc (.cells #[.int .u64 0,.int .u64 0,.int .u64 0,.int .u64 0,.int .u64 0,.int .u64 0,.int .u64 0,.int .u64 0,.int .u64 0,.int .u64 0,.int .u64 0,.int .u64 0,.int .u64 0,.int .u64 0,.int .u64 0,.int .u64 0,.int .u64 0,.int .u64 0,.int .u64 0,.int .u64 0] 143)).alloc (.cells #[.int .u64 0,.int .u64 0,.int .u64 0,.int .u64 0,.int .u64 0,.int .u64 0,.int .u64 0,.int .u64 0,.int .u64 0,.int .u64 0,.int .u64 0,.int .u64 0,.int .u64 0,.int .u64 0,.int .u64 0,.int .u64 0,.int .u64 0,.int .u64 0,.int .u64 0,.int .u64 0] 143)) (w.heap.size+1+1) [0,0,0,0,0] [0,0,0,0,0] [0,0,0,0,0] [0,0,0,0,0]):=by
  have:=pt_newV ((w.alloc (.cells #[.int .u64 0,.int .u64 0,.int .u64 0,.int .u64 0,.int .u64 0,.int .u64 0,.int .u64 0,.int .u64 0,.int .u64 0,.int .u64 0,.int .u64 0,.int .u64 0,.int .u64 0,.int .u64 0,.int .u64 0,.int .u64 0,.int .u64 0,.int .u64 0,.int .u64 0,.int .u64 0] 143)).alloc (.cells #[.int .u64 0,.int .u64 0,.int .u64 0,.int .u64 0,.int .u64 0,.int .u64 0,.int .u64 0,.int .u64 0,.int .u64 0,.int .u64 0,.int .u64 0,.int .u64 0,.int .u64 0,.int .u64 0,.int .u64 0,.int .u64 0,.int .u64 0,.int .u64 0,.int .u64 0,.int .u64 0] 143));rw[show((w.alloc (.cells #[.int .u64 0,.int .u64 0,.int .u64 0,.int .u64 0,.int .u64 0,.int .u64 0,.int .u64 0,.int .u64 0,.int .u64 0,.int .u64 0,.int .u64 0,.int .u64 0,.int .u64 0,.int .u64 0,.int .u64 0,.int .u64 0,.int .u64 0,.int .u64 0,.int .u64 0,.int .u64 0] 143)).alloc (.cells #[.int .u64 0,.int .u64 0,.int .u64 0,.int .u64 0,.int .u64 0,.int .u64 0,.int .u64 0,.int .u64 0,.int .u64 0,.int .u64 0,.int .u64 0,.int .u64 0,.int .u64 0,.int .u64 0,.int .u64 0,.int .u64 0,.int .u64 0,.int .u64 0,.int .u64 0,.int .u64 0] 143)).heap.size=w.heap.size+1+1 by simp] at this;exact this
 have HP:=hid_ofS hp;have HM:=hid_ofS hm;have HS:=hid_ofS hs;have HZ:=hid_ofS (And.intro zp (And.intro zm zs));have HT:=hid_ofS (And.intro hT h0);clear hp hm hs zp zm zs hT h0;by_cases h64:ns=64
 ·subst h64;have hslh:=fun w=>run_sliceHi w bs os cs hcs
  have hsll:=fun w=>run_sliceLo w bs os cs hcs
  have hdl:(sig.drop 32).length=32:=by rw[List.length_drop,hsl]
  have htl:(sig.take 32).length=32:=by rw[List.length_take,hsl];rfl
  go_enter Tryz.func92,Tryz.ntmps92;go_wp2_with fail;generalize (((w.alloc (.cells #[.int .u64 0,.int .u64 0,.int .u64 0,.int .u64 0,.int .u64 0,.int .u64 0,.int .u64 0,.int .u64 0,.int .u64 0,.int .u64 0,.int .u64 0,.int .u64 0,.int .u64 0,.int .u64 0,.int .u64 0,.int .u64 0,.int .u64 0,.int .u64 0,.int .u64 0,.int .u64 0] 143)).alloc (.cells #[.int .u64 0,.int .u64 0,.int .u64 0,.int .u64 0,.int .u64 0,.int .u64 0,.int .u64 0,.int .u64 0,.int .u64 0,.int .u64 0,.int .u64 0,.int .u64 0,.int .u64 0,.int .u64 0,.int .u64 0,.int .u64 0,.int .u64 0,.int .u64 0,.int .u64 0,.int .u64 0] 143)).alloc (.cells #[.int .u64 0,.int .u64 0,.int .u64 0,.int .u64 0,.int .u64 0,.int .u64 0,.int .u64 0,.int .u64 0,.int .u64 0,.int .u64 0,.int .u64 0,.int .u64 0,.int .u64 0,.int .u64 0,.int .u64 0,.int .u64 0,.int .u64 0,.int .u64 0,.int .u64 0,.int .u64 0] 143))=w0 at *;refine(iok2_any (some ⟨bs,os+32,none⟩) 32 (cs-32) (sig.drop 32) _ hdl ((HS.out.below HB0.out).drop 32).at_ (byte_drop HZ.out.2.2 32)).mono ?_;rintro e w1 ⟨rfl,b1⟩;have HB1:=hdI <| HB0.out.trans (b1.mono HB0.out.size)
  have HK1:=hdI <| HK0.out.below b1 HK0.out.row.lt
  have HN1:=hdI <| HN0.out.below b1 HN0.out.row.lt
  have HL1:=hdI <| HL0.out.below b1 HL0.out.row.lt
  have hqq:decide (32=32∧val 256 (sig.drop 32)<bigL)=decide (val 256 (sig.drop 32)<bigL):=by simp
  rw[hqq];clear b1 HB0 HK0 HN0 HL0 hqq;cases hq:decide (val 256 (sig.drop 32)<bigL) with
  |false=>
   have HV:=hid_ofS (vsR_q (pub:=pub) (msg:=msg) hq);clear hq HK1 HN1 HL1;go_wp2
   go_ret
   exact⟨by rw[HV.out];rfl,HB1.out⟩
  |true=>
   have HQ:=hid_ofS hq;clear hq;go_wp2_with fail;refine(decode_any w.heap.size _ _ _ _ (some ⟨bp,op,none⟩) np cp pub _ hpl bnp (HP.out.below HB1.out).at_ HZ.out.1 HK1.out).mono ?_;rintro e w2 ⟨x1,y1,z1,t1,P1,hw1,rfl,hv1⟩;have HB2:=hdI <| HB1.out.trans (hw1.below w.heap.size (Nat.le_refl _) HB1.out.size)
   have HK2:=hdI <| P1
   have HN2:=hdI <| HN1.out.wrh2 hw1 (by omega)
   have HL2:=hdI <| HL1.out.wrh2 hw1 (by omega)
   have HV1:=hid_ofS hv1;rw[dec_same pub HZ.out.1];clear hw1 P1 hv1 HB1 HK1 HN1 HL1;cases hb:mB pub mdD with
   |false=>
    have HV:=hid_ofS (vsR_p (msg:=msg) (sig:=sig) hb);clear hb HK2 HN2 HL2 HV1;go_wp2
    go_ret
    exact⟨by rw[HV.out];rfl,HB2.out⟩
   |true=>
    have HE1:=hid_ofS (dc_pt HZ.out.1 hb HV1.out);have HBP:=hid_ofS hb;obtain rfl:np=32:=by rw[←hpl];exact(mB_len2 hb).1
    clear hb HV1;go_wp2_with fail;refine(decode_any (w.heap.size+1) _ _ _ _ (some ⟨bs,os,none⟩) 32 cs (sig.take 32) _ htl (by decide) ((HS.out.below HB2.out).take 32).at_ (byte_take HZ.out.2.2 32) HN2.out).mono ?_;rintro e w3 ⟨x2,y2,z2,t2,P2,hw2,rfl,hv2⟩;have HB3:=hdI <| HB2.out.trans (hw2.below w.heap.size (by omega) HB2.out.size)
    have HK3:=hdI <| HK2.out.wrh2 hw2 (by omega)
    have HN3:=hdI <| P2
    have HL3:=hdI <| HL2.out.wrh2 hw2 (by omega)
    have HV2:=hid_ofS hv2;rw[dec_same (sig.take 32) (byte_take HZ.out.2.2 32)];clear hw2 P2 hv2 HB2 HK2 HN2 HL2;cases hb2:mB (sig.take 32) mdD with
    |false=>
     have HV:=hid_ofS (vsR_r (msg:=msg) (pub:=pub) hb2);clear hb2 HK3 HN3 HL3 HV2;go_wp2
     go_ret
     exact⟨by rw[HV.out];rfl,HB3.out⟩
    |true=>
     have HE2:=hid_ofS (dc_pt (byte_take HZ.out.2.2 32) hb2 HV2.out);have HVR:=hid_ofS (vsR_e (msg:=msg) hsl HQ.out HBP.out hb2);clear hb2 HV2 HQ HBP;go_wp2_with fail;refine(ibas_any _).mono ?_;rintro e w4 ⟨v4,b4s,rfl,o4,c1,c2,c3,b4⟩;obtain rfl:=bB_of c1 c2 c3;obtain⟨g4,c4,rfl,hA4,hc4⟩:=PtA.of_own o4;have HB4:=hdI <| HB3.out.trans (b4.mono HB3.out.size)
     have HK4:=hdI <| HK3.out.below b4 HK3.out.row.lt
     have HN4:=hdI <| HN3.out.below b4 HN3.out.row.lt
     have HL4:=hdI <| HL3.out.below b4 HL3.out.row.lt
     have HA4:=hid_ofS hA4;rw[bB_len];clear o4 c1 c2 c3 b4 hA4 hc4 HB3 HK3 HN3 HL3;go_wp2_with fail;refine(decode_any (w.heap.size+1+1) _ _ _ _ (some ⟨g4,0,none⟩) 32 c4 bB _ bB_len (by decide) HA4.out.at_ bB_byte HL4.out).mono ?_;rintro e w5 ⟨x3,y3,z3,t3,P3,hw3,rfl,hv3⟩;have HB5:=hdI <| HB4.out.trans (hw3.below w.heap.size (by omega) HB4.out.size)
     have HK5:=hdI <| HK4.out.wrh2 hw3 (by omega)
     have HN5:=hdI <| HN4.out.wrh2 hw3 (by omega)
     have HL5:=hdI <| P3
     have HE3:=hid_ofS (dc_pt bB_byte bB_ok hv3);generalize dcR bB=rb at *;clear hw3 P3 hv3 HB4 HK4 HN4 HL4 HA4;go_wp2_with fail;refine(nof_any (some ⟨bs,os+32,none⟩) 32 (cs-32) (sig.drop 32) _ hdl (by decide) (by decide) ((HS.out.below HB5.out).drop 32).at_ (byte_drop HZ.out.2.2 32)).mono ?_;rintro e w6 ⟨ms,hl,hw,hv,rfl,b6⟩;rw[List.take_of_length_le (by omega)] at hv;have HB6:=hdI <| HB5.out.trans (b6.mono HB5.out.size)
     have HK6:=hdI <| HK5.out.below b6 HK5.out.row.lt
     have HN6:=hdI <| HN5.out.below b6 HN5.out.row.lt
     have HL6:=hdI <| HL5.out.below b6 HL5.out.row.lt
     have CM:=hid_ofS (multiply_any (w.heap.size+1+1) x3 y3 z3 t3 ms w6 HL6.out hl hw);rw[HE3.out,hv] at CM;clear b6 HB5 HK5 HN5 HL5 hl hw hv;go_wp2_with fail;refine CM.out.mono ?_;rintro e w7 ⟨x4,y4,z4,t4,P4,hw4,rfl,hq4⟩;have HB7:=hdI <| HB6.out.trans (hw4.below w.heap.size (by omega) HB6.out.size)
     have HK7:=hdI <| HK6.out.wrh2 hw4 (by omega)
     have HN7:=hdI <| HN6.out.wrh2 hw4 (by omega)
     have HL7:=hdI <| P4
     have HQ4:=hid_ofS hq4;clear P4 hw4 hq4 CM HB6 HK6 HN6 HL6;have hfl:[sig.take 32,pub,msg].flatten=sig.take 32++pub++msg:=by simp
     have hfn:(sig.take 32++pub++msg).length=32+32+nm:=by rw[List.length_append,List.length_append,htl,hpl,hml]
     have HAL:Hid (Below w7.heap.size w7 (w7.alloc (.cells #[.slice (some ⟨bs,os,none⟩) 32 cs,.slice (some ⟨bp,op,none⟩) 32 cp,.slice (some ⟨bm,om,none⟩) nm cm] 22))):=below_new3 _ _;have CC:Hid (Calls Tryz.prog 109 #[.slice (some ⟨w7.heap.size,0,none⟩) 3 3] (w7.alloc (.cells #[.slice (some ⟨bs,os,none⟩) 32 cs,.slice (some ⟨bp,op,none⟩) 32 cp,.slice (some ⟨bm,om,none⟩) nm cm] 22)) _):=
      conc_any w7.heap.size 3 3 [.slice (some ⟨bs,os,none⟩) 32 cs,.slice (some ⟨bp,op,none⟩) 32 cp,.slice (some ⟨bm,om,none⟩) nm cm] [sig.take 32,pub,msg] _ rfl (by simp)
       (fun i hi=>by
        rw[cell_of_row _ _ i _ _ _ (heap_alloc_new w7 _)]
        match i,hi with
        |0,_=>rfl
        |1,_=>rfl
        |2,_=>rfl)
       (fun i hi=>by
        have bx:=HB7.out.trans (HAL.out.mono HB7.out.size)
        match i,hi with
        |0,_=>exact((HS.out.below bx).take 32).part 32 cs htl
        |1,_=>exact(HP.out.below bx).part 32 cp hpl
        |2,_=>exact(HM.out.below bx).part nm cm hml)
       (by rw[hfl,hfn];omega) (by rw[hfl,hfn];omega) (by decide)
     rw[hfl] at CC;have HFN:=hid_ofS hfn;clear hfl hfn;go_wp2_with fail;refine CC.out.mono ?_;rintro e w8 ⟨v8,rfl,o8,b8⟩;obtain⟨g8,c8,rfl,hA8,hc8⟩:=PtA.of_own o8;have b78:=HAL.out.trans (b8.mono HAL.out.size);have HB8:=hdI <| HB7.out.trans (b78.mono HB7.out.size)
     have HK8:=hdI <| HK7.out.below b78 HK7.out.row.lt
     have HN8:=hdI <| HN7.out.below b78 HN7.out.row.lt
     have HL8:=hdI <| HL7.out.below b78 HL7.out.row.lt
     have HBY:Hid (Byte (sig.take 32++pub++msg)):=fun z hz=>by
      simp only[List.mem_append] at hz;rcases hz with (h|h)|h
      ·exact byte_take HZ.out.2.2 32 z h
      ·exact HZ.out.1 z h
      ·exact HZ.out.2.1 z h
     have CH:=hid_ofS (shaI_any (some ⟨g8,0,none⟩) _ c8 (sig.take 32++pub++msg) w8 rfl hA8.at_ HBY.out (by rw[HFN.out];omega) hc8 (tab_keepV HT.out.1 HT.out.2 HB8.out) (Nat.lt_of_lt_of_le HT.out.2 HB8.out.size));clear o8 b8 b78 hA8 hc8 CC HAL HB7 HK7 HN7 HL7;rw[HFN.out] at CH ⊢;go_wp2_with fail;refine CH.out.mono ?_;rintro e w9 ⟨v9,rfl,o9,b9⟩;obtain⟨g9,c9,rfl,hA9,hc9⟩:=PtA.of_own o9;have HB9:=hdI <| HB8.out.trans (b9.mono HB8.out.size)
     have HK9:=hdI <| HK8.out.below b9 HK8.out.row.lt
     have HN9:=hdI <| HN8.out.below b9 HN8.out.row.lt
     have HL9:=hdI <| HL8.out.below b9 HL8.out.row.lt
     have hsl9:(shaL (sig.take 32++pub++msg)).length=64:=by unfold shaL;rw[txtW_len,(finL_w8 _ _ _).1]
     have CR:=hid_ofS (rnum_any (some ⟨g9,0,none⟩) 64 c9 (shaL (sig.take 32++pub++msg)) w9 hsl9 (by decide) hA9.at_ (by unfold shaL;exact txtW_byte _));rw[hsl9];clear o9 b9 hA9 hc9 CH HB8 HK8 HN8 HL8 hsl9 HBY;go_wp2_with fail;refine CR.out.mono ?_;rintro e w10 ⟨ks,hl,hw,hv,rfl,b10⟩;have HB10:=hdI <| HB9.out.trans (b10.mono HB9.out.size)
     have HK10:=hdI <| HK9.out.below b10 HK9.out.row.lt
     have HN10:=hdI <| HN9.out.below b10 HN9.out.row.lt
     have HL10:=hdI <| HL9.out.below b10 HL9.out.row.lt
     have CM:=hid_ofS (multiply_any w.heap.size x1 y1 z1 t1 ks w10 HK10.out hl hw);rw[HE1.out,show val 18446744073709551616 ks=hsV pub msg sig from hv] at CM;clear b10 HB9 HK9 HN9 HL9 CR hl hw hv;go_wp2_with fail;refine CM.out.mono ?_;rintro e w11 ⟨x5,y5,z5,t5,P5,hw5,rfl,hq5⟩;have HB11:=hdI <| HB10.out.trans (hw5.below w.heap.size (Nat.le_refl _) HB10.out.size)
     have HK11:=hdI <| P5
     have HN11:=hdI <| HN10.out.wrh2 hw5 (by omega)
     have HL11:=hdI <| HL10.out.wrh2 hw5 (by omega)
     have HQ5:=hid_ofS hq5;clear P5 hw5 hq5 CM HB10 HK10 HN10 HL10;have CA:=hid_ofS (add_any (w.heap.size+1) w.heap.size x2 y2 z2 t2 x5 y5 z5 t5 w11 HN11.out HK11.out);go_wp2_with fail;refine CA.out.mono ?_;intro e w12 h12;obtain⟨x6,y6,z6,t6,P6,hw6,rfl,hq6⟩:=h12.q4;have HB12:=hdI <| HB11.out.trans (hw6.below w.heap.size (by omega) HB11.out.size)
     have HN12:=hdI <| P6
     have HL12:=hdI <| HL11.out.wrh2 hw6 (by omega)
     have HEQ:Hid (decide (cdV (ev x4) (ev y4) (ev z4)=cdV (ev x6) (ev y6) (ev z6))=vsR pub msg sig):=by
      show _=_
      have hp1:Rd (ptQ pub):=by rw[←HE1.out];exact ev_rd _ _ _ _
      have hp2:Rd (ptQ (sig.take 32)):=by rw[←HE2.out];exact ev_rd _ _ _ _
      have hp3:Rd (ptQ bB):=by rw[←HE3.out];exact ev_rd _ _ _ _
      rw[HVR.out,←eqn_same pub msg sig hp1 hp2 hp3];unfold eqnI;rw[←HQ4.out,←HQ5.out,←HE2.out,←hq6];rfl
     clear h12 P6 hw6 hq6 CA HB11 HK11 HN11 HL11 HE1 HE2 HE3 HQ4 HQ5 HVR;obtain⟨vr,hvr⟩:∃ v,v=vsR pub msg sig:=⟨_,rfl⟩
     rw[←hvr] at HEQ;have HVV:=hid_ofS hvr;clear hvr;have CL:=hid_ofS (pcode_any (w.heap.size+1+1) x4 y4 z4 t4 w12 HL12.out);generalize cdV (ev x4) (ev y4) (ev z4)=V1 at *;go_wp2_with fail;refine CL.out.mono ?_;rintro e w13 ⟨ls,hl1,hw1,hv1,rfl,b13⟩;have HB13:=hdI <| HB12.out.trans (b13.mono HB12.out.size)
     have HN13:Hid (Pt w13 (w.heap.size+1) x6 y6 z6 t6):=HN12.out.below b13 HN12.out.row.lt;have CR:=hid_ofS (pcode_any (w.heap.size+1) x6 y6 z6 t6 w13 HN13.out);generalize cdV (ev x6) (ev y6) (ev z6)=V2 at *;have HW1:=hid_ofS (And.intro hw1 hv1);clear b13 CL HB12 HN12 HL12 hw1 hv1;go_wp2_with fail;refine CR.out.mono ?_;rintro e w14 ⟨rs,hl2,hw2,hv2,rfl,b14⟩;have HB14:Hid (Below w.heap.size w w14):=HB13.out.trans (b14.mono HB13.out.size);have HQ:Hid (decide (ls=rs)=vr):=by
      show _=_
      rw[←HEQ.out];obtain⟨hw1,hv1⟩:=HW1.out;by_cases h:ls=rs
      ·rw[decide_eq_true h,decide_eq_true (by rw[←hv1,←hv2,h])]
      ·rw[decide_eq_false h,decide_eq_false (fun e=>h (val_inj (B:=18446744073709551616) (by decide) hw1 hw2 (by omega) (by rw[hv1,hv2,e])))]
     clear b14 CR HB13 HN13 HW1 HEQ hw2 hv2;go_wp2_with (simp only[run_eqW _ 9998 4 146 Tryz.underlying146 ls rs hl1 hl2]);rw[HQ.out];clear HQ;simp only[Result.andThen_ok];go_simp;go_wp2
     go_ret
     exact⟨by rw[←HVV.out];rfl,HB14.out⟩
 ·have HV:=hid_ofS (vsR_64 (pub:=pub) (msg:=msg) (sig:=sig) (by rw[hsl];exact h64));have h65:¬ ((ns:Int)=64):=by omega
  have h66:((ns:Int) != 64)=true:=by simpa using h65
  clear HK0 HN0 HL0;go_enter Tryz.func92,Tryz.ntmps92;go_wp2
  go_ret
  exact⟨by rw[HV.out];rfl,HB0.out⟩
end Go.Proofs.YtncomnkdlpoelaaGreatDoor
