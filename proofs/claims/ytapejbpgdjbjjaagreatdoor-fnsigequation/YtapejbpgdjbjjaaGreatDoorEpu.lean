import Derived.Test.YtapejbpgdjbjjaaGreatDoorMEpt
namespace Go.Proofs.YtapejbpgdjbjjaaGreatDoor
open Go.ChangeShapes Go.WideShapes Go.ChangeAt Go.RowKit
set_option linter.unusedVariables false
theorem xor_bdE (u v:Int):0≤bits .xor .u8 u v∧bits .xor .u8 u v<256:=by
 have h:∀ n:Int,0≤IntKind.u8.wrap n∧IntKind.u8.wrap n<256:=fun n=>by rw[IntKind.wrap_u8];omega
 unfold bits;exact h _
theorem byte_rep (k:Nat):Byte (List.replicate k 0):=fun v hv=>by rw[List.mem_replicate] at hv;rw[hv.2];decide
def PtPost (w:World) (g:Nat) (e:Ending) (w':World):Prop:=∃ v m,e=.returned v∧(m=31∨m=32)∧TxO w' w.heap.size v m∧WrG g w w'
set_option maxRecDepth 100000 in
set_option maxHeartbeats 8000000 in
theorem spt_any (g:Nat) (x:Option Addr) (n cap:Nat) (w:World) (hc:CurB w g x n cap) (ht:CurT w g x n) (hg:g<w.heap.size) :
  Calls Tryz.prog 21 #[.pointer (some ⟨g,0,none⟩)] w (PtPost w g):=by
 go_enter Tryz.func21,Tryz.ntmps21
 go_wp2_with fail
 refine(below_any g x n cap 10 _ hc ht (by decide) (by decide)).mono ?_
 rintro e w1 ⟨k,rfl,hk0,hk1,hc1,hw1⟩
 have ht1:=ht.wr (fun j hj=>hw1.block j (by omega))
 have hr1:=hw1.wrG
 have s1:=hr1.size
 clear hc ht hw1
 go_wp2_with fail
 refine(below_any g x n cap 4 _ hc1 ht1 (by decide) (by decide)).mono ?_
 rintro e w2 ⟨y,rfl,hy0,hy1,hc2,hw2⟩
 have ht2:=ht1.wr (fun j hj=>hw2.block j (by omega))
 have hr2:=hr1.trans hw2.wrG
 have s2:=hr2.size
 have HW:=hid_ofE (And.intro hc2 (And.intro ht2 hr2))
 clear hc1 ht1 hw2 hr1 hc2 ht2 hr2
 by_cases hk4:k<4
 ·obtain⟨hc2,ht2,hr2⟩:=HW.out;have HO:=hid_ofE (below_any g x n cap 500 _ hc2 ht2 (by decide) (by decide));clear hc2 ht2 HW;go_wp2_with fail;refine HO.out.mono ?_;rintro e w3 ⟨z,rfl,hz0,hz1,hc3,hw3⟩;clear HO;have HP:=hid_ofE (pubO_any (1+z) w3 (by omega) (by omega));have HR:=hid_ofE (hr2.trans hw3.wrG);clear hc3 hw3 hr2;go_wp2_with fail;refine HP.out.mono ?_;rintro e w4 ⟨v4,rfl,t4,b4⟩;have HF:=hid_ofE (And.intro (t4.lower HR.out.size) (HR.out.trans (WrG.of_below b4)));clear HP HR t4 b4;go_wp2
  go_ret
  exact⟨_,32,rfl,.inr rfl,HF.out.1,HF.out.2⟩
 ·by_cases hke:k=4
  ·subst hke;obtain⟨hc2,ht2,hr2⟩:=HW.out;have HO:=hid_ofE (some_any g x n cap 32 _ hc2 ht2 (by omega) (by decide));clear hc2 ht2 HW;go_wp2_with fail;refine HO.out.mono ?_;rintro e w3 ⟨v3,zs,rfl,O3,b3,l3,hc3,hr3⟩;have HF:=hid_ofE (And.intro (TxO.of_own (O3.monoE hr2.size) l3 b3) (hr2.trans hr3));clear HO O3 hc3 hr3 hr2;go_wp2
   go_ret
   exact⟨_,32,rfl,.inr rfl,HF.out.1,HF.out.2⟩
  ·go_wp2_with fail;rw[show decide (k<4)=false from decide_eq_false (by omega),show(k == 4)=false from beq_false_of_ne hke]
   go_loopw [5,6] (fun v i wr=>∃ j:Nat,j≤32∧i=.int .i64 j∧Own wr w.heap.size v (List.replicate j 0)∧CurB wr g x n cap∧CurT wr g x n∧WrG g w wr) (fun _ i _=>32-(intOf i).toNat)
   case atStart=>
    obtain⟨hc2,ht2,hr2⟩:=HW.out;have hb0:=(Below.refl w2.heap.size w2).alloc (Nat.le_refl _) (.cells #[] 5);exact⟨0,Nat.zero_le _,rfl,Own.empty _ _ s2,hc2.keepE (hb0.block g (by omega)),ht2.wr (fun j hj=>hb0.block j (by omega)),hr2.trans (WrG.of_below hb0)⟩
   case round=>
    clear HW;obtain⟨j,hj,rfl,hown,hcu,htu,hwr⟩:=hrel;have hsz:=hwr.size;by_cases hlt:j<32
    ·have hlt':(j:Int)<32:=by omega
     go_wp2_with (at_builtin;refine wpList_app _ rfl _ _ rfl w.heap.size _ _ rfl (hown.alloc _) ⟨wr.heap.size,0,none⟩ 1 1 [0] rfl rfl ?c1 ?c2 ?c3 ?_);all_goals first|(intro j hj;obtain rfl:j=0:=by omega
                                                                                                                                                                       simp[Addr.add];done)|skip
     case c2=>simp;omega
     case c3=>first|omega|(rw[World.size_alloc];omega)
     intro v' w3 hown' hb' _;have hb3:Below w.heap.size wr w3:=((Below.refl _ _).alloc hsz _).trans hb';have HO:=hid_ofE (And.intro hown' (And.intro (hcu.keepE (hb3.block g hg)) (And.intro (htu.wr (fun j hj=>hb3.block j (by omega))) (hwr.bel hb3))));clear hown hown' hb' hb3 hcu htu hwr;go_wp2;go_roundw
     case rel=>exact⟨j+1,by omega,by go_num,by rw[List.replicate_succ'];exact HO.out.1,HO.out.2.1,HO.out.2.2.1,HO.out.2.2.2⟩
     case measure=>simp[intOf];omega
    ·have hj32:j=32:=by omega
     subst hj32;obtain⟨q,cq,rfl,hq,hq',hqc⟩:=hown.base;rw[List.length_replicate] at hown hqc ⊢;have ll:(List.replicate 32 (0:Int)).length=32:=by simp
     have bb:=byte_rep 32;have HS:=hid_ofE (And.intro hown (And.intro hcu (And.intro htu hwr)));clear hown hcu htu hwr;generalize List.replicate 32 (0:Int)=zs at *;have h0:0≤cq:=by omega
     rcases (show k=5∨k=6∨k=7∨k=8∨k=9 by omega) with rfl|rfl|rfl|rfl|rfl
     ·go_wp2_with fail
      go_loopw [7] (fun i wq=>∃(j:Nat) (zs:List Int),j≤32∧i=.int .i64 j∧zs.length=32∧Byte zs∧Own wq w.heap.size (.slice (some ⟨q,0,none⟩) 32 cq) zs∧CurB wq g x n cap∧CurT wq g x n∧WrG g w wq) (fun i _=>32-(intOf i).toNat)
      case atStart=>exact⟨0,zs,by omega,rfl,ll,bb,HS.out.1,HS.out.2.1,HS.out.2.2.1,HS.out.2.2.2⟩
      case round=>
       clear HS ll bb;obtain⟨j,zq,hj,rfl,ll,bb,hO,hcu,htu,hwu⟩:=hrel;have HS:=hid_ofE (And.intro hO (And.intro hcu (And.intro htu hwu)));clear hO hcu htu hwu;by_cases hlt:j<32
       ·have hlt':(j:Int)<32:=by omega
        obtain⟨Ob,hcb,htb,hrb⟩:=HS.out;obtain⟨c1,f1,q1⟩:=Ob.setE ll j 255 hlt;have HS2:=hid_ofE (And.intro q1 (And.intro (hcb.keepE (w':=wr.setCell ⟨q,j,none⟩ (.int .u8 255)) (heap_setCell_other _ _ _ _ (by show g≠q;omega))) (And.intro (htb.wr (w':=wr.setCell ⟨q,j,none⟩ (.int .u8 255)) (fun j hj=>heap_setCell_other _ _ _ _ (by show j≠q;omega))) (hrb.bel (below_setE (i:=j) (v:=.int .u8 255) hq)))))
        replace ll:(zq.set j 255).length=32:=by rw[List.length_set];exact ll
        replace bb:Byte (zq.set j 255):=byte_setE bb j (by omega)
        clear q1 Ob hcb htb hrb HS;go_wp2;go_roundw
        case rel=>exact⟨j+1,zq.set j 255,by omega,by go_num,ll,bb,HS2.out.1,HS2.out.2.1,HS2.out.2.2.1,HS2.out.2.2.2⟩
        case measure=>simp[intOf];omega
       ·have hj32:j=32:=by omega
        subst hj32;have h31:31≤cq:=by omega
        obtain⟨Ob,hcb,htb,hrb⟩:=HS.out;obtain⟨c1,f1,q1⟩:=Ob.setE ll 31 127 (by decide);have HS2:=hid_ofE (And.intro q1 (And.intro (hcb.keepE (w':=wr.setCell ⟨q,31,none⟩ (.int .u8 127)) (heap_setCell_other _ _ _ _ (by show g≠q;omega))) (And.intro (htb.wr (w':=wr.setCell ⟨q,31,none⟩ (.int .u8 127)) (fun j hj=>heap_setCell_other _ _ _ _ (by show j≠q;omega))) (hrb.bel (below_setE (i:=31) (v:=.int .u8 127) hq)))))
        replace ll:(zq.set 31 127).length=32:=by rw[List.length_set];exact ll
        replace bb:Byte (zq.set 31 127):=byte_setE bb 31 (by omega)
        clear q1 Ob hcb htb hrb HS;have HO:=hid_ofE (below_any g x n cap 20 _ HS2.out.2.1 HS2.out.2.2.1 (by decide) (by decide));go_wp2_with fail;refine HO.out.mono ?_;rintro e w5 ⟨z,rfl,hz0,hz1,hca,hwa⟩;have hz256:z%256=z:=by omega
        have HS:=hid_ofE (And.intro (HS2.out.1.keepE (w':=w5) (fun k hk _=>hwa.block k (by omega))) (And.intro hca (And.intro (HS2.out.2.2.1.wr (fun j hj=>hwa.block j (by omega))) (HS2.out.2.2.2.trans hwa.wrG))));clear HO HS2 hca hwa c1 f1;generalize zq.set 31 127=zr at *;obtain⟨Ob,hcb,htb,hrb⟩:=HS.out;obtain⟨c1,f1,q1⟩:=Ob.setE ll 0 (236+z) (by decide);have HS2:=hid_ofE (And.intro q1 (And.intro (hcb.keepE (w':=w5.setCell ⟨q,0,none⟩ (.int .u8 (236+z))) (heap_setCell_other _ _ _ _ (by show g≠q;omega))) (And.intro (htb.wr (w':=w5.setCell ⟨q,0,none⟩ (.int .u8 (236+z))) (fun j hj=>heap_setCell_other _ _ _ _ (by show j≠q;omega))) (hrb.bel (below_setE (i:=0) (v:=.int .u8 (236+z)) hq)))))
        replace ll:(zr.set 0 (236+z)).length=32:=by rw[List.length_set];exact ll
        replace bb:Byte (zr.set 0 (236+z)):=byte_setE bb 0 (by omega)
        clear q1 Ob hcb htb hrb HS;have HS:=hid_ofE HS2.out;clear HS2;generalize zr.set 0 (236+z)=z6 at *;obtain⟨Oa,hca,hta,hra⟩:=HS.out;have HO:=hid_ofE (once_any g x n cap 3 _ hca hta (by decide) (by decide));clear hca;go_wp2_with fail;refine HO.out.mono ?_;rintro e wa ⟨ta,rfl,hca,hwa⟩;have HA:=hid_ofE (And.intro (Oa.keepE (w':=wa) (fun k hk _=>hwa.block k (by omega))) (And.intro hca (And.intro (hta.wr (fun j hj=>hwa.block j (by omega))) (hra.trans hwa.wrG))));clear HO HS Oa hra hta hca hwa;have h31:31≤cq:=by omega
        cases ta with
        |true=>
         obtain⟨Ob,hcb,htb,hrb⟩:=HA.out;obtain⟨c1,f1,q1⟩:=Ob.setE ll 31 (bits .xor .u8 (z6.getD 31 0) 128) (by decide);have hx1:=xor_bdE (z6.getD 31 0) 128;have HS:=hid_ofE (And.intro q1 (And.intro (hcb.keepE (w':=wa.setCell ⟨q,31,none⟩ (.int .u8 (bits .xor .u8 (z6.getD 31 0) 128))) (heap_setCell_other _ _ _ _ (by show g≠q;omega))) (And.intro (htb.wr (w':=wa.setCell ⟨q,31,none⟩ (.int .u8 (bits .xor .u8 (z6.getD 31 0) 128))) (fun j hj=>heap_setCell_other _ _ _ _ (by show j≠q;omega))) (hrb.bel (below_setE (i:=31) (v:=.int .u8 (bits .xor .u8 (z6.getD 31 0) 128)) hq)))))
         replace ll:(z6.set 31 (bits .xor .u8 (z6.getD 31 0) 128)).length=32:=by rw[List.length_set];exact ll
         replace bb:Byte (z6.set 31 (bits .xor .u8 (z6.getD 31 0) 128)):=byte_setE bb 31 hx1
         clear q1 HA Ob hcb htb hrb;generalize hzz:z6.set 31 (bits .xor .u8 (z6.getD 31 0) 128)=zz at *;clear hzz hx1;generalize z6.getD 31 0=zg at *;obtain⟨Ob,hcb,htb,hrb⟩:=HS.out;have HO:=hid_ofE (once_any g x n cap 20 _ hcb htb (by decide) (by decide));clear hcb htb;go_wp2_with fail;refine HO.out.mono ?_;rintro e wb ⟨tb,rfl,hcb',hwb⟩;have HF:=hid_ofE (And.intro (Ob.keepE (w':=wb) (fun k hk _=>hwb.block k (by omega))) (hrb.trans hwb.wrG));clear HO HS Ob hrb hcb' hwb;cases tb with
         |true=>
          go_wp2
          go_ret
          exact⟨_,31,rfl,.inl rfl,TxO.of_own (HF.out.1.cutE ll (by decide)) (by simp;omega) (fun v hv=>bb v (List.mem_of_mem_take hv)),HF.out.2⟩
         |false=>
          go_wp2
          go_ret
          exact⟨_,32,rfl,.inr rfl,TxO.of_own HF.out.1 ll bb,HF.out.2⟩
        |false=>
         have HS:=hid_ofE HA.out;clear HA;obtain⟨Ob,hcb,htb,hrb⟩:=HS.out;have HO:=hid_ofE (once_any g x n cap 20 _ hcb htb (by decide) (by decide));clear hcb htb;go_wp2_with fail;refine HO.out.mono ?_;rintro e wb ⟨tb,rfl,hcb',hwb⟩;have HF:=hid_ofE (And.intro (Ob.keepE (w':=wb) (fun k hk _=>hwb.block k (by omega))) (hrb.trans hwb.wrG));clear HO HS Ob hrb hcb' hwb;cases tb with
         |true=>
          go_wp2
          go_ret
          exact⟨_,31,rfl,.inl rfl,TxO.of_own (HF.out.1.cutE ll (by decide)) (by simp;omega) (fun v hv=>bb v (List.mem_of_mem_take hv)),HF.out.2⟩
         |false=>
          go_wp2
          go_ret
          exact⟨_,32,rfl,.inr rfl,TxO.of_own HF.out.1 ll bb,HF.out.2⟩
     ·obtain⟨Ob,hcb,htb,hrb⟩:=HS.out;obtain⟨c1,f1,q1⟩:=Ob.setE ll 0 y (by decide);have HS2:=hid_ofE (And.intro q1 (And.intro (hcb.keepE (w':=wr.setCell ⟨q,0,none⟩ (.int .u8 y)) (heap_setCell_other _ _ _ _ (by show g≠q;omega))) (And.intro (htb.wr (w':=wr.setCell ⟨q,0,none⟩ (.int .u8 y)) (fun j hj=>heap_setCell_other _ _ _ _ (by show j≠q;omega))) (hrb.bel (below_setE (i:=0) (v:=.int .u8 y) hq)))))
      replace ll:(zs.set 0 y).length=32:=by rw[List.length_set];exact ll
      replace bb:Byte (zs.set 0 y):=byte_setE bb 0 (by omega)
      clear q1 HS Ob hcb htb hrb;have HS:=hid_ofE HS2.out;clear HS2;generalize zs.set 0 y=z6 at *;obtain⟨Oa,hca,hta,hra⟩:=HS.out;have HO:=hid_ofE (once_any g x n cap 3 _ hca hta (by decide) (by decide));clear hca;go_wp2_with fail;refine HO.out.mono ?_;rintro e wa ⟨ta,rfl,hca,hwa⟩;have HA:=hid_ofE (And.intro (Oa.keepE (w':=wa) (fun k hk _=>hwa.block k (by omega))) (And.intro hca (And.intro (hta.wr (fun j hj=>hwa.block j (by omega))) (hra.trans hwa.wrG))));clear HO HS Oa hra hta hca hwa;have h31:31≤cq:=by omega
      cases ta with
      |true=>
       obtain⟨Ob,hcb,htb,hrb⟩:=HA.out;obtain⟨c1,f1,q1⟩:=Ob.setE ll 31 (bits .xor .u8 (z6.getD 31 0) 128) (by decide);have hx1:=xor_bdE (z6.getD 31 0) 128;have HS:=hid_ofE (And.intro q1 (And.intro (hcb.keepE (w':=wa.setCell ⟨q,31,none⟩ (.int .u8 (bits .xor .u8 (z6.getD 31 0) 128))) (heap_setCell_other _ _ _ _ (by show g≠q;omega))) (And.intro (htb.wr (w':=wa.setCell ⟨q,31,none⟩ (.int .u8 (bits .xor .u8 (z6.getD 31 0) 128))) (fun j hj=>heap_setCell_other _ _ _ _ (by show j≠q;omega))) (hrb.bel (below_setE (i:=31) (v:=.int .u8 (bits .xor .u8 (z6.getD 31 0) 128)) hq)))))
       replace ll:(z6.set 31 (bits .xor .u8 (z6.getD 31 0) 128)).length=32:=by rw[List.length_set];exact ll
       replace bb:Byte (z6.set 31 (bits .xor .u8 (z6.getD 31 0) 128)):=byte_setE bb 31 hx1
       clear q1 HA Ob hcb htb hrb;generalize hzz:z6.set 31 (bits .xor .u8 (z6.getD 31 0) 128)=zz at *;clear hzz hx1;generalize z6.getD 31 0=zg at *;obtain⟨Ob,hcb,htb,hrb⟩:=HS.out;have HO:=hid_ofE (once_any g x n cap 20 _ hcb htb (by decide) (by decide));clear hcb htb;go_wp2_with fail;refine HO.out.mono ?_;rintro e wb ⟨tb,rfl,hcb',hwb⟩;have HF:=hid_ofE (And.intro (Ob.keepE (w':=wb) (fun k hk _=>hwb.block k (by omega))) (hrb.trans hwb.wrG));clear HO HS Ob hrb hcb' hwb;cases tb with
       |true=>
        go_wp2
        go_ret
        exact⟨_,31,rfl,.inl rfl,TxO.of_own (HF.out.1.cutE ll (by decide)) (by simp;omega) (fun v hv=>bb v (List.mem_of_mem_take hv)),HF.out.2⟩
       |false=>
        go_wp2
        go_ret
        exact⟨_,32,rfl,.inr rfl,TxO.of_own HF.out.1 ll bb,HF.out.2⟩
      |false=>
       have HS:=hid_ofE HA.out;clear HA;obtain⟨Ob,hcb,htb,hrb⟩:=HS.out;have HO:=hid_ofE (once_any g x n cap 20 _ hcb htb (by decide) (by decide));clear hcb htb;go_wp2_with fail;refine HO.out.mono ?_;rintro e wb ⟨tb,rfl,hcb',hwb⟩;have HF:=hid_ofE (And.intro (Ob.keepE (w':=wb) (fun k hk _=>hwb.block k (by omega))) (hrb.trans hwb.wrG));clear HO HS Ob hrb hcb' hwb;cases tb with
       |true=>
        go_wp2
        go_ret
        exact⟨_,31,rfl,.inl rfl,TxO.of_own (HF.out.1.cutE ll (by decide)) (by simp;omega) (fun v hv=>bb v (List.mem_of_mem_take hv)),HF.out.2⟩
       |false=>
        go_wp2
        go_ret
        exact⟨_,32,rfl,.inr rfl,TxO.of_own HF.out.1 ll bb,HF.out.2⟩
     ·obtain⟨Oa,hca,hta,hra⟩:=HS.out;have HO:=hid_ofE (below_any g x n cap 60 _ hca hta (by decide) (by decide));clear hca;go_wp2_with fail;refine HO.out.mono ?_;rintro e w5 ⟨z,rfl,hz0,hz1,hca,hwa⟩;have hz256:z%256=z:=by omega
      have HS5:=hid_ofE (And.intro (Oa.keepE (w':=w5) (fun k hk _=>hwa.block k (by omega))) (And.intro hca (And.intro (hta.wr (fun j hj=>hwa.block j (by omega))) (hra.trans hwa.wrG))));clear HO HS Oa hra hta hca hwa;have HS:=hid_ofE HS5.out;clear HS5;obtain⟨Ob,hcb,htb,hrb⟩:=HS.out;obtain⟨c1,f1,q1⟩:=Ob.setE ll 0 z (by decide);have HS2:=hid_ofE (And.intro q1 (And.intro (hcb.keepE (w':=w5.setCell ⟨q,0,none⟩ (.int .u8 z)) (heap_setCell_other _ _ _ _ (by show g≠q;omega))) (And.intro (htb.wr (w':=w5.setCell ⟨q,0,none⟩ (.int .u8 z)) (fun j hj=>heap_setCell_other _ _ _ _ (by show j≠q;omega))) (hrb.bel (below_setE (i:=0) (v:=.int .u8 z) hq)))))
      replace ll:(zs.set 0 z).length=32:=by rw[List.length_set];exact ll
      replace bb:Byte (zs.set 0 z):=byte_setE bb 0 (by omega)
      clear q1 HS Ob hcb htb hrb;have HS:=hid_ofE HS2.out;clear HS2;generalize zs.set 0 z=z6 at *;obtain⟨Oa,hca,hta,hra⟩:=HS.out;have HO:=hid_ofE (once_any g x n cap 3 _ hca hta (by decide) (by decide));clear hca;go_wp2_with fail;refine HO.out.mono ?_;rintro e wa ⟨ta,rfl,hca,hwa⟩;have HA:=hid_ofE (And.intro (Oa.keepE (w':=wa) (fun k hk _=>hwa.block k (by omega))) (And.intro hca (And.intro (hta.wr (fun j hj=>hwa.block j (by omega))) (hra.trans hwa.wrG))));clear HO HS Oa hra hta hca hwa;have h31:31≤cq:=by omega
      cases ta with
      |true=>
       obtain⟨Ob,hcb,htb,hrb⟩:=HA.out;obtain⟨c1,f1,q1⟩:=Ob.setE ll 31 (bits .xor .u8 (z6.getD 31 0) 128) (by decide);have hx1:=xor_bdE (z6.getD 31 0) 128;have HS:=hid_ofE (And.intro q1 (And.intro (hcb.keepE (w':=wa.setCell ⟨q,31,none⟩ (.int .u8 (bits .xor .u8 (z6.getD 31 0) 128))) (heap_setCell_other _ _ _ _ (by show g≠q;omega))) (And.intro (htb.wr (w':=wa.setCell ⟨q,31,none⟩ (.int .u8 (bits .xor .u8 (z6.getD 31 0) 128))) (fun j hj=>heap_setCell_other _ _ _ _ (by show j≠q;omega))) (hrb.bel (below_setE (i:=31) (v:=.int .u8 (bits .xor .u8 (z6.getD 31 0) 128)) hq)))))
       replace ll:(z6.set 31 (bits .xor .u8 (z6.getD 31 0) 128)).length=32:=by rw[List.length_set];exact ll
       replace bb:Byte (z6.set 31 (bits .xor .u8 (z6.getD 31 0) 128)):=byte_setE bb 31 hx1
       clear q1 HA Ob hcb htb hrb;generalize hzz:z6.set 31 (bits .xor .u8 (z6.getD 31 0) 128)=zz at *;clear hzz hx1;generalize z6.getD 31 0=zg at *;obtain⟨Ob,hcb,htb,hrb⟩:=HS.out;have HO:=hid_ofE (once_any g x n cap 20 _ hcb htb (by decide) (by decide));clear hcb htb;go_wp2_with fail;refine HO.out.mono ?_;rintro e wb ⟨tb,rfl,hcb',hwb⟩;have HF:=hid_ofE (And.intro (Ob.keepE (w':=wb) (fun k hk _=>hwb.block k (by omega))) (hrb.trans hwb.wrG));clear HO HS Ob hrb hcb' hwb;cases tb with
       |true=>
        go_wp2
        go_ret
        exact⟨_,31,rfl,.inl rfl,TxO.of_own (HF.out.1.cutE ll (by decide)) (by simp;omega) (fun v hv=>bb v (List.mem_of_mem_take hv)),HF.out.2⟩
       |false=>
        go_wp2
        go_ret
        exact⟨_,32,rfl,.inr rfl,TxO.of_own HF.out.1 ll bb,HF.out.2⟩
      |false=>
       have HS:=hid_ofE HA.out;clear HA;obtain⟨Ob,hcb,htb,hrb⟩:=HS.out;have HO:=hid_ofE (once_any g x n cap 20 _ hcb htb (by decide) (by decide));clear hcb htb;go_wp2_with fail;refine HO.out.mono ?_;rintro e wb ⟨tb,rfl,hcb',hwb⟩;have HF:=hid_ofE (And.intro (Ob.keepE (w':=wb) (fun k hk _=>hwb.block k (by omega))) (hrb.trans hwb.wrG));clear HO HS Ob hrb hcb' hwb;cases tb with
       |true=>
        go_wp2
        go_ret
        exact⟨_,31,rfl,.inl rfl,TxO.of_own (HF.out.1.cutE ll (by decide)) (by simp;omega) (fun v hv=>bb v (List.mem_of_mem_take hv)),HF.out.2⟩
       |false=>
        go_wp2
        go_ret
        exact⟨_,32,rfl,.inr rfl,TxO.of_own HF.out.1 ll bb,HF.out.2⟩
     ·obtain⟨Oa,hca,hta,hra⟩:=HS.out;clear HS ll bb Oa hq hqc hq' h0;go_wp2_with fail;refine(sbas_any _).mono ?_;rintro e w5 ⟨v5,zs5,rfl,O5,b5,l5,_,B5⟩;obtain⟨q,cq,rfl,hq,hq',hqc⟩:=(O5.monoE hsz).base;rw[l5] at O5 hqc ⊢;have ll:=l5;have bb:=b5;have h0:0≤cq:=by omega
      have HS:=hid_ofE (And.intro (O5.monoE hsz) (And.intro (hca.keepE (B5.block g (by omega))) (And.intro (hta.wr (fun j hj=>B5.block j (by omega))) (hra.trans (WrG.of_below B5)))));clear O5 B5 hca hta hra b5 l5;obtain⟨Oa,hca,hta,hra⟩:=HS.out;have HO:=hid_ofE (below_any g x n cap 32 _ hca hta (by decide) (by decide));clear hca;go_wp2_with fail;refine HO.out.mono ?_;rintro e w6 ⟨k,rfl,hk0,hk1,hca,hwa⟩;obtain⟨i,rfl⟩:=Int.eq_ofNat_of_zero_le hk0;have hi:i<32:=by omega
      have hi':(i:Int)<32:=by omega
      have HS5:=hid_ofE (And.intro (Oa.keepE (w':=w6) (fun k hk _=>hwa.block k (by omega))) (And.intro hca (And.intro (hta.wr (fun j hj=>hwa.block j (by omega))) (hra.trans hwa.wrG))));clear HO HS Oa hra hta hca hwa;have HS:=hid_ofE HS5.out;clear HS5;obtain⟨Ob,hcb,htb,hrb⟩:=HS.out;obtain⟨c1,f1,q1⟩:=Ob.setE ll i (bits .xor .u8 (zs5.getD i 0) 1) hi;have HS2:=hid_ofE (And.intro q1 (And.intro (hcb.keepE (w':=w6.setCell ⟨q,i,none⟩ (.int .u8 (bits .xor .u8 (zs5.getD i 0) 1))) (heap_setCell_other _ _ _ _ (by show g≠q;omega))) (And.intro (htb.wr (w':=w6.setCell ⟨q,i,none⟩ (.int .u8 (bits .xor .u8 (zs5.getD i 0) 1))) (fun j hj=>heap_setCell_other _ _ _ _ (by show j≠q;omega))) (hrb.bel (below_setE (i:=i) (v:=.int .u8 (bits .xor .u8 (zs5.getD i 0) 1)) hq)))))
      replace ll:(zs5.set i (bits .xor .u8 (zs5.getD i 0) 1)).length=32:=by rw[List.length_set];exact ll
      replace bb:Byte (zs5.set i (bits .xor .u8 (zs5.getD i 0) 1)):=byte_setE bb i (xor_bdE _ _)
      clear q1 HS Ob hcb htb hrb;have HS:=hid_ofE HS2.out;clear HS2;generalize hzz:zs5.set i (bits .xor .u8 (zs5.getD i 0) 1)=z6 at *;clear hzz;generalize zs5.getD i 0=zg at *;obtain⟨Oa,hca,hta,hra⟩:=HS.out;have HO:=hid_ofE (once_any g x n cap 3 _ hca hta (by decide) (by decide));clear hca;go_wp2_with fail;refine HO.out.mono ?_;rintro e wa ⟨ta,rfl,hca,hwa⟩;have HA:=hid_ofE (And.intro (Oa.keepE (w':=wa) (fun k hk _=>hwa.block k (by omega))) (And.intro hca (And.intro (hta.wr (fun j hj=>hwa.block j (by omega))) (hra.trans hwa.wrG))));clear HO HS Oa hra hta hca hwa;have h31:31≤cq:=by omega
      cases ta with
      |true=>
       obtain⟨Ob,hcb,htb,hrb⟩:=HA.out;obtain⟨c1,f1,q1⟩:=Ob.setE ll 31 (bits .xor .u8 (z6.getD 31 0) 128) (by decide);have hx1:=xor_bdE (z6.getD 31 0) 128;have HS:=hid_ofE (And.intro q1 (And.intro (hcb.keepE (w':=wa.setCell ⟨q,31,none⟩ (.int .u8 (bits .xor .u8 (z6.getD 31 0) 128))) (heap_setCell_other _ _ _ _ (by show g≠q;omega))) (And.intro (htb.wr (w':=wa.setCell ⟨q,31,none⟩ (.int .u8 (bits .xor .u8 (z6.getD 31 0) 128))) (fun j hj=>heap_setCell_other _ _ _ _ (by show j≠q;omega))) (hrb.bel (below_setE (i:=31) (v:=.int .u8 (bits .xor .u8 (z6.getD 31 0) 128)) hq)))))
       replace ll:(z6.set 31 (bits .xor .u8 (z6.getD 31 0) 128)).length=32:=by rw[List.length_set];exact ll
       replace bb:Byte (z6.set 31 (bits .xor .u8 (z6.getD 31 0) 128)):=byte_setE bb 31 hx1
       clear q1 HA Ob hcb htb hrb;generalize hzz:z6.set 31 (bits .xor .u8 (z6.getD 31 0) 128)=zz at *;clear hzz hx1;generalize z6.getD 31 0=zh at *;obtain⟨Ob,hcb,htb,hrb⟩:=HS.out;have HO:=hid_ofE (once_any g x n cap 20 _ hcb htb (by decide) (by decide));clear hcb htb;go_wp2_with fail;refine HO.out.mono ?_;rintro e wb ⟨tb,rfl,hcb',hwb⟩;have HF:=hid_ofE (And.intro (Ob.keepE (w':=wb) (fun k hk _=>hwb.block k (by omega))) (hrb.trans hwb.wrG));clear HO HS Ob hrb hcb' hwb;cases tb with
       |true=>
        go_wp2
        go_ret
        exact⟨_,31,rfl,.inl rfl,TxO.of_own (HF.out.1.cutE ll (by decide)) (by simp;omega) (fun v hv=>bb v (List.mem_of_mem_take hv)),HF.out.2⟩
       |false=>
        go_wp2
        go_ret
        exact⟨_,32,rfl,.inr rfl,TxO.of_own HF.out.1 ll bb,HF.out.2⟩
      |false=>
       have HS:=hid_ofE HA.out;clear HA;obtain⟨Ob,hcb,htb,hrb⟩:=HS.out;have HO:=hid_ofE (once_any g x n cap 20 _ hcb htb (by decide) (by decide));clear hcb htb;go_wp2_with fail;refine HO.out.mono ?_;rintro e wb ⟨tb,rfl,hcb',hwb⟩;have HF:=hid_ofE (And.intro (Ob.keepE (w':=wb) (fun k hk _=>hwb.block k (by omega))) (hrb.trans hwb.wrG));clear HO HS Ob hrb hcb' hwb;cases tb with
       |true=>
        go_wp2
        go_ret
        exact⟨_,31,rfl,.inl rfl,TxO.of_own (HF.out.1.cutE ll (by decide)) (by simp;omega) (fun v hv=>bb v (List.mem_of_mem_take hv)),HF.out.2⟩
       |false=>
        go_wp2
        go_ret
        exact⟨_,32,rfl,.inr rfl,TxO.of_own HF.out.1 ll bb,HF.out.2⟩
     ·obtain⟨Oa,hca,hta,hra⟩:=HS.out;clear HS ll bb Oa hq hqc hq' h0;go_wp2_with fail;refine(sbas_any _).mono ?_;rintro e w5 ⟨v5,zs5,rfl,O5,b5,l5,_,B5⟩;obtain⟨q,cq,rfl,hq,hq',hqc⟩:=(O5.monoE hsz).base;rw[l5] at O5 hqc ⊢;have ll:=l5;have bb:=b5;have h0:0≤cq:=by omega
      have HS:=hid_ofE (And.intro (O5.monoE hsz) (And.intro (hca.keepE (B5.block g (by omega))) (And.intro (hta.wr (fun j hj=>B5.block j (by omega))) (hra.trans (WrG.of_below B5)))));clear O5 B5 hca hta hra b5 l5;obtain⟨Oa,hca,hta,hra⟩:=HS.out;have HO:=hid_ofE (once_any g x n cap 3 _ hca hta (by decide) (by decide));clear hca;go_wp2_with fail;refine HO.out.mono ?_;rintro e wa ⟨ta,rfl,hca,hwa⟩;have HA:=hid_ofE (And.intro (Oa.keepE (w':=wa) (fun k hk _=>hwa.block k (by omega))) (And.intro hca (And.intro (hta.wr (fun j hj=>hwa.block j (by omega))) (hra.trans hwa.wrG))));clear HO HS Oa hra hta hca hwa;have h31:31≤cq:=by omega
      cases ta with
      |true=>
       obtain⟨Ob,hcb,htb,hrb⟩:=HA.out;obtain⟨c1,f1,q1⟩:=Ob.setE ll 31 (bits .xor .u8 (zs5.getD 31 0) 128) (by decide);have hx1:=xor_bdE (zs5.getD 31 0) 128;have HS:=hid_ofE (And.intro q1 (And.intro (hcb.keepE (w':=wa.setCell ⟨q,31,none⟩ (.int .u8 (bits .xor .u8 (zs5.getD 31 0) 128))) (heap_setCell_other _ _ _ _ (by show g≠q;omega))) (And.intro (htb.wr (w':=wa.setCell ⟨q,31,none⟩ (.int .u8 (bits .xor .u8 (zs5.getD 31 0) 128))) (fun j hj=>heap_setCell_other _ _ _ _ (by show j≠q;omega))) (hrb.bel (below_setE (i:=31) (v:=.int .u8 (bits .xor .u8 (zs5.getD 31 0) 128)) hq)))))
       replace ll:(zs5.set 31 (bits .xor .u8 (zs5.getD 31 0) 128)).length=32:=by rw[List.length_set];exact ll
       replace bb:Byte (zs5.set 31 (bits .xor .u8 (zs5.getD 31 0) 128)):=byte_setE bb 31 hx1
       clear q1 HA Ob hcb htb hrb;generalize hzz:zs5.set 31 (bits .xor .u8 (zs5.getD 31 0) 128)=zz at *;clear hzz hx1;generalize zs5.getD 31 0=zg at *;obtain⟨Ob,hcb,htb,hrb⟩:=HS.out;have HO:=hid_ofE (once_any g x n cap 20 _ hcb htb (by decide) (by decide));clear hcb htb;go_wp2_with fail;refine HO.out.mono ?_;rintro e wb ⟨tb,rfl,hcb',hwb⟩;have HF:=hid_ofE (And.intro (Ob.keepE (w':=wb) (fun k hk _=>hwb.block k (by omega))) (hrb.trans hwb.wrG));clear HO HS Ob hrb hcb' hwb;cases tb with
       |true=>
        go_wp2
        go_ret
        exact⟨_,31,rfl,.inl rfl,TxO.of_own (HF.out.1.cutE ll (by decide)) (by simp;omega) (fun v hv=>bb v (List.mem_of_mem_take hv)),HF.out.2⟩
       |false=>
        go_wp2
        go_ret
        exact⟨_,32,rfl,.inr rfl,TxO.of_own HF.out.1 ll bb,HF.out.2⟩
      |false=>
       have HS:=hid_ofE HA.out;clear HA;obtain⟨Ob,hcb,htb,hrb⟩:=HS.out;have HO:=hid_ofE (once_any g x n cap 20 _ hcb htb (by decide) (by decide));clear hcb htb;go_wp2_with fail;refine HO.out.mono ?_;rintro e wb ⟨tb,rfl,hcb',hwb⟩;have HF:=hid_ofE (And.intro (Ob.keepE (w':=wb) (fun k hk _=>hwb.block k (by omega))) (hrb.trans hwb.wrG));clear HO HS Ob hrb hcb' hwb;cases tb with
       |true=>
        go_wp2
        go_ret
        exact⟨_,31,rfl,.inl rfl,TxO.of_own (HF.out.1.cutE ll (by decide)) (by simp;omega) (fun v hv=>bb v (List.mem_of_mem_take hv)),HF.out.2⟩
       |false=>
        go_wp2
        go_ret
        exact⟨_,32,rfl,.inr rfl,TxO.of_own HF.out.1 ll bb,HF.out.2⟩
end Go.Proofs.YtapejbpgdjbjjaaGreatDoor
