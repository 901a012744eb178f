import Derived.Test.YtncomnkdlpoelaaGreatDoorMEso
import Derived.Deep.Cut
import Derived.Test.YtncomnkdlpoelaaGreatDoorMArrW
import Derived.BigRegion
import Derived.LaidEql
import Derived.Stop.Asserts
import Derived.RowKitTokens
namespace Go.Proofs.YtncomnkdlpoelaaGreatDoor
open Go.ChangeShapes Go.WideShapes Go.ChangeAt Go.RowKit
set_option linter.unusedVariables false
set_option maxRecDepth 100000 in
set_option maxHeartbeats 8000000 in
theorem someOp_any (g:Nat) (x:Option Addr) (n cap:Nat) (q m c sg:Nat) (w:World) (hc:CurB w g x n cap) (ht:CurT w g x n) (hp:PoolI g w (.slice (some ⟨q,0,none⟩) m c) m) (hs0:1≤sg) (hs1:sg≤m) (hm:m≤16) :
  Calls Tryz.prog 18 #[.pointer (some ⟨g,0,none⟩),.slice (some ⟨q,0,none⟩) m c,.int .i64 sg] w (SomP w g x n cap):=by
 have HCT:=hdI ht;have HPO:=hdI hp;have HSZ:Hid ((Tryz.prog.info? 28).map (·.size)=some 4):=by show _=_;kernel_rfl
 have bR:=below_new w (.cells #[.int .i64 0,.slice none 0 0,.int .i64 0,.int .i64 0] 28);have HB:=hdI (below_any g x n cap 16 _ (hc.bel bR).1 (ht.wr (fun k hk=>bR.block k (Nat.lt_trans hk (hc.bel bR).2))) (by decide) (by decide));have hg:=(hc.bel bR).2;go_enter Tryz.func18,Tryz.ntmps18;go_wp2_with fail;refine HB.out.mono ?_;rintro e w1 ⟨k,rfl,hk0,hk1,hc1,hw1⟩;have HN:=hdI (heap_alloc_new w1 (.cells #[.int .i64 0,.slice none 0 0,.int .i64 0,.int .i64 0] 28));have HO:=hdI (OpS.start hw1 hc1 hg)
 go_upto_if 13 with (first
  |(refine wpList_store_row rfl 28 (.tmp 8) (.tmp 11) rfl w1.heap.size #[.int .i64 0,.slice none 0 0,.int .i64 0,.int .i64 0] rfl rfl 28 _ HN.out HSZ.out rfl (by simp[Value.oneCell']) ?_)
  |fail)
 generalize (w1.alloc (.cells #[.int .i64 0,.slice none 0 0,.int .i64 0,.int .i64 0] 28)).setRow w1.heap.size #[.int .i64 0,.slice none 0 0,.int .i64 0,.int .i64 0]=w2 at *;generalize w1.heap.size=S at *;by_cases hk7:k<7
 ·obtain⟨s0,_,_,_,fz⟩:=HO.out.cells;have f0:=fz 0;have HO1:=hdI (HO.out.put 0 (.int .i64 (1)) rfl HO.out.tx HO.out.nb)
  go_upto_region 5 with fail
  generalize w2.setCell ⟨S,0,none⟩ (.int .i64 1)=w3 at *;have HE:=hdI (Own.empty w3 w3.heap.size (Nat.le_refl _));have bE:=below_new w3 (.cells #[] 5);have HOE:=hdI (HO1.out.call bE);have HBW:=hdI (below_any g x n cap sg _ HOE.out.cb (HOE.out.ct HCT.out) (by omega) (by omega));have HLT:=hdI (Nat.lt_of_lt_of_le HOE.out.hg HO1.out.wg.size);go_wp2_with fail;refine HBW.out.mono ?_;rintro e w5 ⟨y,rfl,hy0,hy1,hcy,hwy⟩;obtain⟨j,rfl⟩:=Int.eq_ofNat_of_zero_le hy0;have HOY:=hdI (HOE.out.cur hcy hwy);obtain⟨q',c',e',h2,h3,h4,h5⟩:=HPO.out.wrG HOY.out.wg;cases e';obtain⟨u,ku,cu,hku,T⟩:=h5 j (by omega);obtain⟨bu,ou,cc,rfl⟩:∃ b o c,u=.slice (some ⟨b,o,none⟩) ku c:=by obtain⟨b,o,c,zs,cs,fr,h1,_⟩:=T;exact⟨b,o,c,h1⟩
  have HT:=hdI T;have HEY:=hdI (HE.out.keepE (fun k hk hk'=>hwy.block k (by have:=HLT.out;omega)));have HCY:=hdI hcy;have HWY:=hdI ((WrG.of_below bE).trans hwy.wrG);have hsy:=hdI (show w3.heap.size≤w5.heap.size by have:=hwy.size;have:=bE.size;omega);have hj':(j:Int)<m:=by omega
  go_wp2_with (at_builtin;refine wpList_cpy rfl _ _ rfl w3.heap.size w3.heap.size (g+1) (.slice (some ⟨bu,ou,none⟩) ku cc) ku rfl HEY.out rfl HT.out hku hsy.out ?_);intro v6 w6 zs O6 l6 y6 b6;obtain⟨q6,c6,e6⟩:=O6.2;have HO6:=hdI (HO1.out.wrg (HCY.out.keepE (b6.block g HLT.out)) (HWY.out.bel b6));have HT6:=hdI ((TxB.of_own O6 l6 y6).mono HO1.out.wg.size);rw[l6] at e6;subst e6;obtain⟨_,s1,_,_,fz⟩:=HO6.out.cells;have f1:=fz 1;have HO7:=hdI (HO6.out.put 1 (.slice (some ⟨q6,0,none⟩) ku c6) rfl (.inr ⟨ku,hku,HT6.out⟩) HO6.out.nb)
  go_upto_region 6 with fail
  generalize w6.setCell ⟨S,1,none⟩ (.slice (some ⟨q6,0,none⟩) ku c6)=w7 at *;have HBW:=hdI (below_any g x n cap 80 _ HO7.out.cb (HO7.out.ct HCT.out) (by decide) (by decide));go_wp2_with fail;refine HBW.out.mono ?_;rintro e w8 ⟨y8,rfl,y80,y81,hc,hw⟩;have HO8:=hdI (HO7.out.cur hc hw);obtain⟨_,_,s2,_,fz⟩:=HO8.out.cells;have f2:=fz 2;have HO9:=hdI (HO8.out.put 2 (.int .i64 (y8)) rfl HO8.out.tx (by omega))
  go_upto_region 7 with fail
  generalize w8.setCell ⟨S,2,none⟩ (.int .i64 y8)=w9 at *;have HBW:=hdI (once_any g x n cap 4 _ HO9.out.cb (HO9.out.ct HCT.out) (by decide) (by decide));go_wp2_with fail;refine HBW.out.mono ?_;rintro e wa ⟨bo,rfl,hc,hw⟩;have HOA:=hdI (HO9.out.cur hc hw)
  go_upto_if 28 with fail
  try dsimp only[Act.put]
  go_cut [] from 9 (fun ww=>∃ tv nw,OpS w g x n cap S 1 tv nw 0 ww)
  case first=>
   cases bo with
   |false=>
    go_wp2
    go_meet
    case rel=>exact⟨_,_,HOA.out⟩
   |true=>
    go_upto_region 8 with fail
    have HE:=hdI (Own.empty wa wa.heap.size (Nat.le_refl _));have bE:=below_new wa (.cells #[] 5);have HOE:=hdI (HOA.out.call bE);have HBW:=hdI (below_any g x n cap m _ HOE.out.cb (HOE.out.ct HCT.out) (by omega) (by omega));have HLT:=hdI (Nat.lt_of_lt_of_le HOE.out.hg HOA.out.wg.size);go_wp2_with fail;refine HBW.out.mono ?_;rintro e wb ⟨y,rfl,hy0,hy1,hcy,hwy⟩;obtain⟨j,rfl⟩:=Int.eq_ofNat_of_zero_le hy0;have HOY:=hdI (HOE.out.cur hcy hwy);obtain⟨q',c',e',h2,h3,h4,h5⟩:=HPO.out.wrG HOY.out.wg;cases e';obtain⟨u,ku,cu,hku,T⟩:=h5 j (by omega);obtain⟨bu,ou,cc,rfl⟩:∃ b o c,u=.slice (some ⟨b,o,none⟩) ku c:=by obtain⟨b,o,c,zs,cs,fr,h1,_⟩:=T;exact⟨b,o,c,h1⟩
    have HT:=hdI T;have HEY:=hdI (HE.out.keepE (fun k hk hk'=>hwy.block k (by have:=HLT.out;omega)));have HCY:=hdI hcy;have HWY:=hdI ((WrG.of_below bE).trans hwy.wrG);have hsy:=hdI (show wa.heap.size≤wb.heap.size by have:=hwy.size;have:=bE.size;omega);have hj':(j:Int)<m:=by omega
    go_wp2_with (at_builtin;refine wpList_cpy rfl _ _ rfl wa.heap.size wa.heap.size (g+1) (.slice (some ⟨bu,ou,none⟩) ku cc) ku rfl HEY.out rfl HT.out hku hsy.out ?_);intro v6 w6 zs O6 l6 y6 b6;obtain⟨q6,c6,e6⟩:=O6.2;have HO6:=hdI (HOA.out.wrg (HCY.out.keepE (b6.block g HLT.out)) (HWY.out.bel b6));have HT6:=hdI ((TxB.of_own O6 l6 y6).mono HOA.out.wg.size);rw[l6] at e6;subst e6;obtain⟨_,s1,_,_,fz⟩:=HO6.out.cells;have f1:=fz 1;have HO7:=hdI (HO6.out.put 1 (.slice (some ⟨q6,0,none⟩) ku c6) rfl (.inr ⟨ku,hku,HT6.out⟩) HO6.out.nb);go_wp2
    go_meet
    case rel=>exact⟨_,_,HO7.out⟩
  case rest=>
   obtain⟨tv,nw,ho⟩:=hcut;obtain⟨ta,tn,tc,rfl⟩:=ho.tx.frm;have HOA:=hdI ho;have HBW:=hdI (once_any g x n cap 20 _ HOA.out.cb (HOA.out.ct HCT.out) (by decide) (by decide));go_wp2_with fail;refine HBW.out.mono ?_;rintro e wd ⟨bo,rfl,hc,hw⟩;have HOD:=hdI (HOA.out.cur hc hw)
   go_upto_if 40 with fail
   try dsimp only[Act.put]
   go_cut [] from 9 (fun ww=>∃ tv nw,OpS w g x n cap S 1 tv nw 0 ww)
   case first=>
    cases bo with
    |false=>
     go_wp2
     go_meet
     case rel=>exact⟨_,_,HOD.out⟩
    |true=>
     have HBW:=hdI (below_any g x n cap 2 _ HOD.out.cb (HOD.out.ct HCT.out) (by decide) (by decide));go_wp2_with fail;refine HBW.out.mono ?_;rintro e we ⟨ye,rfl,ye0,ye1,hc,hw⟩;have HOE:=hdI (HOD.out.cur hc hw);obtain⟨_,_,s2,_,fz⟩:=HOE.out.cells;have f2:=fz 2;have HOF:=hdI (HOE.out.put 2 (.int .i64 (-1+4294967297*ye)) rfl HOE.out.tx (by omega));go_wp2
     go_meet
     case rel=>exact⟨_,_,HOF.out⟩
   case rest=>
    obtain⟨tv,nw,ho⟩:=hcut;obtain⟨ta,tn,tc,rfl⟩:=ho.tx.frm;have HO:=hdI ho;go_wp2_with (first
     |(refine wpList_load_row rfl 28 (.tmp 8) rfl S rfl 28 _ (0,0) _ HO.out.s Tryz.underlying28 rfl HSZ.out ?_)
     |(refine wpList_store_row rfl 28 (.tmp 6) (.tmp 46) rfl w.heap.size #[.int .i64 1,.slice ta tn tc,.int .i64 nw,.int .i64 0] rfl rfl 28 _ HO.out.bx HSZ.out rfl (by simp[Value.oneCell']) ?_)
     |fail)
    (try simp only[Exit.inBlock,Exit.then])
    exact bodyPost_ret (results_cell_row rfl _ _ w.heap.size 28 _ (0,0) _ rfl (setRow_heap _ _ _ _ _ _ HO.out.bx) Tryz.underlying28 rfl HSZ.out) rfl (HO.out.fin _)
 ·have HBW:=hdI (below_any g x n cap 8 _ HO.out.cb (HO.out.ct HCT.out) (by decide) (by decide));go_wp2_with fail;refine HBW.out.mono ?_;rintro e w3 ⟨y3,rfl,y30,y31,hc,hw⟩;have HO3:=hdI (HO.out.cur hc hw);obtain⟨_,_,_,s3,fz⟩:=HO3.out.cells;have f3:=fz 3;have HO4:=hdI (HO3.out.put 3 (.int .i64 (y3)) rfl HO3.out.tx (by omega))
  go_upto_if 51 with fail
  generalize w3.setCell ⟨S,3,none⟩ (.int .i64 y3)=w4 at *;try dsimp only[Act.put]
  go_cut [] from 9 (fun ww=>∃ nn,OpS w g x n cap S 0 (.slice none 0 0) 0 nn ww)
  case first=>
   by_cases h7:k=7
   ·subst h7;have HBW:=hdI (below_any g x n cap 300 _ HO4.out.cb (HO4.out.ct HCT.out) (by decide) (by decide));go_wp2_with fail;refine HBW.out.mono ?_;rintro e w5 ⟨y5,rfl,y50,y51,hc,hw⟩;have HO5:=hdI (HO4.out.cur hc hw);obtain⟨_,_,_,s3,fz⟩:=HO5.out.cells;have f3:=fz 3;have HO6:=hdI (HO5.out.put 3 (.int .i64 (y5-20)) rfl HO5.out.tx (by omega));go_wp2
    go_meet
    case rel=>exact⟨_,HO6.out⟩
   ·have h7':(k == 7)=false:=by simp[h7]
    go_wp2
    go_meet
    case rel=>exact⟨_,HO4.out⟩
  case rest=>
   obtain⟨nn,ho⟩:=hcut;have HO5:=hdI ho
   go_upto_if 57 with fail
   try dsimp only[Act.put]
   go_cut [] from 9 (fun ww=>∃ kd nn,OpS w g x n cap S kd (.slice none 0 0) 0 nn ww)
   case first=>
    by_cases h10:k<10
    ·obtain⟨s0,_,_,_,fz⟩:=HO5.out.cells;have f0:=fz 0;have HO6:=hdI (HO5.out.put 0 (.int .i64 (2)) rfl HO5.out.tx HO5.out.nb);go_wp2
     go_meet
     case rel=>exact⟨_,_,HO6.out⟩
    ·by_cases h11:k=10
     ·have h11':(k == 10)=true:=by simp[h11]
      clear h11;obtain⟨s0,_,_,_,fz⟩:=HO5.out.cells;have f0:=fz 0;have HO6:=hdI (HO5.out.put 0 (.int .i64 (3)) rfl HO5.out.tx HO5.out.nb);clear HO5 fz;go_wp2
      go_meet
      case rel=>exact⟨_,_,HO6.out⟩
     ·have h11':(k == 10)=false:=by simp[h11]
      by_cases h14:k<14
      ·obtain⟨s0,_,_,_,fz⟩:=HO5.out.cells;have f0:=fz 0;have HO6:=hdI (HO5.out.put 0 (.int .i64 (4)) rfl HO5.out.tx HO5.out.nb)
       go_upto_region 21 with fail
       generalize World.setCell _ ⟨S,0,none⟩ (.int .i64 4)=w6 at *;have HBW:=hdI (below_any g x n cap 5 _ HO6.out.cb (HO6.out.ct HCT.out) (by decide) (by decide));go_wp2_with fail;refine HBW.out.mono ?_;rintro e w7 ⟨y7,rfl,y70,y71,hc,hw⟩;have HO7:=hdI (HO6.out.cur hc hw);obtain⟨_,_,_,s3,fz⟩:=HO7.out.cells;have f3:=fz 3;have HO8:=hdI (HO7.out.put 3 (.int .i64 (y7)) rfl HO7.out.tx (by omega));go_wp2
       go_meet
       case rel=>exact⟨_,_,HO8.out⟩
      ·obtain⟨s0,_,_,_,fz⟩:=HO5.out.cells;have f0:=fz 0;have HO6:=hdI (HO5.out.put 0 (.int .i64 (5)) rfl HO5.out.tx HO5.out.nb);go_wp2
       go_meet
       case rel=>exact⟨_,_,HO6.out⟩
   case rest=>
    obtain⟨kd,nn,ho⟩:=hcut;have HO:=hdI ho;go_wp2_with (first
     |(refine wpList_load_row rfl 28 (.tmp 8) rfl S rfl 28 _ (0,0) _ HO.out.s Tryz.underlying28 rfl HSZ.out ?_)
     |(refine wpList_store_row rfl 28 (.tmp 6) (.tmp 69) rfl w.heap.size #[.int .i64 kd,.slice none 0 0,.int .i64 0,.int .i64 nn] rfl rfl 28 _ HO.out.bx HSZ.out rfl (by simp[Value.oneCell']) ?_)
     |fail)
    (try simp only[Exit.inBlock,Exit.then])
    exact bodyPost_ret (results_cell_row rfl _ _ w.heap.size 28 _ (0,0) _ rfl (setRow_heap _ _ _ _ _ _ HO.out.bx) Tryz.underlying28 rfl HSZ.out) rfl (HO.out.fin _)
theorem wrapI (n:Int):-9223372036854775808≤IntKind.i64.wrap n∧IntKind.i64.wrap n≤9223372036854775807:=by rw[IntKind.wrap_i64];omega
def DssP (w:World) (e:Ending) (w':World):Prop:=
 ∃ aD nD cD aU nU cU k aT nT cT ak nk ck kd ta tn tc nw nn,e=.returned (.tuple #[.agg #[.slice aD nD cD,.slice aU nU cU,.int .i64 k,.slice aT nT cT],.slice ak nk ck,.agg #[.int .i64 kd,.slice ta tn tc,.int .i64 nw,.int .i64 nn]])∧DX (w.heap.size+2) aD nD cD aU nU cU k aT nT cT ak nk ck ta tn tc w'∧nk≤32∧Below w.heap.size w w'
set_option maxRecDepth 100000 in
set_option maxHeartbeats 16000000 in
theorem drawSS_any (x:Option Addr) (n cap:Nat) (zs:List Int) (w:World) (hl:zs.length=n) (hn:n≤1048576) (hz:Byte zs) (ha:At .u8 w x zs) :
  Calls Tryz.prog 4 #[.slice x n cap] w (DssP w):=by
 have b0:Below w.heap.size w ((w.alloc (.cells #[.slice none 0 0,.slice none 0 0,.int .i64 0,.slice none 0 0] 26)).alloc (.cells #[.int .i64 0,.slice none 0 0,.int .i64 0,.int .i64 0] 28)):=((Below.refl _ _).alloc (Nat.le_refl _) _).alloc (by simp) _;have HN:=hdI (new_any x n cap zs _ hl hn hz (ha.below b0));have h1:=heap_alloc2_old w (.cells #[.slice none 0 0,.slice none 0 0,.int .i64 0,.slice none 0 0] 26) (.cells #[.int .i64 0,.slice none 0 0,.int .i64 0,.int .i64 0] 28);have h3:=heap_alloc2_new w (.cells #[.slice none 0 0,.slice none 0 0,.int .i64 0,.slice none 0 0] 26) (.cells #[.int .i64 0,.slice none 0 0,.int .i64 0,.int .i64 0] 28);have HT:=hdI (show zs.length=n∧n≤1048576∧Byte zs∧At .u8 w x zs from⟨hl,hn,hz,ha⟩);have HR:=hdI (And.intro b0 (And.intro h1 h3));go_enter Tryz.func4,Tryz.ntmps4;go_wp2_with fail;generalize ew:(w.alloc (.cells #[.slice none 0 0,.slice none 0 0,.int .i64 0,.slice none 0 0] 26)).alloc (.cells #[.int .i64 0,.slice none 0 0,.int .i64 0,.int .i64 0] 28)=w0 at *;have hs0:w0.heap.size=w.heap.size+2:=by rw[←ew];simp
 refine HN.out.mono ?_;rintro e w1 ⟨rfl,hc1,B1,s1⟩;rw[hs0] at hc1 B1 s1 ⊢;have hbl:=HR.out.1.trans (B1.mono (show w.heap.size≤w.heap.size+2 by omega));have e1:w1.heap[w.heap.size]?=some (.cells #[.slice none 0 0,.slice none 0 0,.int .i64 0,.slice none 0 0] 26 (0,0)):=by rw[B1.block _ (by omega)];exact HR.out.2.1
 have e3:w1.heap[w.heap.size+1]?=some (.cells #[.int .i64 0,.slice none 0 0,.int .i64 0,.int .i64 0] 28 (0,0)):=by rw[B1.block _ (by omega)];exact HR.out.2.2
 have HD1:=hdI (show DR 28 zOp w x n cap w.heap.size (w.heap.size+1) #[.slice none 0 0,.slice none 0 0,.int .i64 0,.slice none 0 0] #[.int .i64 0,.slice none 0 0,.int .i64 0,.int .i64 0] w1 from⟨hbl,hc1,CurT.of_at HT.out.1 HT.out.2.1 HT.out.2.2.1 HT.out.2.2.2 hbl (by omega),e1,e3,e1,e3,by omega,by omega,by decide⟩);have HBW:=hdI (drawSt_any (w.heap.size+2) x n cap _ HD1.out.cb HD1.out.ct);go_wp2_with fail;refine HBW.out.mono ?_;rintro e w2 ⟨v,rfl,aD,nD,cD,aU,nU,cU,k,aT,nT,cT,D,U,T,rfl,i1,i2,i3,pD,lD,pU,lT,hk,ap,hc,hw⟩;have hz1:w.heap.size+2+1≤w1.heap.size:=HD1.out.lt;have HD2:=hdI (HD1.out.to hw.wrT hc);have HL2:=hdI (show Ls (w.heap.size+2) w2 _ _ _ D U T nT from⟨IO.mono i1 hz1,IO.mono i2 hz1,TapO.mono i3 hz1,by omega,Nat.le_trans pU.len (by decide),by omega⟩);have HNS:=hdI (heap_alloc_new w2 (.cells #[.slice none 0 0,.slice none 0 0,.int .i64 0,.slice none 0 0] 26));have bS:Below w2.heap.size w2 ((w2.alloc (.cells #[.slice none 0 0,.slice none 0 0,.int .i64 0,.slice none 0 0] 26)).setRow w2.heap.size #[.slice aD nD cD,.slice aU nU cU,.int .i64 k,.slice aT nT cT]):=(below_new _ _).trans ((Wr.setRow _ _ _).below (Nat.le_refl _));have hz2:w.heap.size+2<w2.heap.size:=HD2.out.lt;have HD3:=hdI ((HD2.out.to (WrG.of_below bS).wrT (HD2.out.cb.bel bS).1).swS (setRow_heap _ _ _ _ _ _ HNS.out) (by omega));have HL3:=hdI (HL2.out.wrG (WrG.of_below bS));have hlD:=i1.sat.2.1;have hlU:=i2.sat.2.1;have hnU:=pU.len;have HAP:=hdI (And.intro ap (And.intro hk (show nD≤280∧nU≤280 by omega)))
 go_upto_region 3 with (first
  |(refine wpList_store_row rfl 26 (.tmp 6) (.tmp 14) rfl w2.heap.size #[.slice aD nD cD,.slice aU nU cU,.int .i64 k,.slice aT nT cT] rfl rfl 26 _ HNS.out Tryz.sizeSt rfl (by simp[Value.oneCell']) ?_)
  |fail)
 clear HNS;generalize (w2.alloc (.cells #[.slice none 0 0,.slice none 0 0,.int .i64 0,.slice none 0 0] 26)).setRow w2.heap.size #[.slice aD nD cD,.slice aU nU cU,.int .i64 k,.slice aT nT cT]=w3 at *;generalize w2.heap.size=S at *;have HBW:=hdI (below_any (w.heap.size+2) x n cap 400 _ HD3.out.cb HD3.out.ct (by decide) (by decide));go_wp2_with fail;refine HBW.out.mono ?_;rintro e w4 ⟨y,rfl,y0,y1,hc,hw⟩;have HD4:=hdI (HD3.out.cur hc hw);have HL4:=hdI (HL3.out.wrG hw.wrG);clear HD3 HL3 HBW hc hw;have HBW:=hdI (pubO_any (1+y) w4 (by omega) (by omega));go_wp2_with fail;refine HBW.out.mono ?_;rintro e w5 ⟨v5,rfl,T5,b5⟩;obtain⟨q5,c5,rfl⟩:=T5.frm;have HD5:=hdI (HD4.out.to (WrG.of_below b5).wrT (HD4.out.cb.bel b5).1);have HL5:=hdI (HL4.out.wrG (WrG.of_below b5));have HK5:=hdI ((TxB.of_txO T5).mono (show w.heap.size+2+1≤w4.heap.size from HD4.out.lt));clear HD4 HL4 HBW T5 b5;have P:=pool_any (w.heap.size+2) x n cap (1+y) 1 w5 HD5.out.cb HD5.out.ct (by omega) (by omega) (by decide) (by decide);rw[show((1:Nat):Int)=1 from rfl] at P;have HBW:=hdI P;clear P;go_wp2_with fail;refine HBW.out.mono ?_;rintro e w6 ⟨v6,m,vs,rfl,m0,m1,hp⟩;have HPO:=hp.pool (by omega);obtain⟨q6,c6,rfl,_⟩:=hp.form1 (by omega);have HD6:=hdI (HD5.out.to hp.wg.wrT hp.cb);have HL6:=hdI (HL5.out.wrG hp.wg);have HK6:=hdI (HK5.out.wrT hp.wg.wrT);have P:=someOp_any (w.heap.size+2) x n cap q6 m c6 1 w6 HD6.out.cb HD6.out.ct HPO (by decide) (by omega) (by omega);rw[show((1:Nat):Int)=1 from rfl] at P;clear HBW;have HBW:=hdI P;clear P hp HPO HD5 HL5 HK5;go_wp2_with fail;refine HBW.out.mono ?_;rintro e w7 ⟨kd,ta,tn,tc,nw,nn,rfl,tk,nb,hc,hw⟩;have HD7:=hdI (HD6.out.to hw.wrT hc);have HX7:=hdI (show DX (w.heap.size+2) aD nD cD aU nU cU k aT nT cT (some ⟨q5,0,none⟩) 32 c5 ta tn tc w7 from⟨⟨D,U,T,HL6.out.wrG hw⟩,HK6.out.wrT hw.wrT,tk.mono (show w.heap.size+2+1≤w6.heap.size from HD6.out.lt),HAP.out.2.1⟩);have HNO:=hdI (heap_alloc_new w7 (.cells #[.int .i64 0,.slice none 0 0,.int .i64 0,.int .i64 0] 28));have bO:Below w7.heap.size w7 ((w7.alloc (.cells #[.int .i64 0,.slice none 0 0,.int .i64 0,.int .i64 0] 28)).setRow w7.heap.size #[.int .i64 kd,.slice ta tn tc,.int .i64 nw,.int .i64 nn]):=(below_new _ _).trans ((Wr.setRow _ _ _).below (Nat.le_refl _));have hz7:w.heap.size+2<w7.heap.size:=HD7.out.lt;have hSO:w7.heap.size≠S:=Nat.ne_of_gt (lt_of_heap HD7.out.s);have HD8:=hdI ((HD7.out.to (WrG.of_below bO).wrT (HD7.out.cb.bel bO).1).swO (setRow_heap _ _ _ _ _ _ HNO.out) (by omega));have HX8:=hdI (HX7.out.wrG (WrG.of_below bO));clear HD6 HL6 HK6 HBW tk nb hc hw HD7 HX7 bO
 go_upto_region 7 with (first
  |(refine wpList_store_row rfl 28 (.tmp 10) (.tmp 25) rfl w7.heap.size #[.int .i64 kd,.slice ta tn tc,.int .i64 nw,.int .i64 nn] rfl rfl 28 _ HNO.out Tryz.sizeOp rfl (by simp[Value.oneCell']) ?_)
  |fail)
 clear HNO;generalize (w7.alloc (.cells #[.int .i64 0,.slice none 0 0,.int .i64 0,.int .i64 0] 28)).setRow w7.heap.size #[.int .i64 kd,.slice ta tn tc,.int .i64 nw,.int .i64 nn]=w8 at *;generalize w7.heap.size=O at *;have o0:w8.cell? ⟨O,0,none⟩=some (.int .i64 kd):=cell_of_row _ _ _ _ _ _ HD8.out.o
 go_upto_if 28 with fail
 clear o0;try dsimp only[Act.put]
 go_cut [] from 11 (fun ww=>∃ nn,DR 28 zOp w x n cap S O #[.slice aD nD cD,.slice aU nU cU,.int .i64 k,.slice aT nT cT] #[.int .i64 kd,.slice ta tn tc,.int .i64 nw,.int .i64 nn] ww∧DX (w.heap.size+2) aD nD cD aU nU cU k aT nT cT (some ⟨q5,0,none⟩) 32 c5 ta tn tc ww)
 case first=>
  by_cases h4:kd=4
  ·have h4':(kd == 4)=true:=by simp[h4]
   clear h4
   go_upto_region 8 with fail
   try simp only[h4']
   clear h4';have hnT:(nT:Int)≤100:=by omega
   have hnT0:0≤(nT:Int):=by omega
   refine wp_region_any (by kernel_rfl) ?_;refine wpAny_slotsU (fun _ _ _=>True) (frame:=(fun (a b c d e f g h i j k l m n o p q r s u v w x y z A B C D E F G H I J K L M N O P Q R S T U V W X Y Z a0 a1 a2 a3 a4 a5 a6 a7 a8 a9 b0 b1 b2 b3 b4 b5 b6 b7 b8:Value)=>fun (t:Nat→Value)=>({ tmps:=List.toArray [a,b,c,d,e,f,g,h,i,j,k,l,m,n,o,p,q,r,s,u,v,w,x,y,z,A,B,C,D,t 0,t 1,t 2,t 3,t 4,t 5,t 6,t 7,t 8,t 9,t 10,E,F,G,H,I,J,K,L,M,N,O,P,Q,R,S,T,U,V,W,X,Y,Z,a0,a1,a2,a3,a4,a5,a6,a7,a8,a9,b0,b1,b2,b3,b4,b5,b6,b7,b8],defers:=[] }:Act)) _ _ _ _ _ _ _ _ _ _ _ _ _ _ _ _ _ _ _ _ _ _ _ _ _ _ _ _ _ _ _ _ _ _ _ _ _ _ _ _ _ _ _ _ _ _ _ _ _ _ _ _ _ _ _ _ _ _ _ _ _ _ _ _ _ _ _ _ _ _)
    (Ext:=fun L u w'=>((L 8=true→L 7=true)∧(L 9=true→L 8=true)∧(L 11=true→L 9=true))∧(if L 11=true then(∃ nn,DR 28 zOp w x n cap S O #[.slice aD nD cD,.slice aU nU cU,.int .i64 k,.slice aT nT cT] #[.int .i64 kd,.slice ta tn tc,.int .i64 nw,.int .i64 nn] w'∧DX (w.heap.size+2) aD nD cD aU nU cU k aT nT cT (some ⟨q5,0,none⟩) 32 c5 ta tn tc w') else(DR 28 zOp w x n cap S O #[.slice aD nD cD,.slice aU nU cU,.int .i64 k,.slice aT nT cT] #[.int .i64 kd,.slice ta tn tc,.int .i64 nw,.int .i64 nn] w'∧DX (w.heap.size+2) aD nD cD aU nU cU k aT nT cT (some ⟨q5,0,none⟩) 32 c5 ta tn tc w'))) (Good:=fun i L w' v=>if i=0 then v=.pointer (some ⟨S,2,none⟩) else if i=1 then v=.int .i64 k else if i=2 then v=.pointer (some ⟨w.heap.size+2,0,none⟩) else if i=3 then v=.pointer (some ⟨S,3,none⟩) else if i=4 then v=.slice aT nT cT else if i=5 then v=.int .i64 nT else if i=6 then v=.int .i64 (nT+3) else if i=7 then ∃ z:Int,v=.int .i64 z∧-9223372036854775808≤z∧z≤9223372036854775807 else if i=8 then ∃ z:Int,v=.int .i64 z∧-9223372036854775808≤z∧z≤9223372036854775807 else if i=9 then ∃ z:Int,v=.int .i64 z∧-9223372036854775808≤z∧z≤9223372036854775807 else if i=10 then v=.pointer (some ⟨O,3,none⟩) else if i=11 then L 11=true else True) ?hstab (by kernel_rfl) ?hop ?hdone _ _ ((fun (x0 x1 x2 x3 x4 x5 x6 x7 x8 x9 x10:Value)=>fun (i:Nat)=>if i=0 then x0 else if i=1 then x1 else if i=2 then x2 else if i=3 then x3 else if i=4 then x4 else if i=5 then x5 else if i=6 then x6 else if i=7 then x7 else if i=8 then x8 else if i=9 then x9 else if i=10 then x10 else undef) _ _ _ _ _ _ _ _ _ _ _) _ (by simp) ?ext ?start (by simp)
   case start=>intro i hi h;exact absurd h (by rw[Array.getD_eq_getD_getElem?,Array.getElem?_replicate];split<;>simp)
   case ext=>exact⟨⟨by simp,by simp,by simp⟩,by simp;exact⟨HD8.out.to (WrG.of_below ((Below.refl _ _).drew)).wrT (HD8.out.cb.bel ((Below.refl _ _).drew)).1,HX8.out.wrG (WrG.of_below ((Below.refl _ _).drew))⟩⟩
   case hstab=>
    intro j L w9 w' i v hM hij hLi h;by_cases h11:j=11
    ·subst h11;simp at h ⊢;unfold updK;split<;>simp[h]
    simp only[if_neg h11] at h ⊢;exact h
   case hop=>
    intro i o L t w' ho hLi hx hdep K hK;have hi:i<12:=(Array.getElem?_eq_some_iff.1 ho).1;have hD:∃ co,DR 28 zOp w x n cap S O #[.slice aD nD cD,.slice aU nU cU,.int .i64 k,.slice aT nT cT] co w':=by
     have h:=hx.2;by_cases h11:L 11=true
     ·rw[if_pos h11] at h;obtain⟨_,h,_⟩:=h;exact⟨_,h⟩
     ·rw[if_neg h11] at h;exact⟨_,h.1⟩
    obtain⟨co,hD⟩:=hD;have s2:w'.cell? ⟨S,2,none⟩=some (.int .i64 k):=cell_of_row _ _ _ _ _ _ hD.s;have s3:w'.cell? ⟨S,3,none⟩=some (.slice aT nT cT):=cell_of_row _ _ _ _ _ _ hD.s;clear hD;obtain rfl|rfl|rfl|rfl|rfl|rfl|rfl|rfl|rfl|rfl|rfl|rfl:i=0∨i=1∨i=2∨i=3∨i=4∨i=5∨i=6∨i=7∨i=8∨i=9∨i=10∨i=11:=by omega
    all_goals(simp at ho;subst ho)
    all_goals try(have hK':=hK w' _ rfl ⟨by simpa[updK] using hx.1,by simpa[updK] using hx.2⟩ trivial;clear hK;simp[Region.binds] at hdep;rw[if_pos (by rfl)];go_simp;simpa[upd,hdep,s2,s3] using hK';done)
    ·have d5:t 5=.int .i64 nT:=by simpa using(hdep ⟨5,.data⟩ (by simp) rfl).2
     clear hdep s2 s3;have e3:IntKind.i64.wrap ((nT:Int)+3)=nT+3:=by rw[IntKind.wrap_i64];omega
     have hK':=hK w' (.int .i64 (nT+3)) (by simp) ⟨by simpa[updK] using hx.1,by simpa[updK] using hx.2⟩ trivial;clear hK hx;rw[if_pos (by rfl)];go_simp;simpa[upd,d5,e3] using hK'
    ·have d2:t 2=.pointer (some ⟨w.heap.size+2,0,none⟩):=by simpa using(hdep ⟨2,.data⟩ (by simp) rfl).2
     have d6:t 6=.int .i64 (nT+3):=by simpa using(hdep ⟨6,.data⟩ (by simp) rfl).2
     clear hdep s2 s3;have h11:¬ L 11=true:=fun h=>by rw[hx.1.1 (hx.1.2.1 (hx.1.2.2 h))] at hLi;cases hLi
     have h8:¬ L 8=true:=fun h=>by rw[hx.1.1 h] at hLi;cases hLi
     have h9:¬ L 9=true:=fun h=>h8 (hx.1.2.1 h)
     have hf:=hx.2;rw[if_neg h11] at hf;have A:=below_any (w.heap.size+2) x n cap (nT+3) w' hf.1.cb hf.1.ct (by omega) (by have:=hf.2.bnd;omega);have hK':∀ ww y,0≤y→y≤(nT:Int)+3-1→CurB ww (w.heap.size+2) x n cap→Wr (w.heap.size+2) w' ww→K _ ww:=fun ww y hy0 hy1 hc hw=>hK ww (.int .i64 y) (by simp;have:=hf.2.bnd;omega) ⟨by simp[updK,h8,h9,h11],by simp only[updK];simp[h11];exact⟨hf.1.cur hc hw,hf.2.wrG hw.wrG⟩⟩ trivial
     clear hK hx hf;rw[if_pos (by rfl)];go_simp;try simp only[d2,d6]
     refine A.mono ?_;rintro e w9 ⟨y,rfl,hy0,hy1,hc,hw⟩;have hK2:=hK' w9 y hy0 hy1 hc hw;clear hK' A hc hw;go_simp;simpa[upd,d2,d6] using hK2
    ·have d1:t 1=.int .i64 k:=by simpa using(hdep ⟨1,.data⟩ (by simp) rfl).2
     have l7:=(hdep ⟨7,.data⟩ (by simp) rfl).1;obtain⟨y,d7,hy⟩:∃ z:Int,t 7=.int .i64 z∧-9223372036854775808≤z∧z≤9223372036854775807:=by simpa using(hdep ⟨7,.data⟩ (by simp) rfl).2
     clear hdep s2 s3;have hK':=hK w' (.int .i64 (IntKind.i64.wrap (k+y))) (by simp;exact wrapI _) ⟨⟨by simp[updK,l7],by simp[updK],by simpa[updK] using hx.1.2.2⟩,by simpa[updK] using hx.2⟩ trivial;clear hK hx;rw[if_pos (by rfl)];go_simp;simpa[upd,d1,d7] using hK'
    ·have l8:=(hdep ⟨8,.data⟩ (by simp) rfl).1;obtain⟨y,d8,hy⟩:∃ z:Int,t 8=.int .i64 z∧-9223372036854775808≤z∧z≤9223372036854775807:=by simpa using(hdep ⟨8,.data⟩ (by simp) rfl).2
     clear hdep s2 s3;have hK':=hK w' (.int .i64 (IntKind.i64.wrap (y-1))) (by simp;exact wrapI _) ⟨⟨by simpa[updK] using hx.1.1,by simp[updK,l8],by simp[updK]⟩,by simpa[updK] using hx.2⟩ trivial;clear hK hx;rw[if_pos (by rfl)];go_simp;simpa[upd,d8] using hK'
    ·have d10:t 10=.pointer (some ⟨O,3,none⟩):=by simpa using(hdep ⟨10,.data⟩ (by simp) rfl).2
     have l9:=(hdep ⟨9,.data⟩ (by simp) rfl).1;obtain⟨z,d9,hz⟩:∃ z:Int,t 9=.int .i64 z∧-9223372036854775808≤z∧z≤9223372036854775807:=by simpa using(hdep ⟨9,.data⟩ (by simp) rfl).2
     clear hdep s2 s3;have hf:=hx.2;rw[hLi,if_neg (by decide)] at hf;have o3:w'.cell? ⟨O,3,none⟩=some (.int .i64 nn):=cell_of_row _ _ _ _ _ _ hf.1.o;have f3:w'.frozen? ⟨O,3,none⟩=false:=frozen_of_row _ _ _ _ _ hf.1.o;have hwO:Wr O w' (w'.setCell ⟨O,3,none⟩ (.int .i64 z)):=(Wr.refl _ _).setCell _ _;have hK':=hK (w'.setCell ⟨O,3,none⟩ (.int .i64 z)) undef (by simp[updK]) ⟨⟨by simpa[updK] using hx.1.1,by simpa[updK] using hx.1.2.1,by simp[updK,l9]⟩,by
      have e:updK L 11 11=true:=by simp[updK]
      rw[if_pos e];exact⟨z,hf.1.putO (by omega) hwO (heap_setCell_same _ _ _ _ _ _ hf.1.o),hf.2.typ hf.1.o (by decide) (by decide) (by decide) hwO⟩⟩ trivial
     rw[if_pos (by rfl)];go_simp;simpa[upd,d9,d10,Act.put] using hK'
   case hdone=>
    intro L t w' hx hg;have h11:L 11=true:=by simpa using hg 11 (by decide)
    have hf:=hx.2;rw[if_pos h11] at hf;obtain⟨nn',hf⟩:=hf;have HF:=hdI hf;go_wp2
    go_meet
    case rel=>exact⟨_,HF.out⟩
  ·have h4':(kd == 4)=false:=by simp[h4]
   go_wp2
   go_meet
   case rel=>exact⟨_,HD8.out,HX8.out⟩
 case rest=>
  obtain⟨nn,hd,hx⟩:=hcut;have HD:=hdI hd;have HX:=hdI hx
  go_upto_region 9 with fail
  go_cut [57] from 11 (fun v ww=>∃ b:Bool,v=.bool b∧(b=true→0<nD)∧DR 28 zOp w x n cap S O #[.slice aD nD cD,.slice aU nU cU,.int .i64 k,.slice aT nT cT] #[.int .i64 kd,.slice ta tn tc,.int .i64 nw,.int .i64 nn] ww∧DX (w.heap.size+2) aD nD cD aU nU cU k aT nT cT (some ⟨q5,0,none⟩) 32 c5 ta tn tc ww)
  case first=>
   have o0:_=some (Value.int .i64 kd):=cell_of_row _ _ 0 _ _ _ HD.out.o;have s0:_=some (Value.slice aD nD cD):=cell_of_row _ _ 0 _ _ _ HD.out.s;have HBW:=hdI (once_any (w.heap.size+2) x n cap 2 _ HD.out.cb HD.out.ct (by decide) (by decide));by_cases h2:kd=2
   ·have e2:(kd == 2)=true:=by simp[h2]
    by_cases hD:0<nD
    ·have hD':0<(nD:Int):=by omega
     go_wp2_with fail;refine HBW.out.mono ?_;rintro e w9 ⟨bo,rfl,hc,hw⟩;have HF:=hdI (HD.out.cur hc hw);have HXF:=hdI (HX.out.wrG hw.wrG);go_wp2
     go_meet
     case rel=>exact⟨bo,rfl,fun _=>hD,HF.out,HXF.out⟩
    ·have hD':¬ 0<(nD:Int):=by omega
     go_wp2
     go_meet
     case rel=>exact⟨false,rfl,by simp,HD.out,HX.out⟩
   ·have e2:(kd == 2)=false:=by simp[h2]
    by_cases h3:kd=3
    ·have e3:(kd == 3)=true:=by simp[h3]
     by_cases hD:0<nD
     ·have hD':0<(nD:Int):=by omega
      go_wp2_with fail;refine HBW.out.mono ?_;rintro e w9 ⟨bo,rfl,hc,hw⟩;have HF:=hdI (HD.out.cur hc hw);have HXF:=hdI (HX.out.wrG hw.wrG);go_wp2
      go_meet
      case rel=>exact⟨bo,rfl,fun _=>hD,HF.out,HXF.out⟩
     ·have hD':¬ 0<(nD:Int):=by omega
      go_wp2
      go_meet
      case rel=>exact⟨false,rfl,by simp,HD.out,HX.out⟩
    ·have e3:(kd == 3)=false:=by simp[h3]
     go_wp2
     go_meet
     case rel=>exact⟨false,rfl,by simp,HD.out,HX.out⟩
  case rest=>
   obtain⟨b,rfl,hb,hd,hx⟩:=hcut;have HD':=hdI hd;have HX':=hdI hx
   go_upto_if 57 with fail
   try dsimp only[Act.put]
   go_cut [] from 11 (fun ww=>∃ nn,DR 28 zOp w x n cap S O #[.slice aD nD cD,.slice aU nU cU,.int .i64 k,.slice aT nT cT] #[.int .i64 kd,.slice ta tn tc,.int .i64 nw,.int .i64 nn] ww∧DX (w.heap.size+2) aD nD cD aU nU cU k aT nT cT (some ⟨q5,0,none⟩) 32 c5 ta tn tc ww)
   case first=>
    cases b with
    |false=>
     go_wp2
     go_meet
     case rel=>exact⟨_,HD'.out,HX'.out⟩
    |true=>
     obtain⟨D',U',T',hl⟩:=HX'.out.ls;obtain⟨qd,z,rfl,cz⟩:=hl.d.hd (hb rfl);have hnD:0<(nD:Int):=by have:=hb rfl;omega
     have s0:_=some (Value.slice (some ⟨qd,0,none⟩) nD cD):=cell_of_row _ _ 0 _ _ _ HD'.out.s;have o3:_=some (Value.int .i64 nn):=cell_of_row _ _ 3 _ _ _ HD'.out.o;have f3:=frozen_of_row _ _ 3 _ _ HD'.out.o;have HF:=hdI (HD'.out.putO (by omega) ((Wr.refl _ _).setCell 3 (.int .i64 z)) (heap_setCell_same _ _ _ _ _ _ HD'.out.o));have HXF:=hdI (HX'.out.typ HD'.out.o (by decide) (by decide) (by decide) ((Wr.refl _ _).setCell 3 (.int .i64 z)));go_wp2
     go_meet
     case rel=>exact⟨_,HF.out,HXF.out⟩
   case rest=>
    obtain⟨nn,hd,hx⟩:=hcut;have HD:=hdI hd;have HX:=hdI hx;have HBW:=hdI (once_any (w.heap.size+2) x n cap 14 _ HD.out.cb HD.out.ct (by decide) (by decide));go_wp2_with fail;refine HBW.out.mono ?_;rintro e w9 ⟨bo,rfl,hc,hw⟩;have HD':=hdI (HD.out.cur hc hw);have HX':=hdI (HX.out.wrG hw.wrG)
    go_upto_if 64 with fail
    try dsimp only[Act.put]
    go_cut [] from 11 (fun ww=>∃ aD nD cD aU nU cU k aT nT cT,DR 28 zOp w x n cap S O #[.slice aD nD cD,.slice aU nU cU,.int .i64 k,.slice aT nT cT] #[.int .i64 kd,.slice ta tn tc,.int .i64 nw,.int .i64 nn] ww∧DX (w.heap.size+2) aD nD cD aU nU cU k aT nT cT (some ⟨q5,0,none⟩) 32 c5 ta tn tc ww)
    case first=>
     cases bo with
     |false=>
      go_wp2
      go_meet
      case rel=>exact⟨_,_,_,_,_,_,_,_,_,_,HD'.out,HX'.out⟩
     |true=>
      obtain⟨D',U',T',hl⟩:=HX'.out.ls;have hlD:=hl.d.sat.2.1;have hlU:=hl.u.sat.2.1;have hbd:=HAP.out.2.2;have HBW:=hdI (spoilSt_any (w.heap.size+2) x n cap aD aU aT nD cD nU cU nT cT D' U' T' k _ HD'.out.cb HD'.out.ct hl (by omega) HAP.out.1 HX'.out.nb);go_wp2_with (first
       |(refine wpList_load_row rfl 26 (.tmp 6) rfl S rfl 26 _ (0,0) _ HD'.out.s Tryz.underlying26 rfl Tryz.sizeSt ?_)
       |fail)
      refine HBW.out.mono ?_;rintro e wq ⟨v,rfl,⟨bD,mD,dD,bU,mU,dU,kk,bT,mT,dT,D9,U9,T9,rfl,hl9,hk9⟩,hc,hw⟩;have HDq:=hdI (HD'.out.to hw hc);have HXq:=hdI (show DX (w.heap.size+2) bD mD dD bU mU dU kk bT mT dT (some ⟨q5,0,none⟩) 32 c5 ta tn tc wq from⟨⟨_,_,_,hl9⟩,HX'.out.ke.wrT hw,HX'.out.tk.wrT hw,hk9⟩);have hwS:=Wr.setRow S wq #[.slice bD mD dD,.slice bU mU dU,.int .i64 kk,.slice bT mT dT];have HF:=hdI (HDq.out.putS (by omega) hwS (setRow_heap _ _ _ _ _ _ HDq.out.s));have HXF:=hdI (HXq.out.typ HDq.out.s (by decide) (by decide) (by decide) hwS);go_wp2_with (first
       |(refine wpList_store_row rfl 26 (.tmp 6) (.tmp 67) rfl S #[.slice bD mD dD,.slice bU mU dU,.int .i64 kk,.slice bT mT dT] rfl rfl 26 _ HDq.out.s Tryz.sizeSt rfl (by simp[Value.oneCell']) ?_)
       |fail)
      go_meet
      case rel=>exact⟨_,_,_,_,_,_,_,_,_,_,HF.out,HXF.out⟩
    case rest=>
     obtain⟨aD,nD,cD,aU,nU,cU,k,aT,nT,cT,hd,hx⟩:=hcut;have HD:=hdI hd;have HX:=hdI hx;have HBW:=hdI (once_any (w.heap.size+2) x n cap 30 _ HD.out.cb HD.out.ct (by decide) (by decide));go_wp2_with fail;refine HBW.out.mono ?_;rintro e wa ⟨bo,rfl,hc,hw⟩;have HD':=hdI (HD.out.cur hc hw);have HX':=hdI (HX.out.wrG hw.wrG)
     go_upto_if 69 with fail
     try dsimp only[Act.put]
     go_cut [8] from 11 (fun v ww=>∃ ak nk ck,v=.slice ak nk ck∧nk≤32∧DR 28 zOp w x n cap S O #[.slice aD nD cD,.slice aU nU cU,.int .i64 k,.slice aT nT cT] #[.int .i64 kd,.slice ta tn tc,.int .i64 nw,.int .i64 nn] ww∧DX (w.heap.size+2) aD nD cD aU nU cU k aT nT cT ak nk ck ta tn tc ww)
     case first=>
      cases bo with
      |false=>
       go_wp2
       go_meet
       case rel=>exact⟨_,_,_,rfl,by decide,HD'.out,HX'.out⟩
      |true=>
       have h31:(31:Int)≤c5:=by
        obtain⟨_,_,_,_,_,_,e,h,_⟩:=HX'.out.ke;cases e;omega
       have HXF:=hdI (show DX (w.heap.size+2) aD nD cD aU nU cU k aT nT cT (some ⟨q5,0,none⟩) 31 c5 ta tn tc _ from⟨HX'.out.ls,HX'.out.ke.cut 31 (by decide),HX'.out.tk,HX'.out.nb⟩);go_wp2
       go_meet
       case rel=>exact⟨_,_,_,rfl,by decide,HD'.out,HXF.out⟩
     case rest=>
      obtain⟨ak,nk,ck,rfl,hnk,hd,hx⟩:=hcut;have HD:=hdI hd;have HX:=hdI hx;have HBW:=hdI (once_any (w.heap.size+2) x n cap 20 _ HD.out.cb HD.out.ct (by decide) (by decide));go_wp2_with fail;refine HBW.out.mono ?_;rintro e wb ⟨bo,rfl,hc,hw⟩;have HD':=hdI (HD.out.cur hc hw);have HX':=hdI (HX.out.wrG hw.wrG)
      go_upto_if 73 with fail
      try dsimp only[Act.put]
      go_cut [] from 11 (fun ww=>∃ kd,DR 28 zOp w x n cap S O #[.slice aD nD cD,.slice aU nU cU,.int .i64 k,.slice aT nT cT] #[.int .i64 kd,.slice ta tn tc,.int .i64 nw,.int .i64 nn] ww∧DX (w.heap.size+2) aD nD cD aU nU cU k aT nT cT ak nk ck ta tn tc ww)
      case first=>
       cases bo with
       |false=>
        go_wp2
        go_meet
        case rel=>exact⟨_,HD'.out,HX'.out⟩
       |true=>
        have HBW:=hdI (below_any (w.heap.size+2) x n cap 2 _ HD'.out.cb HD'.out.ct (by decide) (by decide));go_wp2_with fail;refine HBW.out.mono ?_;rintro e wq ⟨z,rfl,z0,z1,hc,hw⟩;have HDq:=hdI (HD'.out.cur hc hw);have HXq:=hdI (HX'.out.wrG hw.wrG);have o0:wq.cell? ⟨O,0,none⟩=some (.int .i64 kd):=cell_of_row _ _ _ _ _ _ HDq.out.o;have f0:=frozen_of_row _ _ 0 _ _ HDq.out.o;have HF:=hdI (HDq.out.putO (by omega) ((Wr.refl _ _).setCell 0 (.int .i64 (6*z))) (heap_setCell_same _ _ _ _ _ _ HDq.out.o));have HXF:=hdI (HXq.out.typ HDq.out.o (by decide) (by decide) (by decide) ((Wr.refl _ _).setCell 0 (.int .i64 (6*z))));go_wp2
        go_meet
        case rel=>exact⟨_,HF.out,HXF.out⟩
      case rest=>
       obtain⟨kd,hd,hx⟩:=hcut;have HD:=hdI hd;have HX:=hdI hx
       go_upto_region 17 with fail
       have HSO:=hdI (show w.heap.size+1<S∧w.heap.size+1<O by omega);refine wp_region_any (by kernel_rfl) ?_;refine wpAny_slotsV (fun _ _ _=>True) (frame:=(fun (a b c d e f g h i j k l m n o p q r s u v w x y z A B C D E F G H I J K L M N O P Q R S T U V W X Y Z a0 a1 a2 a3 a4 a5 a6 a7 a8 a9 b0 b1 b2 b3 b4 b5 b6 b7 b8 b9 c0 c1 c2 c3 c4 c5:Value)=>fun (t:Nat→Value)=>({ tmps:=List.toArray [a,b,c,t 4,d,e,f,g,h,i,j,k,l,m,n,o,p,q,r,s,u,v,w,x,y,z,A,B,C,D,E,F,G,H,I,J,K,L,M,N,O,P,Q,R,S,T,U,V,W,X,Y,Z,a0,a1,a2,a3,a4,a5,a6,a7,a8,a9,b0,b1,b2,b3,b4,b5,b6,b7,b8,b9,c0,c1,c2,c3,c4,c5,t 0,t 1,t 2],defers:=[] }:Act)) _ _ _ _ _ _ _ _ _ _ _ _ _ _ _ _ _ _ _ _ _ _ _ _ _ _ _ _ _ _ _ _ _ _ _ _ _ _ _ _ _ _ _ _ _ _ _ _ _ _ _ _ _ _ _ _ _ _ _ _ _ _ _ _ _ _ _ _ _ _ _ _ _ _ _ _ _)
        (Ext:=fun L u w'=>ZR 28 zOp w S O #[.slice aD nD cD,.slice aU nU cU,.int .i64 k,.slice aT nT cT] #[.int .i64 kd,.slice ta tn tc,.int .i64 nw,.int .i64 nn] (L 3) (L 5) w'∧DX (w.heap.size+2) aD nD cD aU nU cU k aT nT cT ak nk ck ta tn tc w') (Good:=fun i L w' v=>if i=0 then v=.agg #[.slice aD nD cD,.slice aU nU cU,.int .i64 k,.slice aT nT cT] else if i=1 then v=.slice ak nk ck else if i=2 then v=.agg #[.int .i64 kd,.slice ta tn tc,.int .i64 nw,.int .i64 nn] else if i=3 then L 3=true else if i=4 then v=.slice ak nk ck else if i=5 then L 5=true else True) ?hstab (by kernel_rfl) ?hop ?hdone _ _ ((fun (x0 x1 x2 x4:Value)=>fun (i:Nat)=>if i=0 then x0 else if i=1 then x1 else if i=2 then x2 else if i=4 then x4 else undef) _ _ _ _) _ (by simp) ?ext ?start (by simp)
       case start=>intro i hi h;exact absurd h (by rw[Array.getD_eq_getD_getElem?,Array.getElem?_replicate];split<;>simp)
       case ext=>exact⟨⟨HD.out.bel.trans (((Below.refl _ _).drew).mono HD.out.bel.size),HD.out.s,HD.out.o,HD.out.r1,HD.out.r3⟩,HX.out.wrG (WrG.of_below ((Below.refl _ _).drew))⟩
       case hstab=>
        intro j L w9 w' i v hM hij hLi h;by_cases h3:j=3
        ·subst h3;simp at h ⊢;unfold updK;split<;>simp[h]
        by_cases h5:j=5
        ·subst h5;simp at h ⊢;unfold updK;split<;>simp[h]
        simp only[if_neg h3,if_neg h5] at h ⊢;exact h
       case hop=>
        intro i o L t w' ho hLi hx hdep K hK;have hi:i<6:=(Array.getElem?_eq_some_iff.1 ho).1;obtain rfl|rfl|rfl|rfl|rfl|rfl:i=0∨i=1∨i=2∨i=3∨i=4∨i=5:=by omega
        all_goals(simp at ho;subst ho)
        all_goals try(have hK':=hK w' _ rfl (by simpa[updK] using hx) trivial;simp[Region.binds] at hdep;rw[if_pos (by rfl)];go_simp;simpa[upd,hdep] using hK';done)
        ·clear hdep;have hK':=hK w' (.agg #[.slice aD nD cD,.slice aU nU cU,.int .i64 k,.slice aT nT cT]) (by simp) (by simpa[updK] using hx) trivial;rw[if_pos (by rfl)];refine wp_load_row 26 (.tmp 6) rfl S rfl 26 _ (0,0) _ hx.1.s Tryz.underlying26 rfl Tryz.sizeSt ?_;simpa[upd,Act.put] using hK'
        ·clear hdep;have hK':=hK w' (.agg #[.int .i64 kd,.slice ta tn tc,.int .i64 nw,.int .i64 nn]) (by simp) (by simpa[updK] using hx) trivial;rw[if_pos (by rfl)];refine wp_load_row 28 (.tmp 10) rfl O rfl 28 _ (0,0) _ hx.1.o Tryz.underlying28 rfl Tryz.sizeOp ?_;simpa[upd,Act.put] using hK'
        ·have d0:t 0=.agg #[.slice aD nD cD,.slice aU nU cU,.int .i64 k,.slice aT nT cT]:=by simpa using(hdep ⟨0,.data⟩ (by simp) rfl).2
         obtain⟨hz,hX⟩:=hx;rw[hLi] at hz;have hK':=hK (w'.setRow w.heap.size #[.slice aD nD cD,.slice aU nU cU,.int .i64 k,.slice aT nT cT]) undef (by simp[updK]) (by
          simp only[updK];simp;exact⟨hz.one HSO.out,hX.typ hz.r1 (by decide) (by decide) (by decide) (Wr.setRow _ _ _)⟩) trivial
         rw[if_pos (by rfl)];refine wp_store_row 26 (.tmp 2) (.tmp 78) rfl w.heap.size #[.slice aD nD cD,.slice aU nU cU,.int .i64 k,.slice aT nT cT] rfl d0 26 _ hz.r1 Tryz.sizeSt rfl (by simp[Value.oneCell']) ?_;simpa[upd,Act.put] using hK'
        ·have d2:t 2=.agg #[.int .i64 kd,.slice ta tn tc,.int .i64 nw,.int .i64 nn]:=by simpa using(hdep ⟨2,.data⟩ (by simp) rfl).2
         obtain⟨hz,hX⟩:=hx;rw[hLi] at hz;have hK':=hK (w'.setRow (w.heap.size+1) #[.int .i64 kd,.slice ta tn tc,.int .i64 nw,.int .i64 nn]) undef (by simp[updK]) (by
          simp only[updK];simp;exact⟨hz.two HSO.out,hX.typ hz.r3 (by decide) (by decide) (by decide) (Wr.setRow _ _ _)⟩) trivial
         rw[if_pos (by rfl)];refine wp_store_row 28 (.tmp 4) (.tmp 80) rfl (w.heap.size+1) #[.int .i64 kd,.slice ta tn tc,.int .i64 nw,.int .i64 nn] rfl d2 28 _ hz.r3 Tryz.sizeOp rfl (by simp[Value.oneCell']) ?_;simpa[upd,Act.put] using hK'
       case hdone=>
        intro L t w' hx hg;have h3:L 3=true:=by simpa using hg 3 (by decide)
        have h5:L 5=true:=by simpa using hg 5 (by decide)
        have d4:t 4=.slice ak nk ck:=by simpa using hg 4 (by decide)
        rw[h3,h5] at hx;have HF:=hdI hx;simp only[d4];go_wp2_with fail
        (try simp only[Exit.inBlock,Exit.then])
        exact bodyPost_ret (results_so rfl _ _ w.heap.size (w.heap.size+1) _ _ _ _ _ _ _ _ rfl rfl HF.out.1.r1 HF.out.1.r3) rfl ⟨_,_,_,_,_,_,_,_,_,_,_,_,_,_,_,_,_,_,_,rfl,HF.out.2,hnk,HF.out.1.bel⟩
theorem WSV.mono {lo lo':Nat} {w:World} {v:Value} {r:SpR} (h:WSV lo w v r) (hl:lo'≤lo):WSV lo' w v r:=by
 obtain⟨aD,nD,cD,aU,nU,cU,aT,nT,cT,e,h1,h2,h3,h4,h5,h6,l1,l2,l3,l4,l5⟩:=h;exact⟨aD,nD,cD,aU,nU,cU,aT,nT,cT,e,h1,h2,h3,h4,h5,h6,l1.mono hl (Nat.le_refl _),l2.mono hl (Nat.le_refl _),l3.mono hl (Nat.le_refl _),l4,l5⟩
theorem cpf_wsv {lo R:Nat} {k c:Int} {D U T:List Int} {nT:Nat} {w w':World} {aD aU aT:Option Addr} {nD cD nU cU cT:Nat} (h:CpFin lo k D U T nT w #[.slice aD nD cD,.slice aU nU cU,.int .i64 k,.slice aT nT cT]) (hR:R<lo) (hw:Wr R w w') :
  WSV lo w' (.agg #[.int .i64 c,.slice aD nD cD,.slice aU nU cU,.int .i64 k,.slice aT nT cT]) ⟨c,D,U,k,T,nT⟩:=by
 obtain⟨bD,mD,dD,bU,mU,dU,bT,dT,e,h1,h2,h3⟩:=h;simp at e;obtain⟨⟨rfl,rfl,rfl⟩,⟨rfl,rfl,rfl⟩,rfl,rfl⟩:=e;obtain⟨-,q1,-⟩:=h1.sat;obtain⟨-,q2,-⟩:=h2.sat;obtain⟨-,q3,-⟩:=h3.tapV.sat;have y1:=(h1.lk (lo:=lo) (O:=R) (Nat.le_refl _) (.inl hR)).wr hw;have y2:=(h2.lk (lo:=lo) (O:=R) (Nat.le_refl _) (.inl hR)).wr hw;have y3:=(h3.lk (lo:=lo) (O:=R) (Nat.le_refl _) (.inl hR)).wr hw;have hc:=h3.cap;exact⟨_,_,_,_,_,_,_,_,_,rfl,y1.1,y2.1,y3.1,q1,q2,q3,fun ad e=>⟨(y1.2 ad e).1,(y1.2 ad e).2.2⟩,fun ad e=>⟨(y2.2 ad e).1,(y2.2 ad e).2.2⟩,fun ad e=>⟨(y3.2 ad e).1,(y3.2 ad e).2.2⟩,hc.1,hc.2⟩
theorem run_g5 (w:World) (o:Bool) (aD aU aT:Option Addr) (nD cD nU cU nT cT:Nat) (k:Int):(Instr.field 42 (.agg #[.bool o,.slice aD nD cD,.slice aU nU cU,.int .i64 k,.slice aT nT cT]) 1).run Tryz.prog w=.ok (.agg #[.slice aD nD cD,.slice aU nU cU,.int .i64 k,.slice aT nT cT]) w:=by kernel_rfl
structure CX3 (w:World) (sc oc:Array Value) (wr:World):Prop where
 below:Below w.heap.size w wr
 sb:wr.heap[w.heap.size]?=some (.cells sc 26 (0,0))
 ob:wr.heap[w.heap.size+1]?=some (.cells oc 28 (0,0))
 rb:wr.heap[w.heap.size+2]?=some (.cells #[.int .i64 0,.slice none 0 0,.slice none 0 0,.int .i64 0,.slice none 0 0] 32 (0,0))
theorem CX3.lt {w wr:World} {sc oc:Array Value} (h:CX3 w sc oc wr):w.heap.size+2<wr.heap.size:=(Array.getElem?_eq_some_iff.1 h.rb).1
theorem CX3.keep {w wr w':World} {sc oc:Array Value} {B:Nat} (h:CX3 w sc oc wr) (b:Below B wr w') (hB:w.heap.size+3≤B):CX3 w sc oc w':=
 ⟨h.below.trans (b.mono (by omega)),by rw[b.block _ (by omega)];exact h.sb,by rw[b.block _ (by omega)];exact h.ob,by rw[b.block _ (by omega)];exact h.rb⟩
theorem CX3.call {w wr w':World} {sc oc:Array Value} (h:CX3 w sc oc wr) (b:Below wr.heap.size wr w'):CX3 w sc oc w':=h.keep b h.lt
theorem CX3.start (w:World) (sc oc:Array Value):CX3 w sc oc (((w.alloc (.cells sc 26)).alloc (.cells oc 28)).alloc (.cells #[.int .i64 0,.slice none 0 0,.slice none 0 0,.int .i64 0,.slice none 0 0] 32)):=by
 have h:=BX2.start w 26 28 sc oc;have b:Below ((w.alloc (.cells sc 26)).alloc (.cells oc 28)).heap.size ((w.alloc (.cells sc 26)).alloc (.cells oc 28)) _:=(Below.refl _ _).alloc (Nat.le_refl _) (.cells #[.int .i64 0,.slice none 0 0,.slice none 0 0,.int .i64 0,.slice none 0 0] 32);have h2:=h.call b;refine⟨h2.below,h2.b0,h2.b1,?_⟩;have:=heap_alloc_new ((w.alloc (.cells sc 26)).alloc (.cells oc 28)) (.cells #[.int .i64 0,.slice none 0 0,.slice none 0 0,.int .i64 0,.slice none 0 0] 32)
 rwa [show((w.alloc (.cells sc 26)).alloc (.cells oc 28)).heap.size=w.heap.size+2 by simp] at this
set_option maxRecDepth 100000 in
set_option maxHeartbeats 8000000 in
theorem sss_any (aD aU aT:Option Addr) (nD cD nU cU nT cT:Nat) (D U:List Int) (k:Int) (T:List Int) (ka:Option Addr) (nk ck:Nat) (ks:List Int) (ta:Option Addr) (tn tc:Nat) (tk:List Int) (kind now N:Int) (w:World) (hD:D.length=nD) (hU:U.length=nU) (hT:T.length=nT*2) (mD:nD≤1048576) (mU:nU≤1048576) (mT:nT≤1048576)
  (haD:At .i64 w aD D) (haU:At .i64 w aU U) (haT:At .i64 w aT T) (hcT:nT≤cT) (hcm:cT≤9223372036854775807) (hk0:-9223372036854775808≤k) (hk1:k<9223372036854775808) (hk:ks.length=nk) (mk:nk≤1048576) (hp:At .u8 w ka ks) (zk:Byte ks) (ht:tk.length=tn) (mt:tn≤1048576) (hct:tn≤tc) (hat:At .u8 w ta tk) (zt:Byte tk) :
  Calls Tryz.prog 5 #[.agg #[.slice aD nD cD,.slice aU nU cU,.int .i64 k,.slice aT nT cT],.slice ka nk ck,.agg #[.int .i64 kind,.slice ta tn tc,.int .i64 now,.int .i64 N]] w fun e w'=>∃ v,e=.returned v∧WSV w.heap.size w' v (stR D U k T nT ks kind tk now N)∧Below w.heap.size w w':=by
 have HX0:Hid (CX3 w #[.slice aD nD cD,.slice aU nU cU,.int .i64 k,.slice aT nT cT] #[.int .i64 kind,.slice ta tn tc,.int .i64 now,.int .i64 N] (((w.alloc (.cells #[.slice aD nD cD,.slice aU nU cU,.int .i64 k,.slice aT nT cT] 26)).alloc (.cells #[.int .i64 kind,.slice ta tn tc,.int .i64 now,.int .i64 N] 28)).alloc (.cells #[.int .i64 0,.slice none 0 0,.slice none 0 0,.int .i64 0,.slice none 0 0] 32))):=CX3.start _ _ _;have HLN:Hid (D.length=nD∧U.length=nU∧T.length=nT*2):=⟨hD,hU,hT⟩
 have HA:Hid (∀ wz,Below w.heap.size w wz→At .i64 wz aD D∧At .i64 wz aU U∧At .i64 wz aT T∧At .u8 wz ka ks∧At .u8 wz ta tk):=fun wz h=>⟨haD.below h,haU.below h,haT.below h,hp.below h,hat.below h⟩
 have HKL:Hid (ks.length=nk∧Byte ks∧tk.length=tn∧Byte tk):=⟨hk,zk,ht,zt⟩
 have HC:=svs_any aD aU aT nD cD nU cU nT cT D U k T _ hD hU hT mD mU mT (haD.below HX0.out.below) (haU.below HX0.out.below) (haT.below HX0.out.below) hk0 hk1;have HRZ:Hid ((Tryz.prog.info? 32).map (·.size)=some 5):=by show _=_;kernel_rfl
 have HSZ:Hid ((Tryz.prog.info? 26).map (·.size)=some 4):=by show _=_;kernel_rfl
 have HOZ:Hid ((Tryz.prog.info? 28).map (·.size)=some 4):=by show _=_;kernel_rfl
 have HFZ:Hid ((Tryz.prog.info? 38).map (·.size)=some 4):=by show _=_;kernel_rfl
 have HST:Hid (stB D U k T nT=true→StP D U k T nT):=stP_of;have HSR:Hid (stR D U k T nT ks kind tk now N=stR D U k T nT ks kind tk now N):=rfl;clear haD haU haT hD hU hT hk hp zk ht hat zt;go_enter Tryz.func5,Tryz.ntmps5
 go_upto_region 1 with fail
 generalize (((w.alloc (.cells #[.slice aD nD cD,.slice aU nU cU,.int .i64 k,.slice aT nT cT] 26)).alloc (.cells #[.int .i64 kind,.slice ta tn tc,.int .i64 now,.int .i64 N] 28)).alloc (.cells #[.int .i64 0,.slice none 0 0,.slice none 0 0,.int .i64 0,.slice none 0 0] 32))=w0 at *;have o0:w0.cell? ⟨w.heap.size+1,0,none⟩=some (.int .i64 kind):=by rw[cell_of_row w0 _ 0 _ _ _ HX0.out.ob];rfl
 go_wp2_with (first
  |(refine wpList_load_row rfl 26 (.tmp 3) rfl w.heap.size rfl 26 _ (0,0) _ HX0.out.sb Tryz.underlying26 rfl HSZ.out ?_)
  |fail)
 refine HC.mono ?_;rintro e w1 ⟨rfl,hb1⟩;have HX1:=hdI <| HX0.out.call hb1
 have o1:w1.cell? ⟨w.heap.size+1,0,none⟩=some (.int .i64 kind):=by rw[cell_of_row w1 _ 0 _ _ _ HX1.out.ob];rfl
 clear HC HX0 hb1 o0;by_cases hbad:¬ (stB D U k T nT=true∧nk=32∧1≤kind∧kind≤5)
 ·have HR:Hid (stR D U k T nT ks kind tk now N=⟨10,D,U,k,T,nT⟩):=by
   show _=_
   unfold stR;by_cases h:stB D U k T nT=true∧ks.length=32
   ·rw[if_pos h];unfold opR;have h2:¬ (1≤kind∧kind≤5):=fun h3=>hbad ⟨h.1,HKL.out.1.symm.trans h.2,h3⟩
    rw[if_neg (by omega),if_neg (by omega),if_neg (by omega),if_neg (by omega),if_neg (by omega)]
   ·rw[if_neg h]
  have hcs:stB D U k T nT=false∨(stB D U k T nT=true∧((nk:Int) != 32)=true)∨(stB D U k T nT=true∧nk=32∧kind<1)∨(stB D U k T nT=true∧nk=32∧¬ kind<1∧5<kind):=by
   cases hq:stB D U k T nT with
   |false=>exact .inl rfl
   |true=>
    by_cases h32:nk=32
    ·by_cases h1:kind<1
     ·exact .inr (.inr (.inl ⟨rfl,h32,h1⟩))
     ·have h3:¬ (1≤kind∧kind≤5):=fun h=>hbad ⟨hq,h32,h⟩
      exact .inr (.inr (.inr ⟨rfl,h32,h1,by omega⟩))
    ·exact .inr (.inl ⟨rfl,by simp;omega⟩)
  clear hbad HST HSR;generalize hq:stB D U k T nT=q at *;clear hq;rcases hcs with rfl|⟨rfl,h32⟩|⟨rfl,rfl,h1⟩|⟨rfl,rfl,h1,h5⟩
  all_goals
   go_upto_region 2 with fail
   go_wp2_with (first
    |(refine wpList_load_row rfl 26 (.tmp 3) rfl w.heap.size rfl 26 _ (0,0) _ HX1.out.sb Tryz.underlying26 rfl HSZ.out ?_)
    |fail)
   refine(l5c_any aD aU aT nD cD nU cU nT cT D U k T w1 HLN.out.1 HLN.out.2.1 HLN.out.2.2 mD mU mT (HA.out w1 HX1.out.below).1 (HA.out w1 HX1.out.below).2.1 (HA.out w1 HX1.out.below).2.2.1).mono ?_;rintro e w9 ⟨cs,rfl,hcp,hb9⟩;have HX9:=hdI <| HX1.out.call hb9
   have HL9:=hdI <| HX1.out.lt
   have HCP:=hdI <| hcp
   obtain⟨bD,mD',dD,bU,mU',dU,bT,dT,rfl,-⟩:=hcp;have HRB:=hdI <| HX9.out.rb
   have HF:Hid (WSV w.heap.size (w9.setRow (w.heap.size+2) #[.int .i64 10,.slice bD mD' dD,.slice bU mU' dU,.int .i64 k,.slice bT nT dT]) (.agg #[.int .i64 10,.slice bD mD' dD,.slice bU mU' dU,.int .i64 k,.slice bT nT dT]) (stR D U k T nT ks kind tk now N)∧Below w.heap.size w (w9.setRow (w.heap.size+2) #[.int .i64 10,.slice bD mD' dD,.slice bU mU' dU,.int .i64 k,.slice bT nT dT])):=⟨by rw[HR.out];exact(cpf_wsv HCP.out HL9.out (Wr.setRow _ _ _)).mono (by have:=HX9.out.below.size;have:=HL9.out;omega),HX9.out.below.trans ((Wr.setRow _ _ _).below (by omega))⟩
   clear hb9 HCP HL9 HX1;go_wp2_with (first
    |(refine wpList_store_row rfl 32 (.tmp 6) (.tmp 29) rfl (w.heap.size+2) #[.int .i64 10,.slice bD mD' dD,.slice bU mU' dU,.int .i64 k,.slice bT nT dT] rfl rfl 32 _ HRB.out HRZ.out rfl (by simp[Value.oneCell']) ?_)
    |fail)
   exact bodyPost_ret (v:=.agg #[.int .i64 10,.slice bD mD' dD,.slice bU mU' dU,.int .i64 k,.slice bT nT dT]) (results_cell_row rfl _ _ (w.heap.size+2) 32 _ (0,0) _ rfl (setRow_heap _ _ _ _ _ _ HRB.out) Tryz.underlying32 rfl HRZ.out) rfl ⟨_,rfl,HF.out.1,HF.out.2⟩
 have hgood:=Decidable.not_not.1 hbad;obtain⟨hq,h32,hki,hk5⟩:=hgood;have hst:=HST.out hq;have hkn:k+nT=(nU:Int):=by have:=hst.2.2.2.2.1;rw[HLN.out.2.1] at this;exact this
 have hkk:=hst.2.2.2.1;have hd16:=hst.2.1;have HSO:Hid (stR D U k T nT ks kind tk now N=opR D U k T nT ks kind tk now N):=by show _=_;unfold stR;rw[if_pos ⟨hq,HKL.out.1.trans h32⟩]
 have HDO:=hid_ofS (du_op (ks:=ks) (kind:=kind) (tk:=tk) (now:=now) (N:=N) hq HKL.out.2.2.2 hkk (by omega) mT hd16 hki hk5);have hkb:k≤1048576:=by omega
 have h1:¬ kind<1:=by omega
 have h5:¬ 5<kind:=by omega
 have HQ:=hdI <| hq
 rw[hq];clear hst hbad HST hkn hd16 hq hki hk5 HSR;subst h32;obtain⟨bp,op,rfl,-,-⟩:=(HA.out w1 HX1.out.below).2.2.2.1.get (by rw[HKL.out.1];decide);have HPT:Hid (∀ wz,Below w.heap.size w wz→PtA wz bp op ks):=fun wz h=>by
  obtain⟨b',o',e',hl',hc'⟩:=(HA.out wz h).2.2.2.1.get (by rw[HKL.out.1];decide);cases e';exact⟨hl',hc'⟩
 go_upto_region 3 with fail
 clear h1 h5 o1;go_wp2_with (first
  |(refine wpList_load_row rfl 26 (.tmp 3) rfl w.heap.size rfl 26 _ (0,0) _ HX1.out.sb Tryz.underlying26 rfl HSZ.out ?_)
  |(refine wpList_load_row rfl 28 (.tmp 5) rfl (w.heap.size+1) rfl 28 _ (0,0) _ HX1.out.ob Tryz.underlying28 rfl HOZ.out ?_)
  |fail)
 refine(due_any aD aU aT nD cD nU cU nT cT D U k bp op ck ks ta tn tc tk kind now N w1 HLN.out.1 HLN.out.2.1 mD mU mT (HA.out w1 HX1.out.below).1 (HA.out w1 HX1.out.below).2.1 hkk hkb HKL.out.1 (HPT.out w1 HX1.out.below) HKL.out.2.1 HKL.out.2.2.1 mt hct (HA.out w1 HX1.out.below).2.2.2.2 HKL.out.2.2.2).mono ?_;rintro e w4 ⟨rfl,hb4⟩;have HX4:=hdI <| HX1.out.call hb4
 clear hb4 HX1 HPT;generalize duR D U k nT ks kind tk now N=r at *;obtain⟨c,fk,a,b⟩:=r;unfold duV;dsimp only at HDO ⊢;have HN:Hid ((w4.alloc (.cells #[.int .u32 0,.int .i64 0,.int .u32 0,.int .u32 0] 38)).heap[w4.heap.size]?=some (.cells #[.int .u32 0,.int .i64 0,.int .u32 0,.int .u32 0] 38 (0,0))):=heap_alloc_new w4 _;have HB5:Hid (Below w4.heap.size w4 ((w4.alloc (.cells #[.int .u32 0,.int .i64 0,.int .u32 0,.int .u32 0] 38)).setRow w4.heap.size #[.int .u32 0,.int .i64 fk,.int .u32 (a:Int),.int .u32 (b:Int)])):=((Below.refl _ _).alloc (Nat.le_refl _) _).trans ((Wr.setRow _ _ _).below (Nat.le_refl _));have HR5:Hid (((w4.alloc (.cells #[.int .u32 0,.int .i64 0,.int .u32 0,.int .u32 0] 38)).setRow w4.heap.size #[.int .u32 0,.int .i64 fk,.int .u32 (a:Int),.int .u32 (b:Int)]).heap[w4.heap.size]?=some (.cells #[.int .u32 0,.int .i64 fk,.int .u32 (a:Int),.int .u32 (b:Int)] 38 (0,0))):=setRow_heap _ _ _ _ _ _ HN.out;have HX5:=hdI <| HX4.out.call HB5.out
 go_upto_region 4 with (first
  |(refine wpList_store_row rfl 38 (.tmp 8) (.tmp 36) rfl w4.heap.size #[.int .u32 0,.int .i64 fk,.int .u32 (a:Int),.int .u32 (b:Int)] rfl rfl 38 _ HN.out HFZ.out rfl (by simp[Value.oneCell']) ?_)
  |fail)
 clear HN HB5 HX4;generalize ((w4.alloc (.cells #[.int .u32 0,.int .i64 0,.int .u32 0,.int .u32 0] 38)).setRow w4.heap.size #[.int .u32 0,.int .i64 fk,.int .u32 (a:Int),.int .u32 (b:Int)])=w5 at *;have f1:w5.cell? ⟨w4.heap.size,1,none⟩=some (.int .i64 fk):=by rw[cell_of_row w5 _ 1 _ _ _ HR5.out];rfl
 by_cases hfk:fk=0
 ·have HR:Hid (stR D U k T nT ks kind tk now N=⟨c,D,U,k,T,nT⟩):=by show _=_;rw[HSO.out];exact HDO.out.1 hfk
  subst hfk;clear HDO HSO HR5
  go_upto_region 5 with fail
  go_wp2_with (first
   |(refine wpList_load_row rfl 26 (.tmp 3) rfl w.heap.size rfl 26 _ (0,0) _ HX5.out.sb Tryz.underlying26 rfl HSZ.out ?_)
   |fail)
  refine(l5c_any aD aU aT nD cD nU cU nT cT D U k T w5 HLN.out.1 HLN.out.2.1 HLN.out.2.2 mD mU mT (HA.out w5 HX5.out.below).1 (HA.out w5 HX5.out.below).2.1 (HA.out w5 HX5.out.below).2.2.1).mono ?_;rintro e w9 ⟨cs,rfl,hcp,hb9⟩;have HX9:=hdI <| HX5.out.call hb9
  have HL9:=hdI <| HX5.out.lt
  have HCP:=hdI <| hcp
  obtain⟨bD,mD',dD,bU,mU',dU,bT,dT,rfl,-⟩:=hcp;have HRB:=hdI <| HX9.out.rb
  have HF:Hid (WSV w.heap.size (w9.setRow (w.heap.size+2) #[.int .i64 c,.slice bD mD' dD,.slice bU mU' dU,.int .i64 k,.slice bT nT dT]) (.agg #[.int .i64 c,.slice bD mD' dD,.slice bU mU' dU,.int .i64 k,.slice bT nT dT]) (stR D U k T nT ks kind tk now N)∧Below w.heap.size w (w9.setRow (w.heap.size+2) #[.int .i64 c,.slice bD mD' dD,.slice bU mU' dU,.int .i64 k,.slice bT nT dT])):=⟨by rw[HR.out];exact(cpf_wsv HCP.out HL9.out (Wr.setRow _ _ _)).mono (by have:=HX9.out.below.size;have:=HL9.out;omega),HX9.out.below.trans ((Wr.setRow _ _ _).below (by omega))⟩
  clear hb9 HCP HL9 HX5;go_wp2_with (first
   |(refine wpList_store_row rfl 32 (.tmp 6) (.tmp 43) rfl (w.heap.size+2) #[.int .i64 c,.slice bD mD' dD,.slice bU mU' dU,.int .i64 k,.slice bT nT dT] rfl rfl 32 _ HRB.out HRZ.out rfl (by simp[Value.oneCell']) ?_)
   |fail)
  exact bodyPost_ret (v:=.agg #[.int .i64 c,.slice bD mD' dD,.slice bU mU' dU,.int .i64 k,.slice bT nT dT]) (results_cell_row rfl _ _ (w.heap.size+2) 32 _ (0,0) _ rfl (setRow_heap _ _ _ _ _ _ HRB.out) Tryz.underlying32 rfl HRZ.out) rfl ⟨_,rfl,HF.out.1,HF.out.2⟩
 obtain⟨o,ho,hoc,hap,ha,hb⟩:=HDO.out.2 hfk;have HSO2:Hid (stR D U k T nT ks kind tk now N=o):=by show _=_;rw[HSO.out];exact ho
 have HOC:=hdI <| hoc
 have HAP:=hdI <| hap
 clear HDO HSO ho hoc hap HQ
 go_upto_region 6 with fail
 clear f1 hfk;go_wp2_with (first
  |(refine wpList_load_row rfl 26 (.tmp 3) rfl w.heap.size rfl 26 _ (0,0) _ HX5.out.sb Tryz.underlying26 rfl HSZ.out ?_)
  |(refine wpList_load_row rfl 38 (.tmp 8) rfl w4.heap.size rfl 38 _ (0,0) _ HR5.out Tryz.underlying38 rfl HFZ.out ?_)
  |fail)
 have HAP2:=HAP;refine(sap_any aD aU aT nD cD nU cU nT cT D U k T 0 fk a b w5 HLN.out.1 HLN.out.2.1 HLN.out.2.2 mD mU mT (HA.out w5 HX5.out.below).1 (HA.out w5 HX5.out.below).2.1 (HA.out w5 HX5.out.below).2.2.1 hcT hcm hk0 hk1 ha hb).mono ?_;rintro e w9 ⟨v,rfl,hv,hb9⟩;have HX9:Hid (CX3 w #[.slice aD nD cD,.slice aU nU cU,.int .i64 k,.slice aT nT cT] #[.int .i64 kind,.slice ta tn tc,.int .i64 now,.int .i64 N] w9):=HX5.out.call hb9;have HL9:Hid (w.heap.size+2<w5.heap.size):=HX5.out.lt;rw[HAP.out] at hv;obtain⟨bD,mD',dD,bU,mU',dU,bT,mT',dT,rfl,hv⟩:=hv;have HV:Hid (At .i64 w9 bD o.D∧At .i64 w9 bU o.U∧At .i64 w9 bT o.T∧o.D.length=mD'∧o.U.length=mU'∧o.T.length=mT'*2∧Lies w5.heap.size w9 bD∧Lies w5.heap.size w9 bU∧Lies w5.heap.size w9 bT∧mT'≤dT∧dT≤9223372036854775807):=hv;have HRB:Hid (w9.heap[w.heap.size+2]?=some (.cells #[.int .i64 0,.slice none 0 0,.slice none 0 0,.int .i64 0,.slice none 0 0] 32 (0,0))):=HX9.out.rb;have HF:Hid (WSV w.heap.size (w9.setRow (w.heap.size+2) #[.int .i64 c,.slice bD mD' dD,.slice bU mU' dU,.int .i64 o.k,.slice bT mT' dT]) (.agg #[.int .i64 c,.slice bD mD' dD,.slice bU mU' dU,.int .i64 o.k,.slice bT mT' dT]) (stR D U k T nT ks kind tk now N)∧Below w.heap.size w (w9.setRow (w.heap.size+2) #[.int .i64 c,.slice bD mD' dD,.slice bU mU' dU,.int .i64 o.k,.slice bT mT' dT])):=by
  refine⟨?_,HX9.out.below.trans ((Wr.setRow _ _ _).below (by omega))⟩;rw[HSO2.out];obtain⟨v1,v2,v3,v4,v5,v6,l1,l2,l3,v7,v8⟩:=HV.out;have hl:=HL9.out;have hw:Wr (w.heap.size+2) w9 (w9.setRow (w.heap.size+2) #[.int .i64 c,.slice bD mD' dD,.slice bU mU' dU,.int .i64 o.k,.slice bT mT' dT]):=Wr.setRow _ _ _;have K:∀ {x:Option Addr} {xs:List Int},At .i64 w9 x xs→Lies w5.heap.size w9 x→At .i64 (w9.setRow (w.heap.size+2) #[.int .i64 c,.slice bD mD' dD,.slice bU mU' dU,.int .i64 o.k,.slice bT mT' dT]) x xs∧Lies w.heap.size (w9.setRow (w.heap.size+2) #[.int .i64 c,.slice bD mD' dD,.slice bU mU' dU,.int .i64 o.k,.slice bT mT' dT]) x:=fun h l=>by
   refine⟨h.keepT (by rw[hw.size];exact Nat.le_refl _) (fun ad e _=>hw.block _ (by have:=(l ad e).1;omega)),fun ad e=>?_⟩;have:=l ad e;rw[hw.size];omega
  exact⟨_,_,_,_,_,_,_,_,_,by rw[HOC.out],(K v1 l1).1,(K v2 l2).1,(K v3 l3).1,v4,v5,v6,(K v1 l1).2,(K v2 l2).2,(K v3 l3).2,v7,v8⟩
 have hfd:=run_g5 w9 true bD bU bT mD' dD mU' dU mT' dT o.k;clear hb9 HV HL9 HX5 hv;go_wp2_with (first
  |(refine wpList_store_row rfl 32 (.tmp 6) (.tmp 49) rfl (w.heap.size+2) #[.int .i64 c,.slice bD mD' dD,.slice bU mU' dU,.int .i64 o.k,.slice bT mT' dT] rfl rfl 32 _ HRB.out HRZ.out rfl (by simp[Value.oneCell']) ?_)
  |fail)
 exact bodyPost_ret (v:=.agg #[.int .i64 c,.slice bD mD' dD,.slice bU mU' dU,.int .i64 o.k,.slice bT mT' dT]) (results_cell_row rfl _ _ (w.heap.size+2) 32 _ (0,0) _ rfl (setRow_heap _ _ _ _ _ _ HRB.out) Tryz.underlying32 rfl HRZ.out) rfl ⟨_,rfl,HF.out.1,HF.out.2⟩
end Go.Proofs.YtncomnkdlpoelaaGreatDoor
namespace Go.Proofs.YtncomnkdlpoelaaGreatDoor
open Go.RowKit Go.Extern.Stop Go.Stop Go.Extern Go.ChangeShapes Go.WideShapes Go.ChangeAt
set_option linter.unusedVariables false
set_option maxRecDepth 100000
theorem valueOfP (t:Addr) (w:World):(ReflectliteValue.unpack (.iface 130 (.pointer (some t)))).run Tryz.prog w
  =.ok (.agg #[.pointer (some ⟨2,130,none⟩),.pointer (some ⟨w.heap.size,0,none⟩),.int .u64 150]) (w.alloc (.cells #[.pointer (some t)] 130)):=by kernel_rfl
theorem typeP (a : Addr) (w : World) : (ReflectliteValue.methodAny (ReflectliteValue.valueError "reflectlite.Value.Type" 0) (fun t _ _ _ => ReflectliteType.toType t) #[.agg #[.pointer (some ⟨2, 130, none⟩), .pointer (some a), .int .u64 150]]).run Tryz.prog w
  =.ok (.iface 185 (.agg #[.pointer (some ⟨2,130,none⟩)])) w:=by kernel_rfl
theorem methodKindQ (h : Value) (w : World) : (Go.method 349 185 (.agg #[h]) "Kind").run Tryz.prog w = .ok (188, h) w := by kernel_rfl
theorem kindP (w:World):((ReflectliteType.abiMethod fun t=>(fun a:Nat=>Value.int IntKind.u8 (a:Int)) <$> Rtype.kind t) #[.pointer (some ⟨2,130,none⟩)]).run Tryz.prog w=.ok (.int .u8 22) w:=by kernel_rfl
theorem kindT (w:World):((ReflectliteType.abiMethod fun t=>(fun a:Nat=>Value.int IntKind.u8 (a:Int)) <$> Rtype.kind t) #[.pointer (some ⟨2,128,none⟩)]).run Tryz.prog w=.ok (.int .u8 6) w:=by kernel_rfl
theorem rlmQ (z:Sem Value) (f:TypeId→Addr→Nat→Nat→Sem Value) (v:Value) :
  ReflectliteValue.method z f #[v]=(do match ←ReflectliteValue.parts v with|none=>z|some (t,a,fl)=>f t a fl (fl%32)):=rfl
theorem partsP (a:Addr) (w:World):(ReflectliteValue.parts (.agg #[.pointer (some ⟨2,130,none⟩),.pointer (some a),.int .u64 150])).run Tryz.prog w=.ok (some (130,a,150)) w:=by kernel_rfl
theorem isNilP (a p:Addr) (W:World) (ha:W.cell? a=some (.pointer (some p))) :
  (ReflectliteValue.method (ReflectliteValue.valueError "reflectlite.Value.IsNil" 0) ReflectliteValue.isNil #[.agg #[.pointer (some ⟨2, 130, none⟩), .pointer (some a), .int .u64 150]]).run Tryz.prog W = .ok (.bool false) W := by
 rw[rlmQ];simp only[Sem.run_bind,partsP,Result.andThen];simp[ReflectliteValue.isNil,loadVar,isAgg,underlying,Tryz.underlying130,ha,Result.andThen]
theorem methodElemQ (h : Value) (w : World) : (Go.method 349 185 (.agg #[h]) "Elem").run Tryz.prog w = .ok (198, .agg #[h]) w := by kernel_rfl
theorem methodImplQ (h : Value) (w : World) : (Go.method 349 185 (.agg #[h]) "Implements").run Tryz.prog w = .ok (199, .agg #[h]) w := by kernel_rfl
theorem methodAssQ (h : Value) (w : World) : (Go.method 349 185 (.agg #[h]) "AssignableTo").run Tryz.prog w = .ok (196, .agg #[h]) w := by kernel_rfl
theorem elemP (w:World):(ReflectliteType.method ReflectliteType.elem #[.agg #[.pointer (some ⟨2,130,none⟩)]]).run Tryz.prog w=.ok (.iface 185 (.agg #[.pointer (some ⟨2,128,none⟩)])) w:=by kernel_rfl
theorem implT (w : World) : (ReflectliteType.relation "Implements" ReflectliteType.implements_ #[.agg #[.pointer (some ⟨2, 128, none⟩)], .iface 185 (.agg #[.pointer (some ⟨2, 113, none⟩)])]).run Tryz.prog w = .ok (.bool true) w := by kernel_rfl
theorem typeOfT (v:Value) (w:World):(ReflectliteType.typeOf #[.iface 128 v]).run Tryz.prog w=.ok (.iface 185 (.agg #[.pointer (some ⟨2,128,none⟩)])) w:=by kernel_rfl
theorem assT (w : World) : (ReflectliteType.relation "AssignableTo" ReflectliteType.assignableTo #[.agg #[.pointer (some ⟨2, 128, none⟩)], .iface 185 (.agg #[.pointer (some ⟨2, 128, none⟩)])]).run Tryz.prog w = .ok (.bool true) w := by kernel_rfl
theorem valueOfT (c:Int) (w:World):(ReflectliteValue.unpack (.iface 128 (.int .i64 c))).run Tryz.prog w
  =.ok (.agg #[.pointer (some ⟨2,128,none⟩),.pointer (some ⟨w.heap.size,0,none⟩),.int .u64 134]) (w.alloc (.cells #[.int .i64 c] 128)):=by kernel_rfl
theorem elemOfP (w:World):(Rtype.elem? 130).run Tryz.prog w=.ok (some 128) w:=by kernel_rfl
theorem mkT (p:Addr) (w:World):(ReflectliteValue.mk 128 p ReflectliteValue.flagAddr).run Tryz.prog w=.ok (.agg #[.pointer (some ⟨2,128,none⟩),.pointer (some p),.int .u64 390]) w:=by kernel_rfl
theorem elemVP (a p:Addr) (W:World) (ha:W.cell? a=some (.pointer (some p))) :
  (ReflectliteValue.method (ReflectliteValue.valueError "reflectlite.Value.Elem" 0) ReflectliteValue.elem #[.agg #[.pointer (some ⟨2, 130, none⟩), .pointer (some a), .int .u64 150]]).run Tryz.prog W
   =.ok (.agg #[.pointer (some ⟨2,128,none⟩),.pointer (some p),.int .u64 390]) W:=by
 rw[rlmQ];simp only[Sem.run_bind,partsP,Result.andThen];simp[ReflectliteValue.elem,loadVar,isAgg,underlying,Tryz.underlying130,ha,Result.andThen,elemOfP,mkT]
theorem rlsQ (v x:Value):ReflectliteValue.set #[v,x]=(do
  let (some (dst,a,fl),some (src,b,_)):=(←ReflectliteValue.parts v,←ReflectliteValue.parts x)
   | unsupported (.noEntry "extern/(internal/reflectlite.Value).Set.zeroValue")
  if fl / ReflectliteValue.flagAddr % 2 == 0 then unsupported (.noEntry "extern/(internal/reflectlite.Value).Set.unaddressable")
  let val ←loadVar src b
  if ←Rtype.directlyAssignable dst src then storeVar dst a val
  else if ←Rtype.implements dst src then
   if(←Rtype.kind src) == 20 then
    match val with
    | .nilIface => unsupported (.noEntry "extern/reflectlite: a nil value of one interface type handed on as a value of another")
    |_=>storeVar dst a val
   else storeVar dst a (.iface src val)
  else panicString ("reflectlite.Set: value of type " ++ (← Rtype.spelt src) ++ " is not assignable to type " ++ (← Rtype.spelt dst))
  pure (.tuple #[])):=rfl
theorem partsTa (a:Addr) (w:World):(ReflectliteValue.parts (.agg #[.pointer (some ⟨2,128,none⟩),.pointer (some a),.int .u64 390])).run Tryz.prog w=.ok (some (128,a,390)) w:=by kernel_rfl
theorem partsT (a:Addr) (w:World):(ReflectliteValue.parts (.agg #[.pointer (some ⟨2,128,none⟩),.pointer (some a),.int .u64 134])).run Tryz.prog w=.ok (some (128,a,134)) w:=by kernel_rfl
theorem directT (w:World):(Rtype.directlyAssignable 128 128).run Tryz.prog w=.ok true w:=by kernel_rfl
theorem setT (ta b:Addr) (c:Int) (old:Value) (W:World) (hb:W.cell? b=some (.int .i64 c)) (ht:W.cell? ta=some old) (hf:W.frozen? ta=false) :
  (ReflectliteValue.set #[.agg #[.pointer (some ⟨2,128,none⟩),.pointer (some ta),.int .u64 390],.agg #[.pointer (some ⟨2,128,none⟩),.pointer (some b),.int .u64 134]]).run Tryz.prog W
   =.ok (.tuple #[]) (W.setCell ta (.int .i64 c)):=by
 rw[rlsQ];simp only[Sem.run_bind,partsTa,partsT,Result.andThen];simp[ReflectliteValue.flagAddr,loadVar,isAgg,underlying,Tryz.underlying128,hb,Result.andThen,directT,storeVar,Value.cells,storeCells,Addr.add];rw[run_store Tryz.prog W ta _ _ (by rfl)];simp[ht,hf]
def ErrIn (w:World):Prop:=w.cell? ⟨0,0,none⟩=some (.iface 185 (.agg #[.pointer (some ⟨2,113,none⟩)]))
set_option maxHeartbeats 4000000 in
theorem as_hit (c:Int) (t:Addr) (old:Value) (w:World) (hg:ErrIn w) (ht0:w.cell? t=some old) (hf0:w.frozen? t=false) :
  Calls Tryz.prog 93 #[.iface 128 (.int .i64 c),.iface 130 (.pointer (some t))] w fun ev w'=>ev=.returned (.bool true)∧w'=((((w.alloc (.cells #[.pointer (some t)] 130)).alloc (.cells #[.pointer (some ⟨2,130,none⟩),.pointer (some ⟨w.heap.size,0,none⟩),.int .u64 150] 155)).alloc (.cells #[.pointer (some ⟨2,130,none⟩),.pointer (some ⟨w.heap.size,0,none⟩),.int .u64 150] 155)).alloc (.cells #[.int .i64 c] 128)).setCell t (.int .i64 c):=by
 unfold ErrIn at hg;have h6:=@run_callFunc_extern Tryz.prog 112 _ (fun args=>ReflectliteValue.unpack (args.getD 0 (.tuple #[]))) Tryz.func112 (by kernel_rfl) (by kernel_rfl) (by kernel_rfl) (by kernel_rfl)
 have h7 := @run_callFunc_extern Tryz.prog 113 _ (ReflectliteValue.methodAny (ReflectliteValue.valueError "reflectlite.Value.Type" 0) (fun t _ _ _ => ReflectliteType.toType t)) Tryz.func113 (by kernel_rfl) (by kernel_rfl) (by kernel_rfl) (by kernel_rfl)
 have h8 := @run_callFunc_extern Tryz.prog 114 _ (ReflectliteValue.method (ReflectliteValue.valueError "reflectlite.Value.IsNil" 0) ReflectliteValue.isNil) Tryz.func114 (by kernel_rfl) (by kernel_rfl) (by kernel_rfl) (by kernel_rfl)
 have h27:=@run_callFunc_extern Tryz.prog 188 _ (ReflectliteType.abiMethod fun t=>do pure (.int .u8 (←Rtype.kind t))) Tryz.func188 (by kernel_rfl) (by kernel_rfl) (by kernel_rfl) (by kernel_rfl);have h37:=@run_callFunc_extern Tryz.prog 198 _ (ReflectliteType.method ReflectliteType.elem) Tryz.func198 (by kernel_rfl) (by kernel_rfl) (by kernel_rfl) (by kernel_rfl)
 have h38 := @run_callFunc_extern Tryz.prog 199 _ (ReflectliteType.relation "Implements" ReflectliteType.implements_) Tryz.func199 (by kernel_rfl) (by kernel_rfl) (by kernel_rfl) (by kernel_rfl)
 have h10:=@run_callFunc_extern Tryz.prog 142 _ ReflectliteType.typeOf Tryz.func142 (by kernel_rfl) (by kernel_rfl) (by kernel_rfl) (by kernel_rfl)
 have h35 := @run_callFunc_extern Tryz.prog 196 _ (ReflectliteType.relation "AssignableTo" ReflectliteType.assignableTo) Tryz.func196 (by kernel_rfl) (by kernel_rfl) (by kernel_rfl) (by kernel_rfl)
 have h11 := @run_callFunc_extern Tryz.prog 143 _ (ReflectliteValue.method (ReflectliteValue.valueError "reflectlite.Value.Elem" 0) ReflectliteValue.elem) Tryz.func143 (by kernel_rfl) (by kernel_rfl) (by kernel_rfl) (by kernel_rfl)
 have h12:=@run_callFunc_extern Tryz.prog 144 _ ReflectliteValue.set Tryz.func144 (by kernel_rfl) (by kernel_rfl) (by kernel_rfl) (by kernel_rfl);have tO:=typeOfT;have mA:=methodAssQ;have a25:=assT;have v25:=valueOfT;have f6:=valueOfP;have f7:=typeP;have mK:=methodKindQ;have mE:=methodElemQ;have mI:=methodImplQ;have k27:=kindP;have k25:=kindT;have e27:=elemP;have i25:=implT;have n8:=isNilP ⟨w.heap.size,0,none⟩ t ((w.alloc (.cells #[.pointer (some t)] 130)).alloc (.cells #[.pointer (some ⟨2,130,none⟩),.pointer (some ⟨w.heap.size,0,none⟩),.int .u64 150] 155)) (by simp);have hlt:=block_lt_of_cell (a:=⟨0,0,none⟩) hg;have hg2:((w.alloc (.cells #[.pointer (some t)] 130)).alloc (.cells #[.pointer (some ⟨2,130,none⟩),.pointer (some ⟨w.heap.size,0,none⟩),.int .u64 150] 155)).cell? ⟨0,0,none⟩=some (.iface 185 (.agg #[.pointer (some ⟨2,113,none⟩)])):=by
  rw[World.cell?_alloc_lt _ _ ⟨0,0,none⟩ (by simp),World.cell?_alloc_lt _ _ ⟨0,0,none⟩ hlt];exact hg
 have htl:=block_lt_of_cell ht0;have el:=elemVP ⟨w.heap.size,0,none⟩ t (((w.alloc (.cells #[.pointer (some t)] 130)).alloc (.cells #[.pointer (some ⟨2,130,none⟩),.pointer (some ⟨w.heap.size,0,none⟩),.int .u64 150] 155)).alloc (.cells #[.pointer (some ⟨2,130,none⟩),.pointer (some ⟨w.heap.size,0,none⟩),.int .u64 150] 155)) (by rw[World.cell?_alloc_lt _ _ ⟨w.heap.size,0,none⟩ (by simp;omega),World.cell?_alloc_lt _ _ ⟨w.heap.size,0,none⟩ (by simp)];simp);have st:=setT t ⟨w.heap.size+1+1+1,0,none⟩ c old ((((w.alloc (.cells #[.pointer (some t)] 130)).alloc (.cells #[.pointer (some ⟨2,130,none⟩),.pointer (some ⟨w.heap.size,0,none⟩),.int .u64 150] 155)).alloc (.cells #[.pointer (some ⟨2,130,none⟩),.pointer (some ⟨w.heap.size,0,none⟩),.int .u64 150] 155)).alloc (.cells #[.int .i64 c] 128))
  (by rw[World.cell?_alloc_at _ _ _ _ (by simp)];rfl)
  (by rw[World.cell?_alloc_lt _ _ t (by simp;omega),World.cell?_alloc_lt _ _ t (by simp;omega),World.cell?_alloc_lt _ _ t (by simp;omega),World.cell?_alloc_lt _ _ t htl];exact ht0)
  (by rw[World.frozen?_alloc_old _ _ t (by simp;omega),World.frozen?_alloc_old _ _ t (by simp;omega),World.frozen?_alloc_old _ _ t (by simp;omega),World.frozen?_alloc_old _ _ t (Nat.ne_of_lt htl)];exact hf0)
 go_enter Tryz.func93,Tryz.ntmps93;go_wp2;refine wp_loop_rounds 1 ?_;rw[rounds_succ];go_wp2
 go_ret
 exact⟨rfl,rfl⟩
set_option maxHeartbeats 4000000 in
theorem cod_any (c:Int) (w:World) (hg:ErrIn w) :
  Calls Tryz.prog 75 #[.iface 128 (.int .i64 c)] w fun e w'=>e=.returned (.int .i64 c)∧Below w.heap.size w w':=by
 have hg1:ErrIn (w.alloc (.cells #[.int .i64 0] 128)):=by
  have hlt:=block_lt_of_cell (a:=⟨0,0,none⟩) hg;unfold ErrIn at hg ⊢;rw[World.cell?_alloc_lt _ _ ⟨0,0,none⟩ hlt];exact hg
 have HA:=as_hit c ⟨w.heap.size,0,none⟩ (.int .i64 0) (w.alloc (.cells #[.int .i64 0] 128)) hg1 (by simp) (by simp);obtain⟨t,ht⟩:∃ t:Addr,t=⟨w.heap.size,0,none⟩:=⟨_,rfl⟩
 have HB0:Hid (Below w.heap.size w (w.alloc (.cells #[.int .i64 0] 128))):=(Below.refl _ _).alloc (Nat.le_refl _) _;have HZ:Hid ((w.alloc (.cells #[.int .i64 0] 128)).heap.size=w.heap.size+1):=by show _=_;simp
 have HC0:Hid ((w.alloc (.cells #[.int .i64 0] 128)).cell? ⟨w.heap.size,0,none⟩=some (.int .i64 0)):=by show _=_;simp
 clear hg hg1 ht t;go_enter Tryz.func75,Tryz.ntmps75;go_wp2_with fail;generalize w.alloc (.cells #[.int .i64 0] 128)=w0 at *;refine HA.mono ?_;rintro e w1 ⟨rfl,hw1⟩;have HBA:Below w0.heap.size w0 ((((w0.alloc (.cells #[.pointer (some ⟨w.heap.size,0,none⟩)] 130)).alloc (.cells #[.pointer (some ⟨2,130,none⟩),.pointer (some ⟨w0.heap.size,0,none⟩),.int .u64 150] 155)).alloc (.cells #[.pointer (some ⟨2,130,none⟩),.pointer (some ⟨w0.heap.size,0,none⟩),.int .u64 150] 155)).alloc (.cells #[.int .i64 c] 128)):=((((Below.refl _ _).alloc (Nat.le_refl _) _).alloc (by simp) _).alloc (by simp;omega) _).alloc (by simp;omega) _;have HCA:((((w0.alloc (.cells #[.pointer (some ⟨w.heap.size,0,none⟩)] 130)).alloc (.cells #[.pointer (some ⟨2,130,none⟩),.pointer (some ⟨w0.heap.size,0,none⟩),.int .u64 150] 155)).alloc (.cells #[.pointer (some ⟨2,130,none⟩),.pointer (some ⟨w0.heap.size,0,none⟩),.int .u64 150] 155)).alloc (.cells #[.int .i64 c] 128)).cell? ⟨w.heap.size,0,none⟩=some (.int .i64 0):=by rw[HBA.cell (p:=⟨w.heap.size,0,none⟩) (by rw[HZ.out];exact Nat.lt_succ_self _)];exact HC0.out
 have hc1:w1.cell? ⟨w.heap.size,0,none⟩=some (.int .i64 c):=by rw[hw1];exact World.cell?_setCell_same' _ _ _ (by rw[HCA];rfl)
 have HB1:Hid (Below w.heap.size w w1):=by
  show Below _ _ _
  rw[hw1];exact(HB0.out.trans (HBA.mono (by rw[HZ.out];omega))).trans (((Wr.refl w.heap.size _).setCell 0 _).below (Nat.le_refl _))
 clear HBA HCA hw1 HA;go_wp2
 go_ret
 exact⟨rfl,HB1.out⟩
end Go.Proofs.YtncomnkdlpoelaaGreatDoor
