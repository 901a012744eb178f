import Derived.Test.YtilpkdnoaldfmaaGreatDoorMRows8
import Derived.Test.YtilpkdnoaldfmaaGreatDoorMSvS
import Derived.Test.YtilpkdnoaldfmaaGreatDoorMSwA
import Derived.Defers
import Derived.Recover
import Derived.WalkLawsBesides
namespace Go.Proofs.YtilpkdnoaldfmaaGreatDoor
open Go.ChangeShapes Go.WideShapes Go.ChangeAt Go.RowKit
set_option linter.unusedVariables false
theorem part_u8 (w:World) (xs:List Int) (i:Nat) (hi:i<xs.length):(part 5 (xs.map (Value.int .u8)).toArray i).run Tryz.prog w=.ok (.int .u8 (xs.getD i 0)) w:=by
 have hagg:(isAgg 5).run Tryz.prog w=.ok false w:=by
  unfold isAgg;rw[Sem.run_bind,run_underlying Tryz.underlying5 w];rfl
 simp[part,hagg,hi]
theorem sizeU8 (w:World):(sizeOf 5).run Tryz.prog w=.ok 1 w:=by
 have h:(Tryz.prog.info? 5).map (·.size)=some 1:=by kernel_rfl
 cases hq:Tryz.prog.info? 5 with
 |none=>simp[hq] at h
 |some i=>
  have hs:i.size=1:=by simpa[hq] using h
  simp[sizeOf,typeInfo,hq,hs]
theorem run_eqArr (w:World) (d:Nat) (xs ys:List Int) (hx:xs.length=64) (hy:ys.length=64) :
  (Op.equalIn (d+2) 65 (.agg (xs.map (Value.int .u8)).toArray) (.agg (ys.map (Value.int .u8)).toArray)).run Tryz.prog w=.ok (decide (xs=ys)) w:=by
 have key:decide (xs=ys)=(List.range' 0 64).all (fun i=>xs.getD i 0 == ys.getD i 0):=by
  rw[Bool.eq_iff_iff];simp only[decide_eq_true_eq,List.all_eq_true,List.mem_range',beq_iff_eq];constructor
  ·rintro rfl _ _;rfl
  ·intro h;apply List.ext_getElem (by omega);intro i h1 h2;have:=h i ⟨i,by omega,by omega⟩;simpa[h1,h2] using this
 rw[key];unfold Op.equalIn;simp only[Sem.run_bind,run_underlying Tryz.underlying65,Result.andThen_ok,sizeU8,Nat.mul_one,Std.Legacy.Range.forIn_eq_forIn_range',Std.Legacy.Range.size,Nat.sub_zero,Nat.add_sub_cancel,Nat.div_one];have hl:∀ i∈List.range' 0 64,i<64:=fun i hi=>by rw[List.mem_range'] at hi;obtain⟨j,_,rfl⟩:=hi;omega
 revert hl;generalize List.range' 0 64=l;intro hl
 induction l with
 |nil=>simp
 |cons i l ih=>
  have hi:=hl i (List.mem_cons_self ..);have ih':=ih (fun j hj=>hl j (List.mem_cons_of_mem _ hj));simp only[List.forIn_cons,Sem.run_bind,part_u8 w xs i (by omega),part_u8 w ys i (by omega),Result.andThen_ok,run_equalIn_int w d 5 .u8 .u8 _ _ Tryz.underlying5,List.all_cons];cases hb:(xs.getD i 0 == ys.getD i 0)
  ·simp
  ·simp only[Bool.not_true,Bool.false_eq_true,if_false,Sem.run_pure,Result.andThen_ok,Bool.true_and];exact ih'
theorem run_neqGuard (w:World) (x y:Operand) (xs ys:Array Value):(eqGuard .neq 65 x y (.agg xs) (.agg ys)).run Tryz.prog w=.ok () w:=
 run_eqGuard_agg w .neq 65 x y xs ys (by kernel_rfl)
theorem sizeSecR (w:World):(sizeOf 65).run Tryz.prog w=.ok 64 w:=by
 have h:(Tryz.prog.info? 65).map (·.size)=some 64:=by kernel_rfl
 cases hq:Tryz.prog.info? 65 with
 |none=>simp[hq] at h
 |some i=>
  have hs:i.size=64:=by simpa[hq] using h
  simp[sizeOf,typeInfo,hq,hs]
theorem part_sec (w:World) (xs:List Int) (a:Nat):(part 65 (xs.map (Value.int .u8)).toArray a).run Tryz.prog w=.ok (.agg (((xs.drop a).take 64).map (Value.int .u8)).toArray) w:=by
 have hagg:(isAgg 65).run Tryz.prog w=.ok true w:=by
  unfold isAgg;rw[Sem.run_bind,run_underlying Tryz.underlying65 w];rfl
 have he:(xs.map (Value.int .u8)).toArray.extract a (a+64)=(((xs.drop a).take 64).map (Value.int .u8)).toArray:=by
  rw[List.extract_toArray,List.extract_eq_take_drop,Nat.add_sub_cancel_left,List.map_take,List.map_drop]
 simp[part,hagg]
theorem eq_two (w:World) (d:Nat) (X Y:Array Value) (X0 Y0 X1 Y1:Value) (c0 c1:Bool)
  (p0:(part 65 X 0).run Tryz.prog w=.ok X0 w) (q0:(part 65 Y 0).run Tryz.prog w=.ok Y0 w) (p1:(part 65 X 64).run Tryz.prog w=.ok X1 w) (q1:(part 65 Y 64).run Tryz.prog w=.ok Y1 w)
  (e0:(Op.equalIn (d+2) 65 X0 Y0).run Tryz.prog w=.ok c0 w) (e1:(Op.equalIn (d+2) 65 X1 Y1).run Tryz.prog w=.ok c1 w) :
  (Op.equalIn (d+3) 73 (.agg X) (.agg Y)).run Tryz.prog w=.ok (c0 && c1) w:=by
 unfold Op.equalIn;simp only[Sem.run_bind,run_underlying Tryz.underlying73,Result.andThen_ok,sizeSecR,Std.Legacy.Range.forIn_eq_forIn_range',Std.Legacy.Range.size,Nat.sub_zero,Nat.add_sub_cancel,Nat.div_one];rw[show List.range' 0 2=[0,1] from rfl,List.forIn_cons];simp only[Sem.run_bind,Nat.zero_mul,p0,q0,Result.andThen_ok,e0];cases c0
 ·simp only[Bool.not_false,if_true,Sem.run_pure,Result.andThen_ok,Bool.false_and]
 ·simp only[Bool.not_true,Bool.false_eq_true,if_false,Sem.run_pure,Result.andThen_ok,Bool.true_and];rw[List.forIn_cons];simp only[Sem.run_bind,Nat.one_mul,p1,q1,Result.andThen_ok,e1];cases c1
  ·simp only[Bool.not_false,if_true,Sem.run_pure,Result.andThen_ok]
  ·simp only[Bool.not_true,Bool.false_eq_true,if_false,Sem.run_pure,Result.andThen_ok,List.forIn_nil]
theorem slot_key (xs ys:List Int) (hx:xs.length=128) (hy:ys.length=128):decide (xs=ys)=(decide (xs.take 64=ys.take 64) && decide ((xs.drop 64).take 64=(ys.drop 64).take 64)):=by
 have hx1:(xs.drop 64).take 64=xs.drop 64:=List.take_of_length_le (by simp;omega);have hy1:(ys.drop 64).take 64=ys.drop 64:=List.take_of_length_le (by simp;omega);rw[hx1,hy1,Bool.eq_iff_iff];simp only[decide_eq_true_eq,Bool.and_eq_true];constructor
 ·rintro rfl;exact⟨rfl,rfl⟩
 ·rintro⟨h1,h2⟩;rw[←List.take_append_drop 64 xs,←List.take_append_drop 64 ys,h1,h2]
theorem run_eqSlot (w:World) (d:Nat) (xs ys:List Int) (hx:xs.length=128) (hy:ys.length=128) :
  (Op.equalIn (d+3) 73 (.agg (xs.map (Value.int .u8)).toArray) (.agg (ys.map (Value.int .u8)).toArray)).run Tryz.prog w=.ok (decide (xs=ys)) w:=by
 rw[slot_key xs ys hx hy];exact eq_two w d _ _ _ _ _ _ _ _ (part_sec w xs 0) (part_sec w ys 0) (part_sec w xs 64) (part_sec w ys 64) (run_eqArr w d (xs.take 64) (ys.take 64) (by simp;omega) (by simp;omega)) (run_eqArr w d ((xs.drop 64).take 64) ((ys.drop 64).take 64) (by simp;omega) (by simp;omega))
end Go.Proofs.YtilpkdnoaldfmaaGreatDoor
namespace Go.Proofs.YtilpkdnoaldfmaaGreatDoor
open Go.ChangeShapes Go.WideShapes Go.ChangeAt Go.RowKit
set_option linter.unusedVariables false
variable {w w':World} {g:Nat} {d u:List Int} {k:Int} {v:Value} {D U:Nat→Prop} {T:List Int} {n H B:Nat}
set_option maxRecDepth 100000 in
set_option maxHeartbeats 1000000 in
theorem applyAck_any (a:Int) (a0:0≤a) (a1:a≤4294967295) (hb:Bk w g d u k v) (hd:SetB d D) (hu:SetB u U) (hv:TapV B w v T n) (h0:0≤k) (h1:k≤1048576) (hn:n≤1048576) (hH:H≤g) (hgB:NeG g v) :
  Calls Tryz.prog 97 #[.pointer (some ⟨g,0,none⟩),.int .i64 a] w (ApP H B g w (decide (a≤k+n)) D U (max a k) (T.drop (ackM k a*2)) (n-ackM k a)):=by
 obtain⟨ad,c,rfl⟩:=hv.slice;have HB:Hid (Bk w g d u k (.slice ad n c)):=hb;have HV:Hid (TapV B w (.slice ad n c) T n):=hv;have HSD:Hid (SetB d D):=hd;have HSU:Hid (SetB u U):=hu;clear hb hv hd hu;go_enter Tryz.func97,Tryz.ntmps97;go_wp2_with fail;refine(admitted_any ad n c HB.out h0 h1 hn).mono ?_;rintro e w1 ⟨rfl,q,rfl⟩;have HB1:Hid (Bk (w.drewN q) g d u k (.slice ad n c)):=HB.out.drew q;have HV1:Hid (TapV B (w.drewN q) (.slice ad n c) T n):=HV.out.drew q;have HW1:Hid (Below H w (w.drewN q)):=below_dq (Below.refl _ _) q;clear HB HV;generalize w.drewN q=w1 at *;by_cases hle:a≤k+n
 ·have HD:Hid (decide (a≤k+n)=true):=decide_eq_true hle;have hle':¬ (a>k+n):=by omega
  have c0:=HB1.out.ck;have f0:=HB1.out.fz 64;have HC:Hid (∀(e:Ending) (w2:World),(e=.returned (.tuple #[])∧Below H w1 w2∧∃ v',Bk w2 g d u (k+ackM k a) v'∧TapV B w2 v' (T.drop (ackM k a*2)) (n-ackM k a)∧NeG g v')→ApP H B g w (decide (a≤k+n)) D U (max a k) (T.drop (ackM k a*2)) (n-ackM k a) (.returned (.bool true)) w2):=by
   rintro e w2 ⟨rfl,r1,v',r2,r3,r4⟩;refine⟨by rw[HD.out],HW1.out.trans r1,fun _=>⟨d,u,v',?_,HSD.out,HSU.out,r3,r4⟩⟩;have e:k+(ackM k a:Int)=max a k:=by unfold ackM;omega
   rw[←e];exact r2
  have CA:=ack_any (ackM k a) HB1.out HV1.out h0 h1 (by unfold ackM;omega) hn hH hgB;by_cases hka:k≤a
  ·have e:k+(ackM k a:Int)=a:=by unfold ackM;omega
   rw[e] at CA;clear e;go_wp2_with fail;refine CA.mono ?_;intro e w2 h;have HF:=HC.out e w2 (by have e':k+(ackM k a:Int)=a:=by unfold ackM;omega
                                                                                                rw[e'];exact h)
   obtain⟨rfl,_⟩:=h;have HF':Hid _:=HF;clear HF HC CA HB1 HV1 HW1 HSD HSU c0 f0;go_wp2
   go_ret
   exact HF'.out
  ·have e:k+(ackM k a:Int)=k:=by unfold ackM;omega
   rw[e] at CA;clear e;go_wp2_with fail;refine CA.mono ?_;intro e w2 h;have HF:=HC.out e w2 (by have e':k+(ackM k a:Int)=k:=by unfold ackM;omega
                                                                                                rw[e'];exact h)
   obtain⟨rfl,_⟩:=h;have HF':Hid _:=HF;clear HF HC CA HB1 HV1 HW1 HSD HSU c0 f0;go_wp2
   go_ret
   exact HF'.out
 ·have HD:Hid (decide (a≤k+n)=false):=decide_eq_false hle;have hle':a>k+n:=by omega
  have HF:Hid (ApP H B g w (decide (a≤k+n)) D U (max a k) (T.drop (ackM k a*2)) (n-ackM k a) (.returned (.bool false)) w1):=⟨by rw[HD.out],HW1.out,fun h=>by rw[HD.out] at h;cases h⟩
  clear HB1 HV1 HSD HSU;go_wp2
  go_ret
  exact HF.out
end Go.Proofs.YtilpkdnoaldfmaaGreatDoor
namespace Go.Proofs.YtilpkdnoaldfmaaGreatDoor
open Go.ChangeShapes Go.WideShapes Go.ChangeAt Go.RowKit
set_option linter.unusedVariables false
variable {w w':World} {g:Nat} {d u:List Int} {k:Int} {v:Value} {D U:Nat→Prop} {T:List Int} {n H B:Nat}
set_option maxRecDepth 100000 in
set_option maxHeartbeats 1000000 in
theorem denyAdd_any (s:Nat) (hs:s<256) (hnot:¬ D s) (hfull:¬ popS d 32=16) (hb:Bk w g d u k v) (hd:SetB d D) (hu:SetB u U) (hv:TapV B w v T n) (hH:H≤g) (hgB:NeG g v) :
  Calls Tryz.prog 96 #[.pointer (some ⟨g,0,none⟩),.int .i64 s,.int .u32 1] w (ApP H B g w true (fun x=>D x∨x=s) U k T n):=by
 have HQ:Hid (¬ (s<256∧D s)):=fun h=>hnot h.2
 have HP:Hid (decide (popS d 32=16)=false):=decide_eq_false hfull;have HSO:Hid (serOk (s:Int)=true):=ser_yes hs;have HB:Hid (Bk w g d u k v):=hb;have HSD:Hid (SetB d D):=hd;have HF:∀ q,Hid (ApP H B g w true (fun x=>D x∨x=s) U k T n (.returned (.bool true)) ((w.setCell ⟨g,0+s/8,none⟩ (.int .u8 ((addB d s).getD (s/8) 0))).drewN q)):=fun q=>by
  have hw:Wr g w ((w.setCell ⟨g,0+s/8,none⟩ (.int .u8 ((addB d s).getD (s/8) 0))).drewN q):=((Wr.refl _ _).setCell _ _).drewN _;exact⟨rfl,hw.below hH,fun _=>⟨_,_,_,(hb.addD s hs).drew q,hd.add s hs,hu,hv.wr hw hgB,hgB⟩⟩
 clear hb hd hu hv hnot hfull;go_enter Tryz.func96,Tryz.ntmps96;go_wp2_with fail;refine(isSerial_any _ _).mono ?_;rintro e w1 ⟨rfl,rfl⟩;rw[HSO.out];go_wp2_with fail;refine(hasNo_any s HB.out.batd HSD.out HQ.out).mono ?_;rintro e w2 ⟨rfl,rfl⟩;go_wp2_with fail;refine(full_any HB.out).mono ?_;rintro e w3 ⟨rfl,rfl⟩;rw[HP.out];go_wp2_with fail;refine(addS_any g 0 s d _ hs HB.out.batd).mono ?_;rintro e w4 ⟨rfl,q,rfl⟩;have H2:=HF q;clear HF HB HSD HQ HP HSO;generalize (w3.setCell ⟨g,0+s/8,none⟩ (.int .u8 ((addB d s).getD (s/8) 0))).drewN q=w4 at *;go_wp2
 go_ret
 exact H2.out
set_option maxRecDepth 100000 in
set_option maxHeartbeats 1000000 in
theorem denyRem_any (s:Nat) (hs:s<256) (hin:D s) (hb:Bk w g d u k v) (hd:SetB d D) (hu:SetB u U) (hv:TapV B w v T n) (hH:H≤g) (hgB:NeG g v) :
  Calls Tryz.prog 96 #[.pointer (some ⟨g,0,none⟩),.int .i64 s,.int .u32 0] w (ApP H B g w true (fun x=>D x∧x≠s) U k T n):=by
 have HQ:Hid (s<256∧D s):=⟨hs,hin⟩
 have HB:Hid (Bk w g d u k v):=hb;have HSD:Hid (SetB d D):=hd;have HF:∀ q,Hid (ApP H B g w true (fun x=>D x∧x≠s) U k T n (.returned (.bool true)) ((w.setCell ⟨g,0+s/8,none⟩ (.int .u8 ((remB d s).getD (s/8) 0))).drewN q)):=fun q=>by
  have hw:Wr g w ((w.setCell ⟨g,0+s/8,none⟩ (.int .u8 ((remB d s).getD (s/8) 0))).drewN q):=((Wr.refl _ _).setCell _ _).drewN _;exact⟨rfl,hw.below hH,fun _=>⟨_,_,_,(hb.remD s hs).drew q,hd.rem s hs,hu,hv.wr hw hgB,hgB⟩⟩
 clear hb hd hu hv hin;go_enter Tryz.func96,Tryz.ntmps96;go_wp2_with fail;refine(hasYes_any s HB.out.batd HSD.out HQ.out).mono ?_;rintro e w2 ⟨rfl,rfl⟩;go_wp2_with fail;refine(remS_any g 0 s d _ hs HB.out.batd).mono ?_;rintro e w4 ⟨rfl,q,rfl⟩;have H2:=HF q;clear HF HB HSD HQ;generalize (w2.setCell ⟨g,0+s/8,none⟩ (.int .u8 ((remB d s).getD (s/8) 0))).drewN q=w4 at *;go_wp2
 go_ret
 exact H2.out
set_option maxRecDepth 100000 in
set_option maxHeartbeats 1000000 in
theorem denyNo_any (s b:Nat) (hno1:¬ (b=1∧s<256∧¬ D s∧¬ popS d 32=16)) (hno0:¬ (b=0∧s<256∧D s)) (hbb:b<4294967296) (hb:Bk w g d u k v) (hd:SetB d D) :
  Calls Tryz.prog 96 #[.pointer (some ⟨g,0,none⟩),.int .i64 s,.int .u32 b] w fun e w'=>e=.returned (.bool false)∧w'=w:=by
 have HB:Hid (Bk w g d u k v):=hb;have HSD:Hid (SetB d D):=hd;clear hb hd;by_cases h1:b=1
 ·subst h1;by_cases hs:s<256
  ·have HSO:Hid (serOk (s:Int)=true):=ser_yes hs;by_cases hin:D s
   ·have HQ:Hid (s<256∧D s):=⟨hs,hin⟩
    clear hno1 hno0 hin;go_enter Tryz.func96,Tryz.ntmps96;go_wp2_with fail;refine(isSerial_any _ _).mono ?_;rintro e w1 ⟨rfl,rfl⟩;rw[HSO.out];go_wp2_with fail;refine(hasYes_any s HB.out.batd HSD.out HQ.out).mono ?_;rintro e w2 ⟨rfl,rfl⟩;clear HB HSD HQ HSO;go_wp2
    go_ret
    exact⟨rfl,rfl⟩
   ·have HP:Hid (decide (popS d 32=16)=true):=decide_eq_true (Classical.byContradiction fun h=>hno1 ⟨rfl,hs,hin,h⟩);have HQ:Hid (¬ (s<256∧D s)):=fun h=>hin h.2
    clear hno1 hno0 hin;go_enter Tryz.func96,Tryz.ntmps96;go_wp2_with fail;refine(isSerial_any _ _).mono ?_;rintro e w1 ⟨rfl,rfl⟩;rw[HSO.out];go_wp2_with fail;refine(hasNo_any s HB.out.batd HSD.out HQ.out).mono ?_;rintro e w2 ⟨rfl,rfl⟩;go_wp2_with fail;refine(full_any HB.out).mono ?_;rintro e w3 ⟨rfl,rfl⟩;rw[HP.out];clear HB HSD HQ HSO HP;go_wp2
    go_ret
    exact⟨rfl,rfl⟩
  ·have HSO:Hid (serOk (s:Int)=false):=ser_no hs;clear hno1 hno0 hs;go_enter Tryz.func96,Tryz.ntmps96;go_wp2_with fail;refine(isSerial_any _ _).mono ?_;rintro e w1 ⟨rfl,rfl⟩;rw[HSO.out];clear HB HSD HSO;go_wp2
   go_ret
   exact⟨rfl,rfl⟩
 ·by_cases h0:b=0
  ·subst h0;have HQ:Hid (¬ (s<256∧D s)):=fun h=>hno0 ⟨rfl,h⟩
   clear hno1 hno0 h1;go_enter Tryz.func96,Tryz.ntmps96;go_wp2_with fail;refine(hasNo_any s HB.out.batd HSD.out HQ.out).mono ?_;rintro e w2 ⟨rfl,rfl⟩;clear HB HSD HQ;go_wp2
   go_ret
   exact⟨rfl,rfl⟩
  ·have h1':¬ ((b:Int)=1):=by omega
   have h0':¬ ((b:Int)=0):=by omega
   clear hno1 hno0 h1 HB HSD;go_enter Tryz.func96,Tryz.ntmps96;go_wp2
   go_ret
   exact⟨rfl,rfl⟩
end Go.Proofs.YtilpkdnoaldfmaaGreatDoor
namespace Go.Proofs.YtilpkdnoaldfmaaGreatDoor
open Go.ChangeShapes Go.WideShapes Go.ChangeAt Go.RowKit
set_option linter.unusedVariables false
variable {w w':World} {g:Nat} {d u:List Int} {k:Int} {v:Value} {D U:Nat→Prop} {T:List Int} {n H B:Nat}
set_option maxRecDepth 100000 in
set_option maxHeartbeats 1000000 in
theorem tapYes_any (s:Nat) (nw:Int) (hs:s<256) (hnu:¬ U s) (hnd:¬ D s) (hb:Bk w g d u k v) (hd:SetB d D) (hu:SetB u U) (hv:TapV B w v T n) (hn:n≤1048576) (hH:H≤g) (hHB:H≤B) (hgB:NeG g v) (hBw:B≤w.heap.size) :
  Calls Tryz.prog 95 #[.pointer (some ⟨g,0,none⟩),.int .i64 s,.int .i64 nw] w (ApP H B g w true D (fun x=>U x∨x=s) k (T++[(s:Int),nw]) (n+1)):=by
 have HSO:Hid (serOk (s:Int)=true):=ser_yes hs;have HB:Hid (Bk w g d u k v):=hb;have HSD:Hid (SetB d D):=hd;have HSU:Hid (SetB u U):=hu;have HNU:Hid (¬ (s<256∧U s)):=fun h=>hnu h.2
 have HND:Hid (¬ (s<256∧D s)):=fun h=>hnd h.2
 have CA:=admit_any s nw hs hb hd hu hv hn hH hHB hgB hBw;clear hb hd hu hv hnu hnd hBw;go_enter Tryz.func95,Tryz.ntmps95;go_wp2_with fail;refine(isSerial_any _ _).mono ?_;rintro e w1 ⟨rfl,rfl⟩;rw[HSO.out];go_wp2_with fail;refine(hasNo_any s HB.out.batu HSU.out HNU.out).mono ?_;rintro e w2 ⟨rfl,rfl⟩;go_wp2_with fail;refine(hasNo_any s HB.out.batd HSD.out HND.out).mono ?_;rintro e w3 ⟨rfl,rfl⟩;go_wp2_with fail;refine CA.mono ?_;rintro e w4 ⟨rfl,hb4,u',v',r1,r2,r3,r4⟩;have HF:Hid (ApP H B g w3 true D (fun x=>U x∨x=s) k (T++[(s:Int),nw]) (n+1) (.returned (.bool true)) w4):=⟨rfl,hb4,fun _=>⟨_,_,_,r1,HSD.out,r2,r3,r4⟩⟩
 clear hb4 r1 r2 r3 CA HB HSD HSU HNU HND HSO;go_wp2
 go_ret
 exact HF.out
set_option maxRecDepth 100000 in
set_option maxHeartbeats 1000000 in
theorem tapNo_any (s:Nat) (nw:Int) (hno:¬ (s<256∧¬ U s∧¬ D s)) (hb:Bk w g d u k v) (hd:SetB d D) (hu:SetB u U) :
  Calls Tryz.prog 95 #[.pointer (some ⟨g,0,none⟩),.int .i64 s,.int .i64 nw] w fun e w'=>e=.returned (.bool false)∧w'=w:=by
 have HB:Hid (Bk w g d u k v):=hb;have HSD:Hid (SetB d D):=hd;have HSU:Hid (SetB u U):=hu;clear hb hd hu;by_cases hs:s<256
 ·have HSO:Hid (serOk (s:Int)=true):=ser_yes hs;by_cases hin:U s
  ·have HQ:Hid (s<256∧U s):=⟨hs,hin⟩
   clear hno hin;go_enter Tryz.func95,Tryz.ntmps95;go_wp2_with fail;refine(isSerial_any _ _).mono ?_;rintro e w1 ⟨rfl,rfl⟩;rw[HSO.out];go_wp2_with fail;refine(hasYes_any s HB.out.batu HSU.out HQ.out).mono ?_;rintro e w2 ⟨rfl,rfl⟩;clear HB HSD HSU HQ HSO;go_wp2
   go_ret
   exact⟨rfl,rfl⟩
  ·have HQ:Hid (¬ (s<256∧U s)):=fun h=>hin h.2
   have HY:Hid (s<256∧D s):=⟨hs,Classical.byContradiction fun h=>hno ⟨hs,hin,h⟩⟩
   clear hno hin;go_enter Tryz.func95,Tryz.ntmps95;go_wp2_with fail;refine(isSerial_any _ _).mono ?_;rintro e w1 ⟨rfl,rfl⟩;rw[HSO.out];go_wp2_with fail;refine(hasNo_any s HB.out.batu HSU.out HQ.out).mono ?_;rintro e w2 ⟨rfl,rfl⟩;go_wp2_with fail;refine(hasYes_any s HB.out.batd HSD.out HY.out).mono ?_;rintro e w3 ⟨rfl,rfl⟩;clear HB HSD HSU HQ HSO HY;go_wp2
   go_ret
   exact⟨rfl,rfl⟩
 ·have HSO:Hid (serOk (s:Int)=false):=ser_no hs;clear hno hs;go_enter Tryz.func95,Tryz.ntmps95;go_wp2_with fail;refine(isSerial_any _ _).mono ?_;rintro e w1 ⟨rfl,rfl⟩;rw[HSO.out];clear HB HSD HSU HSO;go_wp2
  go_ret
  exact⟨rfl,rfl⟩
end Go.Proofs.YtilpkdnoaldfmaaGreatDoor
namespace Go.Proofs.YtilpkdnoaldfmaaGreatDoor
open Go.ChangeShapes Go.WideShapes Go.ChangeAt Go.RowKit
set_option linter.unusedVariables false
def stF (f:Int):Int:=if f>0 then f-1 else f
def lossV:Value:=.iface 134 (.agg #[])
abbrev DC (a b:Value) (f:Int) (d:Bool) (X:List Value):Array Value:=List.toArray (a::b::.int .i64 f::.bool d::X)
theorem row4x {w:World} {g:Nat} {t:TypeId} {a b:Value} {f:Int} {d:Bool} {X:List Value} (h:w.heap[g]?=some (.cells (DC a b f d X) t (0,0))) :
  w.cell? ⟨g,0,none⟩=some a∧w.cell? ⟨g,1,none⟩=some b∧w.cell? ⟨g,2,none⟩=some (.int .i64 f)∧w.cell? ⟨g,3,none⟩=some (.bool d):=
 ⟨by rw[cell_of_row _ _ _ _ _ _ h];rfl,by rw[cell_of_row _ _ _ _ _ _ h];rfl,by rw[cell_of_row _ _ _ _ _ _ h];rfl,by rw[cell_of_row _ _ _ _ _ _ h];rfl⟩
theorem DC.s1 {a b b':Value} {f:Int} {d:Bool} {X:List Value}:(DC a b f d X).setIfInBounds 1 b'=DC a b' f d X:=by simp
theorem DC.s2 {a b:Value} {f f':Int} {d:Bool} {X:List Value}:(DC a b f d X).setIfInBounds 2 (.int .i64 f')=DC a b f' d X:=by simp
theorem DC.s3 {a b:Value} {f:Int} {d d':Bool} {X:List Value}:(DC a b f d X).setIfInBounds 3 (.bool d')=DC a b f d' X:=by simp
set_option maxHeartbeats 400000 in
set_option maxRecDepth 100000 in
theorem burn_yes (D:Nat) (a b:Value) (f:Int) (d:Bool) (w:World) {X:List Value} {T:TypeId} (h:w.heap[D]?=some (.cells (DC a b f d X) T (0,0))) (hf:f=-1∨0<f) (hf2:f≤9223372036854775807) :
  Calls Tryz.prog 48 #[.pointer (some ⟨D,0,none⟩)] w fun e w'=>e=.returned (.tuple #[])∧w'.heap[D]?=some (.cells (DC a b (stF f) d X) T (0,0))∧Wr D w w':=by
 obtain⟨c0,c1,c2,c3⟩:=row4x h;have f2:=frozen_of_row w D 2 _ _ h;rcases hf with rfl|hf
 ·have HH:Hid _:=h;clear h;go_enter Tryz.func48,Tryz.ntmps48;go_wp2
  first|go_end0|go_ret
  exact⟨rfl,HH.out,Wr.refl _ _⟩
 ·have e1:stF f=f-1:=by unfold stF;rw[if_pos hf]
  have hne:(f == 0)=false:=by simp;omega
  have hne1:(f != -1)=true:=by simp;omega
  have hwr:IntKind.i64.wrap (f-1)=f-1:=by rw[IntKind.wrap_i64];omega
  have HH:Hid ((w.setCell ⟨D,2,none⟩ (.int .i64 (f-1))).heap[D]?=some (.cells (DC a b (stF f) d X) T (0,0))):=by
   unfold Hid;rw[e1];exact row_setCell (i:=2) _ h DC.s2
  have HW:Hid (Wr D w (w.setCell ⟨D,2,none⟩ (.int .i64 (f-1)))):=(Wr.refl D w).setCell 2 _;clear h e1;go_enter Tryz.func48,Tryz.ntmps48;go_wp2
  first|go_end0|go_ret
  exact⟨rfl,HH.out,HW.out⟩
set_option maxHeartbeats 400000 in
set_option maxRecDepth 100000 in
theorem burn_no (D:Nat) (a b:Value) (d:Bool) (w:World) {X:List Value} {T:TypeId} (h:w.heap[D]?=some (.cells (DC a b 0 d X) T (0,0))) :
  Calls Tryz.prog 48 #[.pointer (some ⟨D,0,none⟩)] w fun e w'=>e=.panicked [{ v:=lossV,recovered:=false }]∧w'.heap[D]?=some (.cells (DC a b 0 true X) T (0,0))∧Wr D w w':=by
 obtain⟨c0,c1,c2,c3⟩:=row4x h;have f3:=frozen_of_row w D 3 _ _ h;have HH:Hid ((w.setCell ⟨D,3,none⟩ (.bool true)).heap[D]?=some (.cells (DC a b 0 true X) T (0,0))):=row_setCell (i:=3) _ h DC.s3;have HW:Hid (Wr D w (w.setCell ⟨D,3,none⟩ (.bool true))):=(Wr.refl D w).setCell 3 _;clear h;go_enter Tryz.func48,Tryz.ntmps48;go_wp2;exact⟨rfl,rfl,HH.out,HW.out⟩
section
variable {B B':Nat} {w w':World} {v:Value} {zs:List Int} {ps:List PD} {f:Int} {d:Bool}
end
end Go.Proofs.YtilpkdnoaldfmaaGreatDoor
