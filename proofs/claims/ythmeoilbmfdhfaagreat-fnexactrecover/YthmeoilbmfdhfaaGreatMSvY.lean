import Derived.Test.YthmeoilbmfdhfaaGreatMSvQ
import Derived.Deep.AppendSrc
import Derived.Test.YthmeoilbmfdhfaaGreatMSvP
import Derived.Test.YthmeoilbmfdhfaaGreatMReg
namespace Go.Proofs.YthmeoilbmfdhfaaGreat
open Go.ChangeShapes Go.WideShapes Go.ChangeAt Go.RowKit
set_option linter.unusedVariables false
variable {w w':World} {g:Nat} {d u:List Int} {k:Int} {v:Value} {D U:Nat→Prop} {T:List Int} {n H B:Nat}
theorem ack_any (m:Nat) (hb:Bk w g d u k v) (hv:TapV B w v T n) (h0:0≤k) (h1:k≤1048576) (hm:m≤n) (hn:n≤1048576) (hH:H≤g) (hgB:NeG g v) :
  Calls Tryz.prog 161 #[.pointer (some ⟨g,0,none⟩),.int .i64 (k+m)] w fun e w'=>e=.returned (.tuple #[])∧Below H w w'∧∃ v',Bk w' g d u (k+m) v'∧TapV B w' v' (T.drop (m*2)) (n-m)∧NeG g v':=by
 have hv0:=hv;obtain⟨hl,⟨rfl,hn0⟩|⟨t,o,c,rfl,hB,ht,hc,hx,hy⟩⟩:=hv
 ·have hm0:m=0:=by omega
  subst hm0;rw[show k+((0:Nat):Int)=k by omega];refine(ackN_any hb h0 h1).mono ?_;rintro e w1 ⟨rfl,q,rfl⟩;obtain⟨r1,r2,r3⟩:=bk_ack (q:=q) (k':=k) (m:=0) hb hH hgB hv0;exact⟨rfl,r2,_,r1,by simpa using r3,hgB⟩
 ·refine(ackS_any t o n c m hb h0 h1 hm hc hn hx).mono ?_;rintro e w1 ⟨rfl,q,rfl⟩;have hne:NeG g (ackV t o n c m):=fun x hx=>hgB x (by unfold ackV at hx;split at hx<;>exact hx)
  obtain⟨r1,r2,r3⟩:=bk_ack (q:=q) (k':=k+m) (m:=m) hb hH hne (hv0.drop m hm);exact⟨rfl,r2,_,r1,r3,hne⟩
theorem TapV.slice (h:TapV B w v T n):∃ a c,v=.slice a n c:=by
 obtain⟨hl,⟨h1,h2⟩|⟨t,o,c,h1,_⟩⟩:=h
 ·exact⟨none,0,by rw[h1,h2]⟩
 ·exact⟨_,c,h1⟩
theorem TapV.drew (h:TapV B w v T n) (q:Nat):TapV B (w.drewN q) v T n:=h.block (Nat.le_refl _) (fun t _ _=>rfl)
set_option maxRecDepth 100000 in
set_option maxHeartbeats 1000000 in
theorem applyAck_any (a:Int) (a0:0≤a) (a1:a≤4294967295) (hb:Bk w g d u k v) (hd:SetB d D) (hu:SetB u U) (hv:TapV B w v T n) (h0:0≤k) (h1:k≤1048576) (hn:n≤1048576) (hH:H≤g) (hgB:NeG g v) :
  Calls Tryz.prog 142 #[.pointer (some ⟨g,0,none⟩),.int .i64 a] w (ApP H B g w (decide (a≤k+n)) D U (max a k) (T.drop (ackM k a*2)) (n-ackM k a)):=by
 obtain⟨ad,c,rfl⟩:=hv.slice;have HB:Hid (Bk w g d u k (.slice ad n c)):=hb;have HV:Hid (TapV B w (.slice ad n c) T n):=hv;have HSD:Hid (SetB d D):=hd;have HSU:Hid (SetB u U):=hu;clear hb hv hd hu;go_enter Tryz.func142,Tryz.ntmps142;go_wp2_with fail;refine(admitted_any ad n c HB.out h0 h1 hn).mono ?_;rintro e w1 ⟨rfl,q,rfl⟩;have HB1:Hid (Bk (w.drewN q) g d u k (.slice ad n c)):=HB.out.drew q;have HV1:Hid (TapV B (w.drewN q) (.slice ad n c) T n):=HV.out.drew q;have HW1:Hid (Below H w (w.drewN q)):=below_dq (Below.refl _ _) q;clear HB HV;generalize w.drewN q=w1 at *;by_cases hle:a≤k+n
 ·have HD:Hid (decide (a≤k+n)=true):=decide_eq_true hle;have hle':¬ (a>k+n):=by omega
  have c0:=HB1.out.ck;have f0:=HB1.out.fz 64;have HC:Hid (∀(e:Ending) (w2:World),(e=.returned (.tuple #[])∧Below H w1 w2∧∃ v',Bk w2 g d u (k+ackM k a) v'∧TapV B w2 v' (T.drop (ackM k a*2)) (n-ackM k a)∧NeG g v')→ApP H B g w (decide (a≤k+n)) D U (max a k) (T.drop (ackM k a*2)) (n-ackM k a) (.returned (.bool true)) w2):=by
   rintro e w2 ⟨rfl,r1,v',r2,r3,r4⟩;refine⟨by rw[HD.out],HW1.out.trans r1,fun _=>⟨d,u,v',?_,HSD.out,HSU.out,r3,r4⟩⟩;have e:k+(ackM k a:Int)=max a k:=by unfold ackM;omega
   rw[←e];exact r2
  have CA:=ack_any (ackM k a) HB1.out HV1.out h0 h1 (by unfold ackM;omega) hn hH hgB;by_cases hka:k≤a
  ·have e:k+(ackM k a:Int)=a:=by unfold ackM;omega
   rw[e] at CA;clear e;go_wp2_with fail;refine CA.mono ?_;intro e w2 h;have HF:=HC.out e w2 (by have e':k+(ackM k a:Int)=a:=by unfold ackM;omega
                                                                                                rw[e'];exact h)
   obtain⟨rfl,_⟩:=h;have HF':Hid _:=HF;clear HF HC CA HB1 HV1 HW1 HSD HSU c0 f0;go_wp2
   go_ret
   exact HF'.out
  ·have e:k+(ackM k a:Int)=k:=by unfold ackM;omega
   rw[e] at CA;clear e;go_wp2_with fail;refine CA.mono ?_;intro e w2 h;have HF:=HC.out e w2 (by have e':k+(ackM k a:Int)=k:=by unfold ackM;omega
                                                                                                rw[e'];exact h)
   obtain⟨rfl,_⟩:=h;have HF':Hid _:=HF;clear HF HC CA HB1 HV1 HW1 HSD HSU c0 f0;go_wp2
   go_ret
   exact HF'.out
 ·have HD:Hid (decide (a≤k+n)=false):=decide_eq_false hle;have hle':a>k+n:=by omega
  have HF:Hid (ApP H B g w (decide (a≤k+n)) D U (max a k) (T.drop (ackM k a*2)) (n-ackM k a) (.returned (.bool false)) w1):=⟨by rw[HD.out],HW1.out,fun h=>by rw[HD.out] at h;cases h⟩
  clear HB1 HV1 HSD HSU;go_wp2
  go_ret
  exact HF.out
end Go.Proofs.YthmeoilbmfdhfaaGreat
namespace Go.Proofs.YthmeoilbmfdhfaaGreat
open Go.ChangeShapes Go.WideShapes Go.ChangeAt Go.RowKit
set_option linter.unusedVariables false
variable {w w':World} {g:Nat} {d u:List Int} {k:Int} {v:Value} {D U:Nat→Prop} {T:List Int} {n H B:Nat}
theorem ser_yes {s:Nat} (h:s<256):serOk (s:Int)=true:=decide_eq_true ⟨by omega,by omega⟩
theorem ser_no {s:Nat} (h:¬ s<256):serOk (s:Int)=false:=decide_eq_false (fun h'=>h (by omega))
theorem hasYes_any {o:Nat} (s:Nat) (hb:BAt w g o d) (hd:SetB d D) (hin:s<256∧D s):Calls Tryz.prog 137 #[.pointer (some ⟨g,o,none⟩),.int .i64 s] w fun e w'=>e=.returned (.bool true)∧w'=w:=
 hasS_any g o s d D true w hb hd (by
  rw[Int.toNat_natCast];exact⟨fun _=>⟨by omega,by omega,hin.2⟩,fun h=>rfl⟩)
theorem hasNo_any {o:Nat} (s:Nat) (hb:BAt w g o d) (hd:SetB d D) (hin:¬ (s<256∧D s)):Calls Tryz.prog 137 #[.pointer (some ⟨g,o,none⟩),.int .i64 s] w fun e w'=>e=.returned (.bool false)∧w'=w:=
 hasS_any g o s d D false w hb hd (by
  rw[Int.toNat_natCast];exact⟨fun h=>(by cases h),fun h=>absurd ⟨by omega,h.2.2⟩ hin⟩)
theorem TapV.wr (h:TapV B w v T n) (hw:Wr g w w') (hg:NeG g v):TapV B w' v T n:=h.block (by rw[hw.size];exact Nat.le_refl _) (fun t ht _=>hw.block t (hg t ht))
set_option maxRecDepth 100000 in
set_option maxHeartbeats 1000000 in
theorem denyAdd_any (s:Nat) (hs:s<256) (hnot:¬ D s) (hfull:¬ popS d 32=16) (hb:Bk w g d u k v) (hd:SetB d D) (hu:SetB u U) (hv:TapV B w v T n) (hH:H≤g) (hgB:NeG g v) :
  Calls Tryz.prog 141 #[.pointer (some ⟨g,0,none⟩),.int .i64 s,.int .u32 1] w (ApP H B g w true (fun x=>D x∨x=s) U k T n):=by
 have HQ:Hid (¬ (s<256∧D s)):=fun h=>hnot h.2
 have HP:Hid (decide (popS d 32=16)=false):=decide_eq_false hfull;have HSO:Hid (serOk (s:Int)=true):=ser_yes hs;have HB:Hid (Bk w g d u k v):=hb;have HSD:Hid (SetB d D):=hd;have HF:∀ q,Hid (ApP H B g w true (fun x=>D x∨x=s) U k T n (.returned (.bool true)) ((w.setCell ⟨g,0+s/8,none⟩ (.int .u8 ((addB d s).getD (s/8) 0))).drewN q)):=fun q=>by
  have hw:Wr g w ((w.setCell ⟨g,0+s/8,none⟩ (.int .u8 ((addB d s).getD (s/8) 0))).drewN q):=((Wr.refl _ _).setCell _ _).drewN _;exact⟨rfl,hw.below hH,fun _=>⟨_,_,_,(hb.addD s hs).drew q,hd.add s hs,hu,hv.wr hw hgB,hgB⟩⟩
 clear hb hd hu hv hnot hfull;go_enter Tryz.func141,Tryz.ntmps141;go_wp2_with fail;refine(isSerial_any _ _).mono ?_;rintro e w1 ⟨rfl,rfl⟩;rw[HSO.out];go_wp2_with fail;refine(hasNo_any s HB.out.batd HSD.out HQ.out).mono ?_;rintro e w2 ⟨rfl,rfl⟩;go_wp2_with fail;refine(full_any HB.out).mono ?_;rintro e w3 ⟨rfl,rfl⟩;rw[HP.out];go_wp2_with fail;refine(addS_any g 0 s d _ hs HB.out.batd).mono ?_;rintro e w4 ⟨rfl,q,rfl⟩;have H2:=HF q;clear HF HB HSD HQ HP HSO;generalize (w3.setCell ⟨g,0+s/8,none⟩ (.int .u8 ((addB d s).getD (s/8) 0))).drewN q=w4 at *;go_wp2
 go_ret
 exact H2.out
set_option maxRecDepth 100000 in
set_option maxHeartbeats 1000000 in
theorem denyRem_any (s:Nat) (hs:s<256) (hin:D s) (hb:Bk w g d u k v) (hd:SetB d D) (hu:SetB u U) (hv:TapV B w v T n) (hH:H≤g) (hgB:NeG g v) :
  Calls Tryz.prog 141 #[.pointer (some ⟨g,0,none⟩),.int .i64 s,.int .u32 0] w (ApP H B g w true (fun x=>D x∧x≠s) U k T n):=by
 have HQ:Hid (s<256∧D s):=⟨hs,hin⟩
 have HB:Hid (Bk w g d u k v):=hb;have HSD:Hid (SetB d D):=hd;have HF:∀ q,Hid (ApP H B g w true (fun x=>D x∧x≠s) U k T n (.returned (.bool true)) ((w.setCell ⟨g,0+s/8,none⟩ (.int .u8 ((remB d s).getD (s/8) 0))).drewN q)):=fun q=>by
  have hw:Wr g w ((w.setCell ⟨g,0+s/8,none⟩ (.int .u8 ((remB d s).getD (s/8) 0))).drewN q):=((Wr.refl _ _).setCell _ _).drewN _;exact⟨rfl,hw.below hH,fun _=>⟨_,_,_,(hb.remD s hs).drew q,hd.rem s hs,hu,hv.wr hw hgB,hgB⟩⟩
 clear hb hd hu hv hin;go_enter Tryz.func141,Tryz.ntmps141;go_wp2_with fail;refine(hasYes_any s HB.out.batd HSD.out HQ.out).mono ?_;rintro e w2 ⟨rfl,rfl⟩;go_wp2_with fail;refine(remS_any g 0 s d _ hs HB.out.batd).mono ?_;rintro e w4 ⟨rfl,q,rfl⟩;have H2:=HF q;clear HF HB HSD HQ;generalize (w2.setCell ⟨g,0+s/8,none⟩ (.int .u8 ((remB d s).getD (s/8) 0))).drewN q=w4 at *;go_wp2
 go_ret
 exact H2.out
set_option maxRecDepth 100000 in
set_option maxHeartbeats 1000000 in
theorem denyNo_any (s b:Nat) (hno1:¬ (b=1∧s<256∧¬ D s∧¬ popS d 32=16)) (hno0:¬ (b=0∧s<256∧D s)) (hbb:b<4294967296) (hb:Bk w g d u k v) (hd:SetB d D) :
  Calls Tryz.prog 141 #[.pointer (some ⟨g,0,none⟩),.int .i64 s,.int .u32 b] w fun e w'=>e=.returned (.bool false)∧w'=w:=by
 have HB:Hid (Bk w g d u k v):=hb;have HSD:Hid (SetB d D):=hd;clear hb hd;by_cases h1:b=1
 ·subst h1;by_cases hs:s<256
  ·have HSO:Hid (serOk (s:Int)=true):=ser_yes hs;by_cases hin:D s
   ·have HQ:Hid (s<256∧D s):=⟨hs,hin⟩
    clear hno1 hno0 hin;go_enter Tryz.func141,Tryz.ntmps141;go_wp2_with fail;refine(isSerial_any _ _).mono ?_;rintro e w1 ⟨rfl,rfl⟩;rw[HSO.out];go_wp2_with fail;refine(hasYes_any s HB.out.batd HSD.out HQ.out).mono ?_;rintro e w2 ⟨rfl,rfl⟩;clear HB HSD HQ HSO;go_wp2
    go_ret
    exact⟨rfl,rfl⟩
   ·have HP:Hid (decide (popS d 32=16)=true):=decide_eq_true (Classical.byContradiction fun h=>hno1 ⟨rfl,hs,hin,h⟩);have HQ:Hid (¬ (s<256∧D s)):=fun h=>hin h.2
    clear hno1 hno0 hin;go_enter Tryz.func141,Tryz.ntmps141;go_wp2_with fail;refine(isSerial_any _ _).mono ?_;rintro e w1 ⟨rfl,rfl⟩;rw[HSO.out];go_wp2_with fail;refine(hasNo_any s HB.out.batd HSD.out HQ.out).mono ?_;rintro e w2 ⟨rfl,rfl⟩;go_wp2_with fail;refine(full_any HB.out).mono ?_;rintro e w3 ⟨rfl,rfl⟩;rw[HP.out];clear HB HSD HQ HSO HP;go_wp2
    go_ret
    exact⟨rfl,rfl⟩
  ·have HSO:Hid (serOk (s:Int)=false):=ser_no hs;clear hno1 hno0 hs;go_enter Tryz.func141,Tryz.ntmps141;go_wp2_with fail;refine(isSerial_any _ _).mono ?_;rintro e w1 ⟨rfl,rfl⟩;rw[HSO.out];clear HB HSD HSO;go_wp2
   go_ret
   exact⟨rfl,rfl⟩
 ·by_cases h0:b=0
  ·subst h0;have HQ:Hid (¬ (s<256∧D s)):=fun h=>hno0 ⟨rfl,h⟩
   clear hno1 hno0 h1;go_enter Tryz.func141,Tryz.ntmps141;go_wp2_with fail;refine(hasNo_any s HB.out.batd HSD.out HQ.out).mono ?_;rintro e w2 ⟨rfl,rfl⟩;clear HB HSD HQ;go_wp2
   go_ret
   exact⟨rfl,rfl⟩
  ·have h1':¬ ((b:Int)=1):=by omega
   have h0':¬ ((b:Int)=0):=by omega
   clear hno1 hno0 h1 HB HSD;go_enter Tryz.func141,Tryz.ntmps141;go_wp2
   go_ret
   exact⟨rfl,rfl⟩
end Go.Proofs.YthmeoilbmfdhfaaGreat
namespace Go.Proofs.YthmeoilbmfdhfaaGreat
open Go.ChangeShapes Go.WideShapes Go.ChangeAt Go.RowKit
set_option linter.unusedVariables false
variable {w w':World} {g:Nat} {d u:List Int} {k:Int} {v:Value} {D U:Nat→Prop} {T:List Int} {n H B:Nat}
theorem TapO.ownBlock (h:TapO B w v T n):∀ k,v.ownBlock=some k→B≤k:=fun k hk=>by
 rcases h.2 with⟨h',_⟩|⟨g,c,cur,h',hb,_⟩
 ·rw[h'] at hk;simp[Value.ownBlock] at hk
 ·rw[h'] at hk;simp[Value.ownBlock] at hk;omega
theorem TapO.wrg (h:TapO B w v T n) (hne:NeG g v) (hw:Wr g w w'):TapO B w' v T n:=by
 refine⟨h.1,?_⟩;rcases h.2 with h'|⟨t,c,cur,h1,h2,h3,h4⟩
 ·exact .inl h'
 ·exact .inr ⟨t,c,cur,h1,h2,by rw[hw.block t (hne t (by rw[h1];rfl))];exact h3,h4⟩
theorem TapO.alloc (h:TapO B w v T n) (o:Obj):TapO B (w.alloc o) v T n:=World.ownsRow.alloc h _
theorem wpList_appT0 (w:World) {ops:Array Oper} {rest:List Oper} {o:Oper} {a:Act} {Q:Exit→Act→World→Prop} (hg:o.guard=none) (sx x:Operand)
  (hop:o.op=Op.call { callee:=Callee.builtin Builtin.append,args:=#[sx,x],argTypes:=#[32,32] }) (B:Nat) (v:Value) (T:List Int) (n:Nat) (hs:a.eval sx=v) (hown:TapO B w v T n)
  (wb:World) (s nw:Int) (hw:w=wb.alloc (.cells #[.int .i64 s,.int .i64 nw] 133)) (hx:a.eval x=.slice (some ⟨wb.heap.size,0,none⟩) 1 1) (hm:n≤1048576) (hB:B≤w.heap.size)
  (hK:∀ v' w',TapO B w' v' (T++[s,nw]) (n+1)→v'.oneCell'=true→Below B w w'→w.grownBy w' v.ownBlock→(v'.ownBlock=v.ownBlock∨v'.ownBlock=some w.heap.size)→wpList Tryz.prog ops Q rest (a.put o.dst v') w') :
  wpList Tryz.prog ops Q (o::rest) a w:=by
 obtain⟨i0,hi,hz0,hz1,hz2⟩:=info_parts Tryz.infoTap;refine wpList_append_own_at w hg sx x 32 hop B 133 i0 (.agg #[.int .i64 0,.int .i64 0]) 2 16 Tryz.underlying32 hi hz0 hz1 hz2 rfl (by decide) v n _ hs hown ⟨wb.heap.size,0,none⟩ 1 1 [.int .i64 s,.int .i64 nw] hx rfl ?_ (by simp[Value.oneCell']) (by unfold maxLen;omega) (by omega) hB ?_
 ·intro j z hz;have hj:j<2:=by have:=(List.getElem?_eq_some_iff.1 hz).1;simpa using this
  rw[Addr.add_lit,hw,cell_of_row _ _ _ _ _ _ (heap_alloc_new wb _),Nat.zero_add];have:j=0∨j=1:=by omega
  rcases this with rfl|rfl<;>simpa using hz
 intro v' w' h1 h2 _ h5;refine hK v' w' ?_ ?_ ((Below.refl _ _).grown h2 hB hown.ownBlock) h2 h5
 ·unfold TapO;rw[List.map_append];exact h1
 ·rcases h1.2 with⟨h,_⟩|⟨g,c,cur,h,_⟩
  ·rw[h];rfl
  ·rw[h];rfl
theorem TapV.alloc (h:TapV B w v T n) (o:Obj):TapV B (w.alloc o) v T n:=h.block (by simp) (fun t _ ht=>heap_alloc_old w o ht)
theorem TapV.ownBlock (h:TapV B w v T n):∀ k,v.ownBlock=some k→B≤k:=fun k hk=>by
 obtain⟨_,⟨h',_⟩|⟨t,o,c,h',hb,_⟩⟩:=h
 ·rw[h'] at hk;simp[Value.ownBlock] at hk
 ·rw[h'] at hk;simp[Value.ownBlock] at hk;omega
theorem heap_setC {w:World} {t o:Nat} {cs:Array Value} {T:TypeId} {fr:Nat×Nat} (h:w.heap[t]?=some (.cells cs T fr)) (v:Value):(w.setCell ⟨t,o,none⟩ v).heap[t]?=some (.cells (cs.setIfInBounds o v) T fr):=by
 simp[World.setCell,Array.getElem?_modify,h]
theorem run_appT (w:World) (ty:TypeId) (B:Nat) (v:Value) (T:List Int) (n:Nat) (hown:TapV B w v T n) (wb:World) (s nw:Int) (hw:w=wb.alloc (.cells #[.int .i64 s,.int .i64 nw] 133)) (hm:n≤1048576) (hB:B≤w.heap.size) :
  ∃ v' w',(Builtin.append_ #[32,32] ty #[v,.slice (some ⟨wb.heap.size,0,none⟩) 1 1]).run Tryz.prog w=.ok v' w'∧TapV B w' v' (T++[s,nw]) (n+1)∧w.grownBy w' v.ownBlock∧(v'.ownBlock=v.ownBlock∨v'.ownBlock=some w.heap.size):=by
 obtain⟨i0,hi,hz0,hz1,hz2⟩:=info_parts Tryz.infoTap;have hnews:∀ j u,[Value.int .i64 s,.int .i64 nw][j]?=some u→w.cell? ((⟨wb.heap.size,0,none⟩:Addr).add j)=some u:=by
  intro j z hz;have hj:j<2:=by have:=(List.getElem?_eq_some_iff.1 hz).1;simpa using this
  rw[Addr.add_lit,hw,cell_of_row _ _ _ _ _ _ (heap_alloc_new wb _),Nat.zero_add];have:j=0∨j=1:=by omega
  rcases this with rfl|rfl<;>simpa using hz
 obtain⟨hl,⟨rfl,rfl⟩|⟨t,o,c,rfl,hB0,ht,hc,hmx,hx,cs,hcs,hsz⟩⟩:=hown
 ·have hT:T=[]:=List.eq_nil_of_length_eq_zero (by omega);subst hT;obtain⟨v',w',h1,h2,h3,_,h5⟩:=run_append_own_at (P:=Tryz.prog) w B 32 ty 133 i0 (.agg #[.int .i64 0,.int .i64 0]) 2 16 Tryz.underlying32 hi hz0 hz1 hz2 rfl (by decide) (.slice none 0 0) 0 [] ⟨rfl,.inl ⟨rfl,rfl⟩⟩ ⟨wb.heap.size,0,none⟩ 1 1 [.int .i64 s,.int .i64 nw] rfl hnews (by simp[Value.oneCell']) (by decide) (by decide) hB;exact⟨v',w',h1,TapO.tapV (T:=[]++[s,nw]) h2,h3,h5⟩
 ·have hsrc:Src Tryz.prog i0.size 32 (.slice (some ⟨wb.heap.size,0,none⟩) 1 1) 1 [.int .i64 s,.int .i64 nw] w:=
   Src.ofSlice w Tryz.underlying32 ⟨wb.heap.size,0,none⟩ 1 1 _ (by rw[hz1];rfl) hnews (by simp[Value.oneCell'])
  have hTl:T.length=n*2:=hl;by_cases hr:n+1≤c
  ·have hcell:∀ j,w.cell? ⟨t,j,none⟩=cs[j]?:=fun j=>cell_of_row w t j cs _ _ hcs
   have h1:=run_append_room_src (P:=Tryz.prog) w 32 32 ty 133 i0 Tryz.underlying32 hi t o n c _ 1 [.int .i64 s,.int .i64 nw] hsrc hr
    (fun j hj=>by have hj':j<2:=hj;rw[hcell,hz1,Array.getElem?_eq_getElem (by omega)];rfl) (fun j _=>frozen_of_row w t _ cs _ hcs)
   have e1:w.setCells t (o+n*i0.size) [.int .i64 s,.int .i64 nw]=(w.setCell ⟨t,o+n*2,none⟩ (.int .i64 s)).setCell ⟨t,o+n*2+1,none⟩ (.int .i64 nw):=by rw[hz1];rfl
   rw[e1] at h1;have hc2:((w.setCell ⟨t,o+n*2,none⟩ (.int .i64 s)).setCell ⟨t,o+n*2+1,none⟩ (.int .i64 nw)).heap[t]?=some (.cells ((cs.setIfInBounds (o+n*2) (.int .i64 s)).setIfInBounds (o+n*2+1) (.int .i64 nw)) 133 (0,0)):=heap_setC (heap_setC hcs _) _;have hsz2:((w.setCell ⟨t,o+n*2,none⟩ (.int .i64 s)).setCell ⟨t,o+n*2+1,none⟩ (.int .i64 nw)).heap.size=w.heap.size:=by simp[World.setCell]
   refine⟨_,_,h1,⟨by rw[List.length_append,hTl];simp;omega,.inr ⟨t,o,c,rfl,hB0,by rw[hsz2];exact ht,hr,hmx,fun i hi'=>⟨?_,frozen_of_row _ t _ _ _ hc2⟩,_,hc2,by simpa using hsz⟩⟩,⟨rfl,rfl,rfl,by rw[hsz2];exact Nat.le_refl _,fun k hk hne=>?_⟩,.inl rfl⟩
   ·rw[cell_of_row _ t _ _ _ _ hc2];have hb:o+n*2+1<cs.size:=by omega
    by_cases h1:i<n*2
    ·have hq:=(hx i h1).1;rw[hcell] at hq;rw[Array.getElem?_setIfInBounds_ne (by omega),Array.getElem?_setIfInBounds_ne (by omega),hq];simp[List.getD,List.getElem?_append_left (show i<T.length by omega)]
    ·by_cases h2:i=n*2
     ·subst h2;rw[Array.getElem?_setIfInBounds_ne (by omega),Array.getElem?_setIfInBounds_self_of_lt (by omega)];simp[List.getD,hTl]
     ·obtain rfl:i=n*2+1:=by omega
      rw[←Nat.add_assoc,Array.getElem?_setIfInBounds_self_of_lt (by simp;omega)];simp[List.getD,hTl]
   ·have hkt:k≠t:=fun e=>hne (by simp[Value.ownBlock,e])
    rw[heap_setCell_other _ _ _ _ (by show k≠t;exact hkt),heap_setCell_other _ _ _ _ (by show k≠t;exact hkt)]
  ·obtain rfl:c=n:=by omega
   have hcell:∀ j,w.cell? ⟨t,j,none⟩=cs[j]?:=fun j=>cell_of_row w t j cs _ _ hcs
   have hold:=run_firstCells_some (P:=Tryz.prog) w.drew i0.size c ⟨t,o,none⟩ c c (T.map (Value.int .i64)) (by rw[hz1];simpa using hTl) (fun j u hu=>by
    have hj:j<T.length:=by have:=(List.getElem?_eq_some_iff.1 hu).1;simpa using this
    rw[Addr.add_lit];have:=(hx j (by omega)).1;rw[show w.drew.cell? ⟨t,o+j,none⟩=w.cell? ⟨t,o+j,none⟩ from rfl,this];simp[hj] at hu ⊢;exact hu)
   have hcap:=nextslicecap_le (need:=c+1) (old:=c) (by omega);have h1:=run_append_grow_src (P:=Tryz.prog) w 32 32 ty 133 i0 (.agg #[.int .i64 0,.int .i64 0]) Tryz.underlying32 hi hz0 (some ⟨t,o,none⟩) c c (T.map (Value.int .i64)) hold _ 1 [.int .i64 s,.int .i64 nw] hsrc (by omega) (by omega) (by rw[hz2];omega);have hlen:(T.map (Value.int .i64)++[Value.int .i64 s,Value.int .i64 nw]).length=(c+1)*2:=by rw[List.length_append,List.length_map,hTl];simp;omega
   have hge:=grownCap_ge w (c+1) c 133;have hle:=grownCap_le_maxLen w (c+1) c 133 (by unfold maxLen;omega);refine⟨_,_,h1,TapO.tapV (T:=T++[s,nw]) ⟨by simp[hTl];omega,.inr ⟨_,_,_,rfl,hB,heap_alloc_new w.drew _,hge,hle,?_,?_⟩⟩,⟨rfl,rfl,rfl,by simp,fun k hk _=>heap_alloc_old w.drew _ hk⟩,.inr rfl⟩
   ·rw[Array.size_append,size_zeroCells,List.size_toArray,hlen,show(Value.agg #[Value.int .i64 0,.int .i64 0]).cells.size=2 from rfl];omega
   ·rw[Array.toList_append,List.map_append,List.take_append_of_le_length (by rw[hlen];exact Nat.le_refl _),List.take_of_length_le (by rw[hlen];exact Nat.le_refl _)];rfl
theorem wpList_appT1 (w:World) {ops:Array Oper} {rest:List Oper} {o:Oper} {a:Act} {Q:Exit→Act→World→Prop} (hg:o.guard=none) (sx x:Operand)
  (hop:o.op=Op.call { callee:=Callee.builtin Builtin.append,args:=#[sx,x],argTypes:=#[32,32] }) (B:Nat) (v:Value) (T:List Int) (n:Nat) (hs:a.eval sx=v) (hown:TapV B w v T n)
  (wb:World) (s nw:Int) (hw:w=wb.alloc (.cells #[.int .i64 s,.int .i64 nw] 133)) (hx:a.eval x=.slice (some ⟨wb.heap.size,0,none⟩) 1 1) (hm:n≤1048576) (hB:B≤w.heap.size)
  (hK:∀ v' w',TapV B w' v' (T++[s,nw]) (n+1)→v'.oneCell'=true→Below B w w'→w.grownBy w' v.ownBlock→(v'.ownBlock=v.ownBlock∨v'.ownBlock=some w.heap.size)→wpList Tryz.prog ops Q rest (a.put o.dst v') w') :
  wpList Tryz.prog ops Q (o::rest) a w:=by
 obtain⟨v',w',hr,h1,h2,h5⟩:=run_appT w o.type B v T n hown wb s nw hw hm hB;obtain⟨a',c',e'⟩:=h1.slice;have hk:=hK v' w' h1 (by rw[e'];rfl) ((Below.refl _ _).grown h2 hB hown.ownBlock) h2 h5;refine wpList_plain hg fun K hK'=>?_
 unfold Oper.wp execOp;simp only[hop,resolve,invoke,builtin,Sem.run_bind,Sem.run_pure,Result.andThen_ok,List.map_toArray,List.map_cons,List.map_nil,hs,hx,hr];exact hK' _ _ hk
set_option maxRecDepth 100000 in
set_option maxHeartbeats 1000000 in
theorem admit_any (s:Nat) (nw:Int) (hs:s<256) (hb:Bk w g d u k v) (hd:SetB d D) (hu:SetB u U) (hv:TapV B w v T n) (hn:n≤1048576) (hH:H≤g) (hHB:H≤B) (hgB:NeG g v) (hBw:B≤w.heap.size) :
  Calls Tryz.prog 158 #[.pointer (some ⟨g,0,none⟩),.int .i64 s,.int .i64 nw] w fun e w'=>e=.returned (.tuple #[])∧Below H w w'∧∃ u' v',Bk w' g d u' k v'∧SetB u' (fun x=>U x∨x=s)∧TapV B w' v' (T++[(s:Int),nw]) (n+1)∧NeG g v':=by
 have HB:Hid (Bk w g d u k v):=hb;have HN:∀ q,Hid (Bk ((w.setCell ⟨g,32+s/8,none⟩ (.int .u8 ((addB u s).getD (s/8) 0))).drewN q) g d (addB u s) k v∧TapV B ((w.setCell ⟨g,32+s/8,none⟩ (.int .u8 ((addB u s).getD (s/8) 0))).drewN q) v T n∧Below H w ((w.setCell ⟨g,32+s/8,none⟩ (.int .u8 ((addB u s).getD (s/8) 0))).drewN q)∧B≤((w.setCell ⟨g,32+s/8,none⟩ (.int .u8 ((addB u s).getD (s/8) 0))).drewN q).heap.size):=fun q=>by
  have hw:Wr g w ((w.setCell ⟨g,32+s/8,none⟩ (.int .u8 ((addB u s).getD (s/8) 0))).drewN q):=((Wr.refl _ _).setCell _ _).drewN _;exact⟨(hb.addU s hs).drew q,hv.wr hw hgB,hw.below hH,by rw[hw.size];exact hBw⟩
 have HU:Hid (SetB (addB u s) (fun x=>U x∨x=s)):=hu.add s hs;clear hb hd hu hv hBw;go_enter Tryz.func158,Tryz.ntmps158;go_wp2_with fail;refine(addS_any g 32 s u _ hs HB.out.batu).mono ?_;rintro e w4 ⟨rfl,q,rfl⟩;have H2:=HN q;clear HN HB;generalize (w.setCell ⟨g,32+s/8,none⟩ (.int .u8 ((addB u s).getD (s/8) 0))).drewN q=w4 at *;have c1:=H2.out.1.cv;have HA:Hid (TapV B (w4.alloc (.cells #[.int .i64 (s:Int),.int .i64 nw] 133)) v T n):=H2.out.2.1.alloc _;have HBW:Hid (B≤(w4.alloc (.cells #[.int .i64 (s:Int),.int .i64 nw] 133)).heap.size):=by
  show _≤_
  have:=H2.out.2.2.2;simp;omega
 go_wp2_with (first
  |(refine wpList_appT1 _ rfl (.tmp 15) (.tmp 19) rfl B v T n rfl HA.out w4 s nw rfl rfl hn HBW.out ?_)
  |fail)
 intro v' w5 h1 ho h2 hgr how;obtain⟨a',c',rfl⟩:=h1.slice;have hg4:=H2.out.1.lt;have hb4:Bk (w4.alloc (.cells #[.int .i64 (s:Int),.int .i64 nw] 133)) g d (addB u s) k v:=H2.out.1.below ((Below.refl _ _).alloc (Nat.le_refl _) _) hg4;have hb5:Bk w5 g d (addB u s) k v:=⟨by rw[hgr.block g hb4.lt (fun e=>hgB g e.symm rfl)];exact hb4.row,hb4.ld,hb4.lu,hb4.bd,hb4.bu⟩
 have hne5:NeG g (.slice a' (n+1:Nat) c'):=fun x hx=>by
  rcases how with e|e
  ·exact hgB x (e ▸ hx)
  ·rw[e] at hx;have hx':=Option.some.inj hx;have:=World.size_alloc w4 (.cells #[.int .i64 (s:Int),.int .i64 nw] 133);omega
 have f1:=hb5.fz 65;have c5:=hb5.cv;have HF:Hid (Below H w (w5.setCell ⟨g,65,none⟩ (.slice a' (n+1:Nat) c'))∧∃ u' v'',Bk (w5.setCell ⟨g,65,none⟩ (.slice a' (n+1:Nat) c')) g d u' k v''∧SetB u' (fun x=>U x∨x=s)∧TapV B (w5.setCell ⟨g,65,none⟩ (.slice a' (n+1:Nat) c')) v'' (T++[(s:Int),nw]) (n+1)∧NeG g v''):=by
  have hw:Wr g w5 (w5.setCell ⟨g,65,none⟩ (.slice a' (n+1:Nat) c')):=(Wr.refl _ _).setCell _ _;refine⟨?_,addB u s,_,hb5.setV _,HU.out,h1.wr hw hne5,hne5⟩;have b1:Below H w4 (w4.alloc (.cells #[.int .i64 (s:Int),.int .i64 nw] 133)):=(Below.refl _ _).alloc (by have:=H2.out.1.lt;omega) _;exact((H2.out.2.2.1.trans b1).trans (h2.mono (by omega))).trans (hw.below hH)
 clear h1 h2 hb4 hb5 hne5 hgr how HA HBW H2 HU c1;go_wp2
 go_end0
 exact⟨rfl,HF.out⟩
end Go.Proofs.YthmeoilbmfdhfaaGreat
namespace Go.Proofs.YthmeoilbmfdhfaaGreat
open Go.ChangeShapes Go.WideShapes Go.ChangeAt Go.RowKit
set_option linter.unusedVariables false
variable {w w':World} {g:Nat} {d u:List Int} {k:Int} {v:Value} {D U:Nat→Prop} {T:List Int} {n H B:Nat}
set_option maxRecDepth 100000 in
set_option maxHeartbeats 1000000 in
theorem tapYes_any (s:Nat) (nw:Int) (hs:s<256) (hnu:¬ U s) (hnd:¬ D s) (hb:Bk w g d u k v) (hd:SetB d D) (hu:SetB u U) (hv:TapV B w v T n) (hn:n≤1048576) (hH:H≤g) (hHB:H≤B) (hgB:NeG g v) (hBw:B≤w.heap.size) :
  Calls Tryz.prog 140 #[.pointer (some ⟨g,0,none⟩),.int .i64 s,.int .i64 nw] w (ApP H B g w true D (fun x=>U x∨x=s) k (T++[(s:Int),nw]) (n+1)):=by
 have HSO:Hid (serOk (s:Int)=true):=ser_yes hs;have HB:Hid (Bk w g d u k v):=hb;have HSD:Hid (SetB d D):=hd;have HSU:Hid (SetB u U):=hu;have HNU:Hid (¬ (s<256∧U s)):=fun h=>hnu h.2
 have HND:Hid (¬ (s<256∧D s)):=fun h=>hnd h.2
 have CA:=admit_any s nw hs hb hd hu hv hn hH hHB hgB hBw;clear hb hd hu hv hnu hnd hBw;go_enter Tryz.func140,Tryz.ntmps140;go_wp2_with fail;refine(isSerial_any _ _).mono ?_;rintro e w1 ⟨rfl,rfl⟩;rw[HSO.out];go_wp2_with fail;refine(hasNo_any s HB.out.batu HSU.out HNU.out).mono ?_;rintro e w2 ⟨rfl,rfl⟩;go_wp2_with fail;refine(hasNo_any s HB.out.batd HSD.out HND.out).mono ?_;rintro e w3 ⟨rfl,rfl⟩;go_wp2_with fail;refine CA.mono ?_;rintro e w4 ⟨rfl,hb4,u',v',r1,r2,r3,r4⟩;have HF:Hid (ApP H B g w3 true D (fun x=>U x∨x=s) k (T++[(s:Int),nw]) (n+1) (.returned (.bool true)) w4):=⟨rfl,hb4,fun _=>⟨_,_,_,r1,HSD.out,r2,r3,r4⟩⟩
 clear hb4 r1 r2 r3 CA HB HSD HSU HNU HND HSO;go_wp2
 go_ret
 exact HF.out
set_option maxRecDepth 100000 in
set_option maxHeartbeats 1000000 in
theorem tapNo_any (s:Nat) (nw:Int) (hno:¬ (s<256∧¬ U s∧¬ D s)) (hb:Bk w g d u k v) (hd:SetB d D) (hu:SetB u U) :
  Calls Tryz.prog 140 #[.pointer (some ⟨g,0,none⟩),.int .i64 s,.int .i64 nw] w fun e w'=>e=.returned (.bool false)∧w'=w:=by
 have HB:Hid (Bk w g d u k v):=hb;have HSD:Hid (SetB d D):=hd;have HSU:Hid (SetB u U):=hu;clear hb hd hu;by_cases hs:s<256
 ·have HSO:Hid (serOk (s:Int)=true):=ser_yes hs;by_cases hin:U s
  ·have HQ:Hid (s<256∧U s):=⟨hs,hin⟩
   clear hno hin;go_enter Tryz.func140,Tryz.ntmps140;go_wp2_with fail;refine(isSerial_any _ _).mono ?_;rintro e w1 ⟨rfl,rfl⟩;rw[HSO.out];go_wp2_with fail;refine(hasYes_any s HB.out.batu HSU.out HQ.out).mono ?_;rintro e w2 ⟨rfl,rfl⟩;clear HB HSD HSU HQ HSO;go_wp2
   go_ret
   exact⟨rfl,rfl⟩
  ·have HQ:Hid (¬ (s<256∧U s)):=fun h=>hin h.2
   have HY:Hid (s<256∧D s):=⟨hs,Classical.byContradiction fun h=>hno ⟨hs,hin,h⟩⟩
   clear hno hin;go_enter Tryz.func140,Tryz.ntmps140;go_wp2_with fail;refine(isSerial_any _ _).mono ?_;rintro e w1 ⟨rfl,rfl⟩;rw[HSO.out];go_wp2_with fail;refine(hasNo_any s HB.out.batu HSU.out HQ.out).mono ?_;rintro e w2 ⟨rfl,rfl⟩;go_wp2_with fail;refine(hasYes_any s HB.out.batd HSD.out HY.out).mono ?_;rintro e w3 ⟨rfl,rfl⟩;clear HB HSD HSU HQ HSO HY;go_wp2
   go_ret
   exact⟨rfl,rfl⟩
 ·have HSO:Hid (serOk (s:Int)=false):=ser_no hs;clear hno hs;go_enter Tryz.func140,Tryz.ntmps140;go_wp2_with fail;refine(isSerial_any _ _).mono ?_;rintro e w1 ⟨rfl,rfl⟩;rw[HSO.out];clear HB HSD HSU HSO;go_wp2
  go_ret
  exact⟨rfl,rfl⟩
end Go.Proofs.YthmeoilbmfdhfaaGreat
namespace Go.Proofs.YthmeoilbmfdhfaaGreat
open Go.ChangeShapes Go.WideShapes Go.ChangeAt Go.RowKit
set_option linter.unusedVariables false
structure ApR where
 ok:Bool
 D:List Int
 U:List Int
 k:Int
 T:List Int
 n:Nat
def apNo:ApR:=⟨false,[],[],0,[],0⟩
open Classical in
noncomputable def withS (xs:List Int) (a:Nat):List Int:=upTo (fun v=>decide ((v:Int)∈xs∨v=a)) 256
def lessS (xs:List Int) (a:Nat):List Int:=xs.filter (fun z=>z != (a:Int))
open Classical in
noncomputable def apR (D U:List Int) (k:Int) (T:List Int) (n:Nat) (kind:Int) (a b:Nat):ApR:=
 if kind=1 then(if a<256∧¬ (a:Int)∈U∧¬ (a:Int)∈D then ⟨true,D,withS U a,k,T++[(a:Int),(b:Int)],n+1⟩ else apNo)
 else if kind=2 then(if b=1∧a<256∧¬ (a:Int)∈D∧¬ D.length=16 then ⟨true,withS D a,U,k,T,n⟩ else if b=0∧a<256∧(a:Int)∈D then ⟨true,lessS D a,U,k,T,n⟩ else apNo)
 else if kind=3 then(if b=0∧(a:Int)≤k+n then ⟨true,D,U,max a k,T.drop (ackM k a*2),n-ackM k a⟩ else apNo)
 else apNo
theorem withS_mem {xs:List Int} {a v:Nat} (h:v<256):((v:Int)∈xs∨v=a)↔(v:Int)∈withS xs a:=by
 unfold withS;rw[upTo_mem];constructor
 ·intro hv;exact⟨v,h,decide_eq_true hv,rfl⟩
 ·rintro⟨v',h1,h2,h3⟩;have:v=v':=by omega
  subst this;exact of_decide_eq_true h2
theorem lessS_mem {xs:List Int} {a v:Nat}:((v:Int)∈xs∧v≠a)↔(v:Int)∈lessS xs a:=by
 unfold lessS;rw[List.mem_filter];constructor
 ·rintro⟨h1,h2⟩;exact⟨h1,by rw[bne_iff_ne];omega⟩
 ·rintro⟨h1,h2⟩;exact⟨h1,by rw[bne_iff_ne] at h2;omega⟩
def apPost (H B g:Nat) (w:World) (r:ApR):Ending→World→Prop:=ApP H B g w r.ok (fun v=>(v:Int)∈r.D) (fun v=>(v:Int)∈r.U) r.k r.T r.n
theorem ApP.to {H B g:Nat} {w w1:World} {D D' U U':Nat→Prop} {k:Int} {T:List Int} {n:Nat} {ok:Bool} {e:Ending} {w':World} (h:ApP H B g w ok D U k T n e w') (hb:Below H w1 w) (hD:∀ v,v<256→(D v↔D' v)) (hU:∀ v,v<256→(U v↔U' v)):ApP H B g w1 ok D' U' k T n e w':=by
 obtain⟨h1,h2,h3⟩:=h;refine⟨h1,hb.trans h2,fun ho=>?_⟩;obtain⟨d,u,v,r1,r2,r3,r4,r5⟩:=h3 ho;exact⟨d,u,v,r1,r2.congr hD,r3.congr hU,r4,r5⟩
set_option maxRecDepth 100000 in
set_option maxHeartbeats 2000000 in
theorem apply_any (seq kind:Int) (a b:Nat) (ha:a<4294967296) (hbb:b<4294967296) {w:World} {g H B n:Nat} {d u D U:List Int} {k:Int} {v:Value} {T:List Int} (hb:Bk w g d u k v) (hd:SetB d (fun x=>(x:Int)∈D)) (hu:SetB u (fun x=>(x:Int)∈U)) (hv:TapV B w v T n)
  (hSD:SerP D) (h0:0≤k) (h1:k≤1048576) (hn:n≤1048576) (hH:H≤g) (hHB:H≤B) (hgB:NeG g v) (hBw:B≤w.heap.size) :
  Calls Tryz.prog 86 #[.pointer (some ⟨g,0,none⟩),.agg #[.int .u32 seq,.int .i64 kind,.int .u32 a,.int .u32 b]] w (apPost H B g w (apR D U k T n kind a b)):=by
 have hgl:=hb.lt;have bw:Below w.heap.size w (w.alloc (.cells #[.int .u32 seq,.int .i64 kind,.int .u32 a,.int .u32 b] 112)):=(Below.refl _ _).alloc (Nat.le_refl _) _;have HB:Hid (Bk (w.alloc (.cells #[.int .u32 seq,.int .i64 kind,.int .u32 a,.int .u32 b] 112)) g d u k v):=hb.below bw hgl;have HV:Hid (TapV B (w.alloc (.cells #[.int .u32 seq,.int .i64 kind,.int .u32 a,.int .u32 b] 112)) v T n):=hv.alloc _;have HW:Hid (Below H w (w.alloc (.cells #[.int .u32 seq,.int .i64 kind,.int .u32 a,.int .u32 b] 112))):=bw.mono (by omega);have HZ:Hid (B≤(w.alloc (.cells #[.int .u32 seq,.int .i64 kind,.int .u32 a,.int .u32 b] 112)).heap.size):=by
  show _≤_
  simp;omega
 have HSD:Hid (SetB d (fun x=>(x:Int)∈D)):=hd;have HSU:Hid (SetB u (fun x=>(x:Int)∈U)):=hu;have HPL:Hid (popS d 32=D.length):=pop_len hd hSD;have HSER:Hid (SerP D):=hSD;clear hb hd hu hv hSD bw hBw;by_cases k1:kind=1
 ·subst k1;by_cases hc:a<256∧¬ (a:Int)∈U∧¬ (a:Int)∈D
  ·have HR:Hid (apR D U k T n 1 a b=⟨true,D,withS U a,k,T++[(a:Int),(b:Int)],n+1⟩):=by show _=_;unfold apR;rw[if_pos rfl,if_pos hc]
   go_enter Tryz.func86,Tryz.ntmps86;go_wp2_with fail;refine(tapYes_any (H:=H) (B:=B) (T:=T) (n:=n) a b hc.1 hc.2.1 hc.2.2 HB.out HSD.out HSU.out HV.out hn hH hHB hgB HZ.out).mono ?_;intro e w2 h;have HF:Hid (apPost H B g w (apR D U k T n 1 a b) e w2):=by
    show apPost _ _ _ _ _ _ _
    rw[HR.out];exact ApP.to h HW.out (fun v _=>Iff.rfl) (fun v hv=>withS_mem hv)
   obtain⟨rfl,h⟩:=h;clear h HB HV HW HZ HSD HSU HPL HSER HR;go_wp2
   go_ret
   exact HF.out
  ·have HR:Hid (apR D U k T n 1 a b=apNo):=by show _=_;unfold apR;rw[if_pos rfl,if_neg hc]
   go_enter Tryz.func86,Tryz.ntmps86;go_wp2_with fail;refine(tapNo_any a b hc HB.out HSD.out HSU.out).mono ?_;intro e w2 h;have HF:Hid (apPost H B g w (apR D U k T n 1 a b) e w2):=by
    show apPost _ _ _ _ _ _ _
    rw[HR.out];exact⟨h.1,(show w2=_ from h.2) ▸ HW.out,fun h'=>by cases h'⟩
   obtain⟨rfl,h⟩:=h;clear h HB HV HW HZ HSD HSU HPL HSER HR;go_wp2
   go_ret
   exact HF.out
 by_cases k2:kind=2
 ·subst k2;clear k1;by_cases hc:b=1∧a<256∧¬ (a:Int)∈D∧¬ D.length=16
  ·have HR:Hid (apR D U k T n 2 a b=⟨true,withS D a,U,k,T,n⟩):=by show _=_;unfold apR;rw[if_neg (by decide),if_pos rfl,if_pos hc]
   have HC:Hid (a<256∧¬ (a:Int)∈D∧¬ popS d 32=16):=⟨hc.2.1,hc.2.2.1,by rw[HPL.out];exact hc.2.2.2⟩
   obtain⟨rfl,_⟩:=hc;go_enter Tryz.func86,Tryz.ntmps86;go_wp2_with fail;refine(denyAdd_any (H:=H) (B:=B) (T:=T) (n:=n) a HC.out.1 HC.out.2.1 HC.out.2.2 HB.out HSD.out HSU.out HV.out hH hgB).mono ?_;intro e w2 h;have HF:Hid (apPost H B g w (apR D U k T n 2 a 1) e w2):=by
    show apPost _ _ _ _ _ _ _
    rw[HR.out];exact ApP.to h HW.out (fun v hv=>withS_mem hv) (fun v _=>Iff.rfl)
   obtain⟨rfl,h⟩:=h;clear h HB HV HW HZ HSD HSU HPL HSER HR;go_wp2
   go_ret
   exact HF.out
  by_cases hc0:b=0∧a<256∧(a:Int)∈D
  ·have HR:Hid (apR D U k T n 2 a b=⟨true,lessS D a,U,k,T,n⟩):=by show _=_;unfold apR;rw[if_neg (by decide),if_pos rfl,if_neg hc,if_pos hc0]
   have HC:Hid (a<256∧(a:Int)∈D):=hc0.2;clear hc;obtain⟨rfl,_⟩:=hc0;go_enter Tryz.func86,Tryz.ntmps86;go_wp2_with fail;refine(denyRem_any (H:=H) (B:=B) (T:=T) (n:=n) a HC.out.1 HC.out.2 HB.out HSD.out HSU.out HV.out hH hgB).mono ?_;intro e w2 h;have HF:Hid (apPost H B g w (apR D U k T n 2 a 0) e w2):=by
    show apPost _ _ _ _ _ _ _
    rw[HR.out];exact ApP.to h HW.out (fun v hv=>lessS_mem) (fun v _=>Iff.rfl)
   obtain⟨rfl,h⟩:=h;clear h HB HV HW HZ HSD HSU HPL HSER HR;go_wp2
   go_ret
   exact HF.out
  ·have HR:Hid (apR D U k T n 2 a b=apNo):=by show _=_;unfold apR;rw[if_neg (by decide),if_pos rfl,if_neg hc,if_neg hc0]
   rw[←HPL.out] at hc;have HC:Hid (¬ (b=1∧a<256∧¬ (a:Int)∈D∧¬ popS d 32=16)):=hc;have HC0:Hid (¬ (b=0∧a<256∧(a:Int)∈D)):=hc0;clear hc hc0;go_enter Tryz.func86,Tryz.ntmps86;go_wp2_with fail;refine(denyNo_any a b HC.out HC0.out hbb HB.out HSD.out).mono ?_;intro e w2 h;have HF:Hid (apPost H B g w (apR D U k T n 2 a b) e w2):=by
    show apPost _ _ _ _ _ _ _
    rw[HR.out];exact⟨h.1,(show w2=_ from h.2) ▸ HW.out,fun h'=>by cases h'⟩
   obtain⟨rfl,h⟩:=h;clear h HB HV HW HZ HSD HSU HPL HSER HR;go_wp2
   go_ret
   exact HF.out
 by_cases k3:kind=3
 ·subst k3;clear k1 k2;by_cases hb0:b=0
  ·subst hb0;by_cases hc:(a:Int)≤k+n
   ·have HR:Hid (apR D U k T n 3 a 0=⟨true,D,U,max a k,T.drop (ackM k a*2),n-ackM k a⟩):=by show _=_;unfold apR;rw[if_neg (by decide),if_neg (by decide),if_pos rfl,if_pos ⟨rfl,hc⟩]
    have HD:Hid (decide ((a:Int)≤k+n)=true):=decide_eq_true hc;clear hc;go_enter Tryz.func86,Tryz.ntmps86;go_wp2_with fail;refine(applyAck_any (H:=H) (B:=B) (T:=T) (n:=n) a (by omega) (by omega) HB.out HSD.out HSU.out HV.out h0 h1 hn hH hgB).mono ?_;intro e w2 h;have HF:Hid (apPost H B g w (apR D U k T n 3 a 0) e w2):=by
     show apPost _ _ _ _ _ _ _
     rw[HR.out];exact ApP.to (by rw[HD.out] at h;exact h) HW.out (fun v _=>Iff.rfl) (fun v _=>Iff.rfl)
    rw[HD.out] at h;obtain⟨rfl,h⟩:=h;clear h HB HV HW HZ HSD HSU HPL HSER HR;go_wp2
    go_ret
    exact HF.out
   ·have HR:Hid (apR D U k T n 3 a 0=apNo):=by show _=_;unfold apR;rw[if_neg (by decide),if_neg (by decide),if_pos rfl,if_neg (fun h=>hc h.2)]
    have HD:Hid (decide ((a:Int)≤k+n)=false):=decide_eq_false hc;clear hc;go_enter Tryz.func86,Tryz.ntmps86;go_wp2_with fail;refine(applyAck_any (H:=H) (B:=B) (T:=T) (n:=n) a (by omega) (by omega) HB.out HSD.out HSU.out HV.out h0 h1 hn hH hgB).mono ?_;intro e w2 h;have HF:Hid (apPost H B g w (apR D U k T n 3 a 0) e w2):=by
     show apPost _ _ _ _ _ _ _
     rw[HR.out];exact(by rw[HD.out] at h;exact⟨h.1,HW.out.trans h.2.1,fun h'=>by cases h'⟩)
    rw[HD.out] at h;obtain⟨rfl,h⟩:=h;clear h HB HV HW HZ HSD HSU HPL HSER HR;go_wp2
    go_ret
    exact HF.out
  ·have hb0':¬ ((b:Int)=0):=by omega
   have HF:Hid (apPost H B g w (apR D U k T n 3 a b) (.returned (.bool false)) (w.alloc (.cells #[.int .u32 seq,.int .i64 3,.int .u32 a,.int .u32 b] 112))):=by
    show apPost _ _ _ _ _ _ _
    have:apR D U k T n 3 a b=apNo:=by unfold apR;rw[if_neg (by decide),if_neg (by decide),if_pos rfl,if_neg (fun h=>hb0 h.1)]
    rw[this];exact⟨rfl,HW.out,fun h'=>by cases h'⟩
   clear HB HV HW HZ HSD HSU HPL HSER;go_enter Tryz.func86,Tryz.ntmps86;go_wp2
   go_ret
   exact HF.out
 ·have HF:Hid (apPost H B g w (apR D U k T n kind a b) (.returned (.bool false)) (w.alloc (.cells #[.int .u32 seq,.int .i64 kind,.int .u32 a,.int .u32 b] 112))):=by
   show apPost _ _ _ _ _ _ _
   have:apR D U k T n kind a b=apNo:=by unfold apR;rw[if_neg k1,if_neg k2,if_neg k3]
   rw[this];exact⟨rfl,HW.out,fun h'=>by cases h'⟩
  clear HB HV HW HZ HSD HSU HPL HSER;go_enter Tryz.func86,Tryz.ntmps86;go_wp2
  go_ret
  exact HF.out
section
variable {P:Program} {ops:Array Oper} {Q:Exit→Act→World→Prop} {md:Region.Mode}
theorem wpAny_slotsU (M:Nat→World→World→Prop) (frame:(Nat→Value)→Act) (Ext:(Nat→Bool)→(Nat→Value)→World→Prop) (Good:Nat→(Nat→Bool)→World→Value→Prop)
  (hstab:∀ j L w w' i v,M i w w'→i≠j→L i=false→Good j L w v→Good j (updK L i) w' v)
  (hback:(List.range ops.size).all (fun i=>((ops[i]?).map (fun o=>o.after.all (fun e=>decide (e.on<i)))).getD false)=true)
  (hop:∀(i:Nat) (o:Oper) (L:Nat→Bool) (u:Nat→Value) (w:World),ops[i]?=some o→L i=false→Ext L u w→(∀ e∈o.after,Region.binds md e=true→L e.on=true∧Good e.on L w (u e.on))→
   ∀ K:Act→World→Prop,(∀ w' v,Good i (updK L i) w' v→Ext (updK L i) (upd u i v) w'→M i w w'→K (frame (upd u i v)) w')→(if Region.wanted o (yielded ops (frame u).tmps)=true then Oper.wp P o (frame u) w K Q else K ((frame u).put o.dst undef) w))
  (hdone:∀ L u w,Ext L u w→(∀ i,i<ops.size→Good i L w (u i))→Q .normal (frame u) w) :
  ∀(fuel:Nat) (listed:Array Bool) (u:Nat→Value) (w:World),listed.size=ops.size→Ext (fun n=>listed.getD n false) u w→(∀ i,i<ops.size→listed.getD i false=true→Good i (fun n=>listed.getD n false) w (u i))→
   (listed.toList.filter (!·)).length≤fuel→wpAny P md ops Q fuel listed (frame u) w:=by
 have hb:∀(i:Nat) (o:Oper),ops[i]?=some o→∀ e∈o.after,e.on<i:=fun i o ho e he=>by
  have hi:i<ops.size:=(Array.getElem?_eq_some_iff.1 ho).1;have:=List.all_eq_true.1 hback i (List.mem_range.2 hi);rw[ho] at this;simp at this;obtain⟨k,hk,rfl⟩:=Array.mem_iff_getElem.1 he;exact this k hk
 have hfin:∀(listed:Array Bool) (u:Nat→Value) (w:World),listed.size=ops.size→Ext (fun n=>listed.getD n false) u w→(∀ i,i<ops.size→listed.getD i false=true→Good i (fun n=>listed.getD n false) w (u i))→Region.ready md ops listed=[]→Q .normal (frame u) w:=by
  intro listed u w hs he hgd hr;refine hdone _ u w he fun i hi=>hgd i hi ?_
  have hall:∀ n i,i<n→i<ops.size→listed.getD i false=true:=by
   intro n
   induction n with
   |zero=>intro i h;omega
   |succ n ih=>
    intro i hin hi;by_cases hlt:i<n
    ·exact ih i hlt hi
    ·cases hl:listed.getD i false with
     |true=>rfl
     |false=>
      exfalso
      have hl':listed.getD i true=false:=by
       have hil:i<listed.size:=by omega
       simp[hil] at hl ⊢;exact hl
      have:i∈Region.ready md ops listed:=mem_ready.2 ⟨hi,hl',ops[i],by simp[hi],fun e hee _=>ih e.on (by have:=hb i ops[i] (by simp[hi]) e hee;omega) (by have:=hb i ops[i] (by simp[hi]) e hee;omega)⟩;rw[hr] at this;cases this
  exact hall (i+1) i (by omega) hi
 intro fuel
 induction fuel with
 |zero=>
  intro listed u w hs he hgd hc;have hr:Region.ready md ops listed=[]:=by
   apply List.eq_nil_iff_forall_not_mem.2;intro i hi;obtain⟨h1,h2,_⟩:=mem_ready.1 hi;have hil:i<listed.size:=by omega
   have h3:listed[i]=false:=by simpa[hil] using h2
   have:listed[i]∈listed.toList.filter (!·):=by
    rw[List.mem_filter];exact⟨by simp,by rw[h3];rfl⟩
   have:=List.length_pos_of_mem this;omega
  exact⟨hr,hfin listed u w hs he hgd hr⟩
 |succ fuel ih=>
  intro listed u w hs he hgd hc;refine⟨fun hr=>hfin listed u w hs he hgd hr,fun i hi=>?_⟩;obtain⟨h1,h2,o,ho,h3⟩:=mem_ready.1 hi;refine wpOp_step ho fun K hK=>?_
  have hil:i<listed.size:=by omega
  have hnl:listed.getD i false=false:=by simp[hil] at h2 ⊢;exact h2
  have hupd:(fun n=>(listed.setIfInBounds i true).getD n false)=updK (fun n=>listed.getD n false) i:=by
   funext n;rw[getD_set listed i n hil];rfl
  refine hop i o (fun n=>listed.getD n false) u w ho hnl he (fun e hee hbd=>⟨h3 e hee hbd,hgd e.on (by have:=hb i o ho e hee;omega) (h3 e hee hbd)⟩) K fun w' v hgv hext hm=>hK _ _ ?_
  refine ih _ _ w' (by simpa using hs) (by rw[hupd];exact hext) (fun j hj hlj=>?_) ?_
  ·rw[getD_set listed i j hil] at hlj;unfold upd;by_cases hji:j=i
   ·subst hji;rw[hupd];simpa using hgv
   ·rw[if_neg hji] at hlj;rw[if_neg hji,hupd];exact hstab j _ w w' i _ hm (Ne.symm hji) hnl (hgd j hj hlj)
  ·have:listed.toList[i]?=some false:=by simp[hil] at h2;simp[hil,h2]
   have:=count_set listed.toList i this;rw[Array.toList_setIfInBounds];omega
end
def Fresh (w w':World) (v:Value):Prop:=∀ k,v.ownBlock=some k→w.heap.size≤k∧k<w'.heap.size
def BlkLt (w:World) (v:Value):Prop:=∀ k,v.ownBlock=some k→k<w.heap.size
def ApV (x y:Value):Prop:=∀ k,x.ownBlock=some k→y.ownBlock≠some k
structure ApX (W:World) (ps:List Nat) (L:Nat→Bool) (u:Nat→Value) (w:World):Prop where
 below:Below W.heap.size W w
 blt:∀ p,p∈ps→L p=true→BlkLt w (u p)
 ap:∀ p,p∈ps→∀ q,q∈ps→p≠q→L p=true→L q=true→ApV (u p) (u q)
theorem ApX.start (W:World) (ps:List Nat) (L:Nat→Bool) (u:Nat→Value) (h:∀ i,L i=false):ApX W ps L u W:=
 ⟨Below.refl _ _,fun p _ hp=>(by rw[h] at hp;cases hp),fun p _ q _ _ hp=>(by rw[h] at hp;cases hp)⟩
theorem ApX.step {W:World} {ps:List Nat} {L:Nat→Bool} {u:Nat→Value} {w w':World} (h:ApX W ps L u w) (i:Nat) (v:Value) (b:Below w.heap.size w w') (hv:i∈ps→Fresh w w' v):ApX W ps (updK L i) (upd u i v) w':=by
 refine⟨h.below.trans (b.mono h.below.size),fun p hp hl=>?_,fun p hp q hq hne hlp hlq=>?_⟩
 ·by_cases e:p=i
  ·subst e;simp only[upd,if_true];exact fun k hk=>(hv hp k hk).2
  ·simp only[updK,if_neg e] at hl;simp only[upd,if_neg e];exact fun k hk=>Nat.lt_of_lt_of_le (h.blt p hp hl k hk) b.size
 ·by_cases e:p=i
  ·subst e;have e2:¬ q=p:=fun h=>hne h.symm
   simp only[updK,if_neg e2] at hlq;simp only[upd,if_true,if_neg e2];intro k hk hk';have h1:=(hv hp k hk).1;have h2:=h.blt q hq hlq k hk';omega
  ·by_cases e2:q=i
   ·subst e2;simp only[updK,if_neg e] at hlp;simp only[upd,if_true,if_neg e];intro k hk hk';have h1:=(hv hq k hk').1;have h2:=h.blt p hp hlp k hk;omega
   ·simp only[updK,if_neg e,if_neg e2] at hlp hlq;simp only[upd,if_neg e,if_neg e2];exact h.ap p hp q hq hne hlp hlq
theorem ApX.drew {W:World} {ps:List Nat} {L:Nat→Bool} {u:Nat→Value} {w:World} (h:ApX W ps L u w):ApX W ps L u w.drew:=⟨⟨h.below.os,h.below.tape,h.below.output,h.below.size,h.below.block⟩,h.blt,h.ap⟩
structure ApS (w:World) (R last:Nat) (T:TypeId) (ZS:Array Value) (Fin:World→Array Value→Prop) (ps:List Nat) (L:Nat→Bool) (u:Nat→Value) (w':World):Prop where
 ax:ApX w ps L u w'
 pre:L last=false→w'.heap[R]?=some (.cells ZS T (0,0))
 fin:L last=true→∃ cs,w'.heap[R]?=some (.cells cs T (0,0))∧Fin w' cs
section
variable {w:World} {R last:Nat} {T:TypeId} {ZS:Array Value} {Fin:World→Array Value→Prop} {ps:List Nat} {L:Nat→Bool} {u:Nat→Value} {w' w'':World}
theorem ApS.lt (h:ApS w R last T ZS Fin ps L u w'):R<w'.heap.size:=by
 cases hl:L last with
 |false=>exact(Array.getElem?_eq_some_iff.1 (h.pre hl)).1
 |true=>obtain⟨cs,h1,_⟩:=h.fin hl;exact(Array.getElem?_eq_some_iff.1 h1).1
theorem ApS.step (h:ApS w R last T ZS Fin ps L u w') (stab:∀ a b cs,Below a.heap.size a b→Fin a cs→Fin b cs) (i:Nat) (hi:i≠last) (v:Value) (b:Below w'.heap.size w' w'') (hv:i∈ps→Fresh w' w'' v):ApS w R last T ZS Fin ps (updK L i) (upd u i v) w'':=by
 have hlt:=h.lt;have e:updK L i last=L last:=by unfold updK;rw[if_neg (fun h=>hi h.symm)]
 refine⟨h.ax.step i v b hv,fun hl=>?_,fun hl=>?_⟩
 ·rw[b.block R hlt];exact h.pre (e ▸ hl)
 ·obtain⟨cs,h1,h2⟩:=h.fin (e ▸ hl);exact⟨cs,by rw[b.block R hlt];exact h1,stab _ _ _ b h2⟩
theorem ApS.put (h:ApS w R last T ZS Fin ps L u w') (hR:w.heap.size≤R) (hl:last∉ps) (v:Value) {cs:Array Value} (hw:Wr R w' w'') (hr:w''.heap[R]?=some (.cells cs T (0,0))) (hf:Fin w'' cs):ApS w R last T ZS Fin ps (updK L last) (upd u last v) w'':=by
 have hk:∀ p,p∈ps→p≠last:=fun p hp e=>hl (e ▸ hp)
 refine⟨⟨h.ax.below.trans (hw.below hR),fun p hp hlp=>?_,fun p hp q hq hne hlp hlq=>?_⟩,fun hx=>?_,fun _=>⟨cs,hr,hf⟩⟩
 ·simp only[updK,if_neg (hk p hp)] at hlp;simp only[upd,if_neg (hk p hp)];exact fun k hk'=>by rw[hw.size];exact h.ax.blt p hp hlp k hk'
 ·simp only[updK,if_neg (hk p hp)] at hlp;simp only[updK,if_neg (hk q hq)] at hlq;simp only[upd,if_neg (hk p hp),if_neg (hk q hq)];exact h.ax.ap p hp q hq hne hlp hlq
 ·unfold updK at hx;simp at hx
theorem ApS.start {wb:World} (ax:ApX w ps L u wb) (h:∀ i,L i=false) (hr:wb.heap[R]?=some (.cells ZS T (0,0))):ApS w R last T ZS Fin ps L u wb:=⟨ax,fun _=>hr,fun hl=>(by rw[h] at hl;cases hl)⟩
end
end Go.Proofs.YthmeoilbmfdhfaaGreat
