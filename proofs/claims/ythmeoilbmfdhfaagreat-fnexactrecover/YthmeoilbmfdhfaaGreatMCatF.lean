import Derived.Test.YthmeoilbmfdhfaaGreatMReg
import Derived.Test.YthmeoilbmfdhfaaGreatMSwJa
import Derived.Test.YthmeoilbmfdhfaaGreatMSvQ
import Derived.Lib.AppendZerosOnto
import Derived.Test.YthmeoilbmfdhfaaGreatMBase
namespace Go.Proofs.YthmeoilbmfdhfaaGreat
open Go.ChangeShapes Go.WideShapes Go.ChangeAt Go.RowKit
set_option linter.unusedVariables false
theorem flat_snoc (zss:List (List Int)) (k:Nat) (h:k<zss.length):(zss.take (k+1)).flatten=(zss.take k).flatten++zss.getD k []:=by
 rw[List.take_succ_eq_append_getElem h,List.flatten_append];simp[h]
theorem flat_le (zss:List (List Int)) (k:Nat):(zss.take k).flatten.length≤zss.flatten.length:=by
 conv=>rhs;rw[←List.take_append_drop k zss]
 rw[List.flatten_append,List.length_append];omega
set_option maxHeartbeats 400000 in
theorem cat_any (p m cap:Nat) (vs:List Value) (zss:List (List Int)) (w:World) (hm:zss.length=m) (hp:p<w.heap.size) (hc:∀ i,i<m→w.cell? ⟨p,i,none⟩=some (vs.getD i undef))
  (hz:∀ i,i<m→Part w (vs.getD i undef) (zss.getD i [])) (ht:zss.flatten.length≤2097152) (hm':m≤1048576) :
  Calls Tryz.prog 70 #[.slice (some ⟨p,0,none⟩) m cap] w fun e w'=>∃ v,e=.returned v∧Own w' w.heap.size v zss.flatten∧Below w.heap.size w w':=by
 go_enter Tryz.func70,Tryz.ntmps70;go_wp2
 go_loopw [3,4] (fun v i wr=>∃ k:Nat,k≤m∧i=.int .i64 k∧Own wr w.heap.size v (zss.take k).flatten∧Below w.heap.size w wr) (fun _ i _=>m-(intOf i).toNat)
 case atStart=>exact⟨0,Nat.zero_le _,rfl,Own.empty _ _ (Nat.le_refl _),(Below.refl _ _).alloc (Nat.le_refl _) _⟩
 case round=>
  obtain⟨k,hk,rfl,hown,hbel⟩:=hrel;by_cases hlt:k<m
  ·have hsz:=hbel.size;obtain⟨b,o,c,hv,hb,hcell⟩:=hz k hlt;have hck:wr.cell? ⟨p,k,none⟩=some (.slice (some ⟨b,o,none⟩) (zss.getD k []).length c):=by rw[hbel.cell (p:=⟨p,k,none⟩) hp,hc k hlt,hv]
   have hnews:∀ j,j<(zss.getD k []).length→wr.cell? ((⟨b,o,none⟩:Addr).add j)=some (.int .u8 ((zss.getD k []).getD j 0)):=by
    intro j hj;rw[Addr.add_lit,hbel.cell (p:=⟨b,o+j,none⟩) hb];exact hcell j hj
   have hfl:=flat_snoc zss k (by omega);have hle:=flat_le zss (k+1);have hle2:(zss.take k).flatten.length+(zss.getD k []).length≤2097152:=by rw[hfl,List.length_append] at hle;omega
   have HF:Hid _:=hfl;clear hfl hle hv hcell hc hz;generalize zss.getD k []=z at *;generalize (zss.take k).flatten=y at *;generalize hzl:z.length=zl at *;have HL:Hid _:=hzl;clear hzl;have HN:Hid _:=hnews;clear hnews;go_wp2_with (at_builtin;refine wpList_app _ rfl _ _ rfl w.heap.size _ _ rfl hown ⟨b,o,none⟩ _ _ z rfl HL.out HN.out ?c2 ?c3 ?_)
   case c2=>omega
   case c3=>omega
   intro v' w1 hown' hbel' _;have HO:Hid (Own w1 w.heap.size v' (zss.take (k+1)).flatten):=by rw[HF.out];exact hown'
   have HB:Hid (Below w.heap.size w w1):=hbel.trans hbel';clear hown hown' hbel hbel';go_wp2;go_roundw
   case rel=>exact⟨k+1,by omega,by go_num,HO.out,HB.out⟩
   case measure=>simp[intOf];omega
  ·have hkn:zss.take k=zss:=List.take_of_length_le (by omega);rw[hkn] at hown;have HO:Hid _:=hown;clear hown hkn;go_wp2
   go_ret
   exact⟨_,rfl,HO.out,hbel⟩
def four (x:Int):List Int:=[x%256,x/256%256,x/65536%256,x/16777216]
set_option maxHeartbeats 400000 in
theorem four_any (x:Int) (w:World) (hx:U32 x) :
  Calls Tryz.prog 97 #[.int .u32 x] w fun e w'=>e=.returned (.slice (some ⟨w.heap.size,0,none⟩) 4 4)∧
   w'=w.alloc (.cells #[.int .u8 (x%256),.int .u8 (x/256%256),.int .u8 (x/65536%256),.int .u8 (x/16777216)] 5):=by
 obtain⟨h0,h1⟩:=hx;go_enter Tryz.func97,Tryz.ntmps97;go_wp2
 go_ret
 exact⟨rfl,rfl⟩
set_option maxRecDepth 100000 in
set_option maxHeartbeats 2000000 in
theorem gsn_any (gn tl:Int) (aD aU:Option Addr) (nD cD nU cU:Nat) (D U:List Int) (w:World) (hD:D.length=nD) (hU:U.length=nU) (mD:nD≤1048576) (mU:nU≤1048576) (haD:At .i64 w aD D) (haU:At .i64 w aU U) :
  Calls Tryz.prog 96 #[.agg #[.int .u32 gn,.int .u32 tl,.slice aD nD cD,.slice aU nU cU]] w fun e w'=>e=.returned (.bool (snB gn tl D U))∧Below w.heap.size w w':=by
 have b0:Below w.heap.size w (w.alloc (.cells #[.int .u32 gn,.int .u32 tl,.slice aD nD cD,.slice aU nU cU] 30)):=(Below.refl _ _).alloc (Nat.le_refl _) _;have HB:Hid (∀ q,Below w.heap.size w ((w.alloc (.cells #[.int .u32 gn,.int .u32 tl,.slice aD nD cD,.slice aU nU cU] 30)).drewN q)):=fun q=>below_dq b0 q
 have HB0:Hid (Below w.heap.size w (w.alloc (.cells #[.int .u32 gn,.int .u32 tl,.slice aD nD cD,.slice aU nU cU] 30))):=b0;have HA:Hid (∀ wz,Below w.heap.size w wz→At .i64 wz aD D∧At .i64 wz aU U):=fun wz b=>⟨haD.below b,haU.below b⟩
 have HL:Hid (D.length=nD∧U.length=nU):=⟨hD,hU⟩
 clear haD haU hD hU b0;by_cases h1:gn≤4000000000
 ·by_cases h2:1≤tl
  ·have h2':tl≥1:=h2;by_cases h3:tl≤4000000000
   ·by_cases h4:SerP D
    ·have HS1:Hid (serB D=true):=serB_yes h4;by_cases h5:nD≤16
     ·have h5':(nD:Int)≤16:=by omega
      have HE:Hid (snB gn tl D U=serB U):=by
       show _=_
       by_cases h6:SerP U
       ·rw[serB_yes h6,snB_yes ⟨h1,h2,h3,h4,by rw[HL.out.1];exact h5,h6⟩]
       ·rw[serB_no h6,snB_no (fun q=>h6 q.2.2.2.2.2)]
      clear h4;go_enter Tryz.func96,Tryz.ntmps96;go_wp2_with fail;refine(serials_any _ _ _ D _ HL.out.1 mD (HA.out _ HB0.out).1).mono ?_;rintro e w1 ⟨rfl,q1,rfl⟩;rw[HS1.out];go_wp2_with fail;refine(serials_any _ _ _ U _ HL.out.2 mU (HA.out _ (HB.out q1)).2).mono ?_;rintro e w2 ⟨rfl,q2,rfl⟩;rw[dN];have HF:=HB.out (q1+q2);have HFF:Hid _:=HF;clear HF HB HB0 HA;generalize hq:serB U=q at *;have HQ:Hid (serB U=q):=hq;clear hq;go_wp2
      go_ret
      exact⟨by rw[HE.out];rfl,HFF.out⟩
     ·have h5':¬ ((nD:Int)≤16):=by omega
      have HE:Hid (snB gn tl D U=false):=snB_no (fun q=>h5 (by rw[←HL.out.1];exact q.2.2.2.2.1));clear h4;go_enter Tryz.func96,Tryz.ntmps96;go_wp2_with fail;refine(serials_any _ _ _ D _ HL.out.1 mD (HA.out _ HB0.out).1).mono ?_;rintro e w1 ⟨rfl,q1,rfl⟩;rw[HS1.out];have HFF:=HB.out q1;have HF:Hid _:=HFF;clear HFF HB HB0 HA;go_wp2
      go_ret
      exact⟨by rw[HE.out];rfl,HF.out⟩
    ·have HS1:Hid (serB D=false):=serB_no h4;have HE:Hid (snB gn tl D U=false):=snB_no (fun q=>h4 q.2.2.2.1);clear h4;go_enter Tryz.func96,Tryz.ntmps96;go_wp2_with fail;refine(serials_any _ _ _ D _ HL.out.1 mD (HA.out _ HB0.out).1).mono ?_;rintro e w1 ⟨rfl,q1,rfl⟩;rw[HS1.out];have HFF:=HB.out q1;have HF:Hid _:=HFF;clear HFF HB HB0 HA;go_wp2
     go_ret
     exact⟨by rw[HE.out];rfl,HF.out⟩
   ·have HE:Hid (snB gn tl D U=false):=snB_no (fun q=>h3 q.2.2.1);clear HB HA;go_enter Tryz.func96,Tryz.ntmps96;go_wp2
    go_ret
    exact⟨by rw[HE.out];rfl,HB0.out⟩
  ·have HE:Hid (snB gn tl D U=false):=snB_no (fun q=>h2 q.2.1);have h2':¬ (tl≥1):=h2;clear HB HA;go_enter Tryz.func96,Tryz.ntmps96;go_wp2
   go_ret
   exact⟨by rw[HE.out];rfl,HB0.out⟩
 ·have HE:Hid (snB gn tl D U=false):=snB_no (fun q=>h1 q.1);clear HB HA;go_enter Tryz.func96,Tryz.ntmps96;go_wp2
  go_ret
  exact⟨by rw[HE.out];rfl,HB0.out⟩
set_option maxHeartbeats 400000 in
theorem two_any (x:Int) (w:World) (h0:0≤x) (h1:x<256) :
  Calls Tryz.prog 145 #[.int .i64 x] w fun e w'=>e=.returned (.slice (some ⟨w.heap.size,0,none⟩) 2 2)∧w'=w.alloc (.cells #[.int .u8 x,.int .u8 0] 5):=by
 have e1:x.tmod 256=x:=by rw[Int.tmod_eq_emod_of_nonneg h0];exact Int.emod_eq_of_lt h0 h1
 have e2:x.tdiv 256=0:=by rw[Int.tdiv_eq_ediv_of_nonneg h0];exact Int.ediv_eq_zero_of_lt h0 h1
 have e3:x%256=x:=Int.emod_eq_of_lt h0 h1;have e4:x/256=0:=Int.ediv_eq_zero_of_lt h0 h1;go_enter Tryz.func145,Tryz.ntmps145;go_wp2
 go_ret
 exact⟨rfl,rfl⟩
def den2 (xs:List Int) (i:Nat):List Int:=if i<xs.length then [xs.getD i 0,0] else [0,0]
def denL (xs:List Int) (f k:Nat):List Int:=((List.range k).map (fun j=>den2 xs (f+j))).flatten
theorem denL_succ (xs:List Int) (f k:Nat):denL xs f (k+1)=denL xs f k++den2 xs (f+k):=by
 unfold denL;rw[List.range_succ,List.map_append,List.flatten_append];simp
theorem den2_len (xs:List Int) (i:Nat):(den2 xs i).length=2:=by unfold den2;split<;>rfl
theorem denL_len (xs:List Int) (f k:Nat):(denL xs f k).length=2*k:=by
 induction k with
 |zero=>rfl
 |succ k ih=>rw[denL_succ,List.length_append,ih,den2_len];omega
set_option maxRecDepth 100000 in
set_option maxHeartbeats 2000000 in
theorem den_any (a:Option Addr) (n cap:Nat) (xs:List Int) (f m:Nat) (w:World) (hn:xs.length=n) (hm:n≤1048576) (ha:At .i64 w a xs) (hx:∀ z∈xs,0≤z∧z<256) (hf:f+m≤1048576) :
  Calls Tryz.prog 99 #[.slice a n cap,.int .i64 f,.int .i64 ((f:Int)+m)] w fun e w'=>∃ v,e=.returned v∧Own w' w.heap.size v (denL xs f m)∧Below w.heap.size w w':=by
 have HA:Hid (At .i64 w a xs):=ha;have HN:Hid (xs.length=n):=hn;have HX:Hid (∀ z∈xs,0≤z∧z<256):=hx;have H0:Hid (Own (w.alloc (.cells #[] 5)) w.heap.size (.slice (some ⟨w.heap.size,0,none⟩) 0 0) (denL xs f 0)∧Below w.heap.size w (w.alloc (.cells #[] 5))):=⟨Own.empty _ _ (Nat.le_refl _),(Below.refl _ _).alloc (Nat.le_refl _) _⟩
 clear ha hn hx;go_enter Tryz.func99,Tryz.ntmps99;go_wp2_with fail
 go_loopw [7,8] (fun v i wr=>∃(j:Nat) (l:Value),j≤m∧i=.int .i64 ((f:Int)+j)∧l=v∧Own wr w.heap.size l (denL xs f j)∧Below w.heap.size w wr) (fun _ i _=>f+m-(intOf i).toNat)
 case atStart=>exact⟨0,_,Nat.zero_le _,by simp,rfl,H0.out.1,H0.out.2⟩
 case round=>
  clear H0;obtain⟨j,l,hj,rfl,rfl,hown,hbel⟩:=hrel;by_cases hlt:j<m
  ·have hlt':(f:Int)+j<(f:Int)+m:=by omega
   have hsz:=hbel.size;have HOW:Hid (Own wr w.heap.size l (denL xs f j)):=hown;have HBE:Hid (Below w.heap.size w wr):=hbel;have HSU:Hid (denL xs f (j+1)=denL xs f j++den2 xs (f+j)):=denL_succ xs f j;have HLE:Hid ((denL xs f j).length+2≤1099511627776):=by show _≤_;rw[denL_len];omega
   by_cases hin:f+j<n
   ·have hin':(f:Int)+j<(n:Int):=by omega
    obtain⟨b,off,ea,hb,hc⟩:=(HA.out.below hbel).get (by have:=HN.out;omega);have hck:=hc (f+j) (by have:=HN.out;omega);have htn:((f:Int)+j).toNat=f+j:=by omega
    have hr:=HX.out (xs.getD (f+j) 0) (getD_mem (by have:=HN.out;omega));have HD2:Hid (den2 xs (f+j)=[xs.getD (f+j) 0,0]):=by show _=_;unfold den2;rw[if_pos (by have:=HN.out;omega)]
    subst ea;clear hc hb hown hbel;generalize xs.getD (f+j) 0=z at *;have HOA:Hid (Own (wr.alloc (.cells #[.int .u8 z,.int .u8 0] 5)) w.heap.size l (denL xs f j)):=HOW.out.alloc _;have HSZ:Hid (w.heap.size≤(wr.alloc (.cells #[.int .u8 z,.int .u8 0] 5)).heap.size):=by show _≤_;simp;omega
    have HNW:Hid (∀ i,i<2→(wr.alloc (.cells #[.int .u8 z,.int .u8 0] 5)).cell? ((⟨wr.heap.size,0,none⟩:Addr).add i)=some (.int .u8 ([z,0].getD i 0))):=by
     intro i hi;rw[Addr.add_lit,Nat.zero_add,cell_of_row _ _ _ _ _ _ (heap_alloc_new wr _)];have:i=0∨i=1:=by omega
     rcases this with rfl|rfl<;>rfl
    go_wp2_with fail;refine(two_any z wr hr.1 hr.2).mono ?_;rintro e w2 ⟨rfl,rfl⟩;go_wp2_with (first
     |(at_builtin;refine wpList_app _ rfl (.tmp 20) (.tmp 25) rfl w.heap.size _ _ rfl HOA.out ⟨wr.heap.size,0,none⟩ 2 2 [z,0] rfl rfl HNW.out HLE.out HSZ.out ?_)
     |fail)
    intro v' w3 hown' hbel' _;have HO2:Hid (Own w3 w.heap.size v' (denL xs f (j+1))):=by show Own _ _ _ _;rw[HSU.out,HD2.out];exact hown'
    have HB2:Hid (Below w.heap.size w w3):=(HBE.out.alloc hsz _).trans hbel';clear hown' hbel' HOW HBE HOA HNW HSZ HLE HD2 HSU hck;go_wp2;go_roundw
    case rel=>exact⟨j+1,_,by omega,by go_num,rfl,HO2.out,HB2.out⟩
    case measure=>simp[intOf];omega
   ·have hin':¬ ((f:Int)+j<(n:Int)):=by omega
    have HD2:Hid (den2 xs (f+j)=[0,0]):=by show _=_;unfold den2;rw[if_neg (by have:=HN.out;omega)]
    clear hown hbel;have HOA:Hid (Own (wr.alloc (.cells #[.int .u8 0,.int .u8 0] 5)) w.heap.size l (denL xs f j)):=HOW.out.alloc _;have HSZ:Hid (w.heap.size≤(wr.alloc (.cells #[.int .u8 0,.int .u8 0] 5)).heap.size):=by show _≤_;simp;omega
    have HNW:Hid (∀ i,i<2→(wr.alloc (.cells #[.int .u8 0,.int .u8 0] 5)).cell? ((⟨wr.heap.size,0,none⟩:Addr).add i)=some (.int .u8 ([0,0].getD i 0))):=by
     intro i hi;rw[Addr.add_lit,Nat.zero_add,cell_of_row _ _ _ _ _ _ (heap_alloc_new wr _)];have:i=0∨i=1:=by omega
     rcases this with rfl|rfl<;>rfl
    go_wp2_with (first
     |(at_builtin;refine wpList_app _ rfl (.tmp 27) (.tmp 28) rfl w.heap.size _ _ rfl HOA.out ⟨wr.heap.size,0,none⟩ 2 2 [0,0] rfl rfl HNW.out HLE.out HSZ.out ?_)
     |fail)
    intro v' w3 hown' hbel' _;have HO2:Hid (Own w3 w.heap.size v' (denL xs f (j+1))):=by show Own _ _ _ _;rw[HSU.out,HD2.out];exact hown'
    have HB2:Hid (Below w.heap.size w w3):=(HBE.out.alloc hsz _).trans hbel';clear hown' hbel' HOW HBE HOA HNW HSZ HLE HD2 HSU;go_wp2;go_roundw
    case rel=>exact⟨j+1,_,by omega,by go_num,rfl,HO2.out,HB2.out⟩
    case measure=>simp[intOf];omega
  ·have hjm:j=m:=by omega
   subst hjm;have hlt':¬ ((f:Int)+j<(f:Int)+j):=by omega
   have HO2:Hid (Own wr w.heap.size l (denL xs f j)):=hown;clear hown;go_wp2
   go_ret
   exact⟨_,rfl,HO2.out,hbel⟩
noncomputable def bv (xs:List Int) (k:Nat):Nat→Int
 |0=>0
 |n+1=>2*bv xs k n+(if memB (8*(k:Int)+(7-(n:Int))) xs=true then 1 else 0)
theorem bv_bd (xs:List Int) (k n:Nat):0≤bv xs k n∧bv xs k n<2^n:=by
 induction n with
 |zero=>exact⟨Int.le_refl _,by simp[bv]⟩
 |succ n ih=>
  simp only[bv,Int.pow_succ];split<;>omega
noncomputable def bitsL (xs:List Int) (k:Nat):List Int:=(List.range k).map (fun i=>bv xs i 8)
theorem bitsL_succ (xs:List Int) (k:Nat):bitsL xs (k+1)=bitsL xs k++[bv xs k 8]:=by unfold bitsL;rw[List.range_succ,List.map_append];rfl
theorem bitsL_len (xs:List Int) (k:Nat):(bitsL xs k).length=k:=by simp[bitsL]
set_option maxRecDepth 100000 in
set_option maxHeartbeats 2000000 in
theorem bits_any (a:Option Addr) (n cap:Nat) (xs:List Int) (w:World) (hn:xs.length=n) (hm:n≤1048576) (ha:At .i64 w a xs) :
  Calls Tryz.prog 98 #[.slice a n cap] w fun e w'=>∃ v,e=.returned v∧Own w' w.heap.size v (bitsL xs 32)∧Below w.heap.size w w':=by
 have HA:Hid (At .i64 w a xs):=ha;have HN:Hid (xs.length=n):=hn;have H0:Hid (Own (w.alloc (.cells #[] 5)) w.heap.size (.slice (some ⟨w.heap.size,0,none⟩) 0 0) (bitsL xs 0)∧Below w.heap.size w (w.alloc (.cells #[] 5))):=⟨Own.empty _ _ (Nat.le_refl _),(Below.refl _ _).alloc (Nat.le_refl _) _⟩
 have HBV:Hid (∀ k m,bv xs k (m+1)=2*bv xs k m+(if memB (8*(k:Int)+(7-(m:Int))) xs=true then 1 else 0)):=fun _ _=>rfl
 clear ha hn;go_enter Tryz.func98,Tryz.ntmps98;go_wp2_with fail
 go_loopw [3,4] (fun v i wr=>∃(k:Nat) (l:Value),k≤32∧i=.int .i64 k∧l=v∧Own wr w.heap.size l (bitsL xs k)∧Below w.heap.size w wr) (fun _ i _=>32-(intOf i).toNat)
 case atStart=>exact⟨0,_,Nat.zero_le _,rfl,rfl,H0.out.1,H0.out.2⟩
 case round=>
  clear H0;obtain⟨k,l,hk,rfl,rfl,hown,hbel⟩:=hrel;by_cases hlt:k<32
  ·have hlt':(k:Int)<32:=by omega
   have HOW:Hid (Own wr w.heap.size l (bitsL xs k)):=hown;have HBE:Hid (Below w.heap.size w wr):=hbel;have hsz:=hbel.size;clear hown hbel;go_wp2_with fail
   go_loop [5,6] (fun q i=>∃ m:Nat,m≤8∧i=.int .i64 (7-(m:Int))∧q=.int .i64 (bv xs k m)) (fun _ i=>(intOf i+1).toNat)
   case atStart=>exact⟨0,by omega,rfl,rfl⟩
   case round=>
    obtain⟨m,hm8,rfl,rfl⟩:=hrel;have hbd:=bv_bd xs k m;have hp:(2:Int)^m≤256:=by
     have:(2:Nat)^m≤2^8:=Nat.pow_le_pow_right (by decide) hm8
     exact_mod_cast this
    by_cases h8:m<8
    ·have h8':(7:Int)-m≥0:=by omega
     have HS:=HBV.out k m;have HSS:Hid _:=HS;clear HS;generalize bv xs k m=y at *;have hy0:0≤y:=hbd.1;have hy1:y<256:=by omega
     clear hbd hp;go_wp2_with fail;refine(holds_any _ _ _ xs _ _ HN.out hm (HA.out.below HBE.out)).mono ?_;rintro e w2 ⟨rfl,rfl⟩;by_cases hmem:memB (8*(k:Int)+(7-(m:Int))) xs=true
     ·have HE:Hid (bv xs k (m+1)=2*y+1):=by show _=_;rw[HSS.out,if_pos hmem]
      rw[hmem];clear hmem HSS;go_wp2
      go_round
      case rel=>exact⟨m+1,by omega,by go_num,by rw[HE.out]⟩
      case measure=>simp[intOf];omega
     ·have HE:Hid (bv xs k (m+1)=2*y):=by show _=_;rw[HSS.out,if_neg hmem];omega
      rw[Bool.not_eq_true] at hmem;rw[hmem];clear hmem HSS;go_wp2
      go_round
      case rel=>exact⟨m+1,by omega,by go_num,by rw[HE.out]⟩
      case measure=>simp[intOf];omega
    ·have hme:m=8:=by omega
     subst hme;have h8':¬ ((7:Int)-(8:Nat)≥0):=by omega
     have HSU:Hid (bitsL xs (k+1)=bitsL xs k++[bv xs k 8]):=bitsL_succ xs k;have HLE:Hid ((bitsL xs k).length+1≤1099511627776):=by show _≤_;rw[bitsL_len];omega
     generalize bv xs k 8=y at *;have hy0:0≤y:=hbd.1;have hy1:y<256:=by have:=hbd.2;omega
     have hym:y%256=y:=Int.emod_eq_of_lt hy0 hy1;clear hbd hp;have HOA:Hid (Own (wr.alloc (.cells #[.int .u8 y] 5)) w.heap.size l (bitsL xs k)):=HOW.out.alloc _;have HSZ:Hid (w.heap.size≤(wr.alloc (.cells #[.int .u8 y] 5)).heap.size):=by show _≤_;simp;omega
     have HNW:Hid (∀ i,i<1→(wr.alloc (.cells #[.int .u8 y] 5)).cell? ((⟨wr.heap.size,0,none⟩:Addr).add i)=some (.int .u8 ([y].getD i 0))):=by
      intro i hi;obtain rfl:i=0:=by omega
      rw[Addr.add_lit,Nat.zero_add,cell_of_row _ _ _ _ _ _ (heap_alloc_new wr _)];rfl
     go_wp2_with (first
      |(at_builtin;refine wpList_app _ rfl (.tmp 26) (.tmp 29) rfl w.heap.size _ _ rfl HOA.out ⟨wr.heap.size,0,none⟩ 1 1 [y] rfl rfl HNW.out HLE.out HSZ.out ?_)
      |fail)
     intro v' w3 hown' hbel' _;have HO2:Hid (Own w3 w.heap.size v' (bitsL xs (k+1))):=by show Own _ _ _ _;rw[HSU.out];exact hown'
     have HB2:Hid (Below w.heap.size w w3):=(HBE.out.alloc hsz _).trans hbel';clear hown' hbel' HOW HBE HOA HNW HSZ HLE HSU;go_wp2;go_roundw
     case rel=>exact⟨k+1,_,by omega,by go_num,rfl,HO2.out,HB2.out⟩
     case measure=>simp[intOf];omega
  ·have hke:k=32:=by omega
   subst hke;have HO2:Hid (Own wr w.heap.size l (bitsL xs 32)):=hown;clear hown;go_wp2
   go_ret
   exact⟨_,rfl,HO2.out,hbel⟩
def RowC (w:World) (g C:Nat):Prop:=∃ cur:Array Value,w.heap[g]?=some (.cells cur 5 (0,0))∧cur.size=C
theorem wpList_appZ (w:World) {ops:Array Oper} {rest:List Oper} {o:Oper} {a:Act} {Q:Exit→Act→World→Prop} (hg:o.guard=none) (s x:Operand)
  (hop:o.op=Op.call { callee:=Callee.builtin Builtin.append,args:=#[s,x],argTypes:=#[22,3] }) (hs:a.eval s=.slice none 0 0) (n:Nat) (hx:a.eval x=.int .i64 n) (hn:0<n) (hb:n≤2097152)
  (hK:∀ C w',n≤C→C≤maxLen→RowC w' w.heap.size C→Below w.heap.size w w'→wpList Tryz.prog ops Q rest (a.put o.dst (.slice (some ⟨w.heap.size,0,none⟩) n C)) w') :
  wpList Tryz.prog ops Q (o::rest) a w:=by
 obtain⟨i0,hi,hz0,hz1,hz2⟩:=info_parts Tryz.infoU8';have hfit:Builtin.nextslicecap (0+n) 0*i0.bytes≤281474976710656:=by rw[Nat.zero_add,nextslicecap_zero (by omega),hz2];omega
 have hr:=Go.Lib.run_append_grow_zeros (P:=Tryz.prog) w 22 3 o.type 5 i0 (.int .u8 0) .i64 .i64 Tryz.underlying22 Tryz.underlying3 hi hz0 none 0 0 [] (by rfl) n hn (by omega) (by omega) (by omega) (by rw[hz2];omega) hfit;have hge:=grownCap_ge w (0+n) 0 5;have hle:=grownCap_le_maxLen w (0+n) 0 5 (by unfold maxLen;omega);rw[Nat.zero_add] at hr hge hle;generalize grownCap w n 0 5=C at hr hge hle;refine wpList_plain hg fun K hK'=>?_
 have hk:=hK' _ _ (hK C _ hge hle ⟨_,heap_alloc_new w.drew (.cells ((([]:List Value).toArray++Builtin.zeroCells (Value.int .u8 0).cells n)++Builtin.zeroCells (Value.int .u8 0).cells (C-n)) 5),by simp[Builtin.zeroCells,Value.cells];omega⟩ ((Below.refl _ _).drew.alloc (Nat.le_refl _) _));unfold Oper.wp execOp;simp only[hop,resolve,invoke,builtin,Sem.run_bind,Sem.run_pure,Result.andThen_ok,List.map_toArray,List.map_cons,List.map_nil,hs,hx,hr];exact hk
set_option maxRecDepth 100000 in
set_option maxHeartbeats 1000000 in
theorem grow_any (n:Nat) (w:World) (hn:0<n) (hb:n≤2097152) :
  Calls Tryz.prog 170 #[.slice none 0 0,.int .i64 n] w fun e w'=>∃ v,e=.returned v∧Own w' w.heap.size v []∧Below w.heap.size w w':=by
 have h0:¬ ((n:Int)<0):=by omega
 have h1:(n:Int)>0:=by omega
 go_enter Tryz.func170,Tryz.ntmps170;go_wp2_with (first
  |(refine wpList_appZ _ rfl (.tmp 20) (.tmp 21) rfl rfl n rfl hn hb ?_)
  |fail)
 intro C w1 hC hm hrow hb1;have HF:Hid (Own w1 w.heap.size (.slice (some ⟨w.heap.size,0,none⟩) 0 C) []):=by
  obtain⟨cur,h1,h2⟩:=hrow;exact⟨⟨by simp,.inr ⟨w.heap.size,C,cur,rfl,Nat.le_refl _,h1,by simp,hm,by rw[h2,Nat.mul_one],by simp⟩⟩,_,_,rfl⟩
 have HB:Hid (Below w.heap.size w w1):=hb1;have hC':(0:Int)≤C:=by omega
 have hm':C≤9223372036854775807:=by unfold maxLen at hm;omega
 clear hrow hb1 hm;go_wp2
 go_ret
 exact⟨_,rfl,HF.out,HB.out⟩
def tot (zss:List (List Int)) (k:Nat):Nat:=(zss.take k).flatten.length
theorem tot_succ (zss:List (List Int)) (k:Nat) (h:k<zss.length):tot zss (k+1)=tot zss k+(zss.getD k []).length:=by
 unfold tot;rw[flat_snoc zss k h,List.length_append]
set_option maxRecDepth 100000 in
set_option maxHeartbeats 2000000 in
theorem conc_any (p m cap:Nat) (vs:List Value) (zss:List (List Int)) (w:World) (hm:zss.length=m) (hp:p<w.heap.size) (hc:∀ i,i<m→w.cell? ⟨p,i,none⟩=some (vs.getD i undef))
  (hz:∀ i,i<m→Part w (vs.getD i undef) (zss.getD i [])) (ht:zss.flatten.length≤2097152) (h0:0<zss.flatten.length) (hm':m≤2097152) :
  Calls Tryz.prog 165 #[.slice (some ⟨p,0,none⟩) m cap] w fun e w'=>∃ v,e=.returned v∧Own w' w.heap.size v zss.flatten∧Below w.heap.size w w':=by
 have HM:Hid (zss.length=m):=hm;have HC:Hid (∀ i,i<m→w.cell? ⟨p,i,none⟩=some (vs.getD i undef)):=hc;have HZ:Hid (∀ i,i<m→Part w (vs.getD i undef) (zss.getD i [])):=hz;have HT:Hid (zss.flatten.length≤2097152∧0<zss.flatten.length):=⟨ht,h0⟩
 have HTA:Hid (tot zss m=zss.flatten.length):=by show _=_;unfold tot;rw[List.take_of_length_le (by omega)]
 clear hc hz ht h0 hm;go_enter Tryz.func165,Tryz.ntmps165;go_wp2_with fail
 go_loop [3,11] (fun q i=>∃ k:Nat,k≤m∧i=.int .i64 k∧q=.int .i64 (tot zss k)) (fun _ i=>m-(intOf i).toNat)
 case atStart=>exact⟨0,Nat.zero_le _,rfl,rfl⟩
 case round=>
  obtain⟨k,hk,rfl,rfl⟩:=hrel;by_cases hlt:k<m
  ·have hlt':(k:Int)<m:=by omega
   obtain⟨b,o,c,hv,hb,hcell⟩:=HZ.out k hlt;have hck:w.cell? ⟨p,k,none⟩=some (.slice (some ⟨b,o,none⟩) (zss.getD k []).length c):=by rw[HC.out k hlt,hv]
   have HS:Hid (tot zss (k+1)=tot zss k+(zss.getD k []).length):=tot_succ zss k (by have:=HM.out;omega);have hle:tot zss (k+1)≤2097152:=Nat.le_trans (flat_le zss (k+1)) HT.out.1;rw[HS.out] at hle;clear hcell hv hb;generalize (zss.getD k []).length=z at *;generalize tot zss k=y at *;have hn0:¬ ((y:Int)+z<0):=by omega
   go_wp2
   go_round
   case rel=>exact⟨k+1,by omega,by go_num,by rw[HS.out];go_num⟩
   case measure=>simp[intOf];omega
  ·have hke:k=m:=by omega
   subst hke;obtain⟨N,hN⟩:∃ N,tot zss k=N:=⟨_,rfl⟩
   have CG:=grow_any N w (by rw[←hN,HTA.out];exact HT.out.2) (by rw[←hN,HTA.out];exact HT.out.1);have hNb:N≤2097152:=by rw[←hN,HTA.out];exact HT.out.1
   rw[hN];clear hN HTA;have hlt':¬ ((k:Int)<k):=by omega
   go_wp2_with fail;refine CG.mono ?_;rintro e w1 ⟨v1,rfl,ho1,hb1⟩;have HO1:Hid (Own w1 w.heap.size v1 []):=ho1;have HB1:Hid (Below w.heap.size w w1):=hb1;clear ho1 hb1 hlt' CG;go_wp2_with fail
   go_loopw [6,27] (fun v i wr=>∃(j:Nat) (l:Value),j≤k∧i=.int .i64 j∧l=v∧Own wr w.heap.size l (zss.take j).flatten∧Below w.heap.size w wr) (fun _ i _=>k-(intOf i).toNat)
   case atStart=>exact⟨0,_,Nat.zero_le _,rfl,rfl,HO1.out,HB1.out⟩
   case round=>
    clear HO1 HB1;obtain⟨j,l,hj,rfl,rfl,hown,hbel⟩:=hrel;by_cases hlt:j<k
    ·have hsz:=hbel.size;obtain⟨b,o,c,hv,hb,hcell⟩:=HZ.out j hlt;have hck:wr.cell? ⟨p,j,none⟩=some (.slice (some ⟨b,o,none⟩) (zss.getD j []).length c):=by rw[hbel.cell (p:=⟨p,j,none⟩) hp,HC.out j hlt,hv]
     have HNW:Hid (∀ i,i<(zss.getD j []).length→wr.cell? ((⟨b,o,none⟩:Addr).add i)=some (.int .u8 ((zss.getD j []).getD i 0))):=by
      intro i hi;rw[Addr.add_lit,hbel.cell (p:=⟨b,o+i,none⟩) hb];exact hcell i hi
     have hfl:=flat_snoc zss j (by have:=HM.out;omega);have hle:=flat_le zss (j+1);have HL:Hid ((zss.take j).flatten.length+(zss.getD j []).length≤1099511627776):=by show _≤_;rw[hfl,List.length_append] at hle;have:=HT.out.1;omega
     have HFL:Hid ((zss.take (j+1)).flatten=(zss.take j).flatten++zss.getD j []):=hfl;have HOW:Hid (Own wr w.heap.size l (zss.take j).flatten):=hown;have HBE:Hid (Below w.heap.size w wr):=hbel;clear hcell hv hb hfl hle hown hbel;go_wp2_with (first
      |(at_builtin;refine wpList_app _ rfl (.tmp 31) (.tmp 32) rfl w.heap.size _ _ rfl HOW.out ⟨b,o,none⟩ _ c (zss.getD j []) rfl rfl HNW.out HL.out hsz ?_)
      |fail)
     intro v' w2 hown' hbel' _;have HO2:Hid (Own w2 w.heap.size v' (zss.take (j+1)).flatten):=by show Own _ _ _ _;rw[HFL.out];exact hown'
     have HB2:Hid (Below w.heap.size w w2):=HBE.out.trans hbel';clear hown' hbel' HOW HBE HNW;go_wp2;go_roundw
     case rel=>exact⟨j+1,_,by omega,by go_num,rfl,HO2.out,HB2.out⟩
     case measure=>simp[intOf];omega
    ·have hje:j=k:=by omega
     have hlt':¬ ((j:Int)<k):=by omega
     have HO2:Hid (Own wr w.heap.size l zss.flatten):=by
      have:zss.take j=zss:=List.take_of_length_le (by have:=HM.out;omega);rw[this] at hown;exact hown
     clear hown;go_wp2
     go_ret
     exact⟨_,rfl,HO2.out,hbel⟩
theorem bit1_odd {c:Int} (h:U32 c) (o:(bits .and .u32 c 1 == 1)=true):bits .xor .u32 (c/2) 3988292384=bit1 c:=by
 rw[and1 h] at o;unfold bit1;rw[if_pos (by simpa using o)]
theorem bit1_even {c:Int} (h:U32 c) (o:(bits .and .u32 c 1 == 1)=false):c/2=bit1 c:=by
 rw[and1 h] at o;unfold bit1;rw[if_neg (by simpa using o)]
set_option maxHeartbeats 400000 in
theorem crcI_any (a:Option Addr) (n cap:Nat) (zs:List Int) (w:World) (hn:zs.length=n) (hm:n≤1048576) (ha:At .u8 w a zs) (hz:Byte zs) :
  Calls Tryz.prog 157 #[.slice a n cap] w fun e w'=>e=.returned (.int .u32 (crc zs))∧w'=w:=by
 go_enter Tryz.func157,Tryz.ntmps157;go_wp2
 go_loop [3,8] (fun c i=>∃ k:Nat,k≤n∧i=.int .i64 k∧c=.int .u32 (crcF (zs.take k))) (fun _ i=>n-(intOf i).toNat)
 case atStart=>exact⟨0,Nat.zero_le _,rfl,rfl⟩
 case round=>
  obtain⟨k,hk,rfl,rfl⟩:=hrel;have hbd:=crcF_bd (zs.take k);by_cases hlt:k<n
  ·obtain⟨b,off,rfl,hb,hc⟩:=ha.get (by omega);have hck:=hc k (by omega);have hx:=hz.get k;have HS:Hid (crcF (zs.take (k+1))=crcS (crcF (zs.take k)) (zs.getD k 0)):=by rw[take_snoc zs k (by omega),crcF_snoc];exact rfl
   generalize zs.getD k 0=x at *;generalize crcF (zs.take k)=c at *;clear hc;obtain⟨hx0,hx1⟩:=hx;go_wp2
   go_loop [3,16] (fun d i=>∃ j:Nat,j≤8∧i=.int .i64 j∧d=.int .u32 (bitN (bits .xor .u32 c x) j)) (fun _ i=>8-(intOf i).toNat)
   case atStart=>exact⟨0,Nat.zero_le _,rfl,rfl⟩
   case round=>
    obtain⟨j,hj,rfl,rfl⟩:=hrel;have hbn:U32 (bitN (bits .xor .u32 c x) j):=bitN_bd (bits_u32_bd _ _ _) j;have HB:Hid (bitN (bits .xor .u32 c x) (j+1)=bit1 (bitN (bits .xor .u32 c x) j)):=rfl;have HE:Hid (∀ o:j=8,bitN (bits .xor .u32 c x) j=crcF (zs.take (k+1))):=fun o=>by rw[HS.out,o];rfl
    generalize bitN (bits .xor .u32 c x) j=d at *;by_cases hj8:j<8
    ·cases ho:(bits .and .u32 d 1 == 1)
     ·have HV:Hid (d/2=bit1 d):=bit1_even hbn ho;go_wp2
      go_round
      case rel=>exact⟨j+1,by omega,by go_num,by rw[HB.out,←HV.out]⟩
      case measure=>simp[intOf];omega
     ·have HV:Hid (bits .xor .u32 (d/2) 3988292384=bit1 d):=bit1_odd hbn ho;go_wp2
      go_round
      case rel=>exact⟨j+1,by omega,by go_num,by rw[HB.out,←HV.out]⟩
      case measure=>simp[intOf];omega
    ·have HZ:=HE.out (by omega);have HH:Hid (d=crcF (zs.take (k+1))):=HZ;clear HE HZ HS HB;go_wp2
     go_round
     case rel=>exact⟨k+1,by omega,by go_num,by rw[HH.out]⟩
     case measure=>simp[intOf];omega
  ·go_wp2
   go_ret
   exact⟨ret_int (by rw[List.take_of_length_le (by omega)];rfl),rfl⟩
theorem bit1_odd' {c:Int} (o:(c%2 == 1)=true):bits .xor .u32 (c/2) 3988292384=bit1 c:=by
 unfold bit1;rw[if_pos (by simpa using o)]
theorem bit1_even' {c:Int} (o:(c%2 == 1)=false):c/2=bit1 c:=by
 unfold bit1;rw[if_neg (by simpa using o)]
set_option maxHeartbeats 400000 in
theorem crcS_any (a:Option Addr) (n cap:Nat) (zs:List Int) (w:World) (hn:zs.length=n) (hm:n≤1048576) (ha:At .u8 w a zs) (hz:Byte zs) :
  Calls Tryz.prog 101 #[.slice a n cap] w fun e w'=>e=.returned (.int .u32 (crc zs))∧w'=w:=by
 go_enter Tryz.func101,Tryz.ntmps101;go_wp2
 go_loop [3,4] (fun c i=>∃ k:Nat,k≤n∧i=.int .i64 k∧c=.int .u32 (crcF (zs.take k))) (fun _ i=>n-(intOf i).toNat)
 case atStart=>exact⟨0,Nat.zero_le _,rfl,rfl⟩
 case round=>
  obtain⟨k,hk,rfl,rfl⟩:=hrel;have hbd:=crcF_bd (zs.take k);by_cases hlt:k<n
  ·obtain⟨b,off,rfl,hb,hc⟩:=ha.get (by omega);have hck:=hc k (by omega);have hx:=hz.get k;have HS:Hid (crcF (zs.take (k+1))=crcS (crcF (zs.take k)) (zs.getD k 0)):=by rw[take_snoc zs k (by omega),crcF_snoc];exact rfl
   generalize zs.getD k 0=x at *;generalize crcF (zs.take k)=c at *;clear hc;obtain⟨hx0,hx1⟩:=hx;go_wp2
   go_loop [3,5] (fun d i=>∃ j:Nat,j≤8∧i=.int .i64 j∧d=.int .u32 (bitN (bits .xor .u32 c x) j)) (fun _ i=>8-(intOf i).toNat)
   case atStart=>exact⟨0,Nat.zero_le _,rfl,rfl⟩
   case round=>
    obtain⟨j,hj,rfl,rfl⟩:=hrel;have hbn:U32 (bitN (bits .xor .u32 c x) j):=bitN_bd (bits_u32_bd _ _ _) j;have HB:Hid (bitN (bits .xor .u32 c x) (j+1)=bit1 (bitN (bits .xor .u32 c x) j)):=rfl;have HE:Hid (∀ o:j=8,bitN (bits .xor .u32 c x) j=crcF (zs.take (k+1))):=fun o=>by rw[HS.out,o];rfl
    generalize bitN (bits .xor .u32 c x) j=d at *;obtain⟨hd0,hd1⟩:=hbn;by_cases hj8:j<8
    ·cases ho:(d%2 == 1)
     ·have HV:Hid (d/2=bit1 d):=bit1_even' ho;go_wp2
      go_round
      case rel=>exact⟨j+1,by omega,by go_num,by rw[HB.out,←HV.out]⟩
      case measure=>simp[intOf];omega
     ·have HV:Hid (bits .xor .u32 (d/2) 3988292384=bit1 d):=bit1_odd' ho;go_wp2
      go_round
      case rel=>exact⟨j+1,by omega,by go_num,by rw[HB.out,←HV.out]⟩
      case measure=>simp[intOf];omega
    ·have HZ:=HE.out (by omega);have HH:Hid (d=crcF (zs.take (k+1))):=HZ;clear HE HZ HS HB;go_wp2
     go_round
     case rel=>exact⟨k+1,by omega,by go_num,by rw[HH.out]⟩
     case measure=>simp[intOf];omega
  ·go_wp2
   go_ret
   exact⟨ret_int (by rw[List.take_of_length_le (by omega)];rfl),rfl⟩
def OwnL (lo:Nat) (w:World) (v:Value) (zs:List Int):Prop:=∃ B,lo≤B∧Own w B v zs
theorem Own.keepB {B:Nat} {w w':World} {v:Value} {zs:List Int} (h:Own w B v zs) (b:Below w.heap.size w w'):Own w' B v zs:=by
 refine⟨⟨h.1.1,?_⟩,h.2⟩;rcases h.1.2 with h'|⟨g,c,cur,h1,h2,h3,h4⟩
 ·exact .inl h'
 ·exact .inr ⟨g,c,cur,h1,h2,by rw[b.block g (Array.getElem?_eq_some_iff.1 h3).1];exact h3,h4⟩
theorem OwnL.below {lo:Nat} {w w':World} {v:Value} {zs:List Int} (h:OwnL lo w v zs) (b:Below w.heap.size w w'):OwnL lo w' v zs:=by
 obtain⟨B,hB,h⟩:=h;exact⟨B,hB,h.keepB b⟩
def TwoP (lo g:Nat) (w:World) (v:Value):Prop:=∃ q,v=.slice (some ⟨q,0,none⟩) 2 2∧lo≤q∧w.heap[q]?=some (.cells #[.slice (some ⟨g,0,none⟩) 64 64,.slice (some ⟨g,64,none⟩) 64 64] 22 (0,0))
theorem TwoP.below {lo g:Nat} {w w':World} {v:Value} (h:TwoP lo g w v) (b:Below w.heap.size w w'):TwoP lo g w' v:=by
 obtain⟨q,e,h1,h2⟩:=h;exact⟨q,e,h1,by rw[b.block q (Array.getElem?_eq_some_iff.1 h2).1];exact h2⟩
theorem Row.part0 {w:World} {g:Nat} {t:TypeId} {zs:List Int} (h:Row w g t zs) (hl:zs.length=128):Part w (.slice (some ⟨g,0,none⟩) 64 64) (zs.take 64):=
 ⟨g,0,64,by rw[List.length_take,hl];rfl,h.lt,fun i hi=>by
  rw[List.length_take] at hi;rw[Nat.zero_add,h.cell i (by omega)];simp[List.getD,show i<64 by omega]⟩
theorem Row.part1 {w:World} {g:Nat} {t:TypeId} {zs:List Int} (h:Row w g t zs) (hl:zs.length=128):Part w (.slice (some ⟨g,64,none⟩) 64 64) (zs.drop 64):=
 ⟨g,64,64,by rw[List.length_drop,hl],h.lt,fun i hi=>by
  rw[List.length_drop] at hi;rw[h.cell (64+i) (by omega)];simp[List.getD]⟩
set_option maxRecDepth 100000 in
set_option maxHeartbeats 2000000 in
theorem text_any (g:Nat) (zs:List Int) (w:World) (hr:Row w g 124 zs) (hl:zs.length=128) :
  Calls Tryz.prog 162 #[.pointer (some ⟨g,0,none⟩)] w fun e w'=>∃ v,e=.returned v∧OwnL w.heap.size w' v zs∧Below w.heap.size w w':=by
 have HRW:Hid (g<w.heap.size∧w.heap[g]?=some (.cells (zs.map (Value.int .u8)).toArray 124 (0,0))):=⟨hr.lt,hr⟩
 have HLZ:Hid (zs.length=128):=hl;have HFL:Hid ([zs.take 64,zs.drop 64].flatten=zs):=by show _=_;simp
 clear hr hl;go_enter Tryz.func162,Tryz.ntmps162;go_wp2_with fail;refine wp_region_any (by kernel_rfl) ?_;refine wpAny_slotsU (fun _ a b=>Below a.heap.size a b) (frame:=(fun (a b:Value)=>fun (t:Nat→Value)=>({ tmps:=List.toArray [a,b,t 10,t 0,t 1,t 2,t 3,t 4,t 5,t 6,t 7,t 8,t 9],defers:=[] }:Act)) _ _)
  (Ext:=fun L u w'=>ApX w [] L u w') (Good:=fun i L w' v=>if i=0 then v=.pointer (some ⟨g,0,none⟩) else if i=1 then v=.pointer (some ⟨g,0,none⟩) else if i=2 then v=.pointer (some ⟨g,0,none⟩) else if i=3 then v=.slice (some ⟨g,0,none⟩) 64 64 else if i=4 then v=.pointer (some ⟨g,0,none⟩) else if i=5 then v=.pointer (some ⟨g,0,none⟩) else if i=6 then v=.pointer (some ⟨g,64,none⟩) else if i=7 then v=.slice (some ⟨g,64,none⟩) 64 64 else if i=8 then TwoP w.heap.size g w' v else if i=9 then OwnL w.heap.size w' v zs else if i=10 then OwnL w.heap.size w' v zs else True) ?hstab (by kernel_rfl) ?hop ?hdone _ _ ((fun (x0 x1 x2 x3 x4 x5 x6 x7 x8 x9 x10:Value)=>fun (i:Nat)=>if i=0 then x0 else if i=1 then x1 else if i=2 then x2 else if i=3 then x3 else if i=4 then x4 else if i=5 then x5 else if i=6 then x6 else if i=7 then x7 else if i=8 then x8 else if i=9 then x9 else if i=10 then x10 else undef) _ _ _ _ _ _ _ _ _ _ _) _ (by simp) ?ext ?start (by simp)
 case start=>intro i hi h;exact absurd h (by rw[Array.getD_eq_getD_getElem?,Array.getElem?_replicate];split<;>simp)
 case ext=>exact(ApX.start w [] _ _ (fun i=>by rw[Array.getD_eq_getD_getElem?,Array.getElem?_replicate];split<;>rfl)).drew
 case hstab=>
  intro j L w9 w' i v hM _ _ h;by_cases h8:j=8
  ·subst h8;simp at h ⊢;exact h.below hM
  by_cases h9:j=9
  ·subst h9;simp at h ⊢;exact h.below hM
  by_cases h10:j=10
  ·subst h10;simp at h ⊢;exact h.below hM
  simp only[if_neg h8,if_neg h9,if_neg h10] at h ⊢;exact h
 case hop=>
  intro i o L t w' ho hLi hx hdep K hK;have hi:i<11:=(Array.getElem?_eq_some_iff.1 ho).1;obtain rfl|rfl|rfl|rfl|rfl|rfl|rfl|rfl|rfl|rfl|rfl:i=0∨i=1∨i=2∨i=3∨i=4∨i=5∨i=6∨i=7∨i=8∨i=9∨i=10:=by omega
  all_goals(simp at ho;subst ho)
  ·clear hdep;have hK':=hK w' (.pointer (some ⟨g,0,none⟩)) (by simp) (hx.step 0 _ (Below.refl _ _) (fun h=>absurd h (by decide))) (Below.refl _ _);clear hK;rw[if_pos (by rfl)];go_simp;simpa[upd] using hK'
  ·have d0:t 0=.pointer (some ⟨g,0,none⟩):=by simpa using(hdep ⟨0,.data⟩ (by simp) rfl).2
   clear hdep;have hK':=hK w' (.pointer (some ⟨g,0,none⟩)) (by simp) (hx.step 1 _ (Below.refl _ _) (fun h=>absurd h (by decide))) (Below.refl _ _);clear hK;rw[if_pos (by rfl)];go_simp;simpa[upd,d0] using hK'
  ·have d1:t 1=.pointer (some ⟨g,0,none⟩):=by simpa using(hdep ⟨1,.data⟩ (by simp) rfl).2
   clear hdep;have hK':=hK w' (.pointer (some ⟨g,0,none⟩)) (by simp) (hx.step 2 _ (Below.refl _ _) (fun h=>absurd h (by decide))) (Below.refl _ _);clear hK;rw[if_pos (by rfl)];go_simp;simpa[upd,d1] using hK'
  ·have d2:t 2=.pointer (some ⟨g,0,none⟩):=by simpa using(hdep ⟨2,.data⟩ (by simp) rfl).2
   clear hdep;have hK':=hK w' (.slice (some ⟨g,0,none⟩) 64 64) (by simp) (hx.step 3 _ (Below.refl _ _) (fun h=>absurd h (by decide))) (Below.refl _ _);clear hK;rw[if_pos (by rfl)];go_simp;simpa[upd,d2] using hK'
  ·clear hdep;have hK':=hK w' (.pointer (some ⟨g,0,none⟩)) (by simp) (hx.step 4 _ (Below.refl _ _) (fun h=>absurd h (by decide))) (Below.refl _ _);clear hK;rw[if_pos (by rfl)];go_simp;simpa[upd] using hK'
  ·have d4:t 4=.pointer (some ⟨g,0,none⟩):=by simpa using(hdep ⟨4,.data⟩ (by simp) rfl).2
   clear hdep;have hK':=hK w' (.pointer (some ⟨g,0,none⟩)) (by simp) (hx.step 5 _ (Below.refl _ _) (fun h=>absurd h (by decide))) (Below.refl _ _);clear hK;rw[if_pos (by rfl)];go_simp;simpa[upd,d4] using hK'
  ·have d5:t 5=.pointer (some ⟨g,0,none⟩):=by simpa using(hdep ⟨5,.data⟩ (by simp) rfl).2
   clear hdep;have hK':=hK w' (.pointer (some ⟨g,64,none⟩)) (by simp) (hx.step 6 _ (Below.refl _ _) (fun h=>absurd h (by decide))) (Below.refl _ _);clear hK;rw[if_pos (by rfl)];go_simp;simpa[upd,d5] using hK'
  ·have d6:t 6=.pointer (some ⟨g,64,none⟩):=by simpa using(hdep ⟨6,.data⟩ (by simp) rfl).2
   clear hdep;have hK':=hK w' (.slice (some ⟨g,64,none⟩) 64 64) (by simp) (hx.step 7 _ (Below.refl _ _) (fun h=>absurd h (by decide))) (Below.refl _ _);clear hK;rw[if_pos (by rfl)];go_simp;simpa[upd,d6] using hK'
  ·have d3:t 3=.slice (some ⟨g,0,none⟩) 64 64:=by simpa using(hdep ⟨3,.data⟩ (by simp) rfl).2
   have d7:t 7=.slice (some ⟨g,64,none⟩) 64 64:=by simpa using(hdep ⟨7,.data⟩ (by simp) rfl).2
   clear hdep;have hsz:w.heap.size≤w'.heap.size:=hx.below.size;have bb:Below w'.heap.size w' (w'.alloc (.cells #[.slice (some ⟨g,0,none⟩) 64 64,.slice (some ⟨g,64,none⟩) 64 64] 22)):=(Below.refl _ _).alloc (Nat.le_refl _) _;have hK':=hK (w'.alloc (.cells #[.slice (some ⟨g,0,none⟩) 64 64,.slice (some ⟨g,64,none⟩) 64 64] 22)) (.slice (some ⟨w'.heap.size,0,none⟩) 2 2) (by simpa using⟨w'.heap.size,rfl,hsz,heap_alloc_new w' _⟩) (hx.step 8 _ bb (fun h=>absurd h (by decide))) bb;clear hK bb;rw[if_pos (by rfl)];go_simp;simpa[upd,d3,d7] using hK'
  ·have f8:TwoP w.heap.size g w' (t 8):=by simpa using(hdep ⟨8,.data⟩ (by simp) rfl).2
   clear hdep;obtain⟨q,d8,hq,hrow⟩:=f8;have hrg:Row w' g 124 zs:=by unfold Row;rw[hx.below.block _ HRW.out.1];exact HRW.out.2
   have hsz:w.heap.size≤w'.heap.size:=hx.below.size;have A:=conc_any q 2 2 [.slice (some ⟨g,0,none⟩) 64 64,.slice (some ⟨g,64,none⟩) 64 64] [zs.take 64,zs.drop 64] w' rfl (Array.getElem?_eq_some_iff.1 hrow).1 (fun i hi=>by
    rw[cell_of_row w' q i _ _ _ hrow];have:i=0∨i=1:=by omega
    rcases this with rfl|rfl<;>rfl) (fun i hi=>by
    have:i=0∨i=1:=by omega
    rcases this with rfl|rfl
    ·exact hrg.part0 HLZ.out
    ·exact hrg.part1 HLZ.out) (by rw[HFL.out,HLZ.out];decide) (by rw[HFL.out,HLZ.out];decide) (by decide)
   rw[HFL.out] at A;have hK':∀ ww v,OwnL w.heap.size ww v zs→Below w'.heap.size w' ww→K _ ww:=fun ww v hv hb=>hK ww v (by simpa using hv) (hx.step 9 v hb (fun h=>absurd h (by decide))) hb
   clear hK hrg hrow;rw[if_pos (by rfl)];go_simp;try simp only[d8]
   refine A.mono ?_;rintro e w9 ⟨v9,rfl,hv9,hb9⟩;have hK2:=hK' w9 v9 ⟨w'.heap.size,hsz,hv9⟩ hb9;clear hK' A hv9 hb9;go_simp;simpa[upd,d8] using hK2
  ·have f9:OwnL w.heap.size w' (t 9) zs:=by simpa using(hdep ⟨9,.data⟩ (by simp) rfl).2
   clear hdep;have hK':=hK w' (t 9) (by simpa using f9) (hx.step 10 _ (Below.refl _ _) (fun h=>absurd h (by decide))) (Below.refl _ _);clear hK;rw[if_pos (by rfl)];go_simp;simpa[upd] using hK'
 case hdone=>
  intro L t w' hx hg;have f10:OwnL w.heap.size w' (t 10) zs:=by simpa using hg 10 (by decide)
  clear hg;have HF:Hid (OwnL w.heap.size w' (t 10) zs∧Below w.heap.size w w'):=⟨f10,hx.below⟩
  clear f10 hx;go_wp2
  go_ret
  exact⟨t 10,rfl,HF.out.1,HF.out.2⟩
set_option maxRecDepth 100000 in
set_option maxHeartbeats 2000000 in
theorem ssum_any (g:Nat) (zs:List Int) (w:World) (hr:Row w g 124 zs) (hl:zs.length=128) (hb:Byte zs) :
  Calls Tryz.prog 148 #[.pointer (some ⟨g,0,none⟩)] w fun e w'=>e=.returned (.int .u32 (crc (zs.take 120)))∧Below w.heap.size w w':=by
 have HT:=text_any g zs w hr hl;have HLZ:Hid (zs.length=128∧Byte zs):=⟨hl,hb⟩
 clear hr hl hb;go_enter Tryz.func148,Tryz.ntmps148;go_wp2_with fail;refine HT.mono ?_;rintro e w1 ⟨v1,rfl,⟨B,hB,ho⟩,hb1⟩;obtain⟨q,c,e1,hq,hql,hqc⟩:=ho.base;have hc128:128≤c:=by have:=HLZ.out.1;omega
 rw[HLZ.out.1] at e1;subst e1;have HA:Hid (At .u8 w1 (some ⟨q,0,none⟩) (zs.take 120)):=.inr ⟨q,0,rfl,hql,fun i hi=>by
  obtain⟨b,o,c',e2,hb',hcell⟩:=ho.part;injection e2 with e3
  injection e3 with e3
  injection e3 with e4 e5
  subst e4 e5;rw[List.length_take] at hi;rw[hcell i (by omega)];simp[List.getD,show i<120 by omega]⟩
 have HB1:Hid (Below w.heap.size w w1):=hb1;have HC:Hid (∀ cap,Calls Tryz.prog 157 #[.slice (some ⟨q,0,none⟩) 120 cap] w1 fun e w'=>e=.returned (.int .u32 (crc (zs.take 120)))∧w'=w1):=fun cap=>crcI_any _ 120 cap (zs.take 120) w1 (by rw[List.length_take,HLZ.out.1];rfl) (by decide) HA.out (fun z hz=>HLZ.out.2 z (List.mem_of_mem_take hz))
 clear ho hb1 HT hB hq hql hqc;go_wp2_with fail;refine(HC.out _).mono ?_;rintro e w2 ⟨rfl,rfl⟩;clear HC HA;generalize hz:crc (zs.take 120)=z at *;have HZ:Hid (crc (zs.take 120)=z):=hz;clear hz;go_wp2
 go_ret
 exact⟨ret_int HZ.out.symm,HB1.out⟩
set_option maxRecDepth 100000 in
set_option maxHeartbeats 1000000 in
theorem denyP_any (g i:Nat) (w:World) (hi:i<16) :
  Calls Tryz.prog 147 #[.pointer (some ⟨g,0,none⟩),.int .i64 i] w fun e w'=>∃ c,e=.returned (.slice (some ⟨g,if i<8 then 44+2*i else 56+2*i,none⟩) 2 c)∧w'=w:=by
 obtain rfl|rfl|rfl|rfl|rfl|rfl|rfl|rfl|rfl|rfl|rfl|rfl|rfl|rfl|rfl|rfl:i=0∨i=1∨i=2∨i=3∨i=4∨i=5∨i=6∨i=7∨i=8∨i=9∨i=10∨i=11∨i=12∨i=13∨i=14∨i=15:=by omega
 all_goals
  go_enter Tryz.func147,Tryz.ntmps147;go_wp2
  go_ret
  first|exact⟨_,rfl,rfl⟩|exact⟨⟨_,rfl⟩,rfl⟩
theorem freeze_heap (w:World) (g k j:Nat):(w.freeze ⟨g,k,none⟩ 1).heap[j]?=if j=g then(w.heap[j]?).map (fun|.cells c elem (lo,hi)=>Obj.cells c elem (if lo == hi then(k,k+1) else(min lo k,max hi (k+1)))|o=>o) else w.heap[j]?:=by
 unfold World.freeze;rw[if_neg (by decide)];simp only[Array.getElem?_modify];by_cases h:g=j
 ·subst h;simp;rfl
 ·rw[if_neg h,if_neg (Ne.symm h)]
theorem freeze_size (w:World) (a:Addr) (n:Nat):(w.freeze a n).heap.size=w.heap.size:=by
 unfold World.freeze;split<;>simp
theorem freeze_below (w:World) (g k B:Nat) (hB:B≤g):Below B w (w.freeze ⟨g,k,none⟩ 1):=
 ⟨rfl,rfl,rfl,by rw[freeze_size];exact Nat.le_refl _,fun j hj=>by rw[freeze_heap,if_neg (by omega)]⟩
theorem freeze_mono (w:World) (g k:Nat):Mono w (w.freeze ⟨g,k,none⟩ 1):=by
 refine⟨by rw[freeze_size];exact Nat.le_refl _,fun a ha=>?_,fun b cs t fr hb=>?_⟩
 ·by_cases h:a.block=g
  ·subst h;cases hh:w.heap[a.block]? with
   |none=>simp[World.cell?,freeze_heap,hh]
   |some o=>cases o<;>simp[World.cell?,freeze_heap,hh]
  ·simp[World.cell?,freeze_heap,h]
 ·by_cases h:b=g
  ·subst h;rw[freeze_heap,if_pos rfl,hb];exact⟨_,rfl⟩
  ·rw[freeze_heap,if_neg h];exact⟨fr,hb⟩
theorem run_convert_const (w:World) (g:Nat) (C:Array Value) (n c:Nat) (fr:Nat×Nat) (hg:w.heap[g]?=some (.cells C 5 fr)) :
  (convert 22 22 (.slice (some ⟨g,0,none⟩) n c)).run Tryz.prog w=.ok (.slice (some ⟨g,0,none⟩) n c) (w.freeze ⟨g,C.size,none⟩ 1):=by
 have hsh:w.shape? g=some (5,C.size):=by unfold World.shape?;rw[hg]
 simp[convert,run_underlying Tryz.underlying22,run_underlying Tryz.underlying5,markStringish,hsh]
theorem Part.mono {w w':World} {v:Value} {zs:List Int} (h:Part w v zs) (hm:Mono w w'):Part w' v zs:=by
 obtain⟨b,o,c,rfl,hl,hc⟩:=h;exact⟨b,o,c,rfl,by have:=hm.size;omega,fun i hi=>by rw[hm.cell ⟨b,o+i,none⟩ hl];exact hc i hi⟩
theorem part_new (w:World) (cs:Array Value) (zs:List Int) (t:TypeId) (h:cs=(zs.map (Value.int .u8)).toArray) (n:Nat) (hn:n=zs.length) (c:Nat):Part (w.alloc (.cells cs t)) (.slice (some ⟨w.heap.size,0,none⟩) n c) zs:=by
 subst h;subst hn;refine⟨w.heap.size,0,c,rfl,by simp,fun i hi=>?_⟩;rw[cell_of_row _ _ (0+i) _ t (0,0) (heap_alloc_new w _)];simp[hi]
theorem below_new (w:World) (o:Obj):Below w.heap.size w (w.alloc o):=(Below.refl _ _).alloc (Nat.le_refl _) _
theorem four_byte (x:Int) (h:U32 x):Byte (four x):=by
 obtain⟨h0,h1⟩:=h;intro z hz;simp[four] at hz;rcases hz with rfl|rfl|rfl|rfl<;>omega
theorem Own.grow {w w':World} {B:Nat} {v:Value} {zs:List Int} (h:Own w B v zs) (hb:Below w.heap.size w w'):Own w' B v zs:=by
 refine⟨⟨h.1.1,?_⟩,h.2⟩;rcases h.1.2 with h'|⟨g',c',cur,h',hBg,hh,r⟩
 ·exact .inl h'
 ·exact .inr ⟨g',c',cur,h',hBg,by rw[hb.block _ (Array.getElem?_eq_some_iff.1 hh).1];exact hh,r⟩
theorem Own.lower {w:World} {B B':Nat} {v:Value} {zs:List Int} (h:Own w B v zs) (hB:B'≤B):Own w B' v zs:=by
 refine⟨⟨h.1.1,?_⟩,h.2⟩;rcases h.1.2 with h'|⟨g',c',cur,h',hBg,hh,r⟩
 ·exact .inl h'
 ·exact .inr ⟨g',c',cur,h',by omega,hh,r⟩
end Go.Proofs.YthmeoilbmfdhfaaGreat
