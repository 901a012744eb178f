import Derived.Test.YtncomnkdlpoelaaGreatDoorMReg
import Derived.BigRegion
import Derived.Test.YtncomnkdlpoelaaGreatDoorMBase
import Derived.Test.YtncomnkdlpoelaaGreatDoorMCatZ
import Derived.OwnWalk
namespace Go.Proofs.YtncomnkdlpoelaaGreatDoor
open Go.ChangeShapes Go.WideShapes Go.ChangeAt Go.RowKit
set_option linter.unusedVariables false
def NumPost (w:World) (v:Int) (e:Ending) (w':World):Prop:=
 ∃ ms:List Int,ms.length=4∧Wrd ms∧val 18446744073709551616 ms=v∧e=.returned (.agg (ms.map (Value.int .u64)).toArray)∧Below w.heap.size w w'
structure NO (w:World) (zs:List Int) (k:Nat) (wr:World):Prop where
 res:RowW wr w.heap.size 146 [0,0,0,0]
 row:∃ ns,ns.length=4∧RowW wr (w.heap.size+1) 146 ns∧Wrd ns∧val 18446744073709551616 ns=val 256 (zs.take k)
 below:Below w.heap.size w wr
theorem u64_or_add' (a b:Int) (k:Nat) (ha:0≤a) (ha':a<18446744073709551616) (hb:0≤b) (hb':b<2^k) (hb'':b<18446744073709551616) (q:Int) (hd:a=q*2^k):bits .or .u64 b a=b+a:=by
 have:=u64_or_add a b k ha ha' hb hb' hb'' q hd;obtain⟨a,rfl⟩:=Int.eq_ofNat_of_zero_le ha;obtain⟨b,rfl⟩:=Int.eq_ofNat_of_zero_le hb;rw[u64_or_nat a b (by omega) (by omega)] at this;rw[u64_or_nat b a (by omega) (by omega),Nat.or_comm];omega
theorem nof_word (V y x:Int) (j:Nat) (hj:j<32) (hV0:0≤V) (hV:V<256^j) (hy:V/18446744073709551616^(j/8)%18446744073709551616=y) (hx0:0≤x) (hx1:x<256) :
  bits .or .u64 y (IntKind.u64.wrap (x*2^(8*(j%8))))=y+x*256^(j%8)∧0≤y+x*256^(j%8)∧y+x*256^(j%8)<18446744073709551616∧x*256^(j%8)*18446744073709551616^(j/8)=x*256^j:=by
 have e1:(256:Int)^j=18446744073709551616^(j/8)*256^(j%8):=by
  rw[show(18446744073709551616:Int)=256^8 from by decide,←Int.pow_mul,←Int.pow_add]
  congr 1;omega
 have hp:(0:Int)<18446744073709551616^(j/8):=Int.pow_pos (by decide);have a0:0≤V/18446744073709551616^(j/8):=Int.ediv_nonneg hV0 (by omega);have a1:V/18446744073709551616^(j/8)<256^(j%8):=Int.ediv_lt_of_lt_mul hp (by rw[Int.mul_comm,←e1];exact hV);have e2:(2:Int)^(8*(j%8))=256^(j%8):=(pow256 _).symm;have e3:x*256^(j%8)*18446744073709551616^(j/8)=x*256^j:=by rw[e1];grind
 have hr:j%8<8:=Nat.mod_lt _ (by decide);have hle:(256:Int)^(j%8)≤256^7:=by
  have:j%8=0∨j%8=1∨j%8=2∨j%8=3∨j%8=4∨j%8=5∨j%8=6∨j%8=7:=by omega
  rcases this with h|h|h|h|h|h|h|h<;>rw[h]<;>decide
 have hP0:(0:Int)<256^(j%8):=Int.pow_pos (by decide);have e7:(256:Int)^7=72057594037927936:=by decide
 rw[e7] at hle;refine⟨?_,?_,?_,e3⟩;all_goals
  generalize V/18446744073709551616^(j/8)=z at *;have hzy:z=y:=by rw[←hy];exact(Int.emod_eq_of_lt a0 (by omega)).symm
  subst hzy;have m0:0≤x*256^(j%8):=Int.mul_nonneg hx0 (by omega);have m1:x*256^(j%8)≤255*256^(j%8):=Int.mul_le_mul_of_nonneg_right (by omega) (by omega)
 ·rw[e2,IntKind.wrap_u64,Int.emod_eq_of_lt m0 (by omega)];exact u64_or_add' _ _ (8*(j%8)) m0 (by omega) a0 (by rw[e2];exact a1) (by omega) x (by rw[e2])
 ·omega
 ·omega
set_option maxHeartbeats 1000000 in
theorem nof_any (a:Option Addr) (n cap:Nat) (zs:List Int) (w:World) (hn:zs.length=n) (hm:32≤n) (hm':n≤1048576) (ha:At .u8 w a zs) (hz:Byte zs) :
  Calls Tryz.prog 106 #[.slice a n cap] w (NumPost w (val 256 (zs.take 32))):=by
 have HS:Hid (NO w zs 0 ((w.alloc (.cells #[.int .u64 0,.int .u64 0,.int .u64 0,.int .u64 0] 146)).alloc (.cells #[.int .u64 0,.int .u64 0,.int .u64 0,.int .u64 0] 146))):=
  ⟨heap_alloc2_old _ _ _,⟨[0,0,0,0],rfl,heap_alloc2_new _ _ _,by unfold Wrd;decide,by rw[List.take_zero];decide⟩,((Below.refl _ _).alloc (Nat.le_refl _) _).alloc (by simp) _⟩
 go_enter Tryz.func106,Tryz.ntmps106;go_wp2
 go_loopw [5] (fun i wr=>∃(j:Nat),j≤32∧i=.int .i64 j∧NO w zs j wr) (fun i _=>32-(intOf i).toNat)
 case atStart=>exact⟨0,Nat.zero_le _,rfl,HS.out⟩
 case round=>
  clear HS;obtain⟨j,hj,rfl,hres,⟨ns,hl,hrow,hw,hv⟩,hbel⟩:=hrel;by_cases hj0:j<32
  ·obtain⟨b0,off,rfl,hb0,hc⟩:=(ha.below hbel).get (by omega);have c0:=hc j (by omega);have hx:=hz.get j;have hV:=val_take 256 zs j (by omega);have ht0:0≤val 256 (zs.take j):=val_nonneg (by decide) (fun z hz'=>hz z (List.mem_of_mem_take hz'));have ht1:val 256 (zs.take j)<256^j:=by
    have:=val_lt (B:=256) (by decide) (xs:=zs.take j) (fun z hz'=>hz z (List.mem_of_mem_take hz'))
    rwa [List.length_take,Nat.min_eq_left (by omega)] at this
   have hdg:=val_digit (B:=18446744073709551616) (by decide) hw (j/8);rw[hv] at hdg;obtain⟨n1,n2,n3,n4⟩:=nof_word _ _ _ j hj0 ht0 ht1 hdg hx.1 hx.2;have S1:=hrow.set (j/8) (ns.getD (j/8) 0+zs.getD j 0*256^(j%8));have S2:=hw.set (j/8) _ n2 n3;have S3:=val_set 18446744073709551616 ns (j/8) (ns.getD (j/8) 0+zs.getD j 0*256^(j%8)) (by omega);rw[show ns.getD (j/8) 0+zs.getD j 0*256^(j%8)-ns.getD (j/8) 0=zs.getD j 0*256^(j%8) by omega,n4,hv,←hV] at S3;have c1:=hrow.cell (j/8) (by omega);have f1:=hrow.frozen (j/8);have HS:Hid (NO w zs (j+1) (wr.setCell ⟨w.heap.size+1,j/8,none⟩ (.int .u64 (ns.getD (j/8) 0+zs.getD j 0*256^(j%8))))):=
    ⟨((Wr.refl _ _).setCell (j/8) _).rowW hres (by omega),⟨_,by rw[List.length_set];exact hl,S1,S2,S3⟩,hbel.setCell (by simp) _⟩
   have HN1:=hdI <| n1
   clear hV ht0 ht1 hdg n1 n2 n3 n4 S1 S2 S3 hv hrow hres hbel hw;generalize zs.getD j 0=x at *;obtain⟨hx0,hx1⟩:=hx;clear hc;have hlt:(j:Int)<n:=by omega
   have hlt2:(j:Int)/8<4:=by omega
   generalize ns.getD (j/8) 0=y at *;go_wp2
   go_region
   rw[HN1.out];have HS2:Hid (NO w zs (j+1) ((wr.setCell ⟨w.heap.size+1,j/8,none⟩ (.int .u64 (y+x*256^(j%8)))).drew)):=
    ⟨HS.out.res,HS.out.row,⟨HS.out.below.os,HS.out.below.tape,HS.out.below.output,HS.out.below.size,HS.out.below.block⟩⟩
   clear HS c0 c1 f1;generalize (wr.setCell ⟨w.heap.size+1,j/8,none⟩ (.int .u64 (y+x*256^(j%8)))).drew=w2 at *;go_wp2;go_roundw
   case rel=>exact⟨j+1,by omega,by go_num,HS2.out⟩
   case measure=>simp[intOf];omega
  ·have hj32:j=32:=by omega
   subst hj32;have HSZ:=hdI <| sizeNum hl
   have HZ4:Hid (([0,0,0,0].map (Value.int .u64)).toArray.size=((ns.map (Value.int .u64)).toArray).size):=by show _=_;simp[hl]
   have HRS:=hdI <| hres
   have HRO:=hdI <| hrow
   have HBE:=hdI <| hbel
   have HV:=hdI <| hv
   clear hres hrow hbel hv;go_wp2_with (first
    |(refine wpList_load_row rfl 146 (.tmp 3) rfl (w.heap.size+1) rfl 146 _ (0,0) _ HRO.out Tryz.underlying146 rfl HSZ.out ?_)
    |(refine wpList_store_row rfl 146 (.tmp 2) (.tmp 24) rfl w.heap.size ((ns.map (Value.int .u64)).toArray) rfl rfl 146 _ HRS.out HSZ.out HZ4.out (all_oneCell_toArray (ints_oneCell _ _)) ?_))
   refine bodyPost_ret (v:=.agg (ns.map (Value.int .u64)).toArray) (results_cell_row rfl _ _ w.heap.size 146 _ (0,0) _ rfl (setRow_heap _ _ _ _ _ _ HRS.out) Tryz.underlying146 rfl HSZ.out) rfl ⟨ns,hl,hw,HV.out,rfl,?_⟩;exact HBE.out.trans ((Wr.setRow _ _ _).below (Nat.le_refl _))
set_option maxHeartbeats 400000 in
theorem digit_any (a:Option Addr) (n cap i:Nat) (zs:List Int) (w:World) (hn:zs.length=n) (hm:n≤4096) (hi:i≤8192) (ha:At .u64 w a zs) :
  Calls Tryz.prog 160 #[.slice a n cap,.int .i64 i] w fun e w'=>e=.returned (.int .u64 (zs.getD i 0))∧w'=w:=by
 by_cases h:i<n
 ·obtain⟨b,off,rfl,hb,hc⟩:=ha.get (by omega);have c0:=hc i (by omega);have h':(i:Int)<(n:Int):=by omega
  generalize zs.getD i 0=x at *;clear hc;go_enter Tryz.func160,Tryz.ntmps160;go_wp2
  go_ret
  exact⟨rfl,rfl⟩
 ·have e:zs.getD i 0=0:=by rw[List.getD_eq_getElem?_getD,List.getElem?_eq_none (by omega)];rfl
  rw[e];have h':¬ (i:Int)<(n:Int):=by omega
  go_enter Tryz.func160,Tryz.ntmps160;go_wp2
  go_ret
  exact⟨rfl,rfl⟩
theorem want_digit (B p:Int) (k i:Nat) (hB:1<B) (h0:0≤p) (h1:p<B):p*B^k/B^i%B=if i=k then p else 0:=by
 have hp:∀ j:Nat,(0:Int)<B^j:=fun j=>Int.pow_pos (by omega)
 by_cases h:i=k
 ·subst h;rw[if_pos rfl,Int.mul_ediv_cancel _ (Int.ne_of_gt (hp i))];exact Int.emod_eq_of_lt h0 h1
 ·rw[if_neg h];rcases Nat.lt_or_gt_of_ne h with hl|hg
  ·obtain⟨d,rfl⟩:∃ d,k=i+1+d:=⟨k-i-1,by omega⟩
   have e:p*B^(i+1+d)=(p*B^d*B)*B^i:=by rw[Int.pow_add,Int.pow_succ];grind
   rw[e,Int.mul_ediv_cancel _ (Int.ne_of_gt (hp i)),Int.mul_emod_left]
  ·have hlt:p*B^k<B^i:=by
    obtain⟨d,rfl⟩:∃ d,i=k+1+d:=⟨i-k-1,by omega⟩
    have a1:=Int.mul_lt_mul_of_pos_right h1 (hp k);have a2:B*B^k≤B^(k+1+d):=by
     have:B^(k+1+d)=B*B^k*B^d:=by rw[Int.pow_add,Int.pow_succ];grind
     rw[this];have h3:B*B^k*1≤B*B^k*B^d:=Int.mul_le_mul_of_nonneg_left (by have:=hp d;omega) (Int.mul_nonneg (by omega) (Int.le_of_lt (hp k)));omega
    omega
   rw[Int.ediv_eq_zero_of_lt (Int.mul_nonneg h0 (Int.le_of_lt (hp k))) hlt];rfl
theorem high_step {A T P B:Int} (hB:0<B) (hP:0<P) (h:A/(P*B)=T/(P*B)):(A/P%B=T/P%B→A/P=T/P)∧(A/P%B<T/P%B→A<T)∧(T/P%B<A/P%B→T<A):=by
 have e1:=Int.emod_add_mul_ediv (A/P) B;have e2:=Int.emod_add_mul_ediv (T/P) B;rw[Int.ediv_ediv_of_nonneg (Int.le_of_lt hP)] at e1 e2;rw[h] at e1;have lt:∀ X Y:Int,X/P<Y/P→X<Y:=fun X Y hh=>by
  rcases Int.lt_or_le X Y with h'|h'
  ·exact h'
  ·have:=Int.ediv_le_ediv hP h';omega
 refine⟨fun hh=>?_,fun hh=>lt _ _ ?_,fun hh=>lt _ _ ?_⟩
 ·rw[←e1,←e2,hh]
 ·generalize B*(T/(P*B))=z at *;omega
 ·generalize B*(T/(P*B))=z at *;omega
set_option maxHeartbeats 1000000 in
theorem atm_any (a:Option Addr) (n cap k:Nat) (p:Int) (zs:List Int) (w:World) (hn:zs.length=n) (hm:n≤4096) (hk:k≤1024) (ha:At .u64 w a zs) (hz:D32 zs) (hp0:0≤p) (hp1:p<4294967296) :
  Calls Tryz.prog 146 #[.slice a n cap,.int .u64 p,.int .i64 k] w fun e w'=>e=.returned (.bool (decide (val 4294967296 zs≤p*4294967296^k)))∧w'=w:=by
 have hA0:=val_nonneg (by decide) hz;have hA1:val 4294967296 zs<4294967296^n:=by rw[←hn];exact val_lt (by decide) hz
 have hpw:∀ j:Nat,(0:Int)<4294967296^j:=fun j=>Int.pow_pos (by decide)
 have HW:=hdI <| hpw
 have HT:Hid (val 4294967296 zs/4294967296^(n+k+1)=p*4294967296^k/4294967296^(n+k+1)):=by
  show _=_
  rw[Int.ediv_eq_zero_of_lt hA0,Int.ediv_eq_zero_of_lt (Int.mul_nonneg hp0 (Int.le_of_lt (hpw k)))]
  ·have e:(4294967296:Int)^(n+k+1)=4294967296*4294967296^k*4294967296^n:=by rw[show n+k+1=n+(k+1) by omega,Int.pow_add,Int.pow_succ];grind
   have a1:=Int.mul_lt_mul_of_pos_right hp1 (hpw k);have a2:4294967296*4294967296^k*1≤4294967296*4294967296^k*(4294967296:Int)^n:=Int.mul_le_mul_of_nonneg_left (by have:=hpw n;omega) (Int.mul_nonneg (by decide) (Int.le_of_lt (hpw k)));rw[e];omega
  ·have e:(4294967296:Int)^(n+k+1)=4294967296^n*4294967296^(k+1):=by rw[show n+k+1=n+(k+1) by omega,Int.pow_add]
   have a2:4294967296^n*1≤4294967296^n*(4294967296:Int)^(k+1):=Int.mul_le_mul_of_nonneg_left (by have:=hpw (k+1);omega) (Int.le_of_lt (hpw n));rw[e];omega
 clear hA0 hA1 hpw;go_enter Tryz.func146,Tryz.ntmps146;go_wp2
 go_loop [7] (fun i=>∃ j:Nat,j≤n+k+1∧i=.int .i64 ((j:Int)-1)∧val 4294967296 zs/4294967296^j=p*4294967296^k/4294967296^j) (fun i=>(intOf i+1).toNat)
 case atStart=>exact⟨n+k+1,Nat.le_refl _,by go_num,HT.out⟩
 case round=>
  clear HT;obtain⟨j,hj,rfl,hv⟩:=hrel;by_cases hj0:0<j
  ·obtain⟨j,rfl⟩:∃ i,j=i+1:=⟨j-1,by omega⟩
   have ei:((j+1:Nat):Int)-1=(j:Int):=by omega
   rw[ei];clear ei;rw[Int.pow_succ] at hv;obtain⟨g1,g2,g3⟩:=high_step (by decide) (HW.out j) hv;rw[val_digit (by decide) hz,want_digit _ _ _ _ (by decide) hp0 hp1] at g1 g2 g3;have HD:=hz.get j;have H1:=hdI <| g1
   have H2:=hdI <| g2
   have H3:=hdI <| g3
   have HA:=hdI <| ha
   clear hv g1 g2 g3;generalize hd:zs.getD j 0=d at *;have HG:=hdI <| hd
   obtain⟨hd0,hd1⟩:=HD;clear hd ha;by_cases hjk:j=k
   ·subst hjk;rw[if_pos rfl] at H1 H2 H3;have hjk':((j:Int) == (j:Int))=true:=by simp
    have hfin:∀ q:Bool,(q=decide (d<p))→d≠p→q=decide (val 4294967296 zs≤p*4294967296^j):=fun q hq hne=>by
     rw[hq];by_cases hlt:d<p
     ·have:=H2.out hlt;have h':val 4294967296 zs≤p*4294967296^j:=by omega
      simp[hlt,h']
     ·have:=H3.out (by omega);have h':¬ val 4294967296 zs≤p*4294967296^j:=by omega
      simp[hlt,h']
    have HF:=hdI <| hfin
    clear hfin H2 H3;go_wp2_with fail;refine(digit_any a n cap j zs _ hn hm (by omega) HA.out).mono ?_;rintro e w1 ⟨rfl,rfl⟩;rw[HG.out];by_cases hdw:d=p
    ·have HE:=H1.out hdw;have HV:=hdI <| HE
     have hdw':(d != p)=false:=by simpa using hdw
     have hdw2:(d == p)=true:=by simpa using hdw
     clear HE HF H1 hdw;go_wp2
     go_round
     case rel=>exact⟨j,by omega,rfl,HV.out⟩
     case measure=>first|(simp[intOf];done)|(simp[intOf];omega)
    ·have hdw':(d != p)=true:=by simpa using hdw
     have HN:=hdI <| hdw
     clear hdw H1;go_wp2_with fail;refine(digit_any a n cap j zs _ hn hm (by omega) HA.out).mono ?_;rintro e w2 ⟨rfl,rfl⟩;rw[HG.out];obtain⟨q,hq⟩:∃ q,q=decide (d<p):=⟨_,rfl⟩
     have HQ:=hdI <| HF.out q hq HN.out
     have hq':=hq.symm;clear hq HF;by_cases hlt:d<p
     ·obtain rfl:q=true:=by rw[←hq'];simpa using hlt
      clear hq';go_wp2
      go_ret
      exact⟨by rw[←HQ.out];rfl,rfl⟩
     ·obtain rfl:q=false:=by rw[←hq'];simpa using hlt
      have HD:=hdI <| hq'
      clear hq';go_wp2
      go_ret
      refine⟨?_,rfl⟩;show Ending.returned (.bool (decide (d<p)))=_
      rw[HD.out,←HQ.out]
   ·rw[if_neg hjk] at H1 H2 H3;have hjk':((j:Int) == (k:Int))=false:=by simp;omega
    have hfin:∀ q:Bool,(q=decide (d<0))→d≠0→q=decide (val 4294967296 zs≤p*4294967296^k):=fun q hq hne=>by
     rw[hq];by_cases hlt:d<0
     ·have:=H2.out hlt;have h':val 4294967296 zs≤p*4294967296^k:=by omega
      simp[hlt,h']
     ·have:=H3.out (by omega);have h':¬ val 4294967296 zs≤p*4294967296^k:=by omega
      simp[hlt,h']
    have HF:=hdI <| hfin
    clear hfin H2 H3;go_wp2_with fail;refine(digit_any a n cap j zs _ hn hm (by omega) HA.out).mono ?_;rintro e w1 ⟨rfl,rfl⟩;rw[HG.out];by_cases hdw:d=0
    ·have HE:=H1.out hdw;have HV:=hdI <| HE
     have hdw':(d != 0)=false:=by simpa using hdw
     have hdw2:(d == 0)=true:=by simpa using hdw
     clear HE HF H1 hdw;go_wp2
     go_round
     case rel=>exact⟨j,by omega,rfl,HV.out⟩
     case measure=>first|(simp[intOf];done)|(simp[intOf];omega)
    ·have hdw':(d != 0)=true:=by simpa using hdw
     have HN:=hdI <| hdw
     clear hdw H1;go_wp2_with fail;refine(digit_any a n cap j zs _ hn hm (by omega) HA.out).mono ?_;rintro e w2 ⟨rfl,rfl⟩;rw[HG.out];obtain⟨q,hq⟩:∃ q,q=decide (d<0):=⟨_,rfl⟩
     have HQ:=hdI <| HF.out q hq HN.out
     have hq':=hq.symm;clear hq HF;by_cases hlt:d<0
     ·obtain rfl:q=true:=by rw[←hq'];simpa using hlt
      clear hq';go_wp2
      go_ret
      exact⟨by rw[←HQ.out];rfl,rfl⟩
     ·obtain rfl:q=false:=by rw[←hq'];simpa using hlt
      have HD:=hdI <| hq'
      clear hq';go_wp2
      go_ret
      refine⟨?_,rfl⟩;show Ending.returned (.bool (decide (d<0)))=_
      rw[HD.out,←HQ.out]
  ·obtain rfl:j=0:=by omega
   rw[Int.pow_zero,Int.ediv_one,Int.ediv_one] at hv;have HE:Hid (decide (val 4294967296 zs≤p*4294967296^k)=true):=by show _=_;rw[hv];simp
   clear hv;go_wp2
   go_ret
   exact⟨by rw[HE.out];rfl,rfl⟩
structure RI (p e j X:Nat):Prop where
 lo:X^e≤p*2^(64*e)
 hi:p*2^(64*e)<(X+2^j)^e
 dvd:2^j∣X
 le:X+2^j≤2^67
theorem RI.yes {p e j X:Nat} (h:RI p e (j+1) X) (hy:(X+2^j)^e≤p*2^(64*e)):RI p e j (X+2^j):=by
 have e2:2^(j+1)=2^j+2^j:=by rw[Nat.pow_succ];omega
 refine⟨hy,?_,?_,?_⟩
 ·have:=h.hi;rw[e2,←Nat.add_assoc] at this;exact this
 ·exact Nat.dvd_add (Nat.dvd_trans ⟨2,by rw[Nat.pow_succ]⟩ h.dvd) (Nat.dvd_refl _)
 ·have:=h.le;omega
theorem RI.no {p e j X:Nat} (h:RI p e (j+1) X) (hy:¬ (X+2^j)^e≤p*2^(64*e)):RI p e j X:=by
 have e2:2^(j+1)=2^j+2^j:=by rw[Nat.pow_succ];omega
 refine⟨h.lo,by omega,Nat.dvd_trans ⟨2,by rw[Nat.pow_succ]⟩ h.dvd,by have:=h.le;have:0<2^j:=Nat.pow_pos (by decide);omega⟩
theorem digit_room (X d:Nat) (j:Nat) (hd:X/4294967296^(j/32)%4294967296=d) (hX:2^(j+1)∣X):d+2^(j%32)<4294967296:=by
 obtain⟨t,rfl⟩:=hX;have e1:2^(j+1)*t=4294967296^(j/32)*(2^(j%32+1)*t):=by
  rw[show(4294967296:Nat)=2^32 from rfl,←Nat.pow_mul,←Nat.mul_assoc,←Nat.pow_add]
  congr 2;omega
 rw[e1,Nat.mul_div_cancel_left _ (Nat.pow_pos (by decide))] at hd;have hr:j%32<32:=Nat.mod_lt _ (by decide);obtain⟨q,hq⟩:∃ q,j%32+1+q=32:=⟨31-j%32,by omega⟩
 have e3:(4294967296:Nat)=2^(j%32+1)*2^q:=by rw[←Nat.pow_add,hq]
 rw[e3,Nat.mul_mod_mul_left] at hd;have hlt:t%2^q<2^q:=Nat.mod_lt _ (Nat.pow_pos (by decide));have h4:2^(j%32+1)*(t%2^q+1)≤2^(j%32+1)*2^q:=Nat.mul_le_mul_left _ hlt;rw[←e3,Nat.mul_add,Nat.mul_one,hd,Nat.pow_succ] at h4;have:0<2^(j%32):=Nat.pow_pos (by decide);omega
def RootPost (p e:Nat) (w:World) (en:Ending) (w':World):Prop:=
 ∃ X:Nat,en=.returned (.int .u64 ((X:Int)%18446744073709551616))∧X^e≤p*2^(64*e)∧p*2^(64*e)<(X+1)^e∧Below w.heap.size w w'
structure RS (w:World) (p e j:Nat) (v:Value) (wr:World):Prop where
 st:∃(xs:List Int) (X:Nat),OwnU wr w.heap.size v xs∧xs.length=3∧D32 xs∧val 4294967296 xs=X∧RI p e j X
 below:Below w.heap.size w wr
theorem pw32 (k:Nat):(4294967296:Int)^k=2^(32*k):=by rw[show(4294967296:Int)=2^32 from by decide,←Int.pow_mul]
set_option maxHeartbeats 1000000 in
theorem rootC_any (p e:Nat) (w:World) (hp:p≤409) (he:(e=2∧p<64)∨e=3) :
  Calls Tryz.prog 117 #[.int .u64 p,.int .i64 e] w (RootPost p e w):=by
 have H0:RI p e 67 0:=by
  refine⟨?_,?_,⟨0,rfl⟩,by decide⟩
  ·rcases he with⟨rfl,_⟩|rfl<;>simp
  ·rcases he with⟨rfl,h⟩|rfl
   ·rw[show(0+2^67)^2=64*2^(64*2) from by decide];exact Nat.mul_lt_mul_of_pos_right h (by decide)
   ·rw[show(0+2^67)^3=512*2^(64*3) from by decide];exact Nat.mul_lt_mul_of_pos_right (by omega) (by decide)
 have HS:Hid (RS w p e 67 (.slice (some ⟨w.heap.size,0,none⟩) 3 3) (w.alloc (.cells #[.int .u64 0,.int .u64 0,.int .u64 0] 135))):=
  ⟨⟨[0,0,0],0,OwnK.lit w _ [0,0,0] (Nat.le_refl _) (by decide),rfl,by unfold D32;decide,by decide,H0⟩,(Below.refl _ _).alloc (Nat.le_refl _) _⟩
 have he3:e≤3:=by omega
 have he0:2≤e:=by omega
 go_enter Tryz.func117,Tryz.ntmps117;go_wp2
 go_loopw [5,6] (fun v i wr=>∃ j:Nat,j≤67∧i=.int .i64 ((j:Int)-1)∧RS w p e j v wr) (fun _ i _=>(intOf i+1).toNat)
 case atStart=>exact⟨67,Nat.le_refl _,by go_num,HS.out⟩
 case round=>
  obtain⟨j,hj,rfl,⟨xs,X,hown,hxl,hxd,hxv,hri⟩,hbel⟩:=hrel;by_cases hj0:0<j
  ·obtain⟨j,rfl⟩:∃ i,j=i+1:=⟨j-1,by omega⟩
   have ei:((j+1:Nat):Int)-1=(j:Int):=by omega
   rw[ei];obtain⟨g,c,rfl,hg,hg',hA⟩:=hown.at_;rw[hxl] at hown ⊢;obtain⟨_,_,hE,_,hcl⟩:=hA.get (by omega);cases hE;have hsz:=hbel.size;have hdg:=val_digit (B:=4294967296) (by decide) hxd (j/32);have hdr:=hxd.get (j/32);rw[hxv] at hdg;have hdn:X/4294967296^(j/32)%4294967296=(xs.getD (j/32) 0).toNat:=by
    have:((X/4294967296^(j/32)%4294967296:Nat):Int)=xs.getD (j/32) 0:=by rw[←hdg];simp
    omega
   have hroom:=digit_room X _ j hdn hri.dvd;have hrm:xs.getD (j/32) 0+2^(j%32)<4294967296:=by
    have:((2^(j%32):Nat):Int)=(2:Int)^(j%32):=by simp
    omega
   have h2p:(0:Int)<2^(j%32):=Int.pow_pos (by decide);have hys:val 4294967296 (xs.set (j/32) (xs.getD (j/32) 0+2^(j%32)))=((X+2^j:Nat):Int):=by
    rw[val_set _ _ _ _ (by omega),hxv];have:xs.getD (j/32) 0+2^(j%32)-xs.getD (j/32) 0=(2:Int)^(j%32):=by omega
    rw[this,pw32,←Int.pow_add];have:j%32+32*(j/32)=j:=by omega
    rw[this];simp
   have HYD:Hid (D32 (xs.set (j/32) (xs.getD (j/32) 0+2^(j%32)))):=hxd.set _ _ (by omega) hrm;have HYL:Hid ((xs.set (j/32) (xs.getD (j/32) 0+2^(j%32))).length=3):=by rw[List.length_set];exact hxl
   have HYV:=hdI <| hys
   have HRI:=hdI <| hri
   have HX:Hid (xs.length=3∧D32 xs∧val 4294967296 xs=X):=⟨hxl,hxd,hxv⟩
   have HO:=hdI <| hown
   have HB:=hdI <| hbel
   have HN:Hid (∀ i,i<3→(wr.alloc (.cells #[] 135)).cell? ((⟨g,0,none⟩:Addr).add i)=some (.int .u64 (xs.getD i 0))):=fun i hi=>by
    rw[Addr.add_lit];rw[((Below.refl wr.heap.size wr).alloc (Nat.le_refl _) (.cells #[] 135)).cell (p:=⟨g,0+i,none⟩) hg'];exact hcl i (by omega)
   have HXL:=hdI <| hxl
   go_wp2_with (at_builtin;refine wpList_appK _ ktU rfl _ _ rfl wr.heap.size _ [] rfl (OwnK.empty _ _ (Nat.le_refl _)) ⟨g,0,none⟩ 3 _ xs rfl HXL.out HN.out ?c2 ?c3 ?_)
   case c2=>decide
   case c3=>simp
   intro v' w1 hown' hbel' _;obtain⟨g1,c1,rfl,hg1,hg1',_⟩:=hown'.at_;rw[HXL.out] at hown' ⊢;have hB1:=((Below.refl _ _).alloc (Nat.le_refl _) _).trans hbel';obtain⟨cz,fz,oz⟩:=OwnK.set HXL.out hown' (j/32) (xs.getD (j/32) 0+2^(j%32)) (by omega);have HO2:=hdI <| oz
   have HB2:Hid (Below wr.heap.size wr (w1.setCell ⟨g1,j/32,none⟩ (.int .u64 (xs.getD (j/32) 0+2^(j%32))))):=hB1.setCell hg1 _;obtain⟨hd0,hd1⟩:=hdr;generalize hdd:xs.getD (j/32) 0=d at *;have hsh:IntKind.u64.wrap (1*2^(j%32))=2^(j%32):=by rw[Int.one_mul,IntKind.wrap_u64];exact Int.emod_eq_of_lt (by omega) (by omega)
   have hsh':IntKind.u64.wrap (2^(j%32))=2^(j%32):=by rw[IntKind.wrap_u64];exact Int.emod_eq_of_lt (by omega) (by omega)
   have hj3:(j:Int)/32<3:=by omega
   go_wp2_with fail;have o2:=HO2.out;have b2:=HB2.out;have HDL:=HX.out;generalize hyy:xs.set (j/32) (d+2^(j%32))=ys at *;generalize w1.setCell ⟨g1,j/32,none⟩ (.int .u64 (d+2^(j%32)))=w2 at *;obtain⟨hYA,_,_⟩:=o2.atS;have HO9:=hdI <| o2
   have HO0:=hdI <| HO.out.grow b2
   have HB9:=hdI <| HB.out.trans (b2.mono hsz)
   refine(mul_any _ _ 3 3 _ _ ys ys _ HYL.out HYL.out (by decide) (by decide) (by decide) (by decide) hYA hYA HYD.out HYD.out).mono ?_;rintro en w3 ⟨v3,zs,rfl,O3,hzl,hzd,hzv,B3⟩;obtain⟨g3,c3,rfl,hg3,hg3',hZA⟩:=O3.at_;rw[HYV.out] at hzv;have hzl':zs.length=6:=by rw[hzl,HYL.out]
   have hYA3:=hYA.below B3;have HO9':=hdI <| HO9.out.grow B3
   have HO0':=hdI <| HO0.out.grow B3
   have HB9':=hdI <| HB9.out.trans (B3.mono HB9.out.size)
   have hsz9:=B3.size;rw[hzl'] at O3 ⊢;have HTT:Hid ((p:Int)*4294967296^(2*e)=((p*2^(64*e):Nat):Int)):=by
    show _=_
    rw[pw32,Int.natCast_mul,show 32*(2*e)=64*e by omega];simp
   have h2e:((2*e:Nat):Int)=2*(e:Int):=by omega
   rcases he with⟨he2,hp2⟩|he2
   ·have hne:((e:Int) == 3)=false:=by rw[he2];decide
    have HZV:Hid (val 4294967296 zs=(((X+2^j)^e:Nat):Int)):=by
     show _=_
     rw[he2,hzv,Nat.pow_succ,Nat.pow_succ,Nat.pow_zero,Nat.one_mul,Int.natCast_mul]
    clear hzv he2;have hzl:=hzl';clear hzl';go_wp2_with fail;generalize hW:w3=W9 at *;clear hW;generalize hc9:c3=c9 at *;clear hc9;have HO9:=HO9';have HO0:=HO0';have HB9:=HB9';clear HO9' HO0' HB9';by_cases hle:(X+2^j)^e≤p*2^(64*e)
    ·have HQ:Hid (decide (val 4294967296 zs≤(p:Int)*4294967296^(2*e))=true):=by
      show _=_
      rw[HZV.out,HTT.out];have:(((X+2^j)^e:Nat):Int)≤((p*2^(64*e):Nat):Int):=by exact Int.ofNat_le.2 hle
      simpa using this
     have HP:Hid (RS w p e j (.slice (some ⟨g1,0,none⟩) 3 c1) W9):=
      ⟨⟨_,_,(HO9.out.lower hsz),HYL.out,HYD.out,HYV.out,HRI.out.yes hle⟩,HB9.out⟩
     clear hle;have A:=atm_any _ _ c9 (2*e) (p:Int) zs W9 hzl (by omega) (by omega) hZA hzd (by omega) (by omega);rw[h2e] at A;refine A.mono ?_;rintro en w5 ⟨rfl,rfl⟩;rw[HQ.out];clear HQ A;go_wp2;go_roundw
     case rel=>exact⟨j,by omega,rfl,HP.out⟩
     case measure=>first|(simp[intOf];done)|(simp[intOf];omega)
    ·have HQ:Hid (decide (val 4294967296 zs≤(p:Int)*4294967296^(2*e))=false):=by
      show _=_
      rw[HZV.out,HTT.out];have:¬ (((X+2^j)^e:Nat):Int)≤((p*2^(64*e):Nat):Int):=fun h=>hle (Int.ofNat_le.1 h)
      simpa using this
     have HP:Hid (RS w p e j (.slice (some ⟨g,0,none⟩) 3 c) W9):=
      ⟨⟨xs,X,HO0.out,HX.out.1,HX.out.2.1,HX.out.2.2,HRI.out.no hle⟩,HB9.out⟩
     clear hle;have A:=atm_any _ _ c9 (2*e) (p:Int) zs W9 hzl (by omega) (by omega) hZA hzd (by omega) (by omega);rw[h2e] at A;refine A.mono ?_;rintro en w5 ⟨rfl,rfl⟩;rw[HQ.out];go_wp2;go_roundw
     case rel=>exact⟨j,by omega,rfl,HP.out⟩
     case measure=>first|(simp[intOf];done)|(simp[intOf];omega)
   ·have hne:((e:Int) == 3)=true:=by rw[he2];decide
    have HE:=hdI <| he2
    clear he2;have hzl:=hzl';clear hzl';go_wp2_with fail;refine(mul_any _ _ 6 3 _ _ zs ys _ hzl HYL.out (by decide) (by decide) (by decide) (by decide) hZA hYA3 hzd HYD.out).mono ?_;rintro en w4 ⟨v4,us,rfl,O4,hul,hud,huv,B4⟩;obtain⟨g4,c4,rfl,hg4,hg4',hUA⟩:=O4.at_;rw[HYV.out,hzv] at huv;have hul':us.length=9:=by rw[hul,hzl,HYL.out]
    have HO9:=hdI <| HO9'.out.grow B4
    have HO0:=hdI <| HO0'.out.grow B4
    have HB9:=hdI <| HB9'.out.trans (B4.mono HB9'.out.size)
    rw[hul'] at O4 ⊢;clear HO9' HO0' HB9' O4 B4 hul hzl hzd hzv hZA;have hzl:=hul';have hzd:=hud;have hZA:=hUA;clear hul' hud hUA;have HZV:Hid (val 4294967296 us=(((X+2^j)^e:Nat):Int)):=by
     show _=_
     rw[HE.out,huv,Nat.pow_succ,Nat.pow_succ,Nat.pow_succ,Nat.pow_zero,Nat.one_mul,Int.natCast_mul,Int.natCast_mul]
    clear huv;go_wp2_with fail;generalize hW:w4=W9 at *;clear hW;generalize hc9:c4=c9 at *;clear hc9;by_cases hle:(X+2^j)^e≤p*2^(64*e)
    ·have HQ:Hid (decide (val 4294967296 us≤(p:Int)*4294967296^(2*e))=true):=by
      show _=_
      rw[HZV.out,HTT.out];have:(((X+2^j)^e:Nat):Int)≤((p*2^(64*e):Nat):Int):=by exact Int.ofNat_le.2 hle
      simpa using this
     have HP:Hid (RS w p e j (.slice (some ⟨g1,0,none⟩) 3 c1) W9):=
      ⟨⟨_,_,(HO9.out.lower hsz),HYL.out,HYD.out,HYV.out,HRI.out.yes hle⟩,HB9.out⟩
     clear hle;have A:=atm_any _ _ c9 (2*e) (p:Int) us W9 hzl (by omega) (by omega) hZA hzd (by omega) (by omega);rw[h2e] at A;refine A.mono ?_;rintro en w5 ⟨rfl,rfl⟩;rw[HQ.out];clear HQ A;go_wp2;go_roundw
     case rel=>exact⟨j,by omega,rfl,HP.out⟩
     case measure=>first|(simp[intOf];done)|(simp[intOf];omega)
    ·have HQ:Hid (decide (val 4294967296 us≤(p:Int)*4294967296^(2*e))=false):=by
      show _=_
      rw[HZV.out,HTT.out];have:¬ (((X+2^j)^e:Nat):Int)≤((p*2^(64*e):Nat):Int):=fun h=>hle (Int.ofNat_le.1 h)
      simpa using this
     have HP:Hid (RS w p e j (.slice (some ⟨g,0,none⟩) 3 c) W9):=
      ⟨⟨xs,X,HO0.out,HX.out.1,HX.out.2.1,HX.out.2.2,HRI.out.no hle⟩,HB9.out⟩
     clear hle;have A:=atm_any _ _ c9 (2*e) (p:Int) us W9 hzl (by omega) (by omega) hZA hzd (by omega) (by omega);rw[h2e] at A;refine A.mono ?_;rintro en w5 ⟨rfl,rfl⟩;rw[HQ.out];go_wp2;go_roundw
     case rel=>exact⟨j,by omega,rfl,HP.out⟩
     case measure=>first|(simp[intOf];done)|(simp[intOf];omega)
  ·obtain rfl:j=0:=by omega
   obtain⟨g,c,rfl,hg,hg',_⟩:=hown.at_;rw[hxl] at hown ⊢;have c0:=OwnK.cellAt hxl hown 0 (by decide);have c1:=OwnK.cellAt hxl hown 1 (by decide);have d0:=hxd.get 0;have d1:=hxd.get 1;have d2:=hxd.get 2;have HX:Hid ((X:Int)%18446744073709551616=xs.getD 0 0+xs.getD 1 0*4294967296):=by
    show _=_
    rw[←hxv]
    match xs,hxl with
    |[a,b,d],_=>
     simp only[List.getD_cons_zero,List.getD_cons_succ,val] at d0 d1 d2 ⊢;omega
   have HP:Hid (X^e≤p*2^(64*e)∧p*2^(64*e)<(X+1)^e):=⟨hri.lo,by simpa using hri.hi⟩
   generalize xs.getD 0 0=x0 at *;generalize xs.getD 1 0=x1 at *;obtain⟨d00,d01⟩:=d0;obtain⟨d10,d11⟩:=d1;go_wp2
   go_quiet (fail)
   go_wp2
   go_ret
   refine⟨X,?_,HP.out.1,HP.out.2,⟨hbel.os,hbel.tape,hbel.output,hbel.size,hbel.block⟩⟩;rw[HX.out];rfl
def rts:List Nat:=[23241441160490167842,26604808713878332877,31543488660544240431,35287351959220771772,41025191555757552952,43374469216020582425,47431773444313272219,49223322299838333208,52460086356995146306,56674242196778545086,57948244932766773900,61468643694135456994,63608380943893236079,64626287408284341937,66571091106846937653,69291241975837173396,71813108563482594002,72615556083564357091,74922338351982630325,76384605279477341285,77095200552867529333,79152035218479047811,80466001307761769428,82360010132597855157,84757271453788200875,85906662539289440784,86470001012957192511,87575168524888248036,88117443448470540226,89182409882623190821,92723033081372705391,93686458245878541936,95095488024300105724,95556006044611561766,97794660939065469677,98230277650290947039,99514478923103560670,100766364611844223656,101583977345534766822,102786266195516601659,103961068102722061156,104346826991781163009,106234157551817627537,106603670640207904304,107335108066752287256,107697117917222381840,109819772810290077738,111863398698143437240,112528278492720320712,112857792170093030227,113511107980111571865,114477206417490790568,114795642568024087139,116361942610802215627,117281838038729876339,118187525164200278179,119079540232616391420,119373928427484032864,120248493880617511794,120824543361758411244,121110519679094562344,122520547622920568297,124441674862916172053,124979807718728684331,125247145020423037340,125778422408467759623,127603441353585912606,128369846764518166904,129627222056361226170,129875788766833580198,130370087684295691694,131104582549941012251,132071287192121802116,132787134709014930579,133495346155087314620,133963344184962190668,134659270149180113590,135576127461610847786,136029942151059536620,136928597060811708439,26087635650665564424,31950697969885030203,41248173712355948587,48805497317890012913,61180928696206656209,66510681623121259551,76057874264641092971,80407493254657745273]
def tab:List Nat:=rts.map (·%18446744073709551616)
theorem rts3:∀ t<80,rts.getD t 0^3≤prs0.getD (t+1) 0*2^(64*3)∧prs0.getD (t+1) 0*2^(64*3)<(rts.getD t 0+1)^3:=by decide +kernel
theorem rts2:∀ t<8,rts.getD (80+t) 0^2≤prs0.getD (t+1) 0*2^(64*2)∧prs0.getD (t+1) 0*2^(64*2)<(rts.getD (80+t) 0+1)^2:=by decide +kernel
theorem prs_le:∀ t<80,prs0.getD (t+1) 0≤409:=by decide +kernel
theorem prs_le8:∀ t<8,prs0.getD (t+1) 0<64:=by decide +kernel
theorem tab_get (t:Nat):tab.getD t 0=rts.getD t 0%18446744073709551616:=by
 simp only[tab,List.getD_eq_getElem?_getD,List.getElem?_map];cases rts[t]?<;>simp
theorem rootC_same {X R T e:Nat} (h1:X^e≤T) (h2:T<(X+1)^e) (h3:R^e≤T) (h4:T<(R+1)^e):X=R:=by
 rcases Nat.lt_trichotomy X R with h|h|h
 ·have:=Nat.pow_le_pow_left (show X+1≤R from h) e;omega
 ·exact h
 ·have:=Nat.pow_le_pow_left (show R+1≤X from h) e;omega
def rcT (t:Int):Int:=if 0≤t∧t<88 then(tab.getD t.toNat 0:Nat) else 0
theorem get3 (n:Nat) (hn:n<80):∃ p R:Nat,(∀ w,Calls Tryz.prog 118 #[.int .i64 n] w fun e w'=>e=.returned (.int .u64 p)∧w'=w)∧p≤409∧R^3≤p*2^(64*3)∧p*2^(64*3)<(R+1)^3∧rcT (n:Int)=(R:Int)%18446744073709551616:=by
 refine⟨prs0.getD (n+1) 0,rts.getD n 0,fun w=>prime_any n w hn,prs_le n hn,(rts3 n hn).1,(rts3 n hn).2,?_⟩;unfold rcT;rw[if_pos (by omega),Int.toNat_natCast,tab_get];exact Int.natCast_emod _ _
theorem get2 (n:Nat) (hn:n<8):∃ p R:Nat,(∀ w,Calls Tryz.prog 118 #[.int .i64 n] w fun e w'=>e=.returned (.int .u64 p)∧w'=w)∧p≤409∧p<64∧R^2≤p*2^(64*2)∧p*2^(64*2)<(R+1)^2∧rcT (80+(n:Int))=(R:Int)%18446744073709551616:=by
 refine⟨prs0.getD (n+1) 0,rts.getD (80+n) 0,fun w=>prime_any n w (by omega),prs_le n (by omega),prs_le8 n hn,(rts2 n hn).1,(rts2 n hn).2,?_⟩;unfold rcT;rw[if_pos (by omega),show(80+(n:Int)).toNat=80+n by omega,tab_get];exact Int.natCast_emod _ _
set_option maxHeartbeats 400000 in
theorem rcS_any (t:Int) (w:World) (h0:-9223372036854775808≤t) (h1:t≤9223372036854775807) :
  Calls Tryz.prog 97 #[.int .i64 t] w fun e w'=>e=.returned (.int .u64 (rcT t))∧Below w.heap.size w w':=by
 by_cases ha:0≤t
 ·by_cases hb:t<80
  ·obtain⟨n,rfl⟩:=Int.eq_ofNat_of_zero_le ha;obtain⟨p,R,hp,hp1,hp2,hp3,e⟩:=get3 n (by omega);generalize rcT (n:Int)=r at *;have HE:=hdI <| e
   clear e;go_enter Tryz.func97,Tryz.ntmps97;go_wp2_with fail;refine(hp _).mono ?_;rintro e w1 ⟨rfl,rfl⟩;go_wp2_with fail;have A:=rootC_any p 3 w1 hp1 (.inr rfl);refine A.mono ?_;rintro e w2 ⟨X,rfl,x1,x2,B⟩;rw[rootC_same x1 x2 hp2 hp3,←HE.out];have HB:=hdI <| B
   clear B x1 x2 A hp hp2 hp3 HE;go_wp2
   go_ret
   exact⟨rfl,HB.out⟩
  ·by_cases hc:t<88
   ·obtain⟨n,hn⟩:∃ n:Nat,t=80+(n:Int):=⟨(t-80).toNat,by omega⟩
    obtain⟨p,R,hp,hp1,hp4,hp2,hp3,e⟩:=get2 n (by omega);rw[←hn] at e;generalize rcT t=r at *;have HE:=hdI <| e
    have HSUB:Hid (t-80=(n:Int)):=by show _=_;omega
    have hb':decide (t<80)=false:=by simpa using hb
    have ha':decide (0≤t)=true:=by simpa using ha
    have hg:80≤t:=by omega
    clear e hn;go_enter Tryz.func97,Tryz.ntmps97;go_wp2_with fail;rw[HSUB.out];refine(hp _).mono ?_;rintro e w1 ⟨rfl,rfl⟩;go_wp2_with fail;have A:=rootC_any p 2 w1 hp1 (.inl ⟨rfl,hp4⟩);refine A.mono ?_;rintro e w2 ⟨X,rfl,x1,x2,B⟩;rw[rootC_same x1 x2 hp2 hp3,←HE.out];have HB:=hdI <| B
    clear B x1 x2 A hp hp2 hp3 HE;go_wp2
    go_ret
    exact⟨rfl,HB.out⟩
   ·have e:rcT t=0:=by unfold rcT;rw[if_neg (by omega)]
    rw[e];go_enter Tryz.func97,Tryz.ntmps97;go_wp2
    go_ret
    exact⟨rfl,Below.refl _ _⟩
 ·have e:rcT t=0:=by unfold rcT;rw[if_neg (by omega)]
  rw[e];have ha':decide (0≤t)=false:=by simpa using ha
  go_enter Tryz.func97,Tryz.ntmps97;go_wp2
  go_ret
  exact⟨rfl,Below.refl _ _⟩
def TabIn (w:World):Prop:=∀ i,i<88→w.cell? ⟨1,i,none⟩=some (.int .u64 (tab.getD i 0:Nat))
structure FrG (g:Nat) (w w':World):Prop where
 os:w'.os=w.os
 tape:w'.tape=w.tape
 output:w'.output=w.output
 size:w.heap.size≤w'.heap.size
 block:∀ k,k<w.heap.size→k≠g→w'.heap[k]?=w.heap[k]?
theorem FrG.trans {g:Nat} {a b c:World} (h:FrG g a b) (k:FrG g b c):FrG g a c:=
 ⟨k.os.trans h.os,k.tape.trans h.tape,k.output.trans h.output,Nat.le_trans h.size k.size,fun i hi hg=>(k.block i (Nat.lt_of_lt_of_le hi h.size) hg).trans (h.block i hi hg)⟩
theorem Wr.frg {g:Nat} {w w':World} (h:Wr g w w'):FrG g w w':=⟨h.os,h.tape,h.output,by rw[h.size];exact Nat.le_refl _,fun k _ hg=>h.block k hg⟩
theorem frg_below {g:Nat} {w w':World} (h:Below w.heap.size w w'):FrG g w w':=⟨h.os,h.tape,h.output,h.size,fun k hk _=>h.block k hk⟩
theorem FrG.below {g B:Nat} {w w':World} (h:FrG g w w') (hB:B≤g) (hw:B≤w.heap.size):Below B w w':=⟨h.os,h.tape,h.output,h.size,fun k hk=>h.block k (by omega) (by omega)⟩
theorem FrG.row {g q:Nat} {w w':World} {e:TypeId} {zs:List Int} (h:FrG g w w') (hr:Row w q e zs) (hq:q≠g):Row w' q e zs:=by unfold Row;rw[h.block q hr.lt hq];exact hr
def rnd (v:List Int) (x:Int):List Int:=
 [IntKind.u64.wrap (rt1 (v.getD 0 0) (v.getD 1 0) (v.getD 2 0) (v.getD 3 0) (v.getD 4 0) (v.getD 5 0) (v.getD 6 0) (v.getD 7 0) x+rt2 (v.getD 0 0) (v.getD 1 0) (v.getD 2 0)),v.getD 0 0,v.getD 1 0,v.getD 2 0,
  IntKind.u64.wrap (v.getD 3 0+rt1 (v.getD 0 0) (v.getD 1 0) (v.getD 2 0) (v.getD 3 0) (v.getD 4 0) (v.getD 5 0) (v.getD 6 0) (v.getD 7 0) x),v.getD 4 0,v.getD 5 0,v.getD 6 0]
def W8 (v:List Int):Prop:=v.length=8∧∀ i,U64 (v.getD i 0)
theorem W8.eight {v:List Int} (h:W8 v):v=[v.getD 0 0,v.getD 1 0,v.getD 2 0,v.getD 3 0,v.getD 4 0,v.getD 5 0,v.getD 6 0,v.getD 7 0]:=by
 obtain⟨hl,_⟩:=h
 match v,hl with
 |[a,b,c,d,e,f,q,z],_=>rfl
theorem u64_zero:U64 0:=⟨by decide,by decide⟩
theorem w8_of {a b c d e f q z:Int} (ha:U64 a) (hb:U64 b) (hc:U64 c) (hd:U64 d) (he:U64 e) (hf:U64 f) (hq:U64 q) (hz:U64 z):W8 [a,b,c,d,e,f,q,z]:=
 ⟨rfl,fun i=>by
  match i with
  |0=>exact ha
  |1=>exact hb
  |2=>exact hc
  |3=>exact hd
  |4=>exact he
  |5=>exact hf
  |6=>exact hq
  |7=>exact hz
  |n+8=>exact u64_zero⟩
theorem rnd_w8 {v:List Int} (h:W8 v) (x:Int):W8 (rnd v x):=w8_of (u64_wrap _) (h.2 0) (h.2 1) (h.2 2) (u64_wrap _) (h.2 4) (h.2 5) (h.2 6)
theorem roundL_any (g:Nat) (ty:TypeId) (v:List Int) (x:Int) (w:World) (hr:RowW w g ty v) (hv:W8 v) (hx:U64 x) :
  Calls Tryz.prog 157 #[.pointer (some ⟨g,0,none⟩),.int .u64 x] w fun en w'=>en=.returned (.tuple #[])∧RowW w' g ty (rnd v x)∧Wr g w w':=by
 have e:=hv.eight;refine round_any g ty (v.getD 0 0) (v.getD 1 0) (v.getD 2 0) (v.getD 3 0) (v.getD 4 0) (v.getD 5 0) (v.getD 6 0) (v.getD 7 0) x w ?_ (hv.2 0) (hv.2 1) (hv.2 2) (hv.2 3) (hv.2 4) (hv.2 5) (hv.2 6) (hv.2 7) hx;have h2:=hr;unfold RowW at h2;rw[e] at h2;exact h2
def kt (t:Nat):Int:=((tab.getD t 0:Nat):Int)
theorem kt_u64 (t:Nat):U64 (kt t):=by
 unfold kt;rw[tab_get];have:=Nat.mod_lt (rts.getD t 0) (show 0<18446744073709551616 by decide);exact⟨by omega,by omega⟩
def rnds (hs bs:List Int):Nat→List Int
 |0=>hs
 |t+1=>rnd (rnds hs bs t) (IntKind.u64.wrap (kt t+wd bs t))
theorem rnds_w8 {hs:List Int} (h:W8 hs) (bs:List Int) (t:Nat):W8 (rnds hs bs t):=by
 induction t with
 |zero=>exact h
 |succ t ih=>exact rnd_w8 ih _
def mixA (hs vs:List Int) (k:Nat):List Int:=(List.range 8).map fun i=>if i<k then IntKind.u64.wrap (hs.getD i 0+vs.getD i 0) else hs.getD i 0
theorem mixA_len (hs vs:List Int) (k:Nat):(mixA hs vs k).length=8:=by simp[mixA]
theorem mixA_get (hs vs:List Int) (k i:Nat) (h:i<8):(mixA hs vs k).getD i 0=if i<k then IntKind.u64.wrap (hs.getD i 0+vs.getD i 0) else hs.getD i 0:=by unfold mixA;simp[List.getD,h]
theorem mixA_zero {hs:List Int} (h:W8 hs) (vs:List Int):mixA hs vs 0=hs:=by
 rw[h.eight];rfl
theorem mixA_set (hs vs:List Int) (k:Nat) (h:k<8):(mixA hs vs k).set k (IntKind.u64.wrap (hs.getD k 0+vs.getD k 0))=mixA hs vs (k+1):=by
 apply List.ext_getElem?;intro i;rw[List.getElem?_set];unfold mixA;by_cases h1:k=i
 ·subst h1;simp[h]
 ·rw[if_neg h1];by_cases h2:i<8
  ·have e:(i<k+1)=(i<k):=by apply propext;omega
   simp[h2,e]
  ·simp[h2]
def mixL (hs bs:List Int):List Int:=mixA hs (rnds hs bs 80) 8
theorem mixL_w8 (hs bs:List Int):W8 (mixL hs bs):=⟨mixA_len _ _ _,fun i=>by
 unfold mixL;by_cases h:i<8
 ·rw[mixA_get _ _ _ _ h,if_pos h];exact u64_wrap _
 ·rw[List.getD_eq_getElem?_getD,List.getElem?_eq_none (by rw[mixA_len];omega)];exact u64_zero⟩
theorem idx80 (w:World) (vs:List Int) (hl:vs.length=80) (k:Nat) (hk:k<80):(Instr.index 213 (.agg (vs.map (Value.int .u64)).toArray) (.int .i64 (k:Int))).run Tryz.prog w=.ok (.int .u64 (vs.getD k 0)) w:=by
 have h2:k<vs.length:=by omega
 simp[Instr.index,run_underlying Tryz.underlying213,asIntOf,part,go_sem,h2];omega
theorem idx8 (w:World) (vs:List Int) (hl:vs.length=8) (k:Nat) (hk:k<8):(Instr.index 175 (.agg (vs.map (Value.int .u64)).toArray) (.int .i64 (k:Int))).run Tryz.prog w=.ok (.int .u64 (vs.getD k 0)) w:=by
 have h2:k<vs.length:=by omega
 simp[Instr.index,run_underlying Tryz.underlying175,asIntOf,part,go_sem,h2];omega
theorem TabIn.frg {w w':World} (h:TabIn w) (hw:∀ k,k<w.heap.size→k=1→w'.heap[k]?=w.heap[k]?):TabIn w':=fun i hi=>by
 have hc:=h i hi;have hz:1<w.heap.size:=block_lt_of_cell (a:=⟨1,0,none⟩) (h 0 (by decide));rw[←hc];exact World.cell?_of_block (hw 1 hz rfl)
structure MX (w:World) (g gB:Nat) (hs vs bs:List Int) (y:World):Prop where
 tur:RowW y w.heap.size 175 vs
 wds:RowW y g 175 hs
 tab:TabIn y
 fr:FrG g w y
theorem MX.call {w:World} {g gB:Nat} {hs vs vs' bs:List Int} {y y':World} (h:MX w g gB hs vs bs y) (hg:g<w.heap.size) (h0:1<w.heap.size) (hr:RowW y' w.heap.size 175 vs') (hw:Wr w.heap.size y y'):MX w g gB hs vs' bs y':=
 ⟨hr,hw.rowW h.wds (by omega),h.tab.frg (fun k _ e=>hw.block k (by omega)),⟨hw.os.trans h.fr.os,hw.tape.trans h.fr.tape,hw.output.trans h.fr.output,by rw[hw.size];exact h.fr.size,fun k hk hkg=>(hw.block k (by omega)).trans (h.fr.block k hk hkg)⟩⟩
theorem MX.set {w:World} {g gB:Nat} {hs vs bs:List Int} {y:World} (h:MX w g gB hs vs bs y) (hg:g<w.heap.size) (h0:g≠1) (k:Nat) (x:Int):MX w g gB (hs.set k x) vs bs ((y.setCell ⟨g,k,none⟩ (.int .u64 x)).drew):=by
 have hw:Wr g y ((y.setCell ⟨g,k,none⟩ (.int .u64 x)).drew):=((Wr.refl _ _).setCell k _).drew;exact⟨hw.rowW h.tur (by omega),h.wds.set k x,h.tab.frg (fun k _ e=>hw.block k (by omega)),h.fr.trans hw.frg⟩
set_option maxRecDepth 100000 in
set_option maxHeartbeats 4000000 in
theorem mix_any (g gB:Nat) (hs bs:List Int) (w:World) (hr:RowW w g 175 hs) (hw8:W8 hs) (hb:Row w gB 178 bs) (hl:bs.length=128) (hz:Byte bs) (hT:TabIn w) (hg0:g≠1) :
  Calls Tryz.prog 133 #[.pointer (some ⟨g,0,none⟩),.pointer (some ⟨gB,0,none⟩)] w fun e w'=>e=.returned (.tuple #[])∧RowW w' g 175 (mixL hs bs)∧FrG g w w':=by
 have hgl:=hr.lt;have hbl:=hb.lt;have h0:=block_lt_of_cell (a:=⟨1,0,none⟩) (hT 0 (by decide));have H8:=hid_ofS hw8;have HU:=hid_ofS (fun t=>wd_u64 hz hl t);have HR:=hid_ofS hr;have HZN:Hid (RowW (w.alloc (.cells #[.int .u64 0,.int .u64 0,.int .u64 0,.int .u64 0,.int .u64 0,.int .u64 0,.int .u64 0,.int .u64 0] 175)) w.heap.size 175 [0,0,0,0,0,0,0,0]):=heap_alloc_new w _;have HAL:Hid (Below w.heap.size w (w.alloc (.cells #[.int .u64 0,.int .u64 0,.int .u64 0,.int .u64 0,.int .u64 0,.int .u64 0,.int .u64 0,.int .u64 0] 175))):=(Below.refl _ _).alloc (Nat.le_refl _) _;have HB:=hid_ofS (And.intro hb (And.intro hl hz));have HT:=hid_ofS hT;clear hr hw8 hb hl hz hT;go_enter Tryz.func133,Tryz.ntmps133;go_wp2_with (first
  |(refine wpList_loadW rfl (.tmp 10) rfl Tryz.underlying175 Tryz.sizeWds g hs rfl H8.out.1 HR.out ?_)
  |(refine wpList_storeW rfl (.tmp 4) (.tmp 11) rfl Tryz.sizeWds w.heap.size hs [0,0,0,0,0,0,0,0] rfl rfl H8.out.1 rfl HZN.out ?_)
  |fail)
 intro w1 hr1 hw1;have FR1:FrG g w w1:=⟨hw1.os.trans HAL.out.os,hw1.tape.trans HAL.out.tape,hw1.output.trans HAL.out.output,by rw[hw1.size];exact HAL.out.size,fun k hk _=>(hw1.block k (by omega)).trans (HAL.out.block k hk)⟩
 have HM:MX w g gB hs hs bs w1:=⟨hr1,hw1.rowW (HR.out.below HAL.out hgl) (by omega),(HT.out.frg (fun k hk _=>HAL.out.block k hk)).frg (fun k _ e=>hw1.block k (by omega)),FR1⟩
 have A:=hid_ofS (sched_any gB bs w1 (by unfold Row;rw[hw1.block gB (by omega),HAL.out.block gB hbl];exact HB.out.1) HB.out.2.1 HB.out.2.2);have HM1:=hid_ofS HM;clear HM FR1 hr1 hw1 HZN HAL HR HT HB;go_wp2_with fail;refine A.out.mono ?_;rintro e w2 ⟨rfl,b2⟩;have HM2:Hid (MX w g gB hs (rnds hs bs 0) bs w2):=⟨HM1.out.tur.below b2 HM1.out.tur.lt,HM1.out.wds.below b2 HM1.out.wds.lt,HM1.out.tab.frg (fun k hk _=>b2.block k hk),HM1.out.fr.trans (frg_below b2)⟩
 clear b2 HM1 A;have hix:=hid_ofS (fun w k hk=>idx80 w (schA bs 80) (schA_len _ _) k hk);obtain⟨AV,hAV⟩:∃ AV,AV=((schA bs 80).map (Value.int .u64)).toArray:=⟨_,rfl⟩
 rw[←hAV] at hix ⊢;clear hAV;go_wp2
 go_loopw [14] (fun i wr=>∃ k:Nat,k≤80∧i=.int .i64 k∧MX w g gB hs (rnds hs bs k) bs wr) (fun i _=>80-(intOf i).toNat)
 case atStart=>exact⟨0,by omega,rfl,HM2.out⟩
 case round=>
  clear HM2;obtain⟨k,hk,rfl,hm⟩:=hrel;by_cases hlt:k<80
  ·have hlt':(k:Int)<80:=by omega
   have hx:=fun w=>hix.out w k hlt
   rw[schA_get _ _ _ hlt,if_pos hlt] at hx;have hu:=HU.out k;have hc:=hm.tab k (by omega);have hku:=kt_u64 k;have HMk:=hid_ofS hm;have hkt:kt k=((tab.getD k 0:Nat):Int):=rfl;rw[←hkt] at hc;have A:=hid_ofS (roundL_any w.heap.size 175 (rnds hs bs k) (IntKind.u64.wrap (kt k+wd bs k)) wr hm.tur (rnds_w8 H8.out bs k) (u64_wrap _));have HN:Hid (rnds hs bs (k+1)=rnd (rnds hs bs k) (IntKind.u64.wrap (kt k+wd bs k))):=rfl;clear hm hkt;obtain⟨v,hv⟩:∃ v,v=wd bs k:=⟨_,rfl⟩
   obtain⟨c,hcc⟩:∃ c,c=kt k:=⟨_,rfl⟩
   rw[←hv] at hx hu A HN;rw[←hcc] at hc hku A HN;clear hv hcc;obtain⟨hu0,hu1⟩:=hu;obtain⟨hk0,hk1⟩:=hku;go_wp2_with fail;refine A.out.mono ?_;rintro e w3 ⟨rfl,r3,b3⟩;have HM3:Hid (MX w g gB hs (rnds hs bs (k+1)) bs w3):=by rw[HN.out];exact HMk.out.call hgl h0 r3 b3
   clear r3 b3 A HMk HN hc hx;go_wp2;go_roundw
   case rel=>exact⟨k+1,by omega,by go_num,HM3.out⟩
   case measure=>simp[intOf];omega
  ·obtain rfl:k=80:=by omega
   have hVS:=rnds_w8 H8.out bs 80;have HVL:=hid_ofS hVS;have HMF:Hid (mixL hs bs=mixA hs (rnds hs bs 80) 8):=rfl;obtain⟨vs,hvs⟩:∃ vs,vs=rnds hs bs 80:=⟨_,rfl⟩
   rw[←hvs] at hm HVL HMF;clear hVS hvs;have HM3:=hid_ofS hm;have HMZ:Hid (MX w g gB (mixA hs vs 0) vs bs wr):=by rw[mixA_zero H8.out];exact hm
   clear hm hix;go_wp2_with (first
    |(refine wpList_loadW rfl (.tmp 4) rfl Tryz.underlying175 Tryz.sizeWds w.heap.size vs rfl HVL.out.1 HM3.out.tur ?_)
    |fail)
   have hix:=hid_ofS (fun w k hk=>idx8 w vs HVL.out.1 k hk);obtain⟨BV,hBV⟩:∃ BV,BV=(vs.map (Value.int .u64)).toArray:=⟨_,rfl⟩
   rw[←hBV] at hix ⊢;clear hBV HM3;go_wp2
   go_loopw [26] (fun i wr=>∃ k:Nat,k≤8∧i=.int .i64 k∧MX w g gB (mixA hs vs k) vs bs wr) (fun i _=>8-(intOf i).toNat)
   case atStart=>exact⟨0,by omega,rfl,HMZ.out⟩
   case round=>
    rename_i wq _
    obtain⟨k,hk,rfl,hm⟩:=hrel;by_cases hlt:k<8
    ·have hlt':(k:Int)<8:=by omega
     have hx:=fun w=>hix.out w k hlt
     have hu:=HVL.out.2 k;have hh:=H8.out.2 k;have hc:=hm.wds.cell k (by rw[mixA_len];exact hlt);rw[mixA_get _ _ _ _ hlt,if_neg (by omega)] at hc;have hf:=hm.wds.frozen k;have hn:=hm.set hgl hg0 k (IntKind.u64.wrap (hs.getD k 0+vs.getD k 0));rw[mixA_set _ _ _ hlt] at hn;have HN:=hid_ofS hn;clear hn hm;obtain⟨v,hv⟩:∃ v,v=vs.getD k 0:=⟨_,rfl⟩
     obtain⟨c,hcc⟩:∃ c,c=hs.getD k 0:=⟨_,rfl⟩
     rw[←hv] at hx hu HN;rw[←hcc] at hc hh HN;clear hv hcc;obtain⟨hu0,hu1⟩:=hu;obtain⟨hh0,hh1⟩:=hh;go_wp2
     go_region
     go_wp2;go_roundw
     case rel=>exact⟨k+1,by omega,by go_num,HN.out⟩
     case measure=>simp[intOf];omega
    ·obtain rfl:k=8:=by omega
     have HN:=hid_ofS hm;clear hm;go_wp2
     go_end0
     rw[HMF.out];exact⟨rfl,HN.out.wds,HN.out.fr⟩
def blkOf (zs:List Int):List Int:=zs.take 128++List.replicate (128-zs.length) 0
theorem blkOf_len (zs:List Int):(blkOf zs).length=128:=by unfold blkOf;simp;omega
theorem blkOf_byte {zs:List Int} (h:Byte zs):Byte (blkOf zs):=fun z hz=>by
 unfold blkOf at hz;rcases List.mem_append.1 hz with h'|h'
 ·exact h z (List.mem_of_mem_take h')
 ·rw[(List.mem_replicate.1 h').2];exact⟨by decide,by decide⟩
theorem Tryz.sizeU8h:(Tryz.prog.info? 5).map (·.size)=some 1:=by kernel_rfl
theorem splice_blk (zs:List Int):splice ((List.replicate 128 (0:Int)).map (Value.int .u8)) 0 ((zs.take 128).map (Value.int .u8))=(blkOf zs).map (Value.int .u8):=by
 unfold splice blkOf;rw[List.take_zero,List.nil_append,List.map_append,←List.map_drop,List.drop_replicate,Nat.zero_add,List.length_map,List.length_take,show 128-min 128 zs.length=128-zs.length by omega]
theorem run_sliceAll (w:World) (g:Nat):(Instr.sliceAt 178 (.pointer (some ⟨g,0,none⟩)) none none none).run Tryz.prog w=.ok (.slice (some ⟨g,0,none⟩) 128 128) w:=by
 unfold Instr.sliceAt;simp[run_underlying Tryz.underlying178,go_sem,Instr.sliceBounds,Addr.add]
set_option maxRecDepth 100000 in
set_option maxHeartbeats 1000000 in
theorem blk_any (a:Option Addr) (n cap:Nat) (zs:List Int) (w:World) (hn:zs.length=n) (ha:At .u8 w a zs) (hm:n≤2097152) :
  Calls Tryz.prog 132 #[.slice a n cap] w fun e w'=>e=.returned (.agg ((blkOf zs).map (Value.int .u8)).toArray)∧Below w.heap.size w w':=by
 have z1:=zvBlk;have z2:=zsBlk;have z3:=znBlk;have hsl:=fun w=>run_sliceAll w
 obtain⟨w2,hw2⟩:∃ w2,w2=(w.alloc (.cells zBlk 178)).alloc (.cells zBlk 178):=⟨_,rfl⟩
 have HB:Hid (Below w.heap.size w w2):=by rw[hw2];exact((Below.refl _ _).alloc (Nat.le_refl _) _).alloc (by simp) _
 have HR0:Hid (Row w2 w.heap.size 178 (List.replicate 128 0)):=by show _=_;rw[hw2,heap_alloc2_old,zcBlk]
 have HR1:Hid (Row w2 (w.heap.size+1) 178 (List.replicate 128 0)):=by show _=_;rw[hw2,heap_alloc2_new,zcBlk]
 have HA:=hid_ofS ha;have HN:=hid_ofS hn;have HW:=hid_ofS hw2;obtain⟨zz,hzz⟩:∃ zz,zz=(List.replicate 128 (0:Int)).map (Value.int .u8):=⟨_,rfl⟩
 have HSP:Hid (splice zz 0 ((zs.take 128).map (Value.int .u8))=(blkOf zs).map (Value.int .u8)):=by show _=_;rw[hzz];exact splice_blk zs
 have HR1:Hid (w2.heap[w.heap.size+1]?=some (.cells zz.toArray 178 (0,0))):=by rw[hzz];exact HR1
 have HLn:Hid (((zs.take 128).map (Value.int .u8)).length=Nat.min n 128):=by show _=_;rw[List.length_map,List.length_take,hn];exact Nat.min_comm _ _
 have HLm:Hid (0+((zs.take 128).map (Value.int .u8)).length≤zz.length):=by show _≤_;rw[hzz,List.length_map,List.length_take,List.length_map,List.length_replicate];omega
 clear hzz;have HP:Hid (0<((zs.take 128).map (Value.int .u8)).length→some (⟨w.heap.size+1,0,none⟩:Addr)=some ⟨w.heap.size+1,0,none⟩∧∃ ad,a=some ad∧∀ j v,((zs.take 128).map (Value.int .u8))[j]?=some v→w2.cell? (ad.add j)=some v):=by
  intro hp;refine⟨rfl,?_⟩;rw[List.length_map,List.length_take] at hp;obtain⟨b,o,rfl,hb,hc⟩:=(HA.out.below HB.out).get (by omega);refine⟨_,rfl,fun j v hv=>?_⟩;have hj:j<128∧j<zs.length:=by have:=(List.getElem?_eq_some_iff.1 hv).1;rw[List.length_map,List.length_take] at this;omega
  rw[Addr.add_lit,hc j hj.2];rw[List.getElem?_map,List.getElem?_take_of_lt hj.1] at hv;simp[hj.2] at hv ⊢;exact hv
 clear ha hn hw2;go_enter Tryz.func132,Tryz.ntmps132
 go_upto_region 2 with fail
 rw[←HW.out];go_wp2_with (first
  |(refine wpList_copy_splice rfl (.tmp 4) (.tmp 5) 22 22 rfl 5 Tryz.underlying22 Tryz.sizeU8h (some ⟨w.heap.size+1,0,none⟩) a 128 128 n cap rfl rfl (w.heap.size+1) 0 zz 178 HR1.out ((zs.take 128).map (Value.int .u8)) HLn.out HP.out HLm.out (ints_oneCell _ _) (w.heap.size+1) w2 (Below.refl _ _) (Nat.le_refl _) ?_)
  |fail)
 rw[←List.map_take,HSP.out];intro w3 hr3 hb3;have HR3:=hdI <| hr3
 have HR03:=hdI <| HR0.out.below hb3 (by omega)
 have HB3:=hdI <| HB.out.trans (hb3.mono (by omega))
 have HL:=hid_ofS (blkOf_len zs);clear hr3 hb3 HR0 HR1 HB HA HN HW z1 z2 z3 hsl;go_wp2_with (first
  |(refine wpList_loadB rfl (.tmp 3) rfl Tryz.underlying178 Tryz.sizeBlk (w.heap.size+1) (blkOf zs) rfl HL.out HR3.out ?_)
  |(refine wpList_storeB rfl (.tmp 2) (.tmp 7) rfl Tryz.sizeBlk w.heap.size (blkOf zs) (List.replicate 128 0) rfl rfl HL.out (by simp) HR03.out ?_)
  |fail)
 intro w4 hr4 hw4;have HB4:=hdI <| HB3.out.trans (hw4.below (Nat.le_refl _))
 have HR4:=hid_ofS hr4;clear hr4 hw4;go_wp2;exact bodyPost_ret (v:=.agg ((blkOf zs).map (Value.int .u8)).toArray) (results_cell_row rfl _ _ w.heap.size 178 _ (0,0) _ rfl HR4.out Tryz.underlying178 rfl (by rw[Tryz.sizeBlk];simp[HL.out])) rfl ⟨rfl,HB4.out⟩
def ivL:List Int:=(List.range 8).map fun i=>kt (80+i)
theorem ivL_get (i:Nat) (h:i<8):ivL.getD i 0=kt (80+i):=by unfold ivL;simp[List.getD,h]
theorem ivL_w8:W8 ivL:=⟨by simp[ivL],fun i=>by
 by_cases h:i<8
 ·rw[ivL_get i h];exact kt_u64 _
 ·rw[List.getD_eq_getElem?_getD,List.getElem?_eq_none (by unfold ivL;simp;omega)];exact u64_zero⟩
def ivK (k:Nat):List Int:=(List.range 8).map fun i=>if i<k then kt (80+i) else 0
theorem ivK_len (k:Nat):(ivK k).length=8:=by simp[ivK]
theorem ivK_set (k:Nat) (h:k<8):(ivK k).set k (kt (80+k))=ivK (k+1):=by
 apply List.ext_getElem?;intro i;rw[List.getElem?_set];unfold ivK;by_cases h1:k=i
 ·subst h1;simp[h]
 ·rw[if_neg h1];by_cases h2:i<8
  ·have e:(i<k+1)=(i<k):=by apply propext;omega
   simp[h2,e]
  ·simp[h2]
theorem ivK_8:ivK 8=ivL:=by
 unfold ivK ivL;apply List.map_congr_left;intro i hi;rw[if_pos (List.mem_range.1 hi)]
structure IV (w:World) (k:Nat) (y:World):Prop where
 res:RowW y w.heap.size 175 [0,0,0,0,0,0,0,0]
 row:RowW y (w.heap.size+1) 175 (ivK k)
 below:Below w.heap.size w y
set_option maxHeartbeats 1000000 in
theorem first_any (w:World) (hT:TabIn w) (hz:1<w.heap.size) :
  Calls Tryz.prog 131 #[] w fun e w'=>e=.returned (.agg (ivL.map (Value.int .u64)).toArray)∧Below w.heap.size w w':=by
 have HT:=hid_ofS hT;have HS:Hid (IV w 0 ((w.alloc (.cells #[.int .u64 0,.int .u64 0,.int .u64 0,.int .u64 0,.int .u64 0,.int .u64 0,.int .u64 0,.int .u64 0] 175)).alloc (.cells #[.int .u64 0,.int .u64 0,.int .u64 0,.int .u64 0,.int .u64 0,.int .u64 0,.int .u64 0,.int .u64 0] 175))):=
  ⟨heap_alloc2_old _ _ _,heap_alloc2_new _ _ _,((Below.refl _ _).alloc (Nat.le_refl _) _).alloc (by simp) _⟩
 clear hT;go_enter Tryz.func131,Tryz.ntmps131;go_wp2
 go_loopw [3] (fun i wr=>∃ k:Nat,k≤8∧i=.int .i64 k∧IV w k wr) (fun i _=>8-(intOf i).toNat)
 case atStart=>exact⟨0,by omega,rfl,HS.out⟩
 case round=>
  clear HS;obtain⟨k,hk,rfl,hs⟩:=hrel;by_cases hlt:k<8
  ·have hlt':(k:Int)<8:=by omega
   have hc:wr.cell? ⟨1,80+k,none⟩=some (.int .u64 (kt (80+k))):=by
    rw[World.cell?_of_block (w:=w) (hs.below.block 1 hz)];exact HT.out (80+k) (by omega)
   have hc2:=hs.row.cell k (by rw[ivK_len];exact hlt);have hf:=hs.row.frozen k;have hN:Hid (IV w (k+1) (wr.setCell ⟨w.heap.size+1,k,none⟩ (.int .u64 (kt (80+k))))):=
    ⟨((Wr.refl _ _).setCell k _).rowW hs.res (by omega),by rw[←ivK_set k hlt];exact hs.row.set k _,hs.below.setCell (by simp) _⟩
   have he:((80:Int)+(k:Int)).toNat=80+k:=by omega
   clear hs;generalize kt (80+k)=c at *;go_wp2;go_roundw
   case rel=>exact⟨k+1,by omega,by go_num,hN.out⟩
   case measure=>simp[intOf];omega
  ·obtain rfl:k=8:=by omega
   have H1:=hid_ofS hs.row;rw[ivK_8] at H1;have H2:=hid_ofS hs.res;have H3:=hid_ofS hs.below;have HL:=hid_ofS ivL_w8.1;clear hs;go_wp2_with (first
    |(refine wpList_loadW rfl (.tmp 1) rfl Tryz.underlying175 Tryz.sizeWds (w.heap.size+1) ivL rfl HL.out H1.out ?_)
    |(refine wpList_storeW rfl (.tmp 0) (.tmp 13) rfl Tryz.sizeWds w.heap.size ivL [0,0,0,0,0,0,0,0] rfl rfl HL.out rfl H2.out ?_)
    |fail)
   intro w3 hr3 hw3;have HB3:=hdI <| H3.out.trans (hw3.below (Nat.le_refl _))
   have HR3:=hid_ofS hr3;clear hr3 hw3 H1 H2 H3;go_wp2;exact bodyPost_ret (v:=.agg (ivL.map (Value.int .u64)).toArray) (results_cell_row rfl _ _ w.heap.size 175 _ (0,0) _ rfl HR3.out Tryz.underlying175 rfl (by rw[Tryz.sizeWds];simp[HL.out])) rfl ⟨rfl,HB3.out⟩
def txtW (hs:List Int):List Int:=hs.flatMap by8
theorem txtW_snoc (hs:List Int) (k:Nat) (h:k<hs.length):txtW (hs.take (k+1))=txtW (hs.take k)++by8 (hs.getD k 0):=by
 unfold txtW;rw[take_snocI hs k h,List.flatMap_append];simp
theorem by8_take (v:Int) (i:Nat) (h:i<8):(by8 v).take (i+1)=(by8 v).take i++[v/2^(56-8*i)%256]:=by
 rw[take_snocI _ _ (by rw[by8_len];exact h),by8_get v i h]
theorem txtW_len (hs:List Int):(txtW hs).length=8*hs.length:=by
 unfold txtW
 induction hs with
 |nil=>rfl
 |cons a l ih=>rw[List.flatMap_cons,List.length_append,by8_len,ih,List.length_cons];omega
theorem txtW_byte (hs:List Int):Byte (txtW hs):=fun z hz=>by
 unfold txtW at hz;obtain⟨v,_,h⟩:=List.mem_flatMap.1 hz;exact by8_byte v z h
set_option maxRecDepth 100000 in
set_option maxHeartbeats 2000000 in
theorem textI_any (g:Nat) (hs:List Int) (w:World) (hr:RowW w g 175 hs) (h8:W8 hs) :
  Calls Tryz.prog 135 #[.pointer (some ⟨g,0,none⟩)] w fun e w'=>∃ v,e=.returned v∧Own w' w.heap.size v (txtW hs)∧Below w.heap.size w w':=by
 have hgl:=hr.lt;have HR:=hid_ofS hr;have H8:=hid_ofS h8;clear hr h8;obtain⟨i0,hi,hz0,hz1,hz2⟩:=info_parts Tryz.infoU8';have HI:=hid_ofS (And.intro hi (And.intro hz0 (And.intro hz1 hz2)));clear hi hz0 hz1 hz2;go_enter Tryz.func135,Tryz.ntmps135;go_wp2_with (refine wpList_make_own _ rfl _ _ 22 rfl w.heap.size 5 i0 (.int .u8 0) 1 Tryz.underlying22 HI.out.1 HI.out.2.1 HI.out.2.2.1 .i64 .i64 64 64 rfl rfl rfl (by rw[HI.out.2.2.2];decide) (by decide) (Nat.le_refl _) ?_);intro w1 o1 b1;have HO1:Hid (Own w1 w.heap.size (.slice (some ⟨w.heap.size,0,none⟩) 0 64) (txtW (hs.take 0))):=⟨o1,_,_,rfl⟩
 have HB1:=hdI <| (Below.refl _ _).grown b1 (Nat.le_refl _) (fun k hk=>by cases hk)
 clear o1 b1;go_wp2
 go_loopw [3,9] (fun v i wr=>∃ k:Nat,k≤8∧i=.int .i64 k∧Own wr w.heap.size v (txtW (hs.take k))∧Below w.heap.size w wr) (fun _ i _=>8-(intOf i).toNat)
 case atStart=>exact⟨0,by omega,rfl,HO1.out,HB1.out⟩
 case round=>
  clear HO1 HB1;obtain⟨k,hk,rfl,hown,hbel⟩:=hrel;by_cases hlt:k<8
  ·have hlt':(k:Int)<8:=by omega
   have hc:=(HR.out.below hbel hgl).cell k (by rw[H8.out.1];exact hlt);have hu:=H8.out.2 k;have HSN:=hid_ofS (txtW_snoc hs k (by rw[H8.out.1];exact hlt));have HPL:=hid_ofS (txtW_len (hs.take k));rw[List.length_take,H8.out.1] at HPL;have HO:=hid_ofS hown;have HB:=hid_ofS hbel;clear hown hbel;obtain⟨x,hx⟩:∃ x,x=hs.getD k 0:=⟨_,rfl⟩
   rw[←hx] at hc hu HSN;clear hx;obtain⟨p,hp⟩:∃ p,p=txtW (hs.take k):=⟨_,rfl⟩
   rw[←hp] at HO HSN HPL;clear hp;obtain⟨hu0,hu1⟩:=hu;have hlp:p.length≤64:=by have:=HPL.out;omega
   go_wp2
   go_loopw [3,14] (fun v i wr=>∃ j:Nat,j≤8∧i=.int .i64 j∧Own wr w.heap.size v (p++(by8 x).take j)∧Below w.heap.size w wr) (fun _ i _=>8-(intOf i).toNat)
   case atStart=>exact⟨0,by omega,rfl,by simpa using HO.out,HB.out⟩
   case round=>
    clear HO HB hc;obtain⟨j,hj,rfl,hown,hbel⟩:=hrel;by_cases hlj:j<8
    ·have hlj':(j:Int)<8:=by omega
     have hsz:=hbel.size;have HE:=hid_ofS (by8_take x j hlj);have HLJ:Hid ((p++(by8 x).take j).length+1≤1099511627776):=by show _≤_;rw[List.length_append,List.length_take,by8_len];omega
     have HO:=hid_ofS hown;have HB:=hid_ofS hbel;clear hown hbel;go_wp2_with (at_builtin;refine wpList_app _ rfl _ _ rfl w.heap.size _ _ rfl (HO.out.alloc _) ⟨wr.heap.size,0,none⟩ 1 1 [x/2^(56-8*j)%256] rfl rfl ?c1 HLJ.out ?c3 ?_);all_goals first|(intro j' hj';obtain rfl:j'=0:=by omega
                                                                                                                                                                                                                                                        simp[Addr.add];done)|skip
     case c3=>rw[World.size_alloc];omega
     intro v' w2 hown' hbel' _;have HO2:Hid (Own w2 w.heap.size v' (p++(by8 x).take (j+1))):=by rw[HE.out];exact hown'
     have HB2:=hdI <| (HB.out.alloc hsz _).trans hbel'
     clear hown' hbel' HO HB HE HLJ;go_wp2;go_roundw
     case rel=>exact⟨j+1,by omega,by go_num,HO2.out,HB2.out⟩
     case measure=>simp[intOf];omega
    ·obtain rfl:j=8:=by omega
     rw[List.take_of_length_le (by rw[by8_len];exact Nat.le_refl _),←HSN.out] at hown;have HOW:=hid_ofS hown;have HBE:=hid_ofS hbel;clear hown hbel;go_wp2;go_roundw
     case rel=>exact⟨k+1,by omega,by go_num,HOW.out,HBE.out⟩
     case measure=>simp[intOf];omega
  ·obtain rfl:k=8:=by omega
   have HOW:=hid_ofS hown;rw[List.take_of_length_le (by rw[H8.out.1];exact Nat.le_refl _)] at HOW;have HBE:=hid_ofS hbel;clear hown hbel;go_wp2
   go_ret
   exact⟨_,rfl,HOW.out,HBE.out⟩
set_option maxHeartbeats 1000000 in
theorem bytesS_any (x:Int) (w:World) (hx:U64 x) :
  Calls Tryz.prog 100 #[.int .u64 x] w fun e w'=>∃ v,e=.returned v∧Own w' w.heap.size v (by8 x)∧Below w.heap.size w w':=by
 obtain⟨hx0,hx1⟩:=hx;go_enter Tryz.func100,Tryz.ntmps100;go_wp2
 go_loopw [3,4] (fun v i wr=>∃ j:Nat,j≤8∧i=.int .i64 (56-8*(j:Int))∧Own wr w.heap.size v ((by8 x).take j)∧Below w.heap.size w wr) (fun _ i _=>(intOf i+8).toNat)
 case atStart=>exact⟨0,by omega,rfl,Own.empty _ _ (Nat.le_refl _),(Below.refl _ _).alloc (Nat.le_refl _) _⟩
 case round=>
  obtain⟨j,hj,rfl,hown,hbel⟩:=hrel;by_cases hlj:j<8
  ·have hlj':(0:Int)≤56-8*(j:Int):=by omega
   have hsz:=hbel.size;have HE:=hid_ofS (by8_take x j hlj);have HLJ:Hid (((by8 x).take j).length+1≤1099511627776):=by show _≤_;rw[List.length_take,by8_len];omega
   have HO:=hid_ofS hown;have HB:=hid_ofS hbel;clear hown hbel;go_wp2_with (at_builtin;refine wpList_app _ rfl _ _ rfl w.heap.size _ _ rfl (HO.out.alloc _) ⟨wr.heap.size,0,none⟩ 1 1 [x/2^(56-8*j)%256] rfl rfl ?c1 HLJ.out ?c3 ?_);all_goals first|(intro j' hj';obtain rfl:j'=0:=by omega
                                                                                                                                                                                                                                                      simp[Addr.add];done)|skip
   case c3=>rw[World.size_alloc];omega
   intro v' w2 hown' hbel' _;have HO2:Hid (Own w2 w.heap.size v' ((by8 x).take (j+1))):=by rw[HE.out];exact hown'
   have HB2:=hdI <| (HB.out.alloc hsz _).trans hbel'
   clear hown' hbel' HO HB HE HLJ;go_wp2;go_roundw
   case rel=>exact⟨j+1,by omega,by go_num,HO2.out,HB2.out⟩
   case measure=>simp[intOf];omega
  ·obtain rfl:j=8:=by omega
   have HOW:=hid_ofS hown;rw[List.take_of_length_le (by rw[by8_len];exact Nat.le_refl _)] at HOW;have HBE:=hid_ofS hbel;clear hown hbel;go_wp2
   go_ret
   exact⟨_,rfl,HOW.out,HBE.out⟩
def lenOf:Value→Nat
 |.slice _ n _=>n
 |_=>0
def padZ (n:Nat):Nat:=(239-n%128)%128
theorem padZ_spec (n:Nat):(n+1+padZ n)%128=112∧padZ n<128:=by unfold padZ;omega
theorem padZ_min (n j:Nat) (h:j<padZ n):(n+1+j)%128≠112:=by unfold padZ at h;omega
def padL (zs:List Int):List Int:=zs++[128]++List.replicate (padZ zs.length) 0++List.replicate 8 0++by8 (8*(zs.length:Int))
theorem own_grow {w w':World} {B:Nat} {v:Value} {zs:List Int} (h:Own w B v zs) (hb:Below w.heap.size w w'):Own w' B v zs:=by
 refine⟨⟨h.1.1,?_⟩,h.2⟩;rcases h.1.2 with h'|⟨g,c,cur,h1,h2,h3,h4⟩
 ·exact .inl h'
 ·exact .inr ⟨g,c,cur,h1,h2,by rw[hb.block g (Array.getElem?_eq_some_iff.1 h3).1];exact h3,h4⟩
set_option maxRecDepth 100000 in
set_option maxHeartbeats 2000000 in
theorem padS_any (b off cap n:Nat) (zs:List Int) (w:World) (hn:zs.length=n) (hb:b<w.heap.size) (hc:∀ i,i<zs.length→w.cell? ⟨b,off+i,none⟩=some (.int .u8 (zs.getD i 0))) (hm:n≤2097152) :
  Calls Tryz.prog 98 #[.slice (some ⟨b,off,none⟩) n cap] w fun e w'=>∃ v,e=.returned v∧Own w' w.heap.size v (padL zs)∧Below w.heap.size w w':=by
 have HC:=hid_ofS hc;have HN:=hid_ofS hn;have HE0:=hid_ofS (Own.empty w w.heap.size (Nat.le_refl _));have HAL:Hid (Below w.heap.size w (w.alloc (.cells #[] 5))):=(Below.refl _ _).alloc (Nat.le_refl _) _;clear hc hn;go_enter Tryz.func98,Tryz.ntmps98;go_wp2_with (at_builtin;refine wpList_app _ rfl _ _ rfl w.heap.size _ [] rfl HE0.out ⟨b,off,none⟩ n cap zs rfl HN.out ?c1 (by simp;omega) (by simp) ?_)
 case c1=>
  intro j hj;rw[Addr.add_lit,HAL.out.cell (p:=⟨b,off+j,none⟩) hb];exact HC.out j (by rw[HN.out];exact hj)
 intro v1 w1 o1 b1 _;have HO1:=hdI <| o1
 have HB1:=hdI <| HAL.out.trans b1
 clear o1 b1 HE0 HAL;have HLN:Hid (zs.length+1≤1099511627776):=by show _≤_;rw[HN.out];omega
 have hs1:=HB1.out.size;go_wp2_with (at_builtin;refine wpList_app _ rfl _ _ rfl w.heap.size _ _ rfl (HO1.out.alloc _) ⟨w1.heap.size,0,none⟩ 1 1 [128] rfl rfl ?c1 HLN.out ?c3 ?_);all_goals first|(intro j' hj';obtain rfl:j'=0:=by omega
                                                                                                                                                                                                   simp[Addr.add];done)|skip
 case c3=>rw[World.size_alloc];omega
 intro v2 w2 o2 b2 _;have HO2:Hid (Own w2 w.heap.size v2 (zs++[128]++List.replicate 0 0)):=by show Own _ _ _ _;simpa using o2
 have HB2:=hdI <| (HB1.out.alloc hs1 _).trans b2
 clear o2 b2 HO1 HB1 HLN hs1;go_wp2
 go_loopw [3] (fun v wr=>∃ j:Nat,j≤padZ n∧Own wr w.heap.size v (zs++[128]++List.replicate j 0)∧Below w.heap.size w wr) (fun v _=>n+200-lenOf v)
 case atStart=>exact⟨0,Nat.zero_le _,HO2.out,HB2.out⟩
 case round=>
  clear HO2 HB2;obtain⟨j,hj,hown,hbel⟩:=hrel;have hsz:=hbel.size;obtain⟨g,c,rfl,hg1,hg2,hg3⟩:=hown.base;have HO:=hid_ofS hown;have HB:=hid_ofS hbel;have hps:=padZ_spec n;have hll:(zs++[128]++List.replicate j 0).length=n+1+j:=by simp[HN.out];omega
  rw[hll] at HO hg3 ⊢;have HLL:=hid_ofS hll;clear hown hbel hll;obtain⟨L,hL⟩:∃ L,L=n+1+j:=⟨_,rfl⟩
  rw[←hL] at HO hg3 HLL ⊢;have hLb:L≤2097700:=by omega
  by_cases hlt:j<padZ n
  ·have hne:=padZ_min n j hlt;have hne':¬ ((L:Int)%128=112):=by omega
   have HJ:Hid (j+1≤padZ n):=by show _≤_;omega
   have HLm:Hid (L<n+200):=by show _<_;omega
   clear hne hL hps hj hlt;have HLJ:Hid ((zs++[128]++List.replicate j 0).length+1≤1099511627776):=by show _≤_;rw[HLL.out];omega
   have hO:=HO.out;obtain⟨ys,hys⟩:∃ ys,ys=zs++[128]++List.replicate j 0:=⟨_,rfl⟩
   rw[←hys] at HO HLL HLJ;clear hO;have HYS:Hid (zs++[128]++List.replicate (j+1) 0=ys++[0]):=by show _=_;rw[hys,List.replicate_succ'];simp
   clear hys;go_wp2_with (at_builtin;refine wpList_app _ rfl _ _ rfl w.heap.size _ _ rfl (HO.out.alloc _) ⟨wr.heap.size,0,none⟩ 1 1 [0] rfl rfl ?d1 HLJ.out ?d3 ?_);all_goals first|(intro j' hj';obtain rfl:j'=0:=by omega
                                                                                                                                                                                     simp[Addr.add];done)|skip
   case d3=>rw[World.size_alloc];omega
   intro v2 w2 o2 b2 _;obtain⟨g',c2,e2,_,_,_⟩:=o2.base;have HO2:Hid (Own w2 w.heap.size v2 (zs++[128]++List.replicate (j+1) 0)):=by rw[HYS.out];exact o2
   have HB2:=hdI <| (HB.out.alloc hsz _).trans b2
   have HV2:Hid (lenOf v2=L+1):=by rw[e2];show _=_;simp[lenOf,HLL.out]
   clear o2 b2 HO HB HLJ HYS e2;go_wp2;go_roundw
   case rel=>exact⟨j+1,HJ.out,HO2.out,HB2.out⟩
   case measure=>
    have h1:=HV2.out;have h2:=HLm.out;have h3:lenOf (.slice (some ⟨g,0,none⟩) L c)=L:=rfl
    first|(rw[h3,h1];omega)|(simp[lenOf,h1] at *;omega)
  ·obtain rfl:j=padZ n:=by omega
   have hne':((L:Int)%128=112):=by omega
   have HLJ:Hid ((zs++[128]++List.replicate (padZ n) 0).length+8≤1099511627776):=by show _≤_;rw[HLL.out];omega
   clear hL hps hj hlt;obtain⟨ys,hys⟩:∃ ys,ys=zs++[128]++List.replicate (padZ n) 0:=⟨_,rfl⟩
   rw[←hys] at HO HLL HLJ;have HYS:Hid (padL zs=ys++[0,0,0,0,0,0,0,0]++by8 (8*(n:Int))):=by show _=_;rw[hys];unfold padL;rw[HN.out];rfl
   clear hys;go_wp2_with (at_builtin;refine wpList_app _ rfl _ _ rfl w.heap.size _ _ rfl (HO.out.alloc _) ⟨wr.heap.size,0,none⟩ 8 8 [0,0,0,0,0,0,0,0] rfl rfl ?e1 HLJ.out ?e3 ?_)
   case e1=>
    intro j' hj';have:j'=0∨j'=1∨j'=2∨j'=3∨j'=4∨j'=5∨j'=6∨j'=7:=by omega
    rcases this with rfl|rfl|rfl|rfl|rfl|rfl|rfl|rfl<;>simp[Addr.add]
   case e3=>rw[World.size_alloc];omega
   intro v2 w2 o2 b2 _;have HO2:=hid_ofS o2;have HB2:=hdI <| (HB.out.alloc hsz _).trans b2
   clear o2 b2 HO HB HLJ;have e8:(8:Int)*(n:Int)<18446744073709551616:=by omega
   have A:=hid_ofS (bytesS_any (8*(n:Int)) w2 ⟨by omega,by omega⟩);go_wp2_with fail;refine A.out.mono ?_;rintro e w3 ⟨v3,rfl,o3,b3⟩;obtain⟨g3,c3,rfl,_,hg3',hc3⟩:=o3.base;have HO3:Hid (Own w3 w.heap.size v2 (ys++[0,0,0,0,0,0,0,0])):=by
    obtain⟨hh,g2,c2,e2⟩:=HO2.out;exact own_grow ⟨hh,g2,c2,e2⟩ b3
   have HB3:=hdI <| HB2.out.trans (b3.mono HB2.out.size)
   have HP3:=hid_ofS o3.part;have HLY:Hid ((ys++[0,0,0,0,0,0,0,0]).length+8≤1099511627776):=by show _≤_;rw[List.length_append,HLL.out];simp;omega
   have hsz3:=HB3.out.size;rw[by8_len] at hc3 ⊢;clear o3 b3 A HO2 HB2;go_wp2_with (at_builtin;refine wpList_app _ rfl _ _ rfl w.heap.size _ _ rfl HO3.out ⟨g3,0,none⟩ 8 c3 (by8 (8*(n:Int))) rfl (by8_len _) ?f1 HLY.out ?f3 ?_)
   case f1=>
    intro j' hj';obtain⟨b',o',c',e',_,hcc⟩:=HP3.out;cases e';rw[Addr.add_lit];exact hcc j' (by rw[by8_len];exact hj')
   case f3=>exact hsz3
   intro v4 w4 o4 b4 _;have HO4:Hid (Own w4 w.heap.size v4 (padL zs)):=by rw[HYS.out,List.append_assoc];exact o4
   have HB4:Hid (Below w.heap.size w w4):=HB3.out.trans b4;clear o4 b4 HO3 HB3 HP3;go_wp2
   go_ret
   exact⟨_,rfl,HO4.out,HB4.out⟩
theorem run_sliceB (w:World) (b o c t:Nat) (ht:t<16) (hc:128≤c):(Instr.sliceAt 22 (.slice (some ⟨b,o,none⟩) 128 c) (some (.int .i64 (8*(t:Int)))) (some (.int .i64 (8*(t:Int)+8))) none).run Tryz.prog w=.ok (.slice (some ⟨b,o+8*t,none⟩) 8 (c-8*t)) w:=by
 have h2:(8*(t:Int)+8)≤(c:Int):=by omega
 have h3:(8*(t:Int)+8).toNat=8*t+8:=by omega
 have h4:¬ (c=8*t):=by omega
 have h5:(8*(t:Int)).toNat=8*t:=by omega
 have h6:(0:Int)≤8*(t:Int):=by omega
 have h7:(0:Int)≤8*(t:Int)+8:=by omega
 unfold Instr.sliceAt;simp[run_underlying Tryz.underlying22,go_sem,Instr.sliceBounds,h2,h3,h4,h5,h6,h7,Addr.add];rw[if_pos (by omega)];by_cases h0:t=0
 ·subst h0;simp
 ·rw[if_neg (by omega)]
structure BK (w:World) (bh oh bb ob bk:Nat) (hs bs:List Int):Prop where
 h:bh<w.heap.size∧∀ i,i<8→w.cell? ⟨bh,oh+i,none⟩=some (.int .u64 (hs.getD i 0))
 b:bb<w.heap.size∧∀ i,i<128→w.cell? ⟨bb,ob+i,none⟩=some (.int .u8 (bs.getD i 0))
 k:bk<w.heap.size∧∀ i,i<88→w.cell? ⟨bk,i,none⟩=some (.int .u64 (kt i))
theorem BK.below {w w':World} {bh oh bb ob bk:Nat} {hs bs:List Int} (h:BK w bh oh bb ob bk hs bs) (hb:Below w.heap.size w w'):BK w' bh oh bb ob bk hs bs:=by
 have:=hb.size;exact⟨⟨by have:=h.h.1;omega,fun i hi=>by rw[World.cell?_of_block (w:=w) (hb.block bh h.h.1)];exact h.h.2 i hi⟩,⟨by have:=h.b.1;omega,fun i hi=>by rw[World.cell?_of_block (w:=w) (hb.block bb h.b.1)];exact h.b.2 i hi⟩,⟨by have:=h.k.1;omega,fun i hi=>by rw[World.cell?_of_block (w:=w) (hb.block bk h.k.1)];exact h.k.2 i hi⟩⟩
theorem rs1 (x:Int) (w:World) (hx:U64 x):Calls Tryz.prog 120 #[.int .u64 x,.int .u64 1] w fun e w'=>e=.returned (.int .u64 (rtr 1 x))∧w'=w:=rotS_any x 1 w (by decide) hx
theorem rs8 (x:Int) (w:World) (hx:U64 x):Calls Tryz.prog 120 #[.int .u64 x,.int .u64 8] w fun e w'=>e=.returned (.int .u64 (rtr 8 x))∧w'=w:=rotS_any x 8 w (by decide) hx
theorem rs19 (x:Int) (w:World) (hx:U64 x):Calls Tryz.prog 120 #[.int .u64 x,.int .u64 19] w fun e w'=>e=.returned (.int .u64 (rtr 19 x))∧w'=w:=rotS_any x 19 w (by decide) hx
theorem rs61 (x:Int) (w:World) (hx:U64 x):Calls Tryz.prog 120 #[.int .u64 x,.int .u64 61] w fun e w'=>e=.returned (.int .u64 (rtr 61 x))∧w'=w:=rotS_any x 61 w (by decide) hx
theorem rs28 (x:Int) (w:World) (hx:U64 x):Calls Tryz.prog 120 #[.int .u64 x,.int .u64 28] w fun e w'=>e=.returned (.int .u64 (rtr 28 x))∧w'=w:=rotS_any x 28 w (by decide) hx
theorem rs34 (x:Int) (w:World) (hx:U64 x):Calls Tryz.prog 120 #[.int .u64 x,.int .u64 34] w fun e w'=>e=.returned (.int .u64 (rtr 34 x))∧w'=w:=rotS_any x 34 w (by decide) hx
theorem rs39 (x:Int) (w:World) (hx:U64 x):Calls Tryz.prog 120 #[.int .u64 x,.int .u64 39] w fun e w'=>e=.returned (.int .u64 (rtr 39 x))∧w'=w:=rotS_any x 39 w (by decide) hx
theorem rs14 (x:Int) (w:World) (hx:U64 x):Calls Tryz.prog 120 #[.int .u64 x,.int .u64 14] w fun e w'=>e=.returned (.int .u64 (rtr 14 x))∧w'=w:=rotS_any x 14 w (by decide) hx
theorem rs18 (x:Int) (w:World) (hx:U64 x):Calls Tryz.prog 120 #[.int .u64 x,.int .u64 18] w fun e w'=>e=.returned (.int .u64 (rtr 18 x))∧w'=w:=rotS_any x 18 w (by decide) hx
theorem rs41 (x:Int) (w:World) (hx:U64 x):Calls Tryz.prog 120 #[.int .u64 x,.int .u64 41] w fun e w'=>e=.returned (.int .u64 (rtr 41 x))∧w'=w:=rotS_any x 41 w (by decide) hx
end Go.Proofs.YtncomnkdlpoelaaGreatDoor
