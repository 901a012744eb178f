import Derived.Test.YtncomnkdlpoelaaGreatDoorMBase
import Derived.BigRegion
namespace Go.Proofs.YtncomnkdlpoelaaGreatDoor
open Go.ChangeShapes Go.WideShapes Go.ChangeAt Go.RowKit
set_option linter.unusedVariables false
theorem ktU:KT .u64 135 134 8:=⟨by kernel_rfl,Tryz.underlying134,by decide,by decide⟩
abbrev OwnU:=OwnK .u64 135
def D32 (zs:List Int):Prop:=∀ z∈zs,0≤z∧z<4294967296
theorem D32.get {zs:List Int} (h:D32 zs) (i:Nat):0≤zs.getD i 0∧zs.getD i 0<4294967296:=by
 by_cases hi:i<zs.length
 ·rw[List.getD_eq_getElem?_getD,List.getElem?_eq_getElem hi];exact h _ (List.getElem_mem hi)
 ·rw[List.getD_eq_getElem?_getD,List.getElem?_eq_none (by omega)];exact⟨by decide,by decide⟩
theorem D32.set {zs:List Int} (h:D32 zs) (i:Nat) (x:Int) (h0:0≤x) (h1:x<4294967296):D32 (zs.set i x):=by
 intro z hz;rcases List.mem_or_eq_of_mem_set hz with h'|rfl
 ·exact h z h'
 ·exact⟨h0,h1⟩
theorem getD_set_other (zs:List Int) (i j:Nat) (x:Int) (h:j≠i):(zs.set i x).getD j 0=zs.getD j 0:=by
 rw[List.getD_eq_getElem?_getD,List.getElem?_set_ne (Ne.symm h),List.getD_eq_getElem?_getD]
theorem getD_set_same (zs:List Int) (i:Nat) (x:Int) (h:i<zs.length):(zs.set i x).getD i 0=x:=by
 rw[List.getD_eq_getElem?_getD,List.getElem?_set_self h];rfl
theorem mul_step (B V o a b c P S:Int) (x:Int) (hx:x=o+a*b+c) (h:V+c*P=S):(V+(x%B-o)*P)+x/B*(P*B)=S+a*(b*P):=by
 have e:x%B+B*(x/B)=x:=Int.emod_add_mul_ediv _ _;have e2:(x%B+B*(x/B))*P=x*P:=by rw[e]
 subst hx
 grind
theorem mul_row (A x P Y:Int):A*Y+x*(P*Y)=(A+x*P)*Y:=by grind
structure MR (w:World) (xs ys:List Int) (i:Nat) (zs:List Int):Prop where
 len:zs.length=xs.length+ys.length
 dig:D32 zs
 zero:∀ j,i+ys.length≤j→zs.getD j 0=0
def MulPost (w:World) (xs ys:List Int) (e:Ending) (w':World):Prop:=
 ∃ v zs,e=.returned v∧OwnU w' w.heap.size v zs∧zs.length=xs.length+ys.length∧D32 zs∧val 4294967296 zs=val 4294967296 xs*val 4294967296 ys∧Below w.heap.size w w'
set_option maxHeartbeats 1000000 in
theorem mul_any (a a':Option Addr) (n m cap cap':Nat) (xs ys:List Int) (w:World) (hn:xs.length=n) (hm:ys.length=m) (hn':n≤1024) (hm':m≤1024) (hm0:0<m) (hn0:0<n) (ha:At .u64 w a xs) (ha':At .u64 w a' ys) (hx:D32 xs) (hy:D32 ys) :
  Calls Tryz.prog 145 #[.slice a n cap,.slice a' m cap'] w (MulPost w xs ys):=by
 obtain⟨b0,off,rfl,hb0,hc⟩:=ha.get (by omega);obtain⟨b1,off',rfl,hb1,hc'⟩:=ha'.get (by omega);have HC:=hdI <| hc
 have HC':=hdI <| hc'
 clear hc hc' ha ha';go_enter Tryz.func145,Tryz.ntmps145;go_wp2
 go_loopw [5,6] (fun v i wr=>∃ k:Nat,k≤n+m∧i=.int .i64 k∧OwnU wr w.heap.size v (List.replicate k 0)∧Below w.heap.size w wr) (fun _ i _=>n+m-(intOf i).toNat)
 case atStart=>exact⟨0,Nat.zero_le _,rfl,OwnK.empty _ _ (Nat.le_refl _),(Below.refl _ _).alloc (Nat.le_refl _) _⟩
 case round=>
  obtain⟨k,hk,rfl,hown,hbel⟩:=hrel;by_cases hlt:k<n+m
  ·have hsz:=hbel.size;have hlt':(k:Int)<(n:Int)+(m:Int):=by omega
   go_wp2_with (at_builtin;refine wpList_appK _ ktU rfl _ _ rfl w.heap.size _ _ rfl (hown.alloc _) ⟨wr.heap.size,0,none⟩ 1 1 [0] rfl rfl ?c1 ?c2 ?c3 ?_);all_goals first|(intro j hj;obtain rfl:j=0:=by omega
                                                                                                                                                                          simp[Addr.add];done)|skip
   case c2=>simp;omega
   case c3=>first|omega|(rw[World.size_alloc];omega)
   intro v' w1 hown' hbel' _;have HO:Hid (OwnU w1 w.heap.size v' (List.replicate (k+1) 0)):=by rw[List.replicate_succ'];exact hown'
   have HB:=hdI <| (hbel.alloc (by omega) _).trans hbel'
   clear hown hown' hbel hbel';go_wp2;go_roundw
   case rel=>exact⟨k+1,by omega,by go_num,HO.out,HB.out⟩
   case measure=>simp[intOf];omega
  ·obtain rfl:k=n+m:=by omega
   obtain⟨g,c,rfl,hg,hg',_⟩:=hown.at_;rw[List.length_replicate] at hown ⊢;have HO:=hdI <| hown
   have HB:=hdI <| hbel
   have ecast:((n+m:Nat):Int)=(n:Int)+(m:Int):=by omega
   clear hown hbel;go_wp2
   go_loopw [7] (fun i wq=>∃(k:Nat) (zs:List Int),k≤n∧i=.int .i64 k∧MR w xs ys k zs∧val 4294967296 zs=val 4294967296 (xs.take k)*val 4294967296 ys∧OwnU wq w.heap.size (.slice (some ⟨g,0,none⟩) (n+m) c) zs∧Below w.heap.size w wq) (fun i _=>n-(intOf i).toNat)
   case atStart=>
    refine⟨0,List.replicate (n+m) 0,Nat.zero_le _,rfl,⟨by simp[hn,hm],?_,?_⟩,?_,HO.out,HB.out⟩
    ·intro z hz;rw[List.mem_replicate] at hz;omega
    ·intro j hj;simp[List.getD_eq_getElem?_getD,List.getElem?_replicate];split<;>rfl
    ·simp only[List.take_zero,val,Int.zero_mul];generalize n+m=q
     induction q with
     |zero=>rfl
     |succ q ih=>rw[List.replicate_succ];simp[val,ih]
   case round=>
    clear HO HB;obtain⟨k,zs,hk,rfl,⟨hzl,hzd,hzz⟩,hv,hown,hbel⟩:=hrel;by_cases hkn:k<n
    ·have hkn':(k:Int)<(n:Int):=by omega
     have HX:=hx.get k;have HV:=hdI <| hv
     have HVT:Hid (val 4294967296 (xs.take (k+1))=val 4294967296 (xs.take k)+xs.getD k 0*4294967296^k):=val_take _ xs k (by omega);have HO:=hdI <| hown
     have HZ:Hid (zs.length=xs.length+ys.length∧D32 zs∧∀ j,k+ys.length≤j→zs.getD j 0=0):=⟨hzl,hzd,hzz⟩
     have HBE:Hid (Below w.heap.size w wr):=hbel;have HCX:Hid (∀ w',Below w.heap.size w w'→w'.cell? ⟨b0,off+k,none⟩=some (.int .u64 (xs.getD k 0))):=fun w' hb=>by rw[hb.cell (p:=⟨b0,off+k,none⟩) hb0];exact HC.out k (by omega)
     clear hv hown hzl hzd hzz hbel;obtain⟨hX0,hX1⟩:=HX;generalize xs.getD k 0=x at *;go_wp2
     go_loopw [8,9] (fun cc i wq=>∃(j:Nat) (zs:List Int) (b:Int),j≤m∧i=.int .i64 j∧cc=.int .u64 b∧(0≤b∧b<4294967296)∧(zs.length=xs.length+ys.length∧D32 zs∧∀ j,k+ys.length≤j→zs.getD j 0=0)∧val 4294967296 zs+b*4294967296^(k+j)=val 4294967296 (xs.take k)*val 4294967296 ys+x*(4294967296^k*val 4294967296 (ys.take j))∧OwnU wq w.heap.size (.slice (some ⟨g,0,none⟩) (n+m) c) zs∧Below w.heap.size w wq) (fun _ i _=>m-(intOf i).toNat)
     case atStart=>exact⟨0,zs,0,Nat.zero_le _,rfl,rfl,⟨by decide,by decide⟩,HZ.out,by rw[HV.out,List.take_zero];simp[val],HO.out,HBE.out⟩
     case round=>
      clear HV HO HZ HBE;obtain⟨j,zs,b,hj,rfl,rfl,⟨hb0',hb1'⟩,⟨hzl,hzd,hzz⟩,hv,hown,hbel⟩:=hrel;by_cases hjm:j<m
      ·have hjm':(j:Int)<(m:Int):=by omega
       have cx:=HCX.out _ hbel;have cy:wr.cell? ⟨b1,off'+j,none⟩=some (.int .u64 (ys.getD j 0)):=by rw[hbel.cell (p:=⟨b1,off'+j,none⟩) hb1];exact HC'.out j (by omega)
       have HY:=hy.get j;have hzb:=hzd.get (k+j);have vt:=val_take 4294967296 ys j (by omega);obtain⟨pr,hpr⟩:∃ pr,pr=x*ys.getD j 0:=⟨_,rfl⟩
       have hp0:0≤pr:=by rw[hpr];exact Int.mul_nonneg hX0 HY.1
       have hp1:pr≤18446744065119617025:=by
        rw[hpr];exact Int.le_trans (Int.mul_le_mul (show x≤4294967295 by omega) (show ys.getD j 0≤4294967295 by omega) HY.1 (by decide)) (by decide)
       obtain⟨y,hyy⟩:∃ y,y=zs.getD (k+j) 0+pr+b:=⟨_,rfl⟩
       have hy0:0≤y:=by omega
       have hy1:y<18446744073709551616:=by omega
       have st:=mul_step 4294967296 _ (zs.getD (k+j) 0) x (ys.getD j 0) b _ _ y (by rw[hyy,hpr]) hv;have e1:val 4294967296 (xs.take k)*val 4294967296 ys+x*(4294967296^k*val 4294967296 (ys.take j))+x*(ys.getD j 0*4294967296^(k+j))=val 4294967296 (xs.take k)*val 4294967296 ys+x*(4294967296^k*val 4294967296 (ys.take (j+1))):=by
        rw[vt,Int.pow_add];grind
       obtain⟨cz,fz,oz⟩:=OwnK.set (by omega:zs.length=n+m) hown (k+j) (y%4294967296) (by omega);have hle:k+j<zs.length:=by omega
       have HS:Hid (val 4294967296 (zs.set (k+j) (y%4294967296))+y/4294967296*4294967296^(k+(j+1))=val 4294967296 (xs.take k)*val 4294967296 ys+x*(4294967296^k*val 4294967296 (ys.take (j+1)))):=by
        show _=_
        rw[val_set _ _ _ _ hle,←e1,←st,←Nat.add_assoc,Int.pow_succ]
       have HZ:Hid ((zs.set (k+j) (y%4294967296)).length=xs.length+ys.length∧D32 (zs.set (k+j) (y%4294967296))∧∀ i,k+ys.length≤i→(zs.set (k+j) (y%4294967296)).getD i 0=0):=
        ⟨by rw[List.length_set];exact hzl,hzd.set _ _ (by omega) (by omega),fun i hi=>by rw[getD_set_other _ _ _ _ (by omega)];exact hzz i hi⟩
       have HO:=hdI <| oz
       have HBE:Hid (Below w.heap.size w (wr.setCell ⟨g,k+j,none⟩ (.int .u64 (y%4294967296)))):=hbel.setCell hg _;have HQ:=hdI <| hpr.symm
       have HQ2:=hdI <| hyy.symm
       have hw1:IntKind.u64.wrap (x*ys.getD j 0)=pr:=by rw[←hpr,IntKind.wrap_u64];exact Int.emod_eq_of_lt hp0 (by omega)
       clear e1 st vt oz hv hzd hzz hown hbel hle hpr hzl HVT;obtain⟨hY0,hY1⟩:=HY;obtain⟨hz0,hz1⟩:=hzb;generalize ys.getD j 0=yy at *;generalize zs.getD (k+j) 0=zz at *;have hkj:(k:Int)+(j:Int)<(n:Int)+(m:Int):=by omega
       go_wp2
       go_quiet (fail)
       rw[HQ2.out];have cz2:(wr.drewN nq).cell? ⟨g,k+j,none⟩=some (.int .u64 zz):=cz;have fz2:(wr.drewN nq).frozen? ⟨g,k+j,none⟩=false:=fz;have HO2:Hid (OwnU ((wr.drewN nq).setCell ⟨g,k+j,none⟩ (.int .u64 (y%4294967296))) w.heap.size (.slice (some ⟨g,0,none⟩) (n+m) c) (zs.set (k+j) (y%4294967296))):=HO.out;have HBE2:Hid (Below w.heap.size w ((wr.drewN nq).setCell ⟨g,k+j,none⟩ (.int .u64 (y%4294967296)))):=⟨HBE.out.os,HBE.out.tape,HBE.out.output,HBE.out.size,HBE.out.block⟩
       have hyq0:0≤y/4294967296:=by omega
       have hyq1:y/4294967296<4294967296:=by omega
       clear cz fz HO HBE cx cy HQ hw1 hyy HQ2 hp0 hp1 hz0 hz1;generalize wr.drewN nq=w2 at *;go_wp2;go_roundw
       case rel=>exact⟨j+1,zs.set (k+j) (y%4294967296),y/4294967296,by omega,by go_num,rfl,⟨hyq0,hyq1⟩,HZ.out,HS.out,HO2.out,HBE2.out⟩
       case measure=>simp[intOf];omega
      ·obtain rfl:j=m:=by omega
       rw[List.take_of_length_le (l:=ys) (i:=j) (by omega)] at hv;have hzk:=hzz (k+j) (by omega);obtain⟨cz,fz,oz⟩:=OwnK.set (by omega:zs.length=n+j) hown (k+j) b (by omega);rw[hzk] at cz;have hle:k+j<zs.length:=by omega
       have vs:=val_set 4294967296 zs (k+j) b hle;rw[hzk,Int.sub_zero,hv] at vs;have HS:Hid (val 4294967296 (zs.set (k+j) b)=val 4294967296 (xs.take (k+1))*val 4294967296 ys):=by
        show _=_
        rw[vs,HVT.out,mul_row]
       have HZ:Hid (MR w xs ys (k+1) (zs.set (k+j) b)):=⟨by rw[List.length_set];exact hzl,hzd.set _ _ (by omega) (by omega),fun i hi=>by rw[getD_set_other _ _ _ _ (by omega)];exact hzz i (by omega)⟩
       have HO:=hdI <| oz
       have HBE:Hid (Below w.heap.size w (wr.setCell ⟨g,k+j,none⟩ (.int .u64 b))):=hbel.setCell hg _;have hkj:(k:Int)+(j:Int)<(n:Int)+(j:Int):=by omega
       clear hv hzk oz hle vs hzz hzd hown hbel HVT HCX hzl;go_wp2;go_roundw
       case rel=>exact⟨k+1,zs.set (k+j) b,by omega,by go_num,HZ.out,HS.out,HO.out,HBE.out⟩
       case measure=>simp[intOf];omega
    ·obtain rfl:k=n:=by omega
     rw[List.take_of_length_le (by omega)] at hv;have hke:zs.length=k+m:=by omega
     have HP:Hid (MulPost w xs ys (.returned (.slice (some ⟨g,0,none⟩) (k+m) c)) wr):=⟨_,zs,rfl,hown,hzl,hzd,hv,hbel⟩
     clear hzl hzd hzz hv hown hbel hke;go_wp2
     go_ret
     exact HP.out
set_option maxHeartbeats 400000 in
theorem digit_any (a:Option Addr) (n cap i:Nat) (zs:List Int) (w:World) (hn:zs.length=n) (hm:n≤4096) (hi:i≤8192) (ha:At .u64 w a zs) :
  Calls Tryz.prog 160 #[.slice a n cap,.int .i64 i] w fun e w'=>e=.returned (.int .u64 (zs.getD i 0))∧w'=w:=by
 by_cases h:i<n
 ·obtain⟨b,off,rfl,hb,hc⟩:=ha.get (by omega);have c0:=hc i (by omega);have h':(i:Int)<(n:Int):=by omega
  generalize zs.getD i 0=x at *;clear hc;go_enter Tryz.func160,Tryz.ntmps160;go_wp2
  go_ret
  exact⟨rfl,rfl⟩
 ·have e:zs.getD i 0=0:=by rw[List.getD_eq_getElem?_getD,List.getElem?_eq_none (by omega)];rfl
  rw[e];have h':¬ (i:Int)<(n:Int):=by omega
  go_enter Tryz.func160,Tryz.ntmps160;go_wp2
  go_ret
  exact⟨rfl,rfl⟩
theorem want_digit (B p:Int) (k i:Nat) (hB:1<B) (h0:0≤p) (h1:p<B):p*B^k/B^i%B=if i=k then p else 0:=by
 have hp:∀ j:Nat,(0:Int)<B^j:=fun j=>Int.pow_pos (by omega)
 by_cases h:i=k
 ·subst h;rw[if_pos rfl,Int.mul_ediv_cancel _ (Int.ne_of_gt (hp i))];exact Int.emod_eq_of_lt h0 h1
 ·rw[if_neg h];rcases Nat.lt_or_gt_of_ne h with hl|hg
  ·obtain⟨d,rfl⟩:∃ d,k=i+1+d:=⟨k-i-1,by omega⟩
   have e:p*B^(i+1+d)=(p*B^d*B)*B^i:=by rw[Int.pow_add,Int.pow_succ];grind
   rw[e,Int.mul_ediv_cancel _ (Int.ne_of_gt (hp i)),Int.mul_emod_left]
  ·have hlt:p*B^k<B^i:=by
    obtain⟨d,rfl⟩:∃ d,i=k+1+d:=⟨i-k-1,by omega⟩
    have a1:=Int.mul_lt_mul_of_pos_right h1 (hp k);have a2:B*B^k≤B^(k+1+d):=by
     have:B^(k+1+d)=B*B^k*B^d:=by rw[Int.pow_add,Int.pow_succ];grind
     rw[this];have h3:B*B^k*1≤B*B^k*B^d:=Int.mul_le_mul_of_nonneg_left (by have:=hp d;omega) (Int.mul_nonneg (by omega) (Int.le_of_lt (hp k)));omega
    omega
   rw[Int.ediv_eq_zero_of_lt (Int.mul_nonneg h0 (Int.le_of_lt (hp k))) hlt];rfl
theorem high_step {A T P B:Int} (hB:0<B) (hP:0<P) (h:A/(P*B)=T/(P*B)):(A/P%B=T/P%B→A/P=T/P)∧(A/P%B<T/P%B→A<T)∧(T/P%B<A/P%B→T<A):=by
 have e1:=Int.emod_add_mul_ediv (A/P) B;have e2:=Int.emod_add_mul_ediv (T/P) B;rw[Int.ediv_ediv_of_nonneg (Int.le_of_lt hP)] at e1 e2;rw[h] at e1;have lt:∀ X Y:Int,X/P<Y/P→X<Y:=fun X Y hh=>by
  rcases Int.lt_or_le X Y with h'|h'
  ·exact h'
  ·have:=Int.ediv_le_ediv hP h';omega
 refine⟨fun hh=>?_,fun hh=>lt _ _ ?_,fun hh=>lt _ _ ?_⟩
 ·rw[←e1,←e2,hh]
 ·generalize B*(T/(P*B))=z at *;omega
 ·generalize B*(T/(P*B))=z at *;omega
set_option maxHeartbeats 1000000 in
theorem atm_any (a:Option Addr) (n cap k:Nat) (p:Int) (zs:List Int) (w:World) (hn:zs.length=n) (hm:n≤4096) (hk:k≤1024) (ha:At .u64 w a zs) (hz:D32 zs) (hp0:0≤p) (hp1:p<4294967296) :
  Calls Tryz.prog 146 #[.slice a n cap,.int .u64 p,.int .i64 k] w fun e w'=>e=.returned (.bool (decide (val 4294967296 zs≤p*4294967296^k)))∧w'=w:=by
 have hA0:=val_nonneg (by decide) hz;have hA1:val 4294967296 zs<4294967296^n:=by rw[←hn];exact val_lt (by decide) hz
 have hpw:∀ j:Nat,(0:Int)<4294967296^j:=fun j=>Int.pow_pos (by decide)
 have HW:=hdI <| hpw
 have HT:Hid (val 4294967296 zs/4294967296^(n+k+1)=p*4294967296^k/4294967296^(n+k+1)):=by
  show _=_
  rw[Int.ediv_eq_zero_of_lt hA0,Int.ediv_eq_zero_of_lt (Int.mul_nonneg hp0 (Int.le_of_lt (hpw k)))]
  ·have e:(4294967296:Int)^(n+k+1)=4294967296*4294967296^k*4294967296^n:=by rw[show n+k+1=n+(k+1) by omega,Int.pow_add,Int.pow_succ];grind
   have a1:=Int.mul_lt_mul_of_pos_right hp1 (hpw k);have a2:4294967296*4294967296^k*1≤4294967296*4294967296^k*(4294967296:Int)^n:=Int.mul_le_mul_of_nonneg_left (by have:=hpw n;omega) (Int.mul_nonneg (by decide) (Int.le_of_lt (hpw k)));rw[e];omega
  ·have e:(4294967296:Int)^(n+k+1)=4294967296^n*4294967296^(k+1):=by rw[show n+k+1=n+(k+1) by omega,Int.pow_add]
   have a2:4294967296^n*1≤4294967296^n*(4294967296:Int)^(k+1):=Int.mul_le_mul_of_nonneg_left (by have:=hpw (k+1);omega) (Int.le_of_lt (hpw n));rw[e];omega
 clear hA0 hA1 hpw;go_enter Tryz.func146,Tryz.ntmps146;go_wp2
 go_loop [7] (fun i=>∃ j:Nat,j≤n+k+1∧i=.int .i64 ((j:Int)-1)∧val 4294967296 zs/4294967296^j=p*4294967296^k/4294967296^j) (fun i=>(intOf i+1).toNat)
 case atStart=>exact⟨n+k+1,Nat.le_refl _,by go_num,HT.out⟩
 case round=>
  clear HT;obtain⟨j,hj,rfl,hv⟩:=hrel;by_cases hj0:0<j
  ·obtain⟨j,rfl⟩:∃ i,j=i+1:=⟨j-1,by omega⟩
   have ei:((j+1:Nat):Int)-1=(j:Int):=by omega
   rw[ei];clear ei;rw[Int.pow_succ] at hv;obtain⟨g1,g2,g3⟩:=high_step (by decide) (HW.out j) hv;rw[val_digit (by decide) hz,want_digit _ _ _ _ (by decide) hp0 hp1] at g1 g2 g3;have HD:=hz.get j;have H1:=hdI <| g1
   have H2:=hdI <| g2
   have H3:=hdI <| g3
   have HA:=hdI <| ha
   clear hv g1 g2 g3;generalize hd:zs.getD j 0=d at *;have HG:=hdI <| hd
   obtain⟨hd0,hd1⟩:=HD;clear hd ha;by_cases hjk:j=k
   ·subst hjk;rw[if_pos rfl] at H1 H2 H3;have hjk':((j:Int) == (j:Int))=true:=by simp
    have hfin:∀ q:Bool,(q=decide (d<p))→d≠p→q=decide (val 4294967296 zs≤p*4294967296^j):=fun q hq hne=>by
     rw[hq];by_cases hlt:d<p
     ·have:=H2.out hlt;have h':val 4294967296 zs≤p*4294967296^j:=by omega
      simp[hlt,h']
     ·have:=H3.out (by omega);have h':¬ val 4294967296 zs≤p*4294967296^j:=by omega
      simp[hlt,h']
    have HF:=hdI <| hfin
    clear hfin H2 H3;go_wp2_with fail;refine(digit_any a n cap j zs _ hn hm (by omega) HA.out).mono ?_;rintro e w1 ⟨rfl,rfl⟩;rw[HG.out];by_cases hdw:d=p
    ·have HE:=H1.out hdw;have HV:=hdI <| HE
     have hdw':(d != p)=false:=by simpa using hdw
     have hdw2:(d == p)=true:=by simpa using hdw
     clear HE HF H1 hdw;go_wp2
     go_round
     case rel=>exact⟨j,by omega,rfl,HV.out⟩
     case measure=>first|(simp[intOf];done)|(simp[intOf];omega)
    ·have hdw':(d != p)=true:=by simpa using hdw
     have HN:=hdI <| hdw
     clear hdw H1;go_wp2_with fail;refine(digit_any a n cap j zs _ hn hm (by omega) HA.out).mono ?_;rintro e w2 ⟨rfl,rfl⟩;rw[HG.out];obtain⟨q,hq⟩:∃ q,q=decide (d<p):=⟨_,rfl⟩
     have HQ:=hdI <| HF.out q hq HN.out
     have hq':=hq.symm;clear hq HF;by_cases hlt:d<p
     ·obtain rfl:q=true:=by rw[←hq'];simpa using hlt
      clear hq';go_wp2
      go_ret
      exact⟨by rw[←HQ.out];rfl,rfl⟩
     ·obtain rfl:q=false:=by rw[←hq'];simpa using hlt
      have HD:=hdI <| hq'
      clear hq';go_wp2
      go_ret
      refine⟨?_,rfl⟩;show Ending.returned (.bool (decide (d<p)))=_
      rw[HD.out,←HQ.out]
   ·rw[if_neg hjk] at H1 H2 H3;have hjk':((j:Int) == (k:Int))=false:=by simp;omega
    have hfin:∀ q:Bool,(q=decide (d<0))→d≠0→q=decide (val 4294967296 zs≤p*4294967296^k):=fun q hq hne=>by
     rw[hq];by_cases hlt:d<0
     ·have:=H2.out hlt;have h':val 4294967296 zs≤p*4294967296^k:=by omega
      simp[hlt,h']
     ·have:=H3.out (by omega);have h':¬ val 4294967296 zs≤p*4294967296^k:=by omega
      simp[hlt,h']
    have HF:=hdI <| hfin
    clear hfin H2 H3;go_wp2_with fail;refine(digit_any a n cap j zs _ hn hm (by omega) HA.out).mono ?_;rintro e w1 ⟨rfl,rfl⟩;rw[HG.out];by_cases hdw:d=0
    ·have HE:=H1.out hdw;have HV:=hdI <| HE
     have hdw':(d != 0)=false:=by simpa using hdw
     have hdw2:(d == 0)=true:=by simpa using hdw
     clear HE HF H1 hdw;go_wp2
     go_round
     case rel=>exact⟨j,by omega,rfl,HV.out⟩
     case measure=>first|(simp[intOf];done)|(simp[intOf];omega)
    ·have hdw':(d != 0)=true:=by simpa using hdw
     have HN:=hdI <| hdw
     clear hdw H1;go_wp2_with fail;refine(digit_any a n cap j zs _ hn hm (by omega) HA.out).mono ?_;rintro e w2 ⟨rfl,rfl⟩;rw[HG.out];obtain⟨q,hq⟩:∃ q,q=decide (d<0):=⟨_,rfl⟩
     have HQ:=hdI <| HF.out q hq HN.out
     have hq':=hq.symm;clear hq HF;by_cases hlt:d<0
     ·obtain rfl:q=true:=by rw[←hq'];simpa using hlt
      clear hq';go_wp2
      go_ret
      exact⟨by rw[←HQ.out];rfl,rfl⟩
     ·obtain rfl:q=false:=by rw[←hq'];simpa using hlt
      have HD:=hdI <| hq'
      clear hq';go_wp2
      go_ret
      refine⟨?_,rfl⟩;show Ending.returned (.bool (decide (d<0)))=_
      rw[HD.out,←HQ.out]
  ·obtain rfl:j=0:=by omega
   rw[Int.pow_zero,Int.ediv_one,Int.ediv_one] at hv;have HE:Hid (decide (val 4294967296 zs≤p*4294967296^k)=true):=by show _=_;rw[hv];simp
   clear hv;go_wp2
   go_ret
   exact⟨by rw[HE.out];rfl,rfl⟩
def prm (n:Nat):Bool:=decide (2≤n) && (List.range 32).all (fun d=>decide (d<2) || decide (n<d*d) || !decide (n%d=0))
theorem prm_of {n d:Nat} (hd:2≤d) (h:n%d=0) (hn:d*d≤n) (h32:d<32):prm n=false:=by
 unfold prm;rw[Bool.and_eq_false_iff];right;rw[List.all_eq_false];refine⟨d,List.mem_range.2 h32,?_⟩;simp[h];omega
theorem prm_end {n:Nat} (d:Nat) (hn:n<d*d) (h:∀ e,2≤e→e<d→n%e≠0):prm n=decide (2≤n):=by
 unfold prm;rw[List.all_eq_true.2 (fun e _=>?_),Bool.and_true];by_cases h1:e<2
 ·simp[h1]
 ·by_cases h2:e<d
  ·have:=h e (by omega) h2;simp[this]
  ·have:n<e*e:=Nat.lt_of_lt_of_le hn (Nat.mul_le_mul (by omega) (by omega));simp[this]
set_option maxHeartbeats 400000 in
theorem isPrm_any (n:Nat) (w:World) (hn:n<1024) :
  Calls Tryz.prog 147 #[.int .u64 n] w fun e w'=>e=.returned (.bool (prm n))∧w'=w:=by
 go_enter Tryz.func147,Tryz.ntmps147;go_wp2
 go_loop [3] (fun i=>∃ d:Nat,i=.int .u64 d∧2≤d∧d≤33∧∀ e,2≤e→e<d→n%e≠0) (fun i=>33-(intOf i).toNat)
 case atStart=>exact⟨2,rfl,by decide,by decide,fun e h1 h2=>by omega⟩
 case round=>
  obtain⟨d,rfl,hd,hd',hall⟩:=hrel;have hA:=hdI <| hall
  clear hall;by_cases hle:d*d≤n
  ·have h32:d<32:=by
    rcases Nat.lt_or_ge d 32 with h|h
    ·exact h
    ·have:=Nat.mul_le_mul h h;omega
   have hdd:d*d<1024:=by omega
   have hle':((d:Int)*(d:Int))≤(n:Int):=by rw[←Int.natCast_mul];omega
   have hdd':((d:Int)*(d:Int))<1024:=by rw[←Int.natCast_mul];omega
   have hdd0:0≤((d:Int)*(d:Int)):=Int.mul_nonneg (by omega) (by omega);by_cases hz:n%d=0
   ·have HP:=hdI <| prm_of hd hz hle h32
    have hz':(n:Int)%(d:Int)=0:=by exact_mod_cast hz
    have hz2:(n:Int).tmod (d:Int)=0:=by rw[Int.tmod_eq_emod_of_nonneg (by omega)];exact hz'
    have hne:¬ (d:Int)=0:=by omega
    clear hz hle;go_wp2
    go_ret
    exact⟨by rw[HP.out];rfl,rfl⟩
   ·have hz':¬ (n:Int)%(d:Int)=0:=by rw[←Int.natCast_emod];omega
    have hz2:¬ (n:Int).tmod (d:Int)=0:=by rw[Int.tmod_eq_emod_of_nonneg (by omega)];exact hz'
    have hz3:((n:Int)%(d:Int) == 0)=false:=by simpa using hz'
    have hz4:((n:Int).tmod (d:Int) == 0)=false:=by simpa using hz2
    have hne:¬ (d:Int)=0:=by omega
    have HN:Hid (∀ e,2≤e→e<d+1→n%e≠0):=fun e h1 h2=>by
     rcases Nat.lt_or_ge e d with h|h
     ·exact hA.out e h1 h
     ·obtain rfl:e=d:=by omega
      exact hz
    clear hle hA hz;go_wp2
    go_round
    case rel=>exact⟨d+1,by go_num,by omega,by omega,HN.out⟩
    case measure=>simp[intOf];omega
  ·have HP:=hdI <| prm_end d (by omega) hA.out
   have hdd:=Nat.mul_le_mul hd' hd';have hgt:(n:Int)<((d:Int)*(d:Int)):=by rw[←Int.natCast_mul];omega
   have hgt':¬ ((d:Int)*(d:Int))≤(n:Int):=by omega
   have hdd':((d:Int)*(d:Int))≤1089:=by rw[←Int.natCast_mul];omega
   clear hle hA;by_cases h2:2≤n
   ·have h2':(2:Int)≤(n:Int):=by omega
    have HP2:Hid (prm n=true):=by show prm n=true;rw[HP.out];simpa using h2
    go_wp2
    go_ret
    exact⟨by rw[HP2.out];rfl,rfl⟩
   ·have h2':¬ (2:Int)≤(n:Int):=by omega
    have HP2:Hid (prm n=false):=by show prm n=false;rw[HP.out];simpa using h2
    go_wp2
    go_ret
    exact⟨by rw[HP2.out];rfl,rfl⟩
def prs:List Nat:=[2,3,5,7,11,13,17,19,23,29,31,37,41,43,47,53,59,61,67,71,73,79,83,89,97,101,103,107,109,113,127,131,137,139,149,151,157,163,167,173,179,181,191,193,197,199,211,223,227,229,233,239,241,251,257,263,269,271,277,281,283,293,307,311,313,317,331,337,347,349,353,359,367,373,379,383,389,397,401,409]
def prs0:List Nat:=1::prs
theorem prs_all:∀ m<410,prm m=prs.contains m:=by decide +kernel
theorem prs_gap:∀ k<80,∀ j<80,¬ (prs0.getD k 0<prs.getD j 0∧prs.getD j 0<prs0.getD (k+1) 0):=by decide +kernel
theorem prs_up:∀ k<80,prs0.getD k 0<prs0.getD (k+1) 0∧prs0.getD (k+1) 0<410∧prs.contains (prs0.getD (k+1) 0)=true:=by decide +kernel
theorem prm_gap {k m:Nat} (hk:k<80) (h1:prs0.getD k 0<m) (h2:m<prs0.getD (k+1) 0):prm m=false:=by
 have:=(prs_up k hk).2.1;rw[prs_all m (by omega)];cases h:prs.contains m with
 |false=>rfl
 |true=>
  exfalso
  rw[List.contains_iff_mem] at h;obtain⟨j,hj,rfl⟩:=List.mem_iff_getElem.1 h;have hj':=hj;have:=prs_gap k hk j hj';rw[List.getD_eq_getElem?_getD (l:=prs),List.getElem?_eq_getElem hj] at this;exact this ⟨h1,h2⟩
theorem prm_hit {k:Nat} (hk:k<80):prm (prs0.getD (k+1) 0)=true:=by
 have:=prs_up k hk;rw[prs_all _ this.2.1];exact this.2.2
set_option maxHeartbeats 400000 in
theorem prime_any (t:Nat) (w:World) (ht:t<80) :
  Calls Tryz.prog 118 #[.int .i64 t] w fun e w'=>e=.returned (.int .u64 (prs0.getD (t+1) 0:Nat))∧w'=w:=by
 go_enter Tryz.func118,Tryz.ntmps118;go_wp2
 go_loop [3,4] (fun n i=>∃ k:Nat,k≤t+1∧i=.int .i64 k∧n=.int .u64 (prs0.getD k 0:Nat)) (fun _ i=>t+1-(intOf i).toNat)
 case atStart=>exact⟨0,Nat.zero_le _,rfl,rfl⟩
 case round=>
  obtain⟨k,hk,rfl,rfl⟩:=hrel;by_cases hlt:k<t+1
  ·obtain⟨hu1,hu2,hu3⟩:=prs_up k (by omega);have HG:Hid (∀ m,prs0.getD k 0<m→m<prs0.getD (k+1) 0→prm m=false):=fun m h1 h2=>prm_gap (by omega) h1 h2
   have HH:Hid (prm (prs0.getD (k+1) 0)=true):=prm_hit (by omega);clear hu3;generalize prs0.getD k 0=p at *;generalize hq:prs0.getD (k+1) 0=q at *;have HQ:Hid (prs0.getD (k+1) 0=q):=hq;clear hq;go_wp2
   go_loop [3] (fun i=>∃ m:Nat,i=.int .u64 m∧p<m∧m≤q) (fun i=>q-(intOf i).toNat)
   case atStart=>exact⟨p+1,by go_num,by omega,by omega⟩
   case round=>
    obtain⟨m,rfl,hm1,hm2⟩:=hrel;by_cases hmq:m<q
    ·have HF:Hid (prm m=false):=HG.out m hm1 hmq;go_wp2_with fail;refine(isPrm_any m _ (by omega)).mono ?_;rintro e w1 ⟨rfl,rfl⟩;rw[HF.out];go_wp2
     go_round
     case rel=>exact⟨m+1,by go_num,by omega,by omega⟩
     case measure=>simp[intOf];omega
    ·obtain rfl:m=q:=by omega
     go_wp2_with fail;refine(isPrm_any m _ (by omega)).mono ?_;rintro e w1 ⟨rfl,rfl⟩;rw[HH.out];go_wp2
     go_round
     case rel=>exact⟨k+1,by omega,by go_num,by rw[HQ.out]⟩
     case measure=>simp[intOf];omega
  ·obtain rfl:k=t+1:=by omega
   go_wp2
   go_ret
   exact⟨rfl,rfl⟩
structure RI (p e j X:Nat):Prop where
 lo:X^e≤p*2^(64*e)
 hi:p*2^(64*e)<(X+2^j)^e
 dvd:2^j∣X
 le:X+2^j≤2^67
theorem RI.yes {p e j X:Nat} (h:RI p e (j+1) X) (hy:(X+2^j)^e≤p*2^(64*e)):RI p e j (X+2^j):=by
 have e2:2^(j+1)=2^j+2^j:=by rw[Nat.pow_succ];omega
 refine⟨hy,?_,?_,?_⟩
 ·have:=h.hi;rw[e2,←Nat.add_assoc] at this;exact this
 ·exact Nat.dvd_add (Nat.dvd_trans ⟨2,by rw[Nat.pow_succ]⟩ h.dvd) (Nat.dvd_refl _)
 ·have:=h.le;omega
theorem RI.no {p e j X:Nat} (h:RI p e (j+1) X) (hy:¬ (X+2^j)^e≤p*2^(64*e)):RI p e j X:=by
 have e2:2^(j+1)=2^j+2^j:=by rw[Nat.pow_succ];omega
 refine⟨h.lo,by omega,Nat.dvd_trans ⟨2,by rw[Nat.pow_succ]⟩ h.dvd,by have:=h.le;have:0<2^j:=Nat.pow_pos (by decide);omega⟩
theorem digit_room (X d:Nat) (j:Nat) (hd:X/4294967296^(j/32)%4294967296=d) (hX:2^(j+1)∣X):d+2^(j%32)<4294967296:=by
 obtain⟨t,rfl⟩:=hX;have e1:2^(j+1)*t=4294967296^(j/32)*(2^(j%32+1)*t):=by
  rw[show(4294967296:Nat)=2^32 from rfl,←Nat.pow_mul,←Nat.mul_assoc,←Nat.pow_add]
  congr 2;omega
 rw[e1,Nat.mul_div_cancel_left _ (Nat.pow_pos (by decide))] at hd;have hr:j%32<32:=Nat.mod_lt _ (by decide);obtain⟨q,hq⟩:∃ q,j%32+1+q=32:=⟨31-j%32,by omega⟩
 have e3:(4294967296:Nat)=2^(j%32+1)*2^q:=by rw[←Nat.pow_add,hq]
 rw[e3,Nat.mul_mod_mul_left] at hd;have hlt:t%2^q<2^q:=Nat.mod_lt _ (Nat.pow_pos (by decide));have h4:2^(j%32+1)*(t%2^q+1)≤2^(j%32+1)*2^q:=Nat.mul_le_mul_left _ hlt;rw[←e3,Nat.mul_add,Nat.mul_one,hd,Nat.pow_succ] at h4;have:0<2^(j%32):=Nat.pow_pos (by decide);omega
def RootPost (p e:Nat) (w:World) (en:Ending) (w':World):Prop:=
 ∃ X:Nat,en=.returned (.int .u64 ((X:Int)%18446744073709551616))∧X^e≤p*2^(64*e)∧p*2^(64*e)<(X+1)^e∧Below w.heap.size w w'
structure RS (w:World) (p e j:Nat) (v:Value) (wr:World):Prop where
 st:∃(xs:List Int) (X:Nat),OwnU wr w.heap.size v xs∧xs.length=3∧D32 xs∧val 4294967296 xs=X∧RI p e j X
 below:Below w.heap.size w wr
theorem pw32 (k:Nat):(4294967296:Int)^k=2^(32*k):=by rw[show(4294967296:Int)=2^32 from by decide,←Int.pow_mul]
set_option maxHeartbeats 1000000 in
theorem rootC_any (p e:Nat) (w:World) (hp:p≤409) (he:(e=2∧p<64)∨e=3) :
  Calls Tryz.prog 117 #[.int .u64 p,.int .i64 e] w (RootPost p e w):=by
 have H0:RI p e 67 0:=by
  refine⟨?_,?_,⟨0,rfl⟩,by decide⟩
  ·rcases he with⟨rfl,_⟩|rfl<;>simp
  ·rcases he with⟨rfl,h⟩|rfl
   ·rw[show(0+2^67)^2=64*2^(64*2) from by decide];exact Nat.mul_lt_mul_of_pos_right h (by decide)
   ·rw[show(0+2^67)^3=512*2^(64*3) from by decide];exact Nat.mul_lt_mul_of_pos_right (by omega) (by decide)
 have HS:Hid (RS w p e 67 (.slice (some ⟨w.heap.size,0,none⟩) 3 3) (w.alloc (.cells #[.int .u64 0,.int .u64 0,.int .u64 0] 135))):=
  ⟨⟨[0,0,0],0,OwnK.lit w _ [0,0,0] (Nat.le_refl _) (by decide),rfl,by unfold D32;decide,by decide,H0⟩,(Below.refl _ _).alloc (Nat.le_refl _) _⟩
 have he3:e≤3:=by omega
 have he0:2≤e:=by omega
 clear H0;go_enter Tryz.func117,Tryz.ntmps117;go_wp2
 go_loopw [5,6] (fun v i wr=>∃ j:Nat,j≤67∧i=.int .i64 ((j:Int)-1)∧RS w p e j v wr) (fun _ i _=>(intOf i+1).toNat)
 case atStart=>exact⟨67,Nat.le_refl _,by go_num,HS.out⟩
 case round=>
  clear HS;obtain⟨j,hj,rfl,⟨xs,X,hown,hxl,hxd,hxv,hri⟩,hbel⟩:=hrel;by_cases hj0:0<j
  ·obtain⟨j,rfl⟩:∃ i,j=i+1:=⟨j-1,by omega⟩
   have ei:((j+1:Nat):Int)-1=(j:Int):=by omega
   rw[ei];clear ei;obtain⟨g,c,rfl,hg,hg',hA⟩:=hown.at_;rw[hxl] at hown ⊢;obtain⟨_,_,hE,_,hcl⟩:=hA.get (by omega);cases hE;have hsz:=hbel.size;have hdg:=val_digit (B:=4294967296) (by decide) hxd (j/32);have hdr:=hxd.get (j/32);rw[hxv] at hdg;have hdn:X/4294967296^(j/32)%4294967296=(xs.getD (j/32) 0).toNat:=by
    have:((X/4294967296^(j/32)%4294967296:Nat):Int)=xs.getD (j/32) 0:=by rw[←hdg];simp
    omega
   have hroom:=digit_room X _ j hdn hri.dvd;have hrm:xs.getD (j/32) 0+2^(j%32)<4294967296:=by
    have:((2^(j%32):Nat):Int)=(2:Int)^(j%32):=by simp
    omega
   have h2p:(0:Int)<2^(j%32):=Int.pow_pos (by decide);have hys:val 4294967296 (xs.set (j/32) (xs.getD (j/32) 0+2^(j%32)))=((X+2^j:Nat):Int):=by
    rw[val_set _ _ _ _ (by omega),hxv];have:xs.getD (j/32) 0+2^(j%32)-xs.getD (j/32) 0=(2:Int)^(j%32):=by omega
    rw[this,pw32,←Int.pow_add];have:j%32+32*(j/32)=j:=by omega
    rw[this];simp
   have HYD:Hid (D32 (xs.set (j/32) (xs.getD (j/32) 0+2^(j%32)))):=hxd.set _ _ (by omega) hrm;have HYL:Hid ((xs.set (j/32) (xs.getD (j/32) 0+2^(j%32))).length=3):=by rw[List.length_set];exact hxl
   have HYV:=hdI <| hys
   have HRI:=hdI <| hri
   have HX:Hid (xs.length=3∧D32 xs∧val 4294967296 xs=X):=⟨hxl,hxd,hxv⟩
   have HO:=hdI <| hown
   have HB:=hdI <| hbel
   have HN:Hid (∀ i,i<3→(wr.alloc (.cells #[] 135)).cell? ((⟨g,0,none⟩:Addr).add i)=some (.int .u64 (xs.getD i 0))):=fun i hi=>by
    rw[Addr.add_lit];rw[((Below.refl wr.heap.size wr).alloc (Nat.le_refl _) (.cells #[] 135)).cell (p:=⟨g,0+i,none⟩) hg'];exact hcl i (by omega)
   have HXL:=hdI <| hxl
   clear hdg hdn hroom hys hri hown hbel hxd hxv hcl hA hxl;go_wp2_with (at_builtin;refine wpList_appK _ ktU rfl _ _ rfl wr.heap.size _ [] rfl (OwnK.empty _ _ (Nat.le_refl _)) ⟨g,0,none⟩ 3 _ xs rfl HXL.out HN.out ?c2 ?c3 ?_)
   case c2=>decide
   case c3=>simp
   intro v' w1 hown' hbel' _;obtain⟨g1,c1,rfl,hg1,hg1',_⟩:=hown'.at_;rw[HXL.out] at hown' ⊢;have hB1:=((Below.refl _ _).alloc (Nat.le_refl _) _).trans hbel';obtain⟨cz,fz,oz⟩:=OwnK.set HXL.out hown' (j/32) (xs.getD (j/32) 0+2^(j%32)) (by omega);have HO2:=hdI <| oz
   have HB2:Hid (Below wr.heap.size wr (w1.setCell ⟨g1,j/32,none⟩ (.int .u64 (xs.getD (j/32) 0+2^(j%32))))):=hB1.setCell hg1 _;clear oz hown' hB1 hbel' HN;obtain⟨hd0,hd1⟩:=hdr;generalize hdd:xs.getD (j/32) 0=d at *;have hsh:IntKind.u64.wrap (1*2^(j%32))=2^(j%32):=by rw[Int.one_mul,IntKind.wrap_u64];exact Int.emod_eq_of_lt (by omega) (by omega)
   have hsh':IntKind.u64.wrap (2^(j%32))=2^(j%32):=by rw[IntKind.wrap_u64];exact Int.emod_eq_of_lt (by omega) (by omega)
   have hj3:(j:Int)/32<3:=by omega
   clear hdd;go_wp2_with fail;have o2:=HO2.out;have b2:=HB2.out;have HDL:=HX.out;clear HO2 HB2 cz fz;generalize hyy:xs.set (j/32) (d+2^(j%32))=ys at *;clear hyy;generalize w1.setCell ⟨g1,j/32,none⟩ (.int .u64 (d+2^(j%32)))=w2 at *;obtain⟨hYA,_,_⟩:=o2.atS;have HO9:=hdI <| o2
   have HO0:=hdI <| HO.out.grow b2
   have HB9:=hdI <| HB.out.trans (b2.mono hsz)
   clear o2 b2 HO HB;refine(mul_any _ _ 3 3 _ _ ys ys _ HYL.out HYL.out (by decide) (by decide) (by decide) (by decide) hYA hYA HYD.out HYD.out).mono ?_;rintro en w3 ⟨v3,zs,rfl,O3,hzl,hzd,hzv,B3⟩;obtain⟨g3,c3,rfl,hg3,hg3',hZA⟩:=O3.at_;rw[HYV.out] at hzv;have hzl':zs.length=6:=by rw[hzl,HYL.out]
   have hYA3:=hYA.below B3;have HO9':=hdI <| HO9.out.grow B3
   have HO0':=hdI <| HO0.out.grow B3
   have HB9':=hdI <| HB9.out.trans (B3.mono HB9.out.size)
   have hsz9:=B3.size;rw[hzl'] at O3 ⊢;clear HO9 HO0 HB9 hYA O3 B3 hzl;have HTT:Hid ((p:Int)*4294967296^(2*e)=((p*2^(64*e):Nat):Int)):=by
    show _=_
    rw[pw32,Int.natCast_mul,show 32*(2*e)=64*e by omega];simp
   have h2e:((2*e:Nat):Int)=2*(e:Int):=by omega
   rcases he with⟨he2,hp2⟩|he2
   ·have hne:((e:Int) == 3)=false:=by rw[he2];decide
    have HZV:Hid (val 4294967296 zs=(((X+2^j)^e:Nat):Int)):=by
     show _=_
     rw[he2,hzv,Nat.pow_succ,Nat.pow_succ,Nat.pow_zero,Nat.one_mul,Int.natCast_mul]
    clear hzv he2;have hzl:=hzl';clear hzl';go_wp2_with fail;generalize hW:w3=W9 at *;clear hW;generalize hc9:c3=c9 at *;clear hc9;have HO9:=HO9';have HO0:=HO0';have HB9:=HB9';clear HO9' HO0' HB9';by_cases hle:(X+2^j)^e≤p*2^(64*e)
    ·have HQ:Hid (decide (val 4294967296 zs≤(p:Int)*4294967296^(2*e))=true):=by
      show _=_
      rw[HZV.out,HTT.out];have:(((X+2^j)^e:Nat):Int)≤((p*2^(64*e):Nat):Int):=by exact Int.ofNat_le.2 hle
      simpa using this
     have HP:Hid (RS w p e j (.slice (some ⟨g1,0,none⟩) 3 c1) W9):=
      ⟨⟨_,_,(HO9.out.lower hsz),HYL.out,HYD.out,HYV.out,HRI.out.yes hle⟩,HB9.out⟩
     clear hle;have A:=atm_any _ _ c9 (2*e) (p:Int) zs W9 hzl (by omega) (by omega) hZA hzd (by omega) (by omega);rw[h2e] at A;refine A.mono ?_;rintro en w5 ⟨rfl,rfl⟩;rw[HQ.out];clear HQ A;go_wp2;go_roundw
     case rel=>exact⟨j,by omega,rfl,HP.out⟩
     case measure=>first|(simp[intOf];done)|(simp[intOf];omega)
    ·have HQ:Hid (decide (val 4294967296 zs≤(p:Int)*4294967296^(2*e))=false):=by
      show _=_
      rw[HZV.out,HTT.out];have:¬ (((X+2^j)^e:Nat):Int)≤((p*2^(64*e):Nat):Int):=fun h=>hle (Int.ofNat_le.1 h)
      simpa using this
     have HP:Hid (RS w p e j (.slice (some ⟨g,0,none⟩) 3 c) W9):=
      ⟨⟨xs,X,HO0.out,HX.out.1,HX.out.2.1,HX.out.2.2,HRI.out.no hle⟩,HB9.out⟩
     clear hle;have A:=atm_any _ _ c9 (2*e) (p:Int) zs W9 hzl (by omega) (by omega) hZA hzd (by omega) (by omega);rw[h2e] at A;refine A.mono ?_;rintro en w5 ⟨rfl,rfl⟩;rw[HQ.out];clear HQ A;go_wp2;go_roundw
     case rel=>exact⟨j,by omega,rfl,HP.out⟩
     case measure=>first|(simp[intOf];done)|(simp[intOf];omega)
   ·have hne:((e:Int) == 3)=true:=by rw[he2];decide
    have HE:=hdI <| he2
    clear he2;have hzl:=hzl';clear hzl';go_wp2_with fail;refine(mul_any _ _ 6 3 _ _ zs ys _ hzl HYL.out (by decide) (by decide) (by decide) (by decide) hZA hYA3 hzd HYD.out).mono ?_;rintro en w4 ⟨v4,us,rfl,O4,hul,hud,huv,B4⟩;obtain⟨g4,c4,rfl,hg4,hg4',hUA⟩:=O4.at_;rw[HYV.out,hzv] at huv;have hul':us.length=9:=by rw[hul,hzl,HYL.out]
    have HO9:=hdI <| HO9'.out.grow B4
    have HO0:=hdI <| HO0'.out.grow B4
    have HB9:=hdI <| HB9'.out.trans (B4.mono HB9'.out.size)
    rw[hul'] at O4 ⊢;clear HO9' HO0' HB9' O4 B4 hul hzl hzd hzv hZA;have hzl:=hul';have hzd:=hud;have hZA:=hUA;clear hul' hud hUA;have HZV:Hid (val 4294967296 us=(((X+2^j)^e:Nat):Int)):=by
     show _=_
     rw[HE.out,huv,Nat.pow_succ,Nat.pow_succ,Nat.pow_succ,Nat.pow_zero,Nat.one_mul,Int.natCast_mul,Int.natCast_mul]
    clear huv;go_wp2_with fail;generalize hW:w4=W9 at *;clear hW;generalize hc9:c4=c9 at *;clear hc9;by_cases hle:(X+2^j)^e≤p*2^(64*e)
    ·have HQ:Hid (decide (val 4294967296 us≤(p:Int)*4294967296^(2*e))=true):=by
      show _=_
      rw[HZV.out,HTT.out];have:(((X+2^j)^e:Nat):Int)≤((p*2^(64*e):Nat):Int):=by exact Int.ofNat_le.2 hle
      simpa using this
     have HP:Hid (RS w p e j (.slice (some ⟨g1,0,none⟩) 3 c1) W9):=
      ⟨⟨_,_,(HO9.out.lower hsz),HYL.out,HYD.out,HYV.out,HRI.out.yes hle⟩,HB9.out⟩
     clear hle;have A:=atm_any _ _ c9 (2*e) (p:Int) us W9 hzl (by omega) (by omega) hZA hzd (by omega) (by omega);rw[h2e] at A;refine A.mono ?_;rintro en w5 ⟨rfl,rfl⟩;rw[HQ.out];clear HQ A;go_wp2;go_roundw
     case rel=>exact⟨j,by omega,rfl,HP.out⟩
     case measure=>first|(simp[intOf];done)|(simp[intOf];omega)
    ·have HQ:Hid (decide (val 4294967296 us≤(p:Int)*4294967296^(2*e))=false):=by
      show _=_
      rw[HZV.out,HTT.out];have:¬ (((X+2^j)^e:Nat):Int)≤((p*2^(64*e):Nat):Int):=fun h=>hle (Int.ofNat_le.1 h)
      simpa using this
     have HP:Hid (RS w p e j (.slice (some ⟨g,0,none⟩) 3 c) W9):=
      ⟨⟨xs,X,HO0.out,HX.out.1,HX.out.2.1,HX.out.2.2,HRI.out.no hle⟩,HB9.out⟩
     clear hle;have A:=atm_any _ _ c9 (2*e) (p:Int) us W9 hzl (by omega) (by omega) hZA hzd (by omega) (by omega);rw[h2e] at A;refine A.mono ?_;rintro en w5 ⟨rfl,rfl⟩;rw[HQ.out];clear HQ A;go_wp2;go_roundw
     case rel=>exact⟨j,by omega,rfl,HP.out⟩
     case measure=>first|(simp[intOf];done)|(simp[intOf];omega)
  ·obtain rfl:j=0:=by omega
   obtain⟨g,c,rfl,hg,hg',_⟩:=hown.at_;rw[hxl] at hown ⊢;have c0:=OwnK.cellAt hxl hown 0 (by decide);have c1:=OwnK.cellAt hxl hown 1 (by decide);have d0:=hxd.get 0;have d1:=hxd.get 1;have d2:=hxd.get 2;have HX:Hid ((X:Int)%18446744073709551616=xs.getD 0 0+xs.getD 1 0*4294967296):=by
    show _=_
    rw[←hxv]
    match xs,hxl with
    |[a,b,d],_=>
     simp only[List.getD_cons_zero,List.getD_cons_succ,val] at d0 d1 d2 ⊢;omega
   have HP:Hid (X^e≤p*2^(64*e)∧p*2^(64*e)<(X+1)^e):=⟨hri.lo,by simpa using hri.hi⟩
   clear hri hxv hown hxd;generalize xs.getD 0 0=x0 at *;generalize xs.getD 1 0=x1 at *;obtain⟨d00,d01⟩:=d0;obtain⟨d10,d11⟩:=d1;go_wp2
   go_quiet (fail)
   go_wp2
   go_ret
   refine⟨X,?_,HP.out.1,HP.out.2,⟨hbel.os,hbel.tape,hbel.output,hbel.size,hbel.block⟩⟩;rw[HX.out];rfl
def rts:List Nat:=[23241441160490167842,26604808713878332877,31543488660544240431,35287351959220771772,41025191555757552952,43374469216020582425,47431773444313272219,49223322299838333208,52460086356995146306,56674242196778545086,57948244932766773900,61468643694135456994,63608380943893236079,64626287408284341937,66571091106846937653,69291241975837173396,71813108563482594002,72615556083564357091,74922338351982630325,76384605279477341285,77095200552867529333,79152035218479047811,80466001307761769428,82360010132597855157,84757271453788200875,85906662539289440784,86470001012957192511,87575168524888248036,88117443448470540226,89182409882623190821,92723033081372705391,93686458245878541936,95095488024300105724,95556006044611561766,97794660939065469677,98230277650290947039,99514478923103560670,100766364611844223656,101583977345534766822,102786266195516601659,103961068102722061156,104346826991781163009,106234157551817627537,106603670640207904304,107335108066752287256,107697117917222381840,109819772810290077738,111863398698143437240,112528278492720320712,112857792170093030227,113511107980111571865,114477206417490790568,114795642568024087139,116361942610802215627,117281838038729876339,118187525164200278179,119079540232616391420,119373928427484032864,120248493880617511794,120824543361758411244,121110519679094562344,122520547622920568297,124441674862916172053,124979807718728684331,125247145020423037340,125778422408467759623,127603441353585912606,128369846764518166904,129627222056361226170,129875788766833580198,130370087684295691694,131104582549941012251,132071287192121802116,132787134709014930579,133495346155087314620,133963344184962190668,134659270149180113590,135576127461610847786,136029942151059536620,136928597060811708439,26087635650665564424,31950697969885030203,41248173712355948587,48805497317890012913,61180928696206656209,66510681623121259551,76057874264641092971,80407493254657745273]
def tab:List Nat:=rts.map (·%18446744073709551616)
theorem rts3:∀ t<80,rts.getD t 0^3≤prs0.getD (t+1) 0*2^(64*3)∧prs0.getD (t+1) 0*2^(64*3)<(rts.getD t 0+1)^3:=by decide +kernel
theorem rts2:∀ t<8,rts.getD (80+t) 0^2≤prs0.getD (t+1) 0*2^(64*2)∧prs0.getD (t+1) 0*2^(64*2)<(rts.getD (80+t) 0+1)^2:=by decide +kernel
theorem prs_le:∀ t<80,prs0.getD (t+1) 0≤409:=by decide +kernel
theorem prs_le8:∀ t<8,prs0.getD (t+1) 0<64:=by decide +kernel
theorem tab_get (t:Nat):tab.getD t 0=rts.getD t 0%18446744073709551616:=by
 simp only[tab,List.getD_eq_getElem?_getD,List.getElem?_map];cases rts[t]?<;>simp
theorem rootC_same {X R T e:Nat} (h1:X^e≤T) (h2:T<(X+1)^e) (h3:R^e≤T) (h4:T<(R+1)^e):X=R:=by
 rcases Nat.lt_trichotomy X R with h|h|h
 ·have:=Nat.pow_le_pow_left (show X+1≤R from h) e;omega
 ·exact h
 ·have:=Nat.pow_le_pow_left (show R+1≤X from h) e;omega
def rcT (t:Int):Int:=if 0≤t∧t<88 then(tab.getD t.toNat 0:Nat) else 0
theorem get3 (n:Nat) (hn:n<80):∃ p R:Nat,(∀ w,Calls Tryz.prog 118 #[.int .i64 n] w fun e w'=>e=.returned (.int .u64 p)∧w'=w)∧p≤409∧R^3≤p*2^(64*3)∧p*2^(64*3)<(R+1)^3∧rcT (n:Int)=(R:Int)%18446744073709551616:=by
 refine⟨prs0.getD (n+1) 0,rts.getD n 0,fun w=>prime_any n w hn,prs_le n hn,(rts3 n hn).1,(rts3 n hn).2,?_⟩;unfold rcT;rw[if_pos (by omega),Int.toNat_natCast,tab_get];exact Int.natCast_emod _ _
theorem get2 (n:Nat) (hn:n<8):∃ p R:Nat,(∀ w,Calls Tryz.prog 118 #[.int .i64 n] w fun e w'=>e=.returned (.int .u64 p)∧w'=w)∧p≤409∧p<64∧R^2≤p*2^(64*2)∧p*2^(64*2)<(R+1)^2∧rcT (80+(n:Int))=(R:Int)%18446744073709551616:=by
 refine⟨prs0.getD (n+1) 0,rts.getD (80+n) 0,fun w=>prime_any n w (by omega),prs_le n (by omega),prs_le8 n hn,(rts2 n hn).1,(rts2 n hn).2,?_⟩;unfold rcT;rw[if_pos (by omega),show(80+(n:Int)).toNat=80+n by omega,tab_get];exact Int.natCast_emod _ _
set_option maxHeartbeats 400000 in
theorem rcS_any (t:Int) (w:World) (h0:-9223372036854775808≤t) (h1:t≤9223372036854775807) :
  Calls Tryz.prog 97 #[.int .i64 t] w fun e w'=>e=.returned (.int .u64 (rcT t))∧Below w.heap.size w w':=by
 by_cases ha:0≤t
 ·by_cases hb:t<80
  ·obtain⟨n,rfl⟩:=Int.eq_ofNat_of_zero_le ha;obtain⟨p,R,hp,hp1,hp2,hp3,e⟩:=get3 n (by omega);generalize rcT (n:Int)=r at *;have HE:=hdI <| e
   clear e;go_enter Tryz.func97,Tryz.ntmps97;go_wp2_with fail;refine(hp _).mono ?_;rintro e w1 ⟨rfl,rfl⟩;go_wp2_with fail;have A:=rootC_any p 3 w1 hp1 (.inr rfl);refine A.mono ?_;rintro e w2 ⟨X,rfl,x1,x2,B⟩;rw[rootC_same x1 x2 hp2 hp3,←HE.out];have HB:=hdI <| B
   clear B x1 x2 A hp hp2 hp3 HE;go_wp2
   go_ret
   exact⟨rfl,HB.out⟩
  ·by_cases hc:t<88
   ·obtain⟨n,hn⟩:∃ n:Nat,t=80+(n:Int):=⟨(t-80).toNat,by omega⟩
    obtain⟨p,R,hp,hp1,hp4,hp2,hp3,e⟩:=get2 n (by omega);rw[←hn] at e;generalize rcT t=r at *;have HE:=hdI <| e
    have HSUB:Hid (t-80=(n:Int)):=by show _=_;omega
    have hb':decide (t<80)=false:=by simpa using hb
    have ha':decide (0≤t)=true:=by simpa using ha
    have hg:80≤t:=by omega
    clear e hn;go_enter Tryz.func97,Tryz.ntmps97;go_wp2_with fail;rw[HSUB.out];refine(hp _).mono ?_;rintro e w1 ⟨rfl,rfl⟩;go_wp2_with fail;have A:=rootC_any p 2 w1 hp1 (.inl ⟨rfl,hp4⟩);refine A.mono ?_;rintro e w2 ⟨X,rfl,x1,x2,B⟩;rw[rootC_same x1 x2 hp2 hp3,←HE.out];have HB:=hdI <| B
    clear B x1 x2 A hp hp2 hp3 HE;go_wp2
    go_ret
    exact⟨rfl,HB.out⟩
   ·have e:rcT t=0:=by unfold rcT;rw[if_neg (by omega)]
    rw[e];go_enter Tryz.func97,Tryz.ntmps97;go_wp2
    go_ret
    exact⟨rfl,Below.refl _ _⟩
 ·have e:rcT t=0:=by unfold rcT;rw[if_neg (by omega)]
  rw[e];have ha':decide (0≤t)=false:=by simpa using ha
  go_enter Tryz.func97,Tryz.ntmps97;go_wp2
  go_ret
  exact⟨rfl,Below.refl _ _⟩
def TabIn (w:World):Prop:=∀ i,i<88→w.cell? ⟨1,i,none⟩=some (.int .u64 (tab.getD i 0:Nat))
def BAt (w:World) (g o:Nat) (bs:List Int):Prop:=bs.length=32∧Byte bs∧∀ i,i<32→w.cell? ⟨g,o+i,none⟩=some (.int .u8 (bs.getD i 0))∧w.frozen? ⟨g,o+i,none⟩=false
def SetB (bs:List Int) (P:Nat→Prop):Prop:=bs.length=32∧Byte bs∧∀ v,v<256→(bs.getD (v/8) 0/2^(v%8)%2=1↔P v)
theorem bit_nat (x j:Nat):x/2^j%2=1↔x.testBit j=true:=by rw[Nat.testBit_eq_decide_div_mod_eq];simp
theorem u8_or_bit (x:Int) (k:Nat) (hx:0≤x) (hx':x<256) (hk:k<8):0≤bits .or .u8 x (2^k)∧bits .or .u8 x (2^k)<256∧∀ j,j<8→(bits .or .u8 x (2^k)/2^j%2=1↔(x/2^j%2=1∨j=k)):=by
 obtain⟨x,rfl⟩:=Int.eq_ofNat_of_zero_le hx;have h2:(2:Nat)^k<256:=by
  have:2^k≤2^7:=Nat.pow_le_pow_right (by decide) (by omega);omega
 have e:bits .or .u8 (x:Int) (2^k)=((x ||| 2^k:Nat):Int):=by
  rw[show((2:Int)^k)=((2^k:Nat):Int) by simp];exact u8_or_nat x (2^k) (by omega) h2
 rw[e];have hlt:x ||| 2^k<2^8:=Nat.or_lt_two_pow (by omega) (by omega);refine⟨by omega,by omega,fun j hj=>?_⟩;have q:∀ y:Nat,((y:Int)/2^j%2=1↔y.testBit j=true):=fun y=>by
  rw[←bit_nat];rw[show((2:Int)^j)=((2^j:Nat):Int) by simp,←Int.natCast_ediv];omega
 rw[q,q,Nat.testBit_or,Nat.testBit_two_pow];simp only[Bool.or_eq_true,decide_eq_true_eq];constructor
 ·rintro (h|h)
  ·exact .inl h
  ·exact .inr h.symm
 ·rintro (h|h)
  ·exact .inl h
  ·exact .inr h.symm
theorem not_bit:∀ k,k<8→∀ j,j<8→(255-2^k).testBit j=decide (j≠k):=by decide
theorem u8_not_bit (x:Int) (k:Nat) (hx:0≤x) (hx':x<256) (hk:k<8):0≤bits .andNot .u8 x (2^k)∧bits .andNot .u8 x (2^k)<256∧∀ j,j<8→(bits .andNot .u8 x (2^k)/2^j%2=1↔(x/2^j%2=1∧j≠k)):=by
 obtain⟨x,rfl⟩:=Int.eq_ofNat_of_zero_le hx;have h2:(2:Nat)^k<256:=by
  have:2^k≤2^7:=Nat.pow_le_pow_right (by decide) (by omega);omega
 have e:bits .andNot .u8 (x:Int) (2^k)=((x &&& (255-2^k):Nat):Int):=by
  rw[show((2:Int)^k)=((2^k:Nat):Int) by simp];exact u8_andNot_nat x (2^k) (by omega) h2
 rw[e];have hlt:x &&& (255-2^k)<2^8:=Nat.and_lt_two_pow _ (Nat.lt_of_le_of_lt (Nat.sub_le _ _) (by decide));refine⟨by omega,by omega,fun j hj=>?_⟩;have q:∀ y:Nat,((y:Int)/2^j%2=1↔y.testBit j=true):=fun y=>by
  rw[←bit_nat];rw[show((2:Int)^j)=((2^j:Nat):Int) by simp,←Int.natCast_ediv];omega
 rw[q,q,Nat.testBit_and,not_bit k hk j hj];simp
theorem getD_set8 (bs:List Int) (q i:Nat) (x:Int) (hq:q<bs.length):(bs.set q x).getD i 0=if i=q then x else bs.getD i 0:=by
 rw[List.getD_eq_getElem?_getD,List.getElem?_set];by_cases h:q=i
 ·subst h;simp[hq]
 ·rw[if_neg h,if_neg (Ne.symm h),List.getD_eq_getElem?_getD]
def addB (bs:List Int) (v:Nat):List Int:=bs.set (v/8) (bits .or .u8 (bs.getD (v/8) 0) (2^(v%8)))
def remB (bs:List Int) (v:Nat):List Int:=bs.set (v/8) (bits .andNot .u8 (bs.getD (v/8) 0) (2^(v%8)))
theorem byte_set {bs:List Int} (h:Byte bs) (q:Nat) (x:Int) (h0:0≤x) (h1:x<256):Byte (bs.set q x):=fun z hz=>by
 rcases List.mem_or_eq_of_mem_set hz with h'|h'
 ·exact h z h'
 ·rw[h'];exact⟨h0,h1⟩
theorem SetB.add {bs:List Int} {P:Nat→Prop} (h:SetB bs P) (v:Nat) (hv:v<256):SetB (addB bs v) (fun u=>P u∨u=v):=by
 obtain⟨h1,h2,h3⟩:=h;have hx:=h2.get (v/8);obtain⟨a,b,c⟩:=u8_or_bit _ (v%8) hx.1 hx.2 (by omega);refine⟨by unfold addB;rw[List.length_set];exact h1,byte_set h2 _ _ a b,fun u hu=>?_⟩;unfold addB;rw[getD_set8 _ _ _ _ (by omega)];by_cases hq:u/8=v/8
 ·rw[if_pos hq,c (u%8) (by omega),←hq,h3 u hu];constructor
  ·rintro (h|h)
   ·exact .inl h
   ·exact .inr (by omega)
  ·rintro (h|h)
   ·exact .inl h
   ·exact .inr (by omega)
 ·rw[if_neg hq,h3 u hu];constructor
  ·exact .inl
  ·rintro (h|h)
   ·exact h
   ·omega
theorem SetB.rem {bs:List Int} {P:Nat→Prop} (h:SetB bs P) (v:Nat) (hv:v<256):SetB (remB bs v) (fun u=>P u∧u≠v):=by
 obtain⟨h1,h2,h3⟩:=h;have hx:=h2.get (v/8);obtain⟨a,b,c⟩:=u8_not_bit _ (v%8) hx.1 hx.2 (by omega);refine⟨by unfold remB;rw[List.length_set];exact h1,byte_set h2 _ _ a b,fun u hu=>?_⟩;unfold remB;rw[getD_set8 _ _ _ _ (by omega)];by_cases hq:u/8=v/8
 ·rw[if_pos hq,c (u%8) (by omega),←hq,h3 u hu];constructor
  ·rintro⟨h,h'⟩;exact⟨h,by omega⟩
  ·rintro⟨h,h'⟩;exact⟨h,by omega⟩
 ·rw[if_neg hq,h3 u hu];constructor
  ·intro h;exact⟨h,by omega⟩
  ·exact fun h=>h.1
def serOk (v:Int):Bool:=decide (0≤v∧v<256)
def nowOk (v:Int):Bool:=decide (0≤v∧v≤4294967295)
theorem isSerial_any (v:Int) (w:World):Calls Tryz.prog 69 #[.int .i64 v] w fun e w'=>e=.returned (.bool (serOk v))∧w'=w:=by
 by_cases h0:0≤v
 ·by_cases h1:v<256
  ·have HD:Hid (serOk v=true):=decide_eq_true ⟨h0,h1⟩;go_enter Tryz.func69,Tryz.ntmps69;go_wp2
   go_ret
   exact⟨by rw[HD.out];rfl,rfl⟩
  ·have HD:Hid (serOk v=false):=decide_eq_false (fun h=>h1 h.2);go_enter Tryz.func69,Tryz.ntmps69;go_wp2
   go_ret
   exact⟨by rw[HD.out];rfl,rfl⟩
 ·have HD:Hid (serOk v=false):=decide_eq_false (fun h=>h0 h.1);go_enter Tryz.func69,Tryz.ntmps69;go_wp2
  go_ret
  exact⟨by rw[HD.out];rfl,rfl⟩
theorem isNow_any (v:Int) (w:World):Calls Tryz.prog 72 #[.int .i64 v] w fun e w'=>e=.returned (.bool (nowOk v))∧w'=w:=by
 by_cases h0:0≤v
 ·by_cases h1:v≤4294967295
  ·have HD:Hid (nowOk v=true):=decide_eq_true ⟨h0,h1⟩;go_enter Tryz.func72,Tryz.ntmps72;go_wp2
   go_ret
   exact⟨by rw[HD.out];rfl,rfl⟩
  ·have HD:Hid (nowOk v=false):=decide_eq_false (fun h=>h1 h.2);go_enter Tryz.func72,Tryz.ntmps72;go_wp2
   go_ret
   exact⟨by rw[HD.out];rfl,rfl⟩
 ·have HD:Hid (nowOk v=false):=decide_eq_false (fun h=>h0 h.1);go_enter Tryz.func72,Tryz.ntmps72;go_wp2
  go_ret
  exact⟨by rw[HD.out];rfl,rfl⟩
theorem two_mod (v:Nat):(2:Int)^(v%8)%256=2^(v%8):=by
 have:v%8=0∨v%8=1∨v%8=2∨v%8=3∨v%8=4∨v%8=5∨v%8=6∨v%8=7:=by omega
 rcases this with h|h|h|h|h|h|h|h<;>rw[h]<;>decide
set_option maxHeartbeats 1000000 in
theorem addS_any (g o v:Nat) (bs:List Int) (w:World) (hv:v<256) (hb:BAt w g o bs) :
  Calls Tryz.prog 70 #[.pointer (some ⟨g,o,none⟩),.int .i64 v] w fun e w'=>e=.returned (.tuple #[])∧∃ q,w'=(w.setCell ⟨g,o+v/8,none⟩ (.int .u8 ((addB bs v).getD (v/8) 0))).drewN q:=by
 obtain⟨h1,h2,h3⟩:=hb;obtain⟨c0,f0⟩:=h3 (v/8) (by omega);obtain⟨x0,x1⟩:=h2.get (v/8);have HX:Hid ((addB bs v).getD (v/8) 0=bits .or .u8 (bs.getD (v/8) 0) (2^(v%8))):=by
  show _=_
  unfold addB;rw[getD_set8 _ _ _ _ (by omega),if_pos rfl]
 have HM:=hdI <| two_mod v
 have hv':(v:Int)<256:=by omega
 have hv8:(v:Int)/8<32:=by omega
 clear h1 h2 h3;generalize bs.getD (v/8) 0=x at *;go_enter Tryz.func70,Tryz.ntmps70
 go_region
 rw[HM.out,←HX.out]
 go_end0
 exact⟨rfl,1,rfl⟩
set_option maxHeartbeats 1000000 in
theorem remS_any (g o v:Nat) (bs:List Int) (w:World) (hv:v<256) (hb:BAt w g o bs) :
  Calls Tryz.prog 73 #[.pointer (some ⟨g,o,none⟩),.int .i64 v] w fun e w'=>e=.returned (.tuple #[])∧∃ q,w'=(w.setCell ⟨g,o+v/8,none⟩ (.int .u8 ((remB bs v).getD (v/8) 0))).drewN q:=by
 obtain⟨h1,h2,h3⟩:=hb;obtain⟨c0,f0⟩:=h3 (v/8) (by omega);obtain⟨x0,x1⟩:=h2.get (v/8);have HX:Hid ((remB bs v).getD (v/8) 0=bits .andNot .u8 (bs.getD (v/8) 0) (2^(v%8))):=by
  show _=_
  unfold remB;rw[getD_set8 _ _ _ _ (by omega),if_pos rfl]
 have HM:=hdI <| two_mod v
 have hv':(v:Int)<256:=by omega
 have hv8:(v:Int)/8<32:=by omega
 clear h1 h2 h3;generalize bs.getD (v/8) 0=x at *;go_enter Tryz.func73,Tryz.ntmps73
 go_region
 rw[HM.out,←HX.out]
 go_end0
 exact⟨rfl,1,rfl⟩
set_option maxHeartbeats 1000000 in
theorem hasS_any (g o:Nat) (v:Int) (bs:List Int) (P:Nat→Prop) (q:Bool) (w:World) (hb:BAt w g o bs) (hs:SetB bs P) (hq:q=true↔(0≤v∧v<256∧P v.toNat)) :
  Calls Tryz.prog 71 #[.pointer (some ⟨g,o,none⟩),.int .i64 v] w fun e w'=>e=.returned (.bool q)∧w'=w:=by
 by_cases hv:0≤v∧v<256
 ·obtain⟨h0,h1⟩:=hv;obtain⟨v,rfl⟩:=Int.eq_ofNat_of_zero_le h0;obtain⟨l1,l2,l3⟩:=hb;obtain⟨c0,f0⟩:=l3 (v/8) (by omega);obtain⟨x0,x1⟩:=l2.get (v/8);have hbit:=hs.2.2 v (by omega);have HSO:Hid (serOk (v:Int)=true):=decide_eq_true ⟨h0,h1⟩;have hpp:(0:Int)<2^(v%8):=Int.pow_pos (by decide);have y0:0≤bs.getD (v/8) 0/2^(v%8):=Int.ediv_nonneg x0 (by omega);have y1:bs.getD (v/8) 0/2^(v%8)≤bs.getD (v/8) 0:=Int.ediv_le_self _ x0;have HA:Hid (bits .and .u8 (bs.getD (v/8) 0/2^(v%8)) 1=bs.getD (v/8) 0/2^(v%8)%2):=by
   show _=_
   obtain⟨y,hy⟩:=Int.eq_ofNat_of_zero_le y0;rw[hy];have:=u8_and_nat y 1 (by omega) (by decide);rw[show((1:Int))=((1:Nat):Int) from rfl,this,Nat.and_one_is_mod];omega
  have HQ:Hid ((bs.getD (v/8) 0/2^(v%8)%2 == 1)=q):=by
   show _=_
   have h2:bs.getD (v/8) 0/2^(v%8)%2=0∨bs.getD (v/8) 0/2^(v%8)%2=1:=by omega
   rcases h2 with h2|h2
   ·rw[h2];cases q with
    |false=>rfl
    |true=>
     have:=hq.1 rfl;have:=hbit.2 (by simpa using this.2.2);omega
   ·rw[h2];cases q with
    |true=>rfl
    |false=>
     have:=hq.2 ⟨h0,h1,by simpa using hbit.1 h2⟩;cases this
  have hv8:(v:Int)/8<32:=by omega
  clear l1 l2 l3 hbit hs hq hpp;generalize bs.getD (v/8) 0=x at *;go_enter Tryz.func71,Tryz.ntmps71;go_wp2_with fail;refine(isSerial_any _ _).mono ?_;rintro e w1 ⟨rfl,rfl⟩;rw[HSO.out];go_wp2;rw[HA.out,HQ.out]
  go_ret
  exact⟨rfl,rfl⟩
 ·have HSO:Hid (serOk v=false):=decide_eq_false hv;have HQ:Hid (q=false):=by
   show _=_
   cases q with
   |false=>rfl
   |true=>exact absurd ⟨(hq.1 rfl).1,(hq.1 rfl).2.1⟩ hv
  clear hv hq hb hs;go_enter Tryz.func71,Tryz.ntmps71;go_wp2_with fail;refine(isSerial_any _ _).mono ?_;rintro e w1 ⟨rfl,rfl⟩;rw[HSO.out];go_wp2
  go_ret
  exact⟨by rw[HQ.out];rfl,rfl⟩
end Go.Proofs.YtncomnkdlpoelaaGreatDoor
