import Derived.Test.YtapejbpgdjbjjaaGreatDoorMOwnK
import Derived.Test.YtapejbpgdjbjjaaGreatDoorMVal
import Derived.BigRegion
import Derived.Test.YtapejbpgdjbjjaaGreatDoorMBase
namespace Go.Proofs.YtapejbpgdjbjjaaGreatDoor
open Go.ChangeShapes Go.WideShapes Go.ChangeAt Go.RowKit
set_option linter.unusedVariables false
theorem ktU:KT .u64 50 80 8:=⟨by kernel_rfl,Tryz.underlying80,by decide,by decide⟩
abbrev OwnU:=OwnK .u64 50
def D32 (zs:List Int):Prop:=∀ z∈zs,0≤z∧z<4294967296
theorem D32.get {zs:List Int} (h:D32 zs) (i:Nat):0≤zs.getD i 0∧zs.getD i 0<4294967296:=by
 by_cases hi:i<zs.length
 ·rw[List.getD_eq_getElem?_getD,List.getElem?_eq_getElem hi];exact h _ (List.getElem_mem hi)
 ·rw[List.getD_eq_getElem?_getD,List.getElem?_eq_none (by omega)];exact⟨by decide,by decide⟩
theorem D32.set {zs:List Int} (h:D32 zs) (i:Nat) (x:Int) (h0:0≤x) (h1:x<4294967296):D32 (zs.set i x):=by
 intro z hz
 rcases List.mem_or_eq_of_mem_set hz with h'|rfl
 ·exact h z h'
 ·exact⟨h0,h1⟩
theorem getD_set_other (zs:List Int) (i j:Nat) (x:Int) (h:j≠i):(zs.set i x).getD j 0=zs.getD j 0:=by
 rw[List.getD_eq_getElem?_getD,List.getElem?_set_ne (Ne.symm h),List.getD_eq_getElem?_getD]
theorem getD_set_same (zs:List Int) (i:Nat) (x:Int) (h:i<zs.length):(zs.set i x).getD i 0=x:=by
 rw[List.getD_eq_getElem?_getD,List.getElem?_set_self h];rfl
theorem mul_step (B V o a b c P S:Int) (x:Int) (hx:x=o+a*b+c) (h:V+c*P=S):(V+(x%B-o)*P)+x/B*(P*B)=S+a*(b*P):=by
 have e:x%B+B*(x/B)=x:=Int.emod_add_mul_ediv _ _
 have e2:(x%B+B*(x/B))*P=x*P:=by rw[e]
 subst hx
 grind
theorem mul_row (A x P Y:Int):A*Y+x*(P*Y)=(A+x*P)*Y:=by grind
structure MR (w:World) (xs ys:List Int) (i:Nat) (zs:List Int):Prop where
 len:zs.length=xs.length+ys.length
 dig:D32 zs
 zero:∀ j,i+ys.length≤j→zs.getD j 0=0
def MulPost (w:World) (xs ys:List Int) (e:Ending) (w':World):Prop:=
 ∃ v zs,e=.returned v∧OwnU w' w.heap.size v zs∧zs.length=xs.length+ys.length∧D32 zs∧val 4294967296 zs=val 4294967296 xs*val 4294967296 ys∧Below w.heap.size w w'
set_option maxHeartbeats 1000000 in
theorem mul_any (a a':Option Addr) (n m cap cap':Nat) (xs ys:List Int) (w:World) (hn:xs.length=n) (hm:ys.length=m) (hn':n≤1024) (hm':m≤1024) (hm0:0<m) (hn0:0<n) (ha:At .u64 w a xs) (ha':At .u64 w a' ys) (hx:D32 xs) (hy:D32 ys) :
  Calls Tryz.prog 106 #[.slice a n cap,.slice a' m cap'] w (MulPost w xs ys):=by
 obtain⟨b0,off,rfl,hb0,hc⟩:=ha.get (by omega)
 obtain⟨b1,off',rfl,hb1,hc'⟩:=ha'.get (by omega)
 have HC:Hid (∀ i,i<xs.length→w.cell? ⟨b0,off+i,none⟩=some (.int .u64 (xs.getD i 0))):=hc
 have HC':Hid (∀ i,i<ys.length→w.cell? ⟨b1,off'+i,none⟩=some (.int .u64 (ys.getD i 0))):=hc'
 clear hc hc' ha ha'
 go_enter Tryz.func106,Tryz.ntmps106
 go_wp2
 go_loopw [5,6] (fun v i wr=>∃ k:Nat,k≤n+m∧i=.int .i64 k∧OwnU wr w.heap.size v (List.replicate k 0)∧Below w.heap.size w wr) (fun _ i _=>n+m-(intOf i).toNat)
 case atStart=>exact⟨0,Nat.zero_le _,rfl,OwnK.empty _ _ (Nat.le_refl _),(Below.refl _ _).alloc (Nat.le_refl _) _⟩
 case round=>
  obtain⟨k,hk,rfl,hown,hbel⟩:=hrel;by_cases hlt:k<n+m
  ·have hsz:=hbel.size;have hlt':(k:Int)<(n:Int)+(m:Int):=by omega
   go_wp2_with (at_builtin;refine wpList_appK _ ktU rfl _ _ rfl w.heap.size _ _ rfl (hown.alloc _) ⟨wr.heap.size,0,none⟩ 1 1 [0] rfl rfl ?c1 ?c2 ?c3 ?_);all_goals first|(intro j hj;obtain rfl:j=0:=by omega
                                                                                                                                                                          simp[Addr.add];done)|skip
   case c2=>simp;omega
   case c3=>first|omega|(rw[World.size_alloc];omega)
   intro v' w1 hown' hbel' _;have HO:Hid (OwnU w1 w.heap.size v' (List.replicate (k+1) 0)):=by rw[List.replicate_succ'];exact hown'
   have HB:Hid (Below w.heap.size w w1):=(hbel.alloc (by omega) _).trans hbel';clear hown hown' hbel hbel';go_wp2;go_roundw
   case rel=>exact⟨k+1,by omega,by go_num,HO.out,HB.out⟩
   case measure=>simp[intOf];omega
  ·obtain rfl:k=n+m:=by omega
   obtain⟨g,c,rfl,hg,hg',_⟩:=hown.at_;rw[List.length_replicate] at hown ⊢;have HO:Hid (OwnU wr w.heap.size (.slice (some ⟨g,0,none⟩) (n+m) c) (List.replicate (n+m) 0)):=hown;have HB:Hid (Below w.heap.size w wr):=hbel;have ecast:((n+m:Nat):Int)=(n:Int)+(m:Int):=by omega
   clear hown hbel;go_wp2
   go_loopw [7] (fun i wq=>∃(k:Nat) (zs:List Int),k≤n∧i=.int .i64 k∧MR w xs ys k zs∧val 4294967296 zs=val 4294967296 (xs.take k)*val 4294967296 ys∧OwnU wq w.heap.size (.slice (some ⟨g,0,none⟩) (n+m) c) zs∧Below w.heap.size w wq) (fun i _=>n-(intOf i).toNat)
   case atStart=>
    refine⟨0,List.replicate (n+m) 0,Nat.zero_le _,rfl,⟨by simp[hn,hm],?_,?_⟩,?_,HO.out,HB.out⟩
    ·intro z hz;rw[List.mem_replicate] at hz;omega
    ·intro j hj;simp[List.getD_eq_getElem?_getD,List.getElem?_replicate];split<;>rfl
    ·simp only[List.take_zero,val,Int.zero_mul];generalize n+m=q
     induction q with
     |zero=>rfl
     |succ q ih=>rw[List.replicate_succ];simp[val,ih]
   case round=>
    clear HO HB;obtain⟨k,zs,hk,rfl,⟨hzl,hzd,hzz⟩,hv,hown,hbel⟩:=hrel;by_cases hkn:k<n
    ·have hkn':(k:Int)<(n:Int):=by omega
     have HX:=hx.get k;have HV:Hid (val 4294967296 zs=val 4294967296 (xs.take k)*val 4294967296 ys):=hv;have HVT:Hid (val 4294967296 (xs.take (k+1))=val 4294967296 (xs.take k)+xs.getD k 0*4294967296^k):=val_take _ xs k (by omega);have HO:Hid (OwnU wr w.heap.size (.slice (some ⟨g,0,none⟩) (n+m) c) zs):=hown;have HZ:Hid (zs.length=xs.length+ys.length∧D32 zs∧∀ j,k+ys.length≤j→zs.getD j 0=0):=⟨hzl,hzd,hzz⟩
     have HBE:Hid (Below w.heap.size w wr):=hbel;have HCX:Hid (∀ w',Below w.heap.size w w'→w'.cell? ⟨b0,off+k,none⟩=some (.int .u64 (xs.getD k 0))):=fun w' hb=>by rw[hb.cell (p:=⟨b0,off+k,none⟩) hb0];exact HC.out k (by omega)
     clear hv hown hzl hzd hzz hbel;obtain⟨hX0,hX1⟩:=HX;generalize xs.getD k 0=x at *;go_wp2
     go_loopw [8,9] (fun cc i wq=>∃(j:Nat) (zs:List Int) (b:Int),j≤m∧i=.int .i64 j∧cc=.int .u64 b∧(0≤b∧b<4294967296)∧(zs.length=xs.length+ys.length∧D32 zs∧∀ j,k+ys.length≤j→zs.getD j 0=0)∧val 4294967296 zs+b*4294967296^(k+j)=val 4294967296 (xs.take k)*val 4294967296 ys+x*(4294967296^k*val 4294967296 (ys.take j))∧OwnU wq w.heap.size (.slice (some ⟨g,0,none⟩) (n+m) c) zs∧Below w.heap.size w wq) (fun _ i _=>m-(intOf i).toNat)
     case atStart=>exact⟨0,zs,0,Nat.zero_le _,rfl,rfl,⟨by decide,by decide⟩,HZ.out,by rw[HV.out,List.take_zero];simp[val],HO.out,HBE.out⟩
     case round=>
      clear HV HO HZ HBE;obtain⟨j,zs,b,hj,rfl,rfl,⟨hb0',hb1'⟩,⟨hzl,hzd,hzz⟩,hv,hown,hbel⟩:=hrel;by_cases hjm:j<m
      ·have hjm':(j:Int)<(m:Int):=by omega
       have cx:=HCX.out _ hbel;have cy:wr.cell? ⟨b1,off'+j,none⟩=some (.int .u64 (ys.getD j 0)):=by rw[hbel.cell (p:=⟨b1,off'+j,none⟩) hb1];exact HC'.out j (by omega)
       have HY:=hy.get j;have hzb:=hzd.get (k+j);have vt:=val_take 4294967296 ys j (by omega);obtain⟨pr,hpr⟩:∃ pr,pr=x*ys.getD j 0:=⟨_,rfl⟩
       have hp0:0≤pr:=by rw[hpr];exact Int.mul_nonneg hX0 HY.1
       have hp1:pr≤18446744065119617025:=by
        rw[hpr];exact Int.le_trans (Int.mul_le_mul (show x≤4294967295 by omega) (show ys.getD j 0≤4294967295 by omega) HY.1 (by decide)) (by decide)
       obtain⟨y,hyy⟩:∃ y,y=zs.getD (k+j) 0+pr+b:=⟨_,rfl⟩
       have hy0:0≤y:=by omega
       have hy1:y<18446744073709551616:=by omega
       have st:=mul_step 4294967296 _ (zs.getD (k+j) 0) x (ys.getD j 0) b _ _ y (by rw[hyy,hpr]) hv;have e1:val 4294967296 (xs.take k)*val 4294967296 ys+x*(4294967296^k*val 4294967296 (ys.take j))+x*(ys.getD j 0*4294967296^(k+j))=val 4294967296 (xs.take k)*val 4294967296 ys+x*(4294967296^k*val 4294967296 (ys.take (j+1))):=by
        rw[vt,Int.pow_add];grind
       obtain⟨cz,fz,oz⟩:=OwnK.set (by omega:zs.length=n+m) hown (k+j) (y%4294967296) (by omega);have hle:k+j<zs.length:=by omega
       have HS:Hid (val 4294967296 (zs.set (k+j) (y%4294967296))+y/4294967296*4294967296^(k+(j+1))=val 4294967296 (xs.take k)*val 4294967296 ys+x*(4294967296^k*val 4294967296 (ys.take (j+1)))):=by
        show _=_
        rw[val_set _ _ _ _ hle,←e1,←st,←Nat.add_assoc,Int.pow_succ]
       have HZ:Hid ((zs.set (k+j) (y%4294967296)).length=xs.length+ys.length∧D32 (zs.set (k+j) (y%4294967296))∧∀ i,k+ys.length≤i→(zs.set (k+j) (y%4294967296)).getD i 0=0):=
        ⟨by rw[List.length_set];exact hzl,hzd.set _ _ (by omega) (by omega),fun i hi=>by rw[getD_set_other _ _ _ _ (by omega)];exact hzz i hi⟩
       have HO:Hid (OwnU (wr.setCell ⟨g,k+j,none⟩ (.int .u64 (y%4294967296))) w.heap.size (.slice (some ⟨g,0,none⟩) (n+m) c) (zs.set (k+j) (y%4294967296))):=oz;have HBE:Hid (Below w.heap.size w (wr.setCell ⟨g,k+j,none⟩ (.int .u64 (y%4294967296)))):=hbel.setCell hg _;have HQ:Hid (x*ys.getD j 0=pr):=hpr.symm;have HQ2:Hid (zs.getD (k+j) 0+pr+b=y):=hyy.symm;have hw1:IntKind.u64.wrap (x*ys.getD j 0)=pr:=by rw[←hpr,IntKind.wrap_u64];exact Int.emod_eq_of_lt hp0 (by omega)
       clear e1 st vt oz hv hzd hzz hown hbel hle hpr hzl HVT;obtain⟨hY0,hY1⟩:=HY;obtain⟨hz0,hz1⟩:=hzb;generalize ys.getD j 0=yy at *;generalize zs.getD (k+j) 0=zz at *;have hkj:(k:Int)+(j:Int)<(n:Int)+(m:Int):=by omega
       go_wp2
       go_quiet (fail)
       rw[HQ2.out];have cz2:(wr.drewN nq).cell? ⟨g,k+j,none⟩=some (.int .u64 zz):=cz;have fz2:(wr.drewN nq).frozen? ⟨g,k+j,none⟩=false:=fz;have HO2:Hid (OwnU ((wr.drewN nq).setCell ⟨g,k+j,none⟩ (.int .u64 (y%4294967296))) w.heap.size (.slice (some ⟨g,0,none⟩) (n+m) c) (zs.set (k+j) (y%4294967296))):=HO.out;have HBE2:Hid (Below w.heap.size w ((wr.drewN nq).setCell ⟨g,k+j,none⟩ (.int .u64 (y%4294967296)))):=⟨HBE.out.os,HBE.out.tape,HBE.out.output,HBE.out.size,HBE.out.block⟩
       have hyq0:0≤y/4294967296:=by omega
       have hyq1:y/4294967296<4294967296:=by omega
       clear cz fz HO HBE cx cy HQ hw1 hyy HQ2 hp0 hp1 hz0 hz1;generalize wr.drewN nq=w2 at *;go_wp2;go_roundw
       case rel=>exact⟨j+1,zs.set (k+j) (y%4294967296),y/4294967296,by omega,by go_num,rfl,⟨hyq0,hyq1⟩,HZ.out,HS.out,HO2.out,HBE2.out⟩
       case measure=>simp[intOf];omega
      ·obtain rfl:j=m:=by omega
       rw[List.take_of_length_le (l:=ys) (i:=j) (by omega)] at hv;have hzk:=hzz (k+j) (by omega);obtain⟨cz,fz,oz⟩:=OwnK.set (by omega:zs.length=n+j) hown (k+j) b (by omega);rw[hzk] at cz;have hle:k+j<zs.length:=by omega
       have vs:=val_set 4294967296 zs (k+j) b hle;rw[hzk,Int.sub_zero,hv] at vs;have HS:Hid (val 4294967296 (zs.set (k+j) b)=val 4294967296 (xs.take (k+1))*val 4294967296 ys):=by
        show _=_
        rw[vs,HVT.out,mul_row]
       have HZ:Hid (MR w xs ys (k+1) (zs.set (k+j) b)):=⟨by rw[List.length_set];exact hzl,hzd.set _ _ (by omega) (by omega),fun i hi=>by rw[getD_set_other _ _ _ _ (by omega)];exact hzz i (by omega)⟩
       have HO:Hid (OwnU (wr.setCell ⟨g,k+j,none⟩ (.int .u64 b)) w.heap.size (.slice (some ⟨g,0,none⟩) (n+j) c) (zs.set (k+j) b)):=oz;have HBE:Hid (Below w.heap.size w (wr.setCell ⟨g,k+j,none⟩ (.int .u64 b))):=hbel.setCell hg _;have hkj:(k:Int)+(j:Int)<(n:Int)+(j:Int):=by omega
       clear hv hzk oz hle vs hzz hzd hown hbel HVT HCX hzl;go_wp2;go_roundw
       case rel=>exact⟨k+1,zs.set (k+j) b,by omega,by go_num,HZ.out,HS.out,HO.out,HBE.out⟩
       case measure=>simp[intOf];omega
    ·obtain rfl:k=n:=by omega
     rw[List.take_of_length_le (by omega)] at hv;have hke:zs.length=k+m:=by omega
     have HP:Hid (MulPost w xs ys (.returned (.slice (some ⟨g,0,none⟩) (k+m) c)) wr):=⟨_,zs,rfl,hown,hzl,hzd,hv,hbel⟩
     clear hzl hzd hzz hv hown hbel hke;go_wp2
     go_ret
     exact HP.out
end Go.Proofs.YtapejbpgdjbjjaaGreatDoor
namespace Go.Proofs.YtapejbpgdjbjjaaGreatDoor
open Go.ChangeShapes Go.WideShapes Go.ChangeAt Go.RowKit
set_option linter.unusedVariables false
set_option maxHeartbeats 400000 in
theorem digit_any (a:Option Addr) (n cap i:Nat) (zs:List Int) (w:World) (hn:zs.length=n) (hm:n≤4096) (hi:i≤8192) (ha:At .u64 w a zs) :
  Calls Tryz.prog 115 #[.slice a n cap,.int .i64 i] w fun e w'=>e=.returned (.int .u64 (zs.getD i 0))∧w'=w:=by
 by_cases h:i<n
 ·obtain⟨b,off,rfl,hb,hc⟩:=ha.get (by omega);have c0:=hc i (by omega);have h':(i:Int)<(n:Int):=by omega
  generalize zs.getD i 0=x at *;clear hc;go_enter Tryz.func115,Tryz.ntmps115;go_wp2
  go_ret
  exact⟨rfl,rfl⟩
 ·have e:zs.getD i 0=0:=by rw[List.getD_eq_getElem?_getD,List.getElem?_eq_none (by omega)];rfl
  rw[e];have h':¬ (i:Int)<(n:Int):=by omega
  go_enter Tryz.func115,Tryz.ntmps115;go_wp2
  go_ret
  exact⟨rfl,rfl⟩
theorem want_digit (B p:Int) (k i:Nat) (hB:1<B) (h0:0≤p) (h1:p<B):p*B^k/B^i%B=if i=k then p else 0:=by
 have hp:∀ j:Nat,(0:Int)<B^j:=fun j=>Int.pow_pos (by omega)
 by_cases h:i=k
 ·subst h;rw[if_pos rfl,Int.mul_ediv_cancel _ (Int.ne_of_gt (hp i))];exact Int.emod_eq_of_lt h0 h1
 ·rw[if_neg h];rcases Nat.lt_or_gt_of_ne h with hl|hg
  ·obtain⟨d,rfl⟩:∃ d,k=i+1+d:=⟨k-i-1,by omega⟩
   have e:p*B^(i+1+d)=(p*B^d*B)*B^i:=by rw[Int.pow_add,Int.pow_succ];grind
   rw[e,Int.mul_ediv_cancel _ (Int.ne_of_gt (hp i)),Int.mul_emod_left]
  ·have hlt:p*B^k<B^i:=by
    obtain⟨d,rfl⟩:∃ d,i=k+1+d:=⟨i-k-1,by omega⟩
    have a1:p*B^k<B*B^k:=Int.mul_lt_mul_of_pos_right h1 (hp k);have a2:B*B^k≤B^(k+1+d):=by
     have:B^(k+1+d)=B*B^k*B^d:=by rw[Int.pow_add,Int.pow_succ];grind
     rw[this];have h3:B*B^k*1≤B*B^k*B^d:=Int.mul_le_mul_of_nonneg_left (by have:=hp d;omega) (Int.mul_nonneg (by omega) (Int.le_of_lt (hp k)));omega
    omega
   rw[Int.ediv_eq_zero_of_lt (Int.mul_nonneg h0 (Int.le_of_lt (hp k))) hlt];rfl
theorem high_step {A T P B:Int} (hB:0<B) (hP:0<P) (h:A/(P*B)=T/(P*B)):(A/P%B=T/P%B→A/P=T/P)∧(A/P%B<T/P%B→A<T)∧(T/P%B<A/P%B→T<A):=by
 have e1:=Int.emod_add_mul_ediv (A/P) B
 have e2:=Int.emod_add_mul_ediv (T/P) B
 rw[Int.ediv_ediv_of_nonneg (Int.le_of_lt hP)] at e1 e2
 rw[h] at e1
 have lt:∀ X Y:Int,X/P<Y/P→X<Y:=fun X Y hh=>by
  rcases Int.lt_or_le X Y with h'|h'
  ·exact h'
  ·have:=Int.ediv_le_ediv hP h';omega
 refine⟨fun hh=>?_,fun hh=>lt _ _ ?_,fun hh=>lt _ _ ?_⟩
 ·rw[←e1,←e2,hh]
 ·generalize B*(T/(P*B))=z at *;omega
 ·generalize B*(T/(P*B))=z at *;omega
set_option maxHeartbeats 1000000 in
theorem atm_any (a:Option Addr) (n cap k:Nat) (p:Int) (zs:List Int) (w:World) (hn:zs.length=n) (hm:n≤4096) (hk:k≤1024) (ha:At .u64 w a zs) (hz:D32 zs) (hp0:0≤p) (hp1:p<4294967296) :
  Calls Tryz.prog 107 #[.slice a n cap,.int .u64 p,.int .i64 k] w fun e w'=>e=.returned (.bool (decide (val 4294967296 zs≤p*4294967296^k)))∧w'=w:=by
 have hA0:0≤val 4294967296 zs:=val_nonneg (by decide) hz
 have hA1:val 4294967296 zs<4294967296^n:=by rw[←hn];exact val_lt (by decide) hz
 have hpw:∀ j:Nat,(0:Int)<4294967296^j:=fun j=>Int.pow_pos (by decide)
 have HW:Hid (∀ j:Nat,(0:Int)<4294967296^j):=hpw
 have HT:Hid (val 4294967296 zs/4294967296^(n+k+1)=p*4294967296^k/4294967296^(n+k+1)):=by
  show _=_
  rw[Int.ediv_eq_zero_of_lt hA0,Int.ediv_eq_zero_of_lt (Int.mul_nonneg hp0 (Int.le_of_lt (hpw k)))]
  ·have e:(4294967296:Int)^(n+k+1)=4294967296*4294967296^k*4294967296^n:=by rw[show n+k+1=n+(k+1) by omega,Int.pow_add,Int.pow_succ];grind
   have a1:p*4294967296^k<4294967296*4294967296^k:=Int.mul_lt_mul_of_pos_right hp1 (hpw k);have a2:4294967296*4294967296^k*1≤4294967296*4294967296^k*(4294967296:Int)^n:=Int.mul_le_mul_of_nonneg_left (by have:=hpw n;omega) (Int.mul_nonneg (by decide) (Int.le_of_lt (hpw k)));rw[e];omega
  ·have e:(4294967296:Int)^(n+k+1)=4294967296^n*4294967296^(k+1):=by rw[show n+k+1=n+(k+1) by omega,Int.pow_add]
   have a2:4294967296^n*1≤4294967296^n*(4294967296:Int)^(k+1):=Int.mul_le_mul_of_nonneg_left (by have:=hpw (k+1);omega) (Int.le_of_lt (hpw n));rw[e];omega
 clear hA0 hA1 hpw
 go_enter Tryz.func107,Tryz.ntmps107
 go_wp2
 go_loop [7] (fun i=>∃ j:Nat,j≤n+k+1∧i=.int .i64 ((j:Int)-1)∧val 4294967296 zs/4294967296^j=p*4294967296^k/4294967296^j) (fun i=>(intOf i+1).toNat)
 case atStart=>exact⟨n+k+1,Nat.le_refl _,by go_num,HT.out⟩
 case round=>
  clear HT;obtain⟨j,hj,rfl,hv⟩:=hrel;by_cases hj0:0<j
  ·obtain⟨j,rfl⟩:∃ i,j=i+1:=⟨j-1,by omega⟩
   have ei:((j+1:Nat):Int)-1=(j:Int):=by omega
   rw[ei];clear ei;rw[Int.pow_succ] at hv;obtain⟨g1,g2,g3⟩:=high_step (by decide) (HW.out j) hv;rw[val_digit (by decide) hz,want_digit _ _ _ _ (by decide) hp0 hp1] at g1 g2 g3;have HD:=hz.get j;have H1:Hid (zs.getD j 0=(if j=k then p else 0)→val 4294967296 zs/4294967296^j=p*4294967296^k/4294967296^j):=g1;have H2:Hid (zs.getD j 0<(if j=k then p else 0)→val 4294967296 zs<p*4294967296^k):=g2;have H3:Hid ((if j=k then p else 0)<zs.getD j 0→p*4294967296^k<val 4294967296 zs):=g3;have HA:Hid (At .u64 w a zs):=ha;clear hv g1 g2 g3;generalize hd:zs.getD j 0=d at *;have HG:Hid (zs.getD j 0=d):=hd;obtain⟨hd0,hd1⟩:=HD;clear hd ha;by_cases hjk:j=k
   ·subst hjk;rw[if_pos rfl] at H1 H2 H3;have hjk':((j:Int) == (j:Int))=true:=by simp
    have hfin:∀ q:Bool,(q=decide (d<p))→d≠p→q=decide (val 4294967296 zs≤p*4294967296^j):=fun q hq hne=>by
     rw[hq];by_cases hlt:d<p
     ·have:=H2.out hlt;have h':val 4294967296 zs≤p*4294967296^j:=by omega
      simp[hlt,h']
     ·have:=H3.out (by omega);have h':¬ val 4294967296 zs≤p*4294967296^j:=by omega
      simp[hlt,h']
    have HF:Hid (∀ q:Bool,(q=decide (d<p))→d≠p→q=decide (val 4294967296 zs≤p*4294967296^j)):=hfin;clear hfin H2 H3;go_wp2_with fail;refine(digit_any a n cap j zs _ hn hm (by omega) HA.out).mono ?_;rintro e w1 ⟨rfl,rfl⟩;rw[HG.out];by_cases hdw:d=p
    ·have HE:=H1.out hdw;have HV:Hid (val 4294967296 zs/4294967296^j=p*4294967296^j/4294967296^j):=HE;have hdw':(d != p)=false:=by simpa using hdw
     have hdw2:(d == p)=true:=by simpa using hdw
     clear HE HF H1 hdw;go_wp2
     go_round
     case rel=>exact⟨j,by omega,rfl,HV.out⟩
     case measure=>first|(simp[intOf];done)|(simp[intOf];omega)
    ·have hdw':(d != p)=true:=by simpa using hdw
     have HN:Hid (d≠p):=hdw;clear hdw H1;go_wp2_with fail;refine(digit_any a n cap j zs _ hn hm (by omega) HA.out).mono ?_;rintro e w2 ⟨rfl,rfl⟩;rw[HG.out];obtain⟨q,hq⟩:∃ q,q=decide (d<p):=⟨_,rfl⟩
     have HQ:Hid (q=decide (val 4294967296 zs≤p*4294967296^j)):=HF.out q hq HN.out;have hq':decide (d<p)=q:=hq.symm;clear hq HF;by_cases hlt:d<p
     ·obtain rfl:q=true:=by rw[←hq'];simpa using hlt
      clear hq';go_wp2
      go_ret
      exact⟨by rw[←HQ.out];rfl,rfl⟩
     ·obtain rfl:q=false:=by rw[←hq'];simpa using hlt
      have HD:Hid (decide (d<p)=false):=hq';clear hq';go_wp2
      go_ret
      refine⟨?_,rfl⟩;show Ending.returned (.bool (decide (d<p)))=_
      rw[HD.out,←HQ.out]
   ·rw[if_neg hjk] at H1 H2 H3;have hjk':((j:Int) == (k:Int))=false:=by simp;omega
    have hfin:∀ q:Bool,(q=decide (d<0))→d≠0→q=decide (val 4294967296 zs≤p*4294967296^k):=fun q hq hne=>by
     rw[hq];by_cases hlt:d<0
     ·have:=H2.out hlt;have h':val 4294967296 zs≤p*4294967296^k:=by omega
      simp[hlt,h']
     ·have:=H3.out (by omega);have h':¬ val 4294967296 zs≤p*4294967296^k:=by omega
      simp[hlt,h']
    have HF:Hid (∀ q:Bool,(q=decide (d<0))→d≠0→q=decide (val 4294967296 zs≤p*4294967296^k)):=hfin;clear hfin H2 H3;go_wp2_with fail;refine(digit_any a n cap j zs _ hn hm (by omega) HA.out).mono ?_;rintro e w1 ⟨rfl,rfl⟩;rw[HG.out];by_cases hdw:d=0
    ·have HE:=H1.out hdw;have HV:Hid (val 4294967296 zs/4294967296^j=p*4294967296^k/4294967296^j):=HE;have hdw':(d != 0)=false:=by simpa using hdw
     have hdw2:(d == 0)=true:=by simpa using hdw
     clear HE HF H1 hdw;go_wp2
     go_round
     case rel=>exact⟨j,by omega,rfl,HV.out⟩
     case measure=>first|(simp[intOf];done)|(simp[intOf];omega)
    ·have hdw':(d != 0)=true:=by simpa using hdw
     have HN:Hid (d≠0):=hdw;clear hdw H1;go_wp2_with fail;refine(digit_any a n cap j zs _ hn hm (by omega) HA.out).mono ?_;rintro e w2 ⟨rfl,rfl⟩;rw[HG.out];obtain⟨q,hq⟩:∃ q,q=decide (d<0):=⟨_,rfl⟩
     have HQ:Hid (q=decide (val 4294967296 zs≤p*4294967296^k)):=HF.out q hq HN.out;have hq':decide (d<0)=q:=hq.symm;clear hq HF;by_cases hlt:d<0
     ·obtain rfl:q=true:=by rw[←hq'];simpa using hlt
      clear hq';go_wp2
      go_ret
      exact⟨by rw[←HQ.out];rfl,rfl⟩
     ·obtain rfl:q=false:=by rw[←hq'];simpa using hlt
      have HD:Hid (decide (d<0)=false):=hq';clear hq';go_wp2
      go_ret
      refine⟨?_,rfl⟩;show Ending.returned (.bool (decide (d<0)))=_
      rw[HD.out,←HQ.out]
  ·obtain rfl:j=0:=by omega
   rw[Int.pow_zero,Int.ediv_one,Int.ediv_one] at hv;have HE:Hid (decide (val 4294967296 zs≤p*4294967296^k)=true):=by show _=_;rw[hv];simp
   clear hv;go_wp2
   go_ret
   exact⟨by rw[HE.out];rfl,rfl⟩
end Go.Proofs.YtapejbpgdjbjjaaGreatDoor
namespace Go.Proofs.YtapejbpgdjbjjaaGreatDoor
open Go.ChangeShapes Go.WideShapes Go.ChangeAt Go.RowKit
set_option linter.unusedVariables false
def prm (n:Nat):Bool:=decide (2≤n) && (List.range 32).all (fun d=>decide (d<2) || decide (n<d*d) || !decide (n%d=0))
theorem prm_of {n d:Nat} (hd:2≤d) (h:n%d=0) (hn:d*d≤n) (h32:d<32):prm n=false:=by
 unfold prm
 rw[Bool.and_eq_false_iff];right
 rw[List.all_eq_false]
 refine⟨d,List.mem_range.2 h32,?_⟩
 simp[h];omega
theorem prm_end {n:Nat} (d:Nat) (hn:n<d*d) (h:∀ e,2≤e→e<d→n%e≠0):prm n=decide (2≤n):=by
 unfold prm
 rw[List.all_eq_true.2 (fun e _=>?_),Bool.and_true]
 by_cases h1:e<2
 ·simp[h1]
 ·by_cases h2:e<d
  ·have:=h e (by omega) h2;simp[this]
  ·have:n<e*e:=Nat.lt_of_lt_of_le hn (Nat.mul_le_mul (by omega) (by omega));simp[this]
set_option maxHeartbeats 400000 in
theorem isPrm_any (n:Nat) (w:World) (hn:n<1024) :
  Calls Tryz.prog 108 #[.int .u64 n] w fun e w'=>e=.returned (.bool (prm n))∧w'=w:=by
 go_enter Tryz.func108,Tryz.ntmps108
 go_wp2
 go_loop [3] (fun i=>∃ d:Nat,i=.int .u64 d∧2≤d∧d≤33∧∀ e,2≤e→e<d→n%e≠0) (fun i=>33-(intOf i).toNat)
 case atStart=>exact⟨2,rfl,by decide,by decide,fun e h1 h2=>by omega⟩
 case round=>
  obtain⟨d,rfl,hd,hd',hall⟩:=hrel;have hA:Hid (∀ e,2≤e→e<d→n%e≠0):=hall;clear hall;by_cases hle:d*d≤n
  ·have h32:d<32:=by
    rcases Nat.lt_or_ge d 32 with h|h
    ·exact h
    ·have:=Nat.mul_le_mul h h;omega
   have hdd:d*d<1024:=by omega
   have hle':((d:Int)*(d:Int))≤(n:Int):=by rw[←Int.natCast_mul];omega
   have hdd':((d:Int)*(d:Int))<1024:=by rw[←Int.natCast_mul];omega
   have hdd0:0≤((d:Int)*(d:Int)):=Int.mul_nonneg (by omega) (by omega);by_cases hz:n%d=0
   ·have HP:Hid (prm n=false):=prm_of hd hz hle h32;have hz':(n:Int)%(d:Int)=0:=by exact_mod_cast hz
    have hz2:(n:Int).tmod (d:Int)=0:=by rw[Int.tmod_eq_emod_of_nonneg (by omega)];exact hz'
    have hne:¬ (d:Int)=0:=by omega
    clear hz hle;go_wp2
    go_ret
    exact⟨by rw[HP.out];rfl,rfl⟩
   ·have hz':¬ (n:Int)%(d:Int)=0:=by rw[←Int.natCast_emod];omega
    have hz2:¬ (n:Int).tmod (d:Int)=0:=by rw[Int.tmod_eq_emod_of_nonneg (by omega)];exact hz'
    have hz3:((n:Int)%(d:Int) == 0)=false:=by simpa using hz'
    have hz4:((n:Int).tmod (d:Int) == 0)=false:=by simpa using hz2
    have hne:¬ (d:Int)=0:=by omega
    have HN:Hid (∀ e,2≤e→e<d+1→n%e≠0):=fun e h1 h2=>by
     rcases Nat.lt_or_ge e d with h|h
     ·exact hA.out e h1 h
     ·obtain rfl:e=d:=by omega
      exact hz
    clear hle hA hz;go_wp2
    go_round
    case rel=>exact⟨d+1,by go_num,by omega,by omega,HN.out⟩
    case measure=>simp[intOf];omega
  ·have HP:Hid (prm n=decide (2≤n)):=prm_end d (by omega) hA.out;have hdd:d*d≤1089:=Nat.mul_le_mul hd' hd';have hgt:(n:Int)<((d:Int)*(d:Int)):=by rw[←Int.natCast_mul];omega
   have hgt':¬ ((d:Int)*(d:Int))≤(n:Int):=by omega
   have hdd':((d:Int)*(d:Int))≤1089:=by rw[←Int.natCast_mul];omega
   clear hle hA;by_cases h2:2≤n
   ·have h2':(2:Int)≤(n:Int):=by omega
    have HP2:Hid (prm n=true):=by show prm n=true;rw[HP.out];simpa using h2
    go_wp2
    go_ret
    exact⟨by rw[HP2.out];rfl,rfl⟩
   ·have h2':¬ (2:Int)≤(n:Int):=by omega
    have HP2:Hid (prm n=false):=by show prm n=false;rw[HP.out];simpa using h2
    go_wp2
    go_ret
    exact⟨by rw[HP2.out];rfl,rfl⟩
def prs:List Nat:=[2,3,5,7,11,13,17,19,23,29,31,37,41,43,47,53,59,61,67,71,73,79,83,89,97,101,103,107,109,113,127,131,137,139,149,151,157,163,167,173,179,181,191,193,197,199,211,223,227,229,233,239,241,251,257,263,269,271,277,281,283,293,307,311,313,317,331,337,347,349,353,359,367,373,379,383,389,397,401,409]
def prs0:List Nat:=1::prs
theorem prs_all:∀ m<410,prm m=prs.contains m:=by decide +kernel
theorem prs_gap:∀ k<80,∀ j<80,¬ (prs0.getD k 0<prs.getD j 0∧prs.getD j 0<prs0.getD (k+1) 0):=by decide +kernel
theorem prs_up:∀ k<80,prs0.getD k 0<prs0.getD (k+1) 0∧prs0.getD (k+1) 0<410∧prs.contains (prs0.getD (k+1) 0)=true:=by decide +kernel
theorem prm_gap {k m:Nat} (hk:k<80) (h1:prs0.getD k 0<m) (h2:m<prs0.getD (k+1) 0):prm m=false:=by
 have:=(prs_up k hk).2.1
 rw[prs_all m (by omega)]
 cases h:prs.contains m with
 |false=>rfl
 |true=>
  exfalso
  rw[List.contains_iff_mem] at h;obtain⟨j,hj,rfl⟩:=List.mem_iff_getElem.1 h;have hj':j<80:=hj;have:=prs_gap k hk j hj';rw[List.getD_eq_getElem?_getD (l:=prs),List.getElem?_eq_getElem hj] at this;exact this ⟨h1,h2⟩
theorem prm_hit {k:Nat} (hk:k<80):prm (prs0.getD (k+1) 0)=true:=by
 have:=prs_up k hk
 rw[prs_all _ this.2.1];exact this.2.2
set_option maxHeartbeats 400000 in
theorem prime_any (t:Nat) (w:World) (ht:t<80) :
  Calls Tryz.prog 86 #[.int .i64 t] w fun e w'=>e=.returned (.int .u64 (prs0.getD (t+1) 0:Nat))∧w'=w:=by
 go_enter Tryz.func86,Tryz.ntmps86
 go_wp2
 go_loop [3,4] (fun n i=>∃ k:Nat,k≤t+1∧i=.int .i64 k∧n=.int .u64 (prs0.getD k 0:Nat)) (fun _ i=>t+1-(intOf i).toNat)
 case atStart=>exact⟨0,Nat.zero_le _,rfl,rfl⟩
 case round=>
  obtain⟨k,hk,rfl,rfl⟩:=hrel;by_cases hlt:k<t+1
  ·obtain⟨hu1,hu2,hu3⟩:=prs_up k (by omega);have HG:Hid (∀ m,prs0.getD k 0<m→m<prs0.getD (k+1) 0→prm m=false):=fun m h1 h2=>prm_gap (by omega) h1 h2
   have HH:Hid (prm (prs0.getD (k+1) 0)=true):=prm_hit (by omega);clear hu3;generalize prs0.getD k 0=p at *;generalize hq:prs0.getD (k+1) 0=q at *;have HQ:Hid (prs0.getD (k+1) 0=q):=hq;clear hq;go_wp2
   go_loop [3] (fun i=>∃ m:Nat,i=.int .u64 m∧p<m∧m≤q) (fun i=>q-(intOf i).toNat)
   case atStart=>exact⟨p+1,by go_num,by omega,by omega⟩
   case round=>
    obtain⟨m,rfl,hm1,hm2⟩:=hrel;by_cases hmq:m<q
    ·have HF:Hid (prm m=false):=HG.out m hm1 hmq;go_wp2_with fail;refine(isPrm_any m _ (by omega)).mono ?_;rintro e w1 ⟨rfl,rfl⟩;rw[HF.out];go_wp2
     go_round
     case rel=>exact⟨m+1,by go_num,by omega,by omega⟩
     case measure=>simp[intOf];omega
    ·obtain rfl:m=q:=by omega
     go_wp2_with fail;refine(isPrm_any m _ (by omega)).mono ?_;rintro e w1 ⟨rfl,rfl⟩;rw[HH.out];go_wp2
     go_round
     case rel=>exact⟨k+1,by omega,by go_num,by rw[HQ.out]⟩
     case measure=>simp[intOf];omega
  ·obtain rfl:k=t+1:=by omega
   go_wp2
   go_ret
   exact⟨rfl,rfl⟩
end Go.Proofs.YtapejbpgdjbjjaaGreatDoor
