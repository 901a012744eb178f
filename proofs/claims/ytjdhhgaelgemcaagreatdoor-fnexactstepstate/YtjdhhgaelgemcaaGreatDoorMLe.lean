import Derived.Test.YtjdhhgaelgemcaaGreatDoorMRowB
import Derived.Test.YtjdhhgaelgemcaaGreatDoorMOwnB
import Derived.Test.YtjdhhgaelgemcaaGreatDoorMReg
import Derived.BigRegion
import Derived.Test.YtjdhhgaelgemcaaGreatDoorMIRt
import Derived.Test.YtjdhhgaelgemcaaGreatDoorMSAf
import Derived.Test.YtjdhhgaelgemcaaGreatDoorMFerm
import Derived.Test.YtjdhhgaelgemcaaGreatDoorMSPow12
import Derived.Test.YtjdhhgaelgemcaaGreatDoorMSvB
namespace Go.Proofs.YtjdhhgaelgemcaaGreatDoor
open Go.ChangeShapes Go.WideShapes Go.ChangeAt Go.RowKit
set_option linter.unusedVariables false
theorem i64_or_nat (a b:Nat) (ha:a<4611686018427387904) (hb:b<4611686018427387904):bits .or .i64 (a:Int) (b:Int)=((a ||| b:Nat):Int):=by
 have hx:a ||| b<2^62:=Nat.or_lt_two_pow (by omega) (by omega);show IntKind.i64.wrap ((BitVec.ofInt 64 (a:Int) ||| BitVec.ofInt 64 (b:Int)).toNat:Int)=_
 rw[BitVec.toNat_or,ofInt_u64 a (by omega),ofInt_u64 b (by omega),IntKind.wrap_i64];omega
theorem i64_or_add (a b:Int) (k:Nat) (ha:0≤a) (ha':a<4611686018427387904) (hb:0≤b) (hb':b<2^k) (hb'':b<4611686018427387904) (q:Int) (hd:a=q*2^k):bits .or .i64 b a=b+a:=by
 have h:=u64_or_add a b k ha (by omega) hb hb' (by omega) q hd;obtain⟨a,rfl⟩:=Int.eq_ofNat_of_zero_le ha;obtain⟨b,rfl⟩:=Int.eq_ofNat_of_zero_le hb;rw[u64_or_nat a b (by omega) (by omega)] at h;rw[i64_or_nat b a (by omega) (by omega),Nat.or_comm];omega
theorem le_step (v x:Int) (j:Nat) (hj:j<7) (h0:0≤v) (h1:v<256^j) (x0:0≤x) (x1:x<256) :
  bits .or .i64 v (wrap64 (x*2^(8*j)))=v+x*256^j:=by
 have e:(2:Int)^(8*j)=256^j:=by rw[Int.pow_mul];rfl
 have hle:(256:Int)^j≤256^6:=by
  have:j=0∨j=1∨j=2∨j=3∨j=4∨j=5∨j=6:=by omega
  rcases this with h|h|h|h|h|h|h<;>rw[h]<;>decide
 have hP0:(0:Int)<256^j:=Int.pow_pos (by decide);have e7:(256:Int)^6=281474976710656:=by decide
 rw[e7] at hle;have m0:0≤x*256^j:=Int.mul_nonneg x0 (by omega);have m1:x*256^j≤255*256^j:=Int.mul_le_mul_of_nonneg_right (by omega) (by omega);rw[e];unfold wrap64;have e2:(x*256^j+9223372036854775808)%18446744073709551616-9223372036854775808=x*256^j:=by omega
 rw[e2];exact i64_or_add _ _ (8*j) m0 (by omega) h0 (by rw[e];exact h1) (by omega) x (by rw[e])
set_option maxHeartbeats 400000 in
theorem le_any (a:Option Addr) (n cap:Nat) (zs:List Int) (w:World) (hn:zs.length=n) (hm:n≤7) (ha:At .u8 w a zs) (hz:Byte zs) :
  Calls Tryz.prog 100 #[.slice a n cap] w fun e w'=>e=.returned (.int .i64 (val 256 zs))∧w'=w:=by
 go_enter Tryz.func100,Tryz.ntmps100;go_wp2
 go_loop [3,8] (fun c i=>∃ k:Nat,k≤n∧i=.int .i64 k∧c=.int .i64 (val 256 (zs.take k))) (fun _ i=>n-(intOf i).toNat)
 case atStart=>exact⟨0,Nat.zero_le _,rfl,rfl⟩
 case round=>
  obtain⟨k,hk,rfl,rfl⟩:=hrel;by_cases hlt:k<n
  ·obtain⟨b,off,rfl,hb,hc⟩:=ha.get (by omega);have hck:=hc k (by omega);have hx:=hz.get k;have ht0:0≤val 256 (zs.take k):=val_nonneg (by decide) (fun z hz'=>hz z (List.mem_of_mem_take hz'));have ht1:val 256 (zs.take k)<256^k:=by
    have:=val_lt (B:=256) (by decide) (xs:=zs.take k) (fun z hz'=>hz z (List.mem_of_mem_take hz'))
    rwa [List.length_take,Nat.min_eq_left (by omega)] at this
   have hs:=le_step _ _ k (by omega) ht0 ht1 hx.1 hx.2;rw[←val_take 256 zs k (by omega)] at hs;have HS:Hid (bits .or .i64 (val 256 (zs.take k)) (wrap64 (zs.getD k 0*2^(8*k)))=val 256 (zs.take (k+1))):=hs;clear hs hc ht0 ht1;generalize zs.getD k 0=x at *;generalize val 256 (zs.take k)=c at *;obtain⟨hx0,hx1⟩:=hx;go_wp2
   go_round
   case rel=>exact⟨k+1,by omega,by go_num,by rw[←HS.out]⟩
   case measure=>simp[intOf];omega
  ·have hk':k=n:=by omega
   subst hk';have HT:Hid (zs.take k=zs):=List.take_of_length_le (by omega);go_wp2
   go_ret
   exact⟨ret_int (by rw[HT.out]),rfl⟩
end Go.Proofs.YtjdhhgaelgemcaaGreatDoor
namespace Go.Proofs.YtjdhhgaelgemcaaGreatDoor
set_option linter.unusedVariables false
theorem ml (a b:Int):(a%fp)*b%fp=a*b%fp:=by rw[Int.mul_emod,Int.emod_emod_of_dvd _ (Int.dvd_refl fp),←Int.mul_emod]
theorem mr (a b:Int):a*(b%fp)%fp=a*b%fp:=by rw[Int.mul_emod,Int.emod_emod_of_dvd _ (Int.dvd_refl fp),←Int.mul_emod]
theorem mpow (a:Int) (n:Nat):(a%fp)^n%fp=a^n%fp:=by
 induction n with
 |zero=>simp only[Int.pow_zero]
 |succ n ih=>rw[Int.pow_succ,Int.pow_succ,mr,Int.mul_emod,ih,←Int.mul_emod]
theorem ml2 (u a b:Int):u*(a%fp*b)%fp=u*(a*b)%fp:=by rw[←mr u (a%fp*b),ml,mr]
def exF (low nb top:Nat):Nat→Nat
 |0=>0
 |k+1=>2*exF low nb top k+(if pbit low nb (top-k) then 1 else 0)
theorem pwF_pow (x:Int) (low nb top k:Nat):pwF x low nb top k=x^exF low nb top k%fp:=by
 induction k with
 |zero=>simp only[pwF,exF,Int.pow_zero];decide
 |succ k ih=>
  simp only[pwF,exF,ih,pstep];split
  ·generalize exF low nb top k=E;have h1:∀ A:Int,A%fp*(A%fp)*x%fp=A*A*x%fp:=fun A=>by rw[←ml (A%fp*(A%fp)) x,mod_mul_mod,ml]
   rw[ml,h1,Int.pow_succ,Nat.two_mul,Int.pow_add]
  ·rw[ml,mr,Nat.add_zero,Nat.two_mul,Int.pow_add]
theorem ex0:exF 11 5 254 255=fpN-2:=by decide +kernel
theorem ex1:exF 5 3 251 252=(fpN-5)/8:=by decide +kernel
theorem exM:M250*4+1=(fpN-5)/8:=by unfold M250 m250;decide +kernel
theorem fermatI (x:Int) (h0:0<x) (h1:x<fp):x^(fpN-1)%fp=1:=by
 obtain⟨a,rfl⟩:=Int.eq_ofNat_of_zero_le (Int.le_of_lt h0);rw[fp_fpN] at h1 ⊢;have ha:¬ fpN∣a:=fun h=>by
  have:=Nat.le_of_dvd (by omega) h;omega
 have:=fermat (p:=fpN) fp_prm a ha;rw[←Int.natCast_pow,←Int.natCast_emod,this];rfl
theorem root_same (u v:Int) (p e:Nat) (hp:p=8*e+5) (hv:v^(p-1)%fp=1) :
  u*(v*v*v)*(u*(v*v*v)*(v*v*(v*v)))^e%fp=u*v^(p-2)*(u*v^(p-2))^e%fp:=by
 have e1:u*v^(p-2)*(u*v^(p-2))^e=u*u^e*(v^3*(v^7)^e)*(v^(p-1))^e:=by
  rw[Int.mul_pow,←Int.pow_mul,←Int.pow_mul,←Int.pow_mul];have:v^(p-2)*v^((p-2)*e)=v^3*v^(7*e)*v^((p-1)*e):=by
   rw[←Int.pow_add,←Int.pow_add,←Int.pow_add]
   congr 1
   subst hp;have a1:8*e+5-2=8*e+3:=by omega
   have a2:8*e+5-1=8*e+4:=by omega
   rw[a1,a2,Nat.add_mul,Nat.add_mul];omega
  generalize v^(p-2)=A at *;generalize v^((p-2)*e)=B at *;generalize v^(7*e)=C at *;generalize v^((p-1)*e)=E at *;generalize u^e=F at *;have h3:v^3=v*v*v:=by simp only[Int.pow_succ,Int.pow_zero,Int.one_mul]
  rw[h3] at *
  grind
 have e2:u*(v*v*v)*(u*(v*v*v)*(v*v*(v*v)))^e=u*u^e*(v^3*(v^7)^e):=by
  have h7:u*(v*v*v)*(v*v*(v*v))=u*v^7:=by simp only[Int.pow_succ,Int.pow_zero,Int.one_mul];grind
  rw[h7,Int.mul_pow];have h3:v^3=v*v*v:=by simp only[Int.pow_succ,Int.pow_zero,Int.one_mul]
  rw[h3];generalize (v^7)^e=C;generalize u^e=F
  grind
 rw[e1,e2,Int.mul_emod _ ((v^(p-1))^e),←mpow (v^(p-1)) e,hv,Int.one_pow];generalize u*u^e*(v^3*(v^7)^e)=Z;rw[show(1:Int)%fp=1 from by decide,Int.mul_one,Int.emod_emod_of_dvd _ (Int.dvd_refl fp)]
theorem fp_odd_root:fpN=8*((fpN-5)/8)+5:=by decide +kernel
theorem inv0_eq (x:Int):inv0 x=x^(fpN-2)%fp:=by unfold inv0;rw[pwF_pow,ex0]
theorem pw1_eq (x:Int):pw1 x=x^((fpN-5)/8)%fp:=by unfold pw1;rw[pwF_pow,ex1]
theorem rpF_eq (x:Int):rpF x=x^((fpN-5)/8)%fp:=by unfold rpF;rw[exM]
theorem rt_md (u v:Int) (h0:0<v) (h1:v<fp):rtF u v=u*inv0 v%fp*pw1 (u*inv0 v%fp)%fp:=by
 have hs:=root_same u v fpN ((fpN-5)/8) fp_odd_root (fermatI v h0 h1);unfold rtF;rw[rpF_eq,pw1_eq,inv0_eq];have s1:sqN v 1=v*v%fp:=rfl;have s2:sqN v 2=v*v%fp*(v*v%fp)%fp:=rfl;rw[s1,s2];generalize (fpN-5)/8=e at *;generalize v^(fpN-2)=I at *;have a1:u*(v*v%fp*v%fp)%fp=u*(v*v*v)%fp:=by rw[mr,ml2]
 have a2:v*v%fp*(v*v%fp)%fp=v*v*(v*v)%fp:=mod_mul_mod _ _;have a3:u*(I%fp)%fp=u*I%fp:=mr _ _;rw[a1,a2,a3,mod_mul_mod (u*(v*v*v)) (v*v*(v*v)),mpow,mpow,mod_mul_mod,mod_mul_mod];exact hs
def dNr:Nat:=37095705934669439343138083508754565189542113879843219016388785533085940283555
theorem mdD_N:mdD=(dNr:Int):=by decide +kernel
theorem curveD_N:ev curveDL=(dNr:Int):=by decide +kernel
theorem s_sq:pw2 (2%fp)*pw2 (2%fp)%fp=fp-1:=by decide +kernel
theorem s_eq:ev sm1L=pw2 (2%fp):=by decide +kernel
theorem d_non:mpw dNr fpN 255 ((fpN-1)/2)=fpN-1:=by decide +kernel
theorem d_nonI:(dNr:Int)^((fpN-1)/2)%fp=fp-1:=by
 have h:=mpw_eq dNr fpN 255 ((fpN-1)/2) (by decide +kernel);rw[d_non] at h;rw[fp_fpN,←Int.natCast_pow,←Int.natCast_emod,←h];decide +kernel
theorem half_even:(fpN-1)/2=2*((fpN-1)/4):=by decide +kernel
theorem half_two:2*((fpN-1)/2)=fpN-1:=by decide +kernel
theorem v_ne (Y:Int) (h0:0≤Y) (h1:Y<fp):((dNr:Int)*(Y*Y%fp)%fp+1%fp)%fp≠0:=by
 intro h;have hz:(dNr:Int)*(Y*Y)%fp=fp-1:=by
  rw[mr,show(1:Int)%fp=1 from by decide] at h;have a:=Int.emod_nonneg ((dNr:Int)*(Y*Y)) (show fp≠0 by decide);have b:=Int.emod_lt_of_pos ((dNr:Int)*(Y*Y)) (show 0<fp by decide);generalize (dNr:Int)*(Y*Y)%fp=q at *;rw[fp_lit] at *;omega
 have hY:0<Y:=by
  rcases Int.lt_or_eq_of_le h0 with h|h
  ·exact h
  ·subst h;rw[Int.mul_zero,Int.mul_zero] at hz;exact absurd hz (by decide)
 have f:=fermatI Y hY h1;have e1:((dNr:Int)*(Y*Y))^((fpN-1)/2)%fp=fp-1:=by
  rw[Int.mul_pow,←mod_mul_mod,d_nonI];have:(Y*Y)^((fpN-1)/2)=Y^(fpN-1):=by
   rw[←half_two,Int.pow_mul]
   congr 1
   simp only[Int.pow_succ,Int.pow_zero,Int.one_mul]
  rw[this,f];decide
 have e2:((dNr:Int)*(Y*Y))^((fpN-1)/2)%fp=1:=by
  rw[←mpow,hz,half_even,Int.pow_mul,←mpow];have:(fp-1)^2%fp=1:=by decide
  rw[this,Int.one_pow];decide
 rw[e1] at e2;exact absurd e2 (by decide)
end Go.Proofs.YtjdhhgaelgemcaaGreatDoor
namespace Go.Proofs.YtjdhhgaelgemcaaGreatDoor
set_option linter.unusedVariables false
set_option linter.unusedSimpArgs false
theorem vI (v:Int) (h0:0<v) (h1:v<fp):v*inv0 v%fp=1:=by
 have f:=fermatI v h0 h1;rw[inv0_eq,mr];rw[show fpN-1=(fpN-2)+1 from by decide +kernel,Int.pow_succ,Int.mul_comm] at f;exact f
theorem over_iff (a u v I:Int) (h:v*I%fp=1) (hu:u%fp=u):a*v%fp=u↔a%fp=u*I%fp:=by
 constructor
 ·intro e;have:a%fp=a*(v*I)%fp:=by rw[←mr,h,Int.mul_one]
  rw[this,←Int.mul_assoc,←ml,e]
 ·intro e;rw[←ml,e,ml,Int.mul_assoc,Int.mul_comm I v,←mr,h,Int.mul_one,hu]
theorem neg_iff (x u:Int) (h0:0≤u) (h1:u<fp):x%fp=(0-u)%fp↔(-x)%fp=u:=by
 rw[fp_lit] at *;omega
theorem rc_eq (u v:Int):rcF u v=rtF u v*rtF u v*v%fp:=by
 show rtF u v*rtF u v%fp*v%fp=_
 rw[ml]
theorem first_iff (u v:Int) (h0:0<v) (h1:v<fp) (u0:0≤u) (u1:u<fp):rcF u v=u↔rtF u v*rtF u v%fp=u*inv0 v%fp:=by
 rw[rc_eq];exact over_iff _ u v _ (vI v h0 h1) (Int.emod_eq_of_lt u0 u1)
theorem neg_one_mod (a:Int):a*(fp-1)%fp=(-a)%fp:=by
 rw[show a*(fp-1)=-a+fp*a from by grind,Int.add_mul_emod_self_left]
theorem second_iff (u v:Int) (h0:0<v) (h1:v<fp) (u0:0≤u) (u1:u<fp) :
  rcF u v=(0-u)%fp↔(rtF u v*pw2 (2%fp)%fp)*(rtF u v*pw2 (2%fp)%fp)%fp=u*inv0 v%fp:=by
 have hq:(rtF u v*pw2 (2%fp)%fp)*(rtF u v*pw2 (2%fp)%fp)%fp=(-(rtF u v*rtF u v))%fp:=by
  rw[mod_mul_mod];have:=s_sq;generalize pw2 (2%fp)=s at *;generalize rtF u v=r at *;rw[show r*s*(r*s)=r*r*(s*s) from by grind,←mr,this,neg_one_mod]
 rw[hq,rc_eq,neg_iff _ u u0 u1,←over_iff _ u v _ (vI v h0 h1) (Int.emod_eq_of_lt u0 u1),Int.neg_mul]
theorem uF_eq (Y:Int):uF Y=mdU Y:=by
 unfold uF mdU;rw[show ev oneL=1%fp from by decide];rfl
theorem vF_eq (Y:Int):vF Y=mdV Y mdD:=by
 unfold vF mdV;rw[show ev oneL=1%fp from by decide,curveD_N,mdD_N,Int.mul_comm];rfl
theorem mdV_bd (Y:Int) (h0:0≤Y) (h1:Y<fp):0<mdV Y mdD∧mdV Y mdD<fp:=by
 have h:=v_ne Y h0 h1;rw[←mdD_N] at h;unfold mdV;generalize mdD*(Y*Y%fp)%fp+1%fp=q at *;rw[fp_lit] at *;omega
theorem mdU_bd (Y:Int):0≤mdU Y∧mdU Y<fp:=by unfold mdU;rw[fp_lit];omega
theorem roots_same (Y:Int) (h0:0≤Y) (h1:Y<fp):drR (uF Y) (vF Y)=mdOk Y mdD∧drX (uF Y) (vF Y)=mdX Y mdD:=by
 rw[uF_eq,vF_eq];have hv:=mdV_bd Y h0 h1;have hu:=mdU_bd Y;have hR:mdR Y mdD=rtF (mdU Y) (mdV Y mdD):=(rt_md _ _ hv.1 hv.2).symm;have i1:=first_iff _ _ hv.1 hv.2 hu.1 hu.2;have i2:=second_iff _ _ hv.1 hv.2 hu.1 hu.2;unfold drR drX mdOk mdX mdQ mdW;rw[hR,s_eq];refine⟨?_,?_⟩
 ·rw[decide_eq_decide.2 i1,decide_eq_decide.2 i2]
 ·by_cases h:rcF (mdU Y) (mdV Y mdD)=mdU Y
  ·rw[if_pos h,if_pos (i1.1 h)]
  ·rw[if_neg h,if_neg (fun e=>h (i1.2 e))]
theorem mdX_bd (Y:Int):0≤mdX Y mdD∧mdX Y mdD<fp:=by
 unfold mdX mdQ mdR;generalize mdW Y mdD*pw1 (mdW Y mdD)=a;generalize a%fp*pw2 (2%fp)=b;split<;>(rw[fp_lit];omega)
theorem odd_same (zs:List Int) (hl:zs.length=32) (hz:Byte zs):dcO zs=(mO zs == 1):=by
 unfold dcO mO;have e:=val_take 256 zs 31 (by omega);rw[List.take_of_length_le (by omega)] at e;have dg:Dig 256 (zs.take 31):=fun z hz'=>hz z (List.mem_of_mem_take hz')
 have b0:=val_nonneg (B:=256) (by decide) dg;have b1:=val_lt (B:=256) (by decide) dg;rw[List.length_take,hl,show min 31 32=31 from rfl] at b1;have e3:(256:Int)^31=452312848583266388373324160190187140051835877600158453279131187530910662656:=by decide
 rw[e3] at e b1;have hb:=hz.get 31;have:val 256 zs/(fp+19)=zs.getD 31 0/128:=by rw[fp_lit];omega
 rw[this]
theorem par_all (x:Int) (o:Bool) (h0:0≤x) (h1:x<fp):((((if((x%2 == 1) != o)=true then(0-x)%fp else x)%2 == 1) == o))=!(o && decide (x=0%fp)):=by
 have hz:(0:Int)%fp=0:=by decide
 rw[hz];rw[fp_lit] at *;by_cases hx:x=0
 ·subst hx;cases o<;>decide
 ·rw[decide_eq_false hx,Bool.and_false];have hp:x%2=0∨x%2=1:=by omega
  have hn:(0-x)%57896044618658097711785492504343953926634992332820282019728792003956564819949=57896044618658097711785492504343953926634992332820282019728792003956564819949-x:=by omega
  rw[hn];rcases hp with hp|hp
  ·have h2:(57896044618658097711785492504343953926634992332820282019728792003956564819949-x)%2=1:=by omega
   cases o<;>simp[hp,h2]
  ·have h2:(57896044618658097711785492504343953926634992332820282019728792003956564819949-x)%2=0:=by omega
   cases o<;>simp[hp,h2]
theorem dec_same (zs:List Int) (hz:Byte zs):dcR zs=mB zs mdD:=by
 by_cases hl:zs.length=32
 ·have hY:dcY zs=mY zs:=rfl;unfold dcR mB;rw[hY];by_cases hy:mY zs<fp
  ·have h0:0≤mY zs:=by unfold mY;rw[fp_lit];omega
   obtain⟨r1,r2⟩:=roots_same (mY zs) h0 hy;have hb:=mdX_bd (mY zs);have hx:dcX zs=if((mdX (mY zs) mdD%2 == 1) != dcO zs)=true then(0-mdX (mY zs) mdD)%fp else mdX (mY zs) mdD:=by
    unfold dcX dc1;rw[hY,r2]
   rw[r1,hx,par_all _ _ hb.1 hb.2,odd_same zs hl hz]
  ·rw[decide_eq_false hy];simp
 ·unfold dcR mB;have:(zs.length == 32)=false:=by simpa using hl
  rw[this];rfl
end Go.Proofs.YtjdhhgaelgemcaaGreatDoor
namespace Go.Proofs.YtjdhhgaelgemcaaGreatDoor
open Go.ChangeShapes Go.WideShapes Go.ChangeAt Go.RowKit
set_option linter.unusedVariables false
set_option maxHeartbeats 2000000 in
theorem inverse_of (g o:Nat) (xs:List Int) (w:World) (h:EAt w g o xs) (v1 goalv:Int) (hv1:ev xs^M250%fp=v1) (hgoal:sqN v1 5*ev xs^11%fp=goalv) :
  Calls Tryz.prog 141 #[.pointer (some ⟨g,o,none⟩)] w (EP w goalv):=by
 have HE:Hid (sqN v1 5*ev xs^11%fp=goalv):=hgoal;have HV1:Hid (ev xs^M250%fp=v1):=hv1;have S0:=(Run.start w [(g,o,xs)] (fun e he=>by rcases List.mem_singleton.1 he with rfl;exact h)).room;have HO:Hid (Run w (w.alloc (.cells #[.int .u64 0,.int .u64 0,.int .u64 0,.int .u64 0,.int .u64 0] 138)) [(w.heap.size,[0,0,0,0,0])] [(g,o,xs)]):=S0;clear S0 h hv1 hgoal;go_enter Tryz.func141,Tryz.ntmps141;go_wp2_with fail;refine(ones250_any g o xs _ (HO.out.el 0 _ _ _ rfl)).mono ?_;rintro e w1 ⟨es,hk,hv,rfl,b⟩;have HK1:Hid (EOk es∧ev es=v1):=⟨hk,hv.trans HV1.out⟩
 have S1:=HO.out.call b;have H1:Hid (Run w w1 [(w.heap.size,[0,0,0,0,0])] [(g,o,xs)]):=S1;clear S1 hk hv b HV1;go_wp2_with (first
  |(refine wpList_storeN H1.out rfl (.tmp 3) (.tmp 6) rfl es rfl rfl HK1.out.1 rfl ?_)
  |fail)
 intro w2 S2;have H2:Hid (Run w w2 [(w1.heap.size,es),(w.heap.size,[0,0,0,0,0])] [(g,o,xs)]):=S2;clear S2 H1 HO;generalize w1.heap.size=G1 at *;go_wp2_with fail;refine(squared_any G1 0 es 5 _ (by decide) (H2.out.re 0 _ _ rfl)).mono ?_;rintro e w3 ⟨fs,hk,hv,rfl,b⟩;have HK2:Hid (EOk fs∧ev fs=sqN v1 5):=⟨hk,by rw[hv,HK1.out.2]⟩
 have H3:Hid (Run w w3 [(G1,es),(w.heap.size,[0,0,0,0,0])] [(g,o,xs)]):=H2.out.call b;clear H2 hk hv b;go_wp2_with (first
  |(refine wpList_storeN H3.out rfl (.tmp 4) (.tmp 7) rfl fs rfl rfl HK2.out.1 rfl ?_)
  |fail)
 intro w4 S4;have H4:Hid (Run w w4 [(w3.heap.size,fs),(G1,es),(w.heap.size,[0,0,0,0,0])] [(g,o,xs)]):=S4;clear S4 H3;generalize w3.heap.size=G2 at *;go_wp2
 go_loopw [8] (fun i wr=>∃(k:Nat) (vs:List Int),k≤11∧i=.int .i64 k∧EOk vs∧ev vs=sqN v1 5*ev xs^k%fp∧Run w wr [(G2,vs),(G1,es),(w.heap.size,[0,0,0,0,0])] [(g,o,xs)]) (fun i _=>11-(intOf i).toNat)
 case atStart=>
  refine⟨0,fs,by decide,rfl,HK2.out.1,?_,H4.out⟩;rw[Int.pow_zero,Int.mul_one,←HK2.out.2];exact(Int.emod_eq_of_lt (ev_bd fs).1 (ev_bd fs).2).symm
 case round=>
  clear H4;obtain⟨k,vs,hk,rfl,hok,hev,hrun⟩:=hrel;have HR:Hid (Run w wr [(G2,vs),(G1,es),(w.heap.size,[0,0,0,0,0])] [(g,o,xs)]):=hrun;have HV:Hid (EOk vs∧ev vs=sqN v1 5*ev xs^k%fp):=⟨hok,hev⟩
  clear hok hev hrun;by_cases hlt:k<11
  ·have hlt':(k:Int)<11:=by omega
   go_wp2_with fail;refine(times_any G2 0 g o vs xs _ (HR.out.re 0 _ _ rfl) (HR.out.el 0 _ _ _ rfl)).mono ?_;rintro e w5 ⟨us,hk',hv,rfl,b⟩;have HU:Hid (EOk us∧ev us=sqN v1 5*ev xs^(k+1)%fp):=⟨hk',by rw[hv,HV.out.2,ml,Int.pow_succ,Int.mul_assoc]⟩
   have H5:Hid (Run w w5 [(G2,vs),(G1,es),(w.heap.size,[0,0,0,0,0])] [(g,o,xs)]):=HR.out.call b;clear hk' hv b HR;go_wp2_with (first
    |(refine wpList_storeR H5.out rfl (.tmp 4) (.tmp 11) rfl 0 G2 vs us rfl rfl rfl HU.out.1 rfl ?_)
    |fail)
   intro w6 S6;have H6:Hid (Run w w6 [(G2,us),(G1,es),(w.heap.size,[0,0,0,0,0])] [(g,o,xs)]):=S6;clear S6 H5;go_wp2;go_roundw
   case rel=>exact⟨k+1,us,by omega,by go_num,HU.out.1,HU.out.2,H6.out⟩
   case measure=>simp[intOf];omega
  ·have hk11:k=11:=by omega
   have HVE:Hid (ev vs=goalv):=by
    show _=_
    rw[HV.out.2,hk11,HE.out]
   have hlt':¬ (k:Int)<11:=by omega
   clear hk11;go_wp2_with (first
    |(refine wpList_loadE rfl (.tmp 4) rfl G2 0 vs rfl (HR.out.re 0 _ _ rfl) ?_)
    |(refine wpList_storeR HR.out rfl (.tmp 2) (.tmp 13) rfl 2 w.heap.size [0,0,0,0,0] vs rfl rfl rfl HV.out.1 rfl ?_)
    |fail)
   intro w7 S7;have H7:Hid (Run w w7 [(G2,vs),(G1,es),(w.heap.size,vs)] [(g,o,xs)]):=S7;clear S7 HR;go_wp2;exact bodyPost_ret (v:=.agg (vs.map (Value.int .u64)).toArray) (H7.out.ret rfl _ 2 w.heap.size vs rfl rfl) rfl ⟨vs,HV.out.1,HVE.out,rfl,H7.out.below⟩
theorem exI:M250*32+11=fpN-2:=by unfold M250 m250;decide +kernel
theorem inverse_any (g o:Nat) (xs:List Int) (w:World) (h:EAt w g o xs) :
  Calls Tryz.prog 141 #[.pointer (some ⟨g,o,none⟩)] w (EP w (inv0 (ev xs))):=by
 have e:=e250 (ev xs) M250 5 11;rw[mr,show M250*2^5+11=fpN-2 from exI] at e;rw[inv0_eq];exact inverse_of g o xs w h _ _ rfl e
def FG (w:World) (v:Value) (x:Int):Prop:=∃ g c,v=.slice (some ⟨g,0,none⟩) 16 c∧FeA w (some ⟨g,0,none⟩) x
theorem FG.below {w w':World} {v:Value} {x:Int} (h:FG w v x) (b:Below w.heap.size w w'):FG w' v x:=by
 obtain⟨g,c,e,f⟩:=h;exact⟨g,c,e,f.below b⟩
theorem FG.get {w:World} {v:Value} {x:Int} (h:FG w v x):∃ g c,v=.slice (some ⟨g,0,none⟩) 16 c∧FeA w (some ⟨g,0,none⟩) x:=h
theorem FG.elim_ {w:World} {v:Value} {x:Int} {C:Prop} (h:FG w v x) (k:∀ g c,v=.slice (some ⟨g,0,none⟩) 16 c→FeA w (some ⟨g,0,none⟩) x→C):C:=by
 obtain⟨g,c,e,f⟩:=h;exact k g c e f
theorem PtW.c0 {w:World} {g:Nat} {s0 s1 s2 s3:Value} (h:PtW w g #[s0,s1,s2,s3]):w.cell? ⟨g,0,none⟩=some s0:=by rw[cell_of_row w g 0 _ _ _ h];rfl
theorem PtW.c1 {w:World} {g:Nat} {s0 s1 s2 s3:Value} (h:PtW w g #[s0,s1,s2,s3]):w.cell? ⟨g,1,none⟩=some s1:=by rw[cell_of_row w g 1 _ _ _ h];rfl
theorem PtW.c2 {w:World} {g:Nat} {s0 s1 s2 s3:Value} (h:PtW w g #[s0,s1,s2,s3]):w.cell? ⟨g,2,none⟩=some s2:=by rw[cell_of_row w g 2 _ _ _ h];rfl
theorem PtW.c3 {w:World} {g:Nat} {s0 s1 s2 s3:Value} (h:PtW w g #[s0,s1,s2,s3]):w.cell? ⟨g,3,none⟩=some s3:=by rw[cell_of_row w g 3 _ _ _ h];rfl
def smA (X1 Y1 X2 Y2:Int):Int:=((Y1-X1)%fp)*((Y2-X2)%fp)%fp
def smB (X1 Y1 X2 Y2:Int):Int:=((Y1+X1)%fp)*((Y2+X2)%fp)%fp
def smC (D T1 T2:Int):Int:=(((D+D)%fp)*T1%fp)*T2%fp
def smG (Z1 Z2:Int):Int:=((Z1+Z1)%fp)*Z2%fp
theorem SR.more {w wr w':World} {L:List (Option Addr×Int)} {a:Option Addr} {x:Int} (h:SR w wr L) (b:Below wr.heap.size wr w') (hf:FeA w' a x):SR w w' (L++[(a,x)]):=
 ⟨h.below.trans (b.mono h.below.size),fun e he=>by
  rcases List.mem_append.1 he with h'|h'
  ·exact(h.fe e h').below b
  ·simp only[List.mem_cons,List.not_mem_nil,or_false] at h';subst h';exact hf⟩
def SumP (w:World) (A B C G:Int) (e:Ending) (w':World):Prop:=
 ∃ g1 k1 g2 k2 g3 k3 g4 k4,e=.returned (.agg #[.slice (some ⟨g1,0,none⟩) 16 k1,.slice (some ⟨g2,0,none⟩) 16 k2,.slice (some ⟨g3,0,none⟩) 16 k3,.slice (some ⟨g4,0,none⟩) 16 k4])∧
  FeA w' (some ⟨g1,0,none⟩) ((B-A)%fp*((G-C)%fp)%fp)∧FeA w' (some ⟨g2,0,none⟩) ((G+C)%fp*((B+A)%fp)%fp)∧
  FeA w' (some ⟨g3,0,none⟩) ((G-C)%fp*((G+C)%fp)%fp)∧FeA w' (some ⟨g4,0,none⟩) ((B-A)%fp*((B+A)%fp)%fp)∧Below w.heap.size w w'∧(w.heap.size≤g1∧w.heap.size≤g2∧w.heap.size≤g3∧w.heap.size≤g4)
set_option maxRecDepth 100000 in
set_option maxHeartbeats 8000000 in
theorem sum_any (a0 a1 a2 a3 b0 b1 b2 b3 ad:Option Addr) (c0 c1 c2 c3 e0 e1 e2 e3 cd:Nat) (X1 Y1 Z1 T1 X2 Y2 Z2 T2 D:Int) (w:World) (hs:∀ e∈[(a0,X1),(a1,Y1),(a2,Z1),(a3,T1),(b0,X2),(b1,Y2),(b2,Z2),(b3,T2),(ad,D)],FeA w e.1 e.2) :
  Calls Tryz.prog 78 #[.agg #[.slice a0 16 c0,.slice a1 16 c1,.slice a2 16 c2,.slice a3 16 c3],.agg #[.slice b0 16 e0,.slice b1 16 e1,.slice b2 16 e2,.slice b3 16 e3],.slice ad 16 cd] w (SumP w (smA X1 Y1 X2 Y2) (smB X1 Y1 X2 Y2) (smC D T1 T2) (smG Z1 Z2)):=by
 have bb:Below w.heap.size w (((w.alloc (.cells #[.slice a0 16 c0,.slice a1 16 c1,.slice a2 16 c2,.slice a3 16 c3] 109)).alloc (.cells #[.slice b0 16 e0,.slice b1 16 e1,.slice b2 16 e2,.slice b3 16 e3] 109)).alloc (.cells #[.slice none 0 0,.slice none 0 0,.slice none 0 0,.slice none 0 0] 109)):=(((Below.refl _ _).alloc (Nat.le_refl _) _).alloc (by simp) _).alloc (by simp;omega) _;have HP:Hid (PtW (((w.alloc (.cells #[.slice a0 16 c0,.slice a1 16 c1,.slice a2 16 c2,.slice a3 16 c3] 109)).alloc (.cells #[.slice b0 16 e0,.slice b1 16 e1,.slice b2 16 e2,.slice b3 16 e3] 109)).alloc (.cells #[.slice none 0 0,.slice none 0 0,.slice none 0 0,.slice none 0 0] 109)) w.heap.size #[.slice a0 16 c0,.slice a1 16 c1,.slice a2 16 c2,.slice a3 16 c3]):=by
  show _=_
  rw[Below.heap_alloc _ _ w.heap.size (by simp;omega),Below.heap_alloc _ _ w.heap.size (by simp)];exact heap_alloc_new w _
 have HQ:Hid (PtW (((w.alloc (.cells #[.slice a0 16 c0,.slice a1 16 c1,.slice a2 16 c2,.slice a3 16 c3] 109)).alloc (.cells #[.slice b0 16 e0,.slice b1 16 e1,.slice b2 16 e2,.slice b3 16 e3] 109)).alloc (.cells #[.slice none 0 0,.slice none 0 0,.slice none 0 0,.slice none 0 0] 109)) (w.heap.size+1) #[.slice b0 16 e0,.slice b1 16 e1,.slice b2 16 e2,.slice b3 16 e3]):=by
  show _=_
  rw[Below.heap_alloc _ _ (w.heap.size+1) (by simp)];have:=heap_alloc_new (w.alloc (.cells #[.slice a0 16 c0,.slice a1 16 c1,.slice a2 16 c2,.slice a3 16 c3] 109)) (.cells #[.slice b0 16 e0,.slice b1 16 e1,.slice b2 16 e2,.slice b3 16 e3] 109);simpa using this
 have HZ:Hid (PtW (((w.alloc (.cells #[.slice a0 16 c0,.slice a1 16 c1,.slice a2 16 c2,.slice a3 16 c3] 109)).alloc (.cells #[.slice b0 16 e0,.slice b1 16 e1,.slice b2 16 e2,.slice b3 16 e3] 109)).alloc (.cells #[.slice none 0 0,.slice none 0 0,.slice none 0 0,.slice none 0 0] 109)) (w.heap.size+1+1) #[.slice none 0 0,.slice none 0 0,.slice none 0 0,.slice none 0 0]):=by
  show _=_
  have:=heap_alloc_new ((w.alloc (.cells #[.slice a0 16 c0,.slice a1 16 c1,.slice a2 16 c2,.slice a3 16 c3] 109)).alloc (.cells #[.slice b0 16 e0,.slice b1 16 e1,.slice b2 16 e2,.slice b3 16 e3] 109)) (.cells #[.slice none 0 0,.slice none 0 0,.slice none 0 0,.slice none 0 0] 109);simpa using this
 have SRK:Hid (SR w (((w.alloc (.cells #[.slice a0 16 c0,.slice a1 16 c1,.slice a2 16 c2,.slice a3 16 c3] 109)).alloc (.cells #[.slice b0 16 e0,.slice b1 16 e1,.slice b2 16 e2,.slice b3 16 e3] 109)).alloc (.cells #[.slice none 0 0,.slice none 0 0,.slice none 0 0,.slice none 0 0] 109)) [(a0,X1),(a1,Y1),(a2,Z1),(a3,T1),(b0,X2),(b1,Y2),(b2,Z2),(b3,T2),(ad,D)]):=⟨bb,fun e he=>(hs e he).below bb⟩
 clear bb hs;go_enter Tryz.func78,Tryz.ntmps78;go_wp2_with fail;generalize (((w.alloc (.cells #[.slice a0 16 c0,.slice a1 16 c1,.slice a2 16 c2,.slice a3 16 c3] 109)).alloc (.cells #[.slice b0 16 e0,.slice b1 16 e1,.slice b2 16 e2,.slice b3 16 e3] 109)).alloc (.cells #[.slice none 0 0,.slice none 0 0,.slice none 0 0,.slice none 0 0] 109))=w0 at *;refine wp_region_any (by kernel_rfl) ?_;refine wpAny_slotsG (fun _ w w'=>Below w.heap.size w w') (frame:=(fun (a b c d e f g h i j k l m n o p q r s u v w x y z A B C D E F G H I J K L M N O P Q R S T U V W X Y Z a0 a1 a2 a3 a4 a5 a6 a7 a8 a9 b0 b1 b2 b3 b4 b5:Value)=>fun (t:Nat→Value)=>({ tmps:=List.toArray [a,b,c,d,e,f,g,t 11,h,i,j,k,l,m,n,t 0,t 1,t 2,t 3,t 4,t 5,t 6,t 7,t 8,t 9,t 10,o,p,q,r,s,u,v,w,x,y,z,A,B,C,D,E,F,G,H,I,J,K,L,M,N,O,P,Q,R,S,T,U,V,W,X,Y,Z,a0,a1,a2,a3,a4,a5,a6,a7,a8,a9,b0,b1,b2,b3,b4,b5],defers:=[] }:Act)) _ _ _ _ _ _ _ _ _ _ _ _ _ _ _ _ _ _ _ _ _ _ _ _ _ _ _ _ _ _ _ _ _ _ _ _ _ _ _ _ _ _ _ _ _ _ _ _ _ _ _ _ _ _ _ _ _ _ _ _ _ _ _ _ _ _ _)
  (Ext:=fun L w'=>Below w0.heap.size w0 w') (Good:=fun i L w' v=>if i=0 then v=.pointer (some ⟨w.heap.size,1,none⟩) else if i=1 then v=.slice a1 16 c1 else if i=2 then v=.pointer (some ⟨w.heap.size,0,none⟩) else if i=3 then v=.slice a0 16 c0 else if i=4 then FG w' v ((Y1-X1)%fp) else if i=5 then v=.pointer (some ⟨(w.heap.size+1),1,none⟩) else if i=6 then v=.slice b1 16 e1 else if i=7 then v=.pointer (some ⟨(w.heap.size+1),0,none⟩) else if i=8 then v=.slice b0 16 e0 else if i=9 then FG w' v ((Y2-X2)%fp) else if i=10 then FG w' v (((Y1-X1)%fp)*((Y2-X2)%fp)%fp) else if i=11 then FG w' v (((Y1-X1)%fp)*((Y2-X2)%fp)%fp) else True) ?hstab (by kernel_rfl) ?hop ?hdone _ _ ((fun (x0 x1 x2 x3 x4 x5 x6 x7 x8 x9 x10 x11:Value)=>fun (i:Nat)=>if i=0 then x0 else if i=1 then x1 else if i=2 then x2 else if i=3 then x3 else if i=4 then x4 else if i=5 then x5 else if i=6 then x6 else if i=7 then x7 else if i=8 then x8 else if i=9 then x9 else if i=10 then x10 else if i=11 then x11 else undef) _ _ _ _ _ _ _ _ _ _ _ _) _ (by simp) ?ext ?start (by simp)
 case start=>intro i hi h;exact absurd h (by rw[Array.getD_eq_getD_getElem?,Array.getElem?_replicate];split<;>simp)
 case ext=>exact⟨rfl,rfl,rfl,Nat.le_refl _,fun _ _=>rfl⟩
 case hstab=>
  intro j L w9 w' i v hM _ _ h;by_cases h4:j=4
  ·subst h4;simp at h ⊢;exact h.below hM
  by_cases h9:j=9
  ·subst h9;simp at h ⊢;exact h.below hM
  by_cases h10:j=10
  ·subst h10;simp at h ⊢;exact h.below hM
  by_cases h11:j=11
  ·subst h11;simp at h ⊢;exact h.below hM
  simp only[if_neg h4,if_neg h9,if_neg h10,if_neg h11] at h ⊢;exact h
 case hop=>
  intro i o L t w' ho hLi hx hdep K hK;have hi:i<12:=(Array.getElem?_eq_some_iff.1 ho).1;obtain rfl|rfl|rfl|rfl|rfl|rfl|rfl|rfl|rfl|rfl|rfl|rfl:i=0∨i=1∨i=2∨i=3∨i=4∨i=5∨i=6∨i=7∨i=8∨i=9∨i=10∨i=11:=by omega
  all_goals(simp at ho;subst ho)
  ·clear hdep;have hK':=hK w' (.pointer (some ⟨w.heap.size,1,none⟩)) (by simp) hx (Below.refl _ _);clear hK;rw[if_pos (by rfl)];go_simp;simpa[upd] using hK'
  ·have d0:t 0=.pointer (some ⟨w.heap.size,1,none⟩):=by simpa using hdep ⟨0,.data⟩ (by simp) rfl
   clear hdep;have cc:=(HP.out.below hx HP.out.lt).c1;have hK':=hK w' (.slice a1 16 c1) (by simp) hx (Below.refl _ _);clear hK;rw[if_pos (by rfl)];go_simp;simpa[upd,d0] using hK'
  ·clear hdep;have hK':=hK w' (.pointer (some ⟨w.heap.size,0,none⟩)) (by simp) hx (Below.refl _ _);clear hK;rw[if_pos (by rfl)];go_simp;simpa[upd] using hK'
  ·have d2:t 2=.pointer (some ⟨w.heap.size,0,none⟩):=by simpa using hdep ⟨2,.data⟩ (by simp) rfl
   clear hdep;have cc:=(HP.out.below hx HP.out.lt).c0;have hK':=hK w' (.slice a0 16 c0) (by simp) hx (Below.refl _ _);clear hK;rw[if_pos (by rfl)];go_simp;simpa[upd,d2] using hK'
  ·have d1:t 1=.slice a1 16 c1:=by simpa using hdep ⟨1,.data⟩ (by simp) rfl
   have d3:t 3=.slice a0 16 c0:=by simpa using hdep ⟨3,.data⟩ (by simp) rfl
   clear hdep;have A:=fsub_any a1 a0 c1 c0 Y1 X1 w' ((SRK.out.at 1 _ _ rfl).below hx) ((SRK.out.at 0 _ _ rfl).below hx);have hK':∀ ww v,FG ww v ((Y1-X1)%fp)→Below w'.heap.size w' ww→K _ ww:=fun ww v hg hb=>hK ww v (by simpa using hg) (hx.trans (hb.mono hx.size)) hb
   clear hK;rw[if_pos (by rfl)];go_simp;try simp only[d1,d3]
   refine A.mono ?_;rintro e w9 ⟨g',c',rfl,_,_,hf,hb⟩;have hK2:=hK' w9 _ ⟨g',c',rfl,hf⟩ hb;clear hK' A hf hb;go_simp;simpa[upd,d1,d3] using hK2
  ·clear hdep;have hK':=hK w' (.pointer (some ⟨(w.heap.size+1),1,none⟩)) (by simp) hx (Below.refl _ _);clear hK;rw[if_pos (by rfl)];go_simp;simpa[upd] using hK'
  ·have d5:t 5=.pointer (some ⟨(w.heap.size+1),1,none⟩):=by simpa using hdep ⟨5,.data⟩ (by simp) rfl
   clear hdep;have cc:=(HQ.out.below hx HQ.out.lt).c1;have hK':=hK w' (.slice b1 16 e1) (by simp) hx (Below.refl _ _);clear hK;rw[if_pos (by rfl)];go_simp;simpa[upd,d5] using hK'
  ·clear hdep;have hK':=hK w' (.pointer (some ⟨(w.heap.size+1),0,none⟩)) (by simp) hx (Below.refl _ _);clear hK;rw[if_pos (by rfl)];go_simp;simpa[upd] using hK'
  ·have d7:t 7=.pointer (some ⟨(w.heap.size+1),0,none⟩):=by simpa using hdep ⟨7,.data⟩ (by simp) rfl
   clear hdep;have cc:=(HQ.out.below hx HQ.out.lt).c0;have hK':=hK w' (.slice b0 16 e0) (by simp) hx (Below.refl _ _);clear hK;rw[if_pos (by rfl)];go_simp;simpa[upd,d7] using hK'
  ·have d6:t 6=.slice b1 16 e1:=by simpa using hdep ⟨6,.data⟩ (by simp) rfl
   have d8:t 8=.slice b0 16 e0:=by simpa using hdep ⟨8,.data⟩ (by simp) rfl
   clear hdep;have A:=fsub_any b1 b0 e1 e0 Y2 X2 w' ((SRK.out.at 5 _ _ rfl).below hx) ((SRK.out.at 4 _ _ rfl).below hx);have hK':∀ ww v,FG ww v ((Y2-X2)%fp)→Below w'.heap.size w' ww→K _ ww:=fun ww v hg hb=>hK ww v (by simpa using hg) (hx.trans (hb.mono hx.size)) hb
   clear hK;rw[if_pos (by rfl)];go_simp;try simp only[d6,d8]
   refine A.mono ?_;rintro e w9 ⟨g',c',rfl,_,_,hf,hb⟩;have hK2:=hK' w9 _ ⟨g',c',rfl,hf⟩ hb;clear hK' A hf hb;go_simp;simpa[upd,d6,d8] using hK2
  ·have h4:FG w' (t 4) ((Y1-X1)%fp):=by simpa using hdep ⟨4,.data⟩ (by simp) rfl
   refine h4.elim_ fun g4 c4 d4 f4=>?_
   clear h4;have h9:FG w' (t 9) ((Y2-X2)%fp):=by simpa using hdep ⟨9,.data⟩ (by simp) rfl
   refine h9.elim_ fun g9 c9 d9 f9=>?_
   clear h9;clear hdep;have A:=fmul_any (some ⟨g4,0,none⟩) (some ⟨g9,0,none⟩) c4 c9 _ _ w' f4 f9;have hK':∀ ww v,FG ww v (((Y1-X1)%fp)*((Y2-X2)%fp)%fp)→Below w'.heap.size w' ww→K _ ww:=fun ww v hg hb=>hK ww v (by simpa using hg) (hx.trans (hb.mono hx.size)) hb
   clear hK;rw[if_pos (by rfl)];go_simp;try simp only[d4,d9]
   refine A.mono ?_;rintro e w9 ⟨g',c',rfl,_,_,hf,hb⟩;have hK2:=hK' w9 _ ⟨g',c',rfl,hf⟩ hb;clear hK' A hf hb;go_simp;simpa[upd,d4,d9] using hK2
  ·have h10:FG w' (t 10) (((Y1-X1)%fp)*((Y2-X2)%fp)%fp):=by simpa using hdep ⟨10,.data⟩ (by simp) rfl
   refine h10.elim_ fun g10 c10 d10 f10=>?_
   clear h10;clear hdep;have hK':=hK w' (.slice (some ⟨g10,0,none⟩) 16 c10) (by simpa using⟨g10,c10,rfl,f10⟩) hx (Below.refl _ _);clear hK;rw[if_pos (by rfl)];go_simp;simpa[upd,d10] using hK'
 case hdone=>
  intro L t1 w1 hx hg;have f11:FG w1 (t1 11) (((Y1-X1)%fp)*((Y2-X2)%fp)%fp):=by simpa using hg 11 (by decide)
  clear hg;obtain⟨ggA,ccA,eA,ff⟩:=f11.get;have HP1:Hid (PtW w1 w.heap.size #[.slice a0 16 c0,.slice a1 16 c1,.slice a2 16 c2,.slice a3 16 c3]):=HP.out.below hx HP.out.lt;have HQ1:Hid (PtW w1 (w.heap.size+1) #[.slice b0 16 e0,.slice b1 16 e1,.slice b2 16 e2,.slice b3 16 e3]):=HQ.out.below hx HQ.out.lt;have HZ1:Hid (PtW w1 (w.heap.size+1+1) #[.slice none 0 0,.slice none 0 0,.slice none 0 0,.slice none 0 0]):=HZ.out.below hx HZ.out.lt;have SRK1:Hid (SR w w1 [(a0,X1),(a1,Y1),(a2,Z1),(a3,T1),(b0,X2),(b1,Y2),(b2,Z2),(b3,T2),(ad,D),(some ⟨ggA,0,none⟩,smA X1 Y1 X2 Y2)]):=SRK.out.more hx ff;clear HP HQ HZ SRK hx ff;simp only[eA];clear eA;go_wp2_with fail;refine wp_region_any (by kernel_rfl) ?_;refine wpAny_slotsG (fun _ w w'=>Below w.heap.size w w') (frame:=(fun (a b c d e f g h i j k l m n o p q r s u v w x y z A B C D E F G H I J K L M N O P Q R S T U V W X Y Z a0 a1 a2 a3 a4 a5 a6 a7 a8 a9 b0 b1 b2 b3 b4 b5:Value)=>fun (t:Nat→Value)=>({ tmps:=List.toArray [a,b,c,d,e,f,g,h,t 11,i,j,k,l,m,n,o,p,q,r,s,u,v,w,x,y,z,t 0,t 1,t 2,t 3,t 4,t 5,t 6,t 7,t 8,t 9,t 10,A,B,C,D,E,F,G,H,I,J,K,L,M,N,O,P,Q,R,S,T,U,V,W,X,Y,Z,a0,a1,a2,a3,a4,a5,a6,a7,a8,a9,b0,b1,b2,b3,b4,b5],defers:=[] }:Act)) _ _ _ _ _ _ _ _ _ _ _ _ _ _ _ _ _ _ _ _ _ _ _ _ _ _ _ _ _ _ _ _ _ _ _ _ _ _ _ _ _ _ _ _ _ _ _ _ _ _ _ _ _ _ _ _ _ _ _ _ _ _ _ _ _ _ _)
   (Ext:=fun L w'=>Below w1.heap.size w1 w') (Good:=fun i L w' v=>if i=0 then v=.pointer (some ⟨w.heap.size,1,none⟩) else if i=1 then v=.slice a1 16 c1 else if i=2 then v=.pointer (some ⟨w.heap.size,0,none⟩) else if i=3 then v=.slice a0 16 c0 else if i=4 then FG w' v ((Y1+X1)%fp) else if i=5 then v=.pointer (some ⟨(w.heap.size+1),1,none⟩) else if i=6 then v=.slice b1 16 e1 else if i=7 then v=.pointer (some ⟨(w.heap.size+1),0,none⟩) else if i=8 then v=.slice b0 16 e0 else if i=9 then FG w' v ((Y2+X2)%fp) else if i=10 then FG w' v (((Y1+X1)%fp)*((Y2+X2)%fp)%fp) else if i=11 then FG w' v (((Y1+X1)%fp)*((Y2+X2)%fp)%fp) else True) ?hstab (by kernel_rfl) ?hop ?hdone _ _ ((fun (x0 x1 x2 x3 x4 x5 x6 x7 x8 x9 x10 x11:Value)=>fun (i:Nat)=>if i=0 then x0 else if i=1 then x1 else if i=2 then x2 else if i=3 then x3 else if i=4 then x4 else if i=5 then x5 else if i=6 then x6 else if i=7 then x7 else if i=8 then x8 else if i=9 then x9 else if i=10 then x10 else if i=11 then x11 else undef) _ _ _ _ _ _ _ _ _ _ _ _) _ (by simp) ?ext ?start (by simp)
  case start=>intro i hi h;exact absurd h (by rw[Array.getD_eq_getD_getElem?,Array.getElem?_replicate];split<;>simp)
  case ext=>exact⟨rfl,rfl,rfl,Nat.le_refl _,fun _ _=>rfl⟩
  case hstab=>
   intro j L w9 w' i v hM _ _ h;by_cases h4:j=4
   ·subst h4;simp at h ⊢;exact h.below hM
   by_cases h9:j=9
   ·subst h9;simp at h ⊢;exact h.below hM
   by_cases h10:j=10
   ·subst h10;simp at h ⊢;exact h.below hM
   by_cases h11:j=11
   ·subst h11;simp at h ⊢;exact h.below hM
   simp only[if_neg h4,if_neg h9,if_neg h10,if_neg h11] at h ⊢;exact h
  case hop=>
   intro i o L t w' ho hLi hx hdep K hK;have hi:i<12:=(Array.getElem?_eq_some_iff.1 ho).1;obtain rfl|rfl|rfl|rfl|rfl|rfl|rfl|rfl|rfl|rfl|rfl|rfl:i=0∨i=1∨i=2∨i=3∨i=4∨i=5∨i=6∨i=7∨i=8∨i=9∨i=10∨i=11:=by omega
   all_goals(simp at ho;subst ho)
   ·clear hdep;have hK':=hK w' (.pointer (some ⟨w.heap.size,1,none⟩)) (by simp) hx (Below.refl _ _);clear hK;rw[if_pos (by rfl)];go_simp;simpa[upd] using hK'
   ·have d0:t 0=.pointer (some ⟨w.heap.size,1,none⟩):=by simpa using hdep ⟨0,.data⟩ (by simp) rfl
    clear hdep;have cc:=(HP1.out.below hx HP1.out.lt).c1;have hK':=hK w' (.slice a1 16 c1) (by simp) hx (Below.refl _ _);clear hK;rw[if_pos (by rfl)];go_simp;simpa[upd,d0] using hK'
   ·clear hdep;have hK':=hK w' (.pointer (some ⟨w.heap.size,0,none⟩)) (by simp) hx (Below.refl _ _);clear hK;rw[if_pos (by rfl)];go_simp;simpa[upd] using hK'
   ·have d2:t 2=.pointer (some ⟨w.heap.size,0,none⟩):=by simpa using hdep ⟨2,.data⟩ (by simp) rfl
    clear hdep;have cc:=(HP1.out.below hx HP1.out.lt).c0;have hK':=hK w' (.slice a0 16 c0) (by simp) hx (Below.refl _ _);clear hK;rw[if_pos (by rfl)];go_simp;simpa[upd,d2] using hK'
   ·have d1:t 1=.slice a1 16 c1:=by simpa using hdep ⟨1,.data⟩ (by simp) rfl
    have d3:t 3=.slice a0 16 c0:=by simpa using hdep ⟨3,.data⟩ (by simp) rfl
    clear hdep;have A:=fadd_any a1 a0 c1 c0 Y1 X1 w' ((SRK1.out.at 1 _ _ rfl).below hx) ((SRK1.out.at 0 _ _ rfl).below hx);have hK':∀ ww v,FG ww v ((Y1+X1)%fp)→Below w'.heap.size w' ww→K _ ww:=fun ww v hg hb=>hK ww v (by simpa using hg) (hx.trans (hb.mono hx.size)) hb
    clear hK;rw[if_pos (by rfl)];go_simp;try simp only[d1,d3]
    refine A.mono ?_;rintro e w9 ⟨g',c',rfl,_,_,hf,hb⟩;have hK2:=hK' w9 _ ⟨g',c',rfl,hf⟩ hb;clear hK' A hf hb;go_simp;simpa[upd,d1,d3] using hK2
   ·clear hdep;have hK':=hK w' (.pointer (some ⟨(w.heap.size+1),1,none⟩)) (by simp) hx (Below.refl _ _);clear hK;rw[if_pos (by rfl)];go_simp;simpa[upd] using hK'
   ·have d5:t 5=.pointer (some ⟨(w.heap.size+1),1,none⟩):=by simpa using hdep ⟨5,.data⟩ (by simp) rfl
    clear hdep;have cc:=(HQ1.out.below hx HQ1.out.lt).c1;have hK':=hK w' (.slice b1 16 e1) (by simp) hx (Below.refl _ _);clear hK;rw[if_pos (by rfl)];go_simp;simpa[upd,d5] using hK'
   ·clear hdep;have hK':=hK w' (.pointer (some ⟨(w.heap.size+1),0,none⟩)) (by simp) hx (Below.refl _ _);clear hK;rw[if_pos (by rfl)];go_simp;simpa[upd] using hK'
   ·have d7:t 7=.pointer (some ⟨(w.heap.size+1),0,none⟩):=by simpa using hdep ⟨7,.data⟩ (by simp) rfl
    clear hdep;have cc:=(HQ1.out.below hx HQ1.out.lt).c0;have hK':=hK w' (.slice b0 16 e0) (by simp) hx (Below.refl _ _);clear hK;rw[if_pos (by rfl)];go_simp;simpa[upd,d7] using hK'
   ·have d6:t 6=.slice b1 16 e1:=by simpa using hdep ⟨6,.data⟩ (by simp) rfl
    have d8:t 8=.slice b0 16 e0:=by simpa using hdep ⟨8,.data⟩ (by simp) rfl
    clear hdep;have A:=fadd_any b1 b0 e1 e0 Y2 X2 w' ((SRK1.out.at 5 _ _ rfl).below hx) ((SRK1.out.at 4 _ _ rfl).below hx);have hK':∀ ww v,FG ww v ((Y2+X2)%fp)→Below w'.heap.size w' ww→K _ ww:=fun ww v hg hb=>hK ww v (by simpa using hg) (hx.trans (hb.mono hx.size)) hb
    clear hK;rw[if_pos (by rfl)];go_simp;try simp only[d6,d8]
    refine A.mono ?_;rintro e w9 ⟨g',c',rfl,_,_,hf,hb⟩;have hK2:=hK' w9 _ ⟨g',c',rfl,hf⟩ hb;clear hK' A hf hb;go_simp;simpa[upd,d6,d8] using hK2
   ·have h4:FG w' (t 4) ((Y1+X1)%fp):=by simpa using hdep ⟨4,.data⟩ (by simp) rfl
    refine h4.elim_ fun g4 c4 d4 f4=>?_
    clear h4;have h9:FG w' (t 9) ((Y2+X2)%fp):=by simpa using hdep ⟨9,.data⟩ (by simp) rfl
    refine h9.elim_ fun g9 c9 d9 f9=>?_
    clear h9;clear hdep;have A:=fmul_any (some ⟨g4,0,none⟩) (some ⟨g9,0,none⟩) c4 c9 _ _ w' f4 f9;have hK':∀ ww v,FG ww v (((Y1+X1)%fp)*((Y2+X2)%fp)%fp)→Below w'.heap.size w' ww→K _ ww:=fun ww v hg hb=>hK ww v (by simpa using hg) (hx.trans (hb.mono hx.size)) hb
    clear hK;rw[if_pos (by rfl)];go_simp;try simp only[d4,d9]
    refine A.mono ?_;rintro e w9 ⟨g',c',rfl,_,_,hf,hb⟩;have hK2:=hK' w9 _ ⟨g',c',rfl,hf⟩ hb;clear hK' A hf hb;go_simp;simpa[upd,d4,d9] using hK2
   ·have h10:FG w' (t 10) (((Y1+X1)%fp)*((Y2+X2)%fp)%fp):=by simpa using hdep ⟨10,.data⟩ (by simp) rfl
    refine h10.elim_ fun g10 c10 d10 f10=>?_
    clear h10;clear hdep;have hK':=hK w' (.slice (some ⟨g10,0,none⟩) 16 c10) (by simpa using⟨g10,c10,rfl,f10⟩) hx (Below.refl _ _);clear hK;rw[if_pos (by rfl)];go_simp;simpa[upd,d10] using hK'
  case hdone=>
   intro L t2 w2 hx hg;have f11:FG w2 (t2 11) (((Y1+X1)%fp)*((Y2+X2)%fp)%fp):=by simpa using hg 11 (by decide)
   clear hg;obtain⟨ggB,ccB,eB,ff⟩:=f11.get;have HP2:Hid (PtW w2 w.heap.size #[.slice a0 16 c0,.slice a1 16 c1,.slice a2 16 c2,.slice a3 16 c3]):=HP1.out.below hx HP1.out.lt;have HQ2:Hid (PtW w2 (w.heap.size+1) #[.slice b0 16 e0,.slice b1 16 e1,.slice b2 16 e2,.slice b3 16 e3]):=HQ1.out.below hx HQ1.out.lt;have HZ2:Hid (PtW w2 (w.heap.size+1+1) #[.slice none 0 0,.slice none 0 0,.slice none 0 0,.slice none 0 0]):=HZ1.out.below hx HZ1.out.lt;have SRK2:Hid (SR w w2 [(a0,X1),(a1,Y1),(a2,Z1),(a3,T1),(b0,X2),(b1,Y2),(b2,Z2),(b3,T2),(ad,D),(some ⟨ggA,0,none⟩,smA X1 Y1 X2 Y2),(some ⟨ggB,0,none⟩,smB X1 Y1 X2 Y2)]):=SRK1.out.more hx ff;clear HP1 HQ1 HZ1 SRK1 hx ff;simp only[eB];clear eB;go_wp2_with fail;refine wp_region_any (by kernel_rfl) ?_;refine wpAny_slotsG (fun _ w w'=>Below w.heap.size w w') (frame:=(fun (a b c d e f g h i j k l m n o p q r s u v w x y z A B C D E F G H I J K L M N O P Q R S T U V W X Y Z a0 a1 a2 a3 a4 a5 a6 a7 a8 a9 b0 b1 b2 b3 b4 b5 b6 b7:Value)=>fun (t:Nat→Value)=>({ tmps:=List.toArray [a,b,c,d,e,f,g,h,i,t 9,j,k,l,m,n,o,p,q,r,s,u,v,w,x,y,z,A,B,C,D,E,F,G,H,I,J,K,t 0,t 1,t 2,t 3,t 4,t 5,t 6,t 7,t 8,L,M,N,O,P,Q,R,S,T,U,V,W,X,Y,Z,a0,a1,a2,a3,a4,a5,a6,a7,a8,a9,b0,b1,b2,b3,b4,b5,b6,b7],defers:=[] }:Act)) _ _ _ _ _ _ _ _ _ _ _ _ _ _ _ _ _ _ _ _ _ _ _ _ _ _ _ _ _ _ _ _ _ _ _ _ _ _ _ _ _ _ _ _ _ _ _ _ _ _ _ _ _ _ _ _ _ _ _ _ _ _ _ _ _ _ _ _ _)
    (Ext:=fun L w'=>Below w2.heap.size w2 w') (Good:=fun i L w' v=>if i=0 then v=.slice ad 16 cd else if i=1 then v=.slice ad 16 cd else if i=2 then FG w' v ((D+D)%fp) else if i=3 then v=.pointer (some ⟨w.heap.size,3,none⟩) else if i=4 then v=.slice a3 16 c3 else if i=5 then FG w' v (((D+D)%fp)*T1%fp) else if i=6 then v=.pointer (some ⟨(w.heap.size+1),3,none⟩) else if i=7 then v=.slice b3 16 e3 else if i=8 then FG w' v ((((D+D)%fp)*T1%fp)*T2%fp) else if i=9 then FG w' v ((((D+D)%fp)*T1%fp)*T2%fp) else True) ?hstab (by kernel_rfl) ?hop ?hdone _ _ ((fun (x0 x1 x2 x3 x4 x5 x6 x7 x8 x9:Value)=>fun (i:Nat)=>if i=0 then x0 else if i=1 then x1 else if i=2 then x2 else if i=3 then x3 else if i=4 then x4 else if i=5 then x5 else if i=6 then x6 else if i=7 then x7 else if i=8 then x8 else if i=9 then x9 else undef) _ _ _ _ _ _ _ _ _ _) _ (by simp) ?ext ?start (by simp)
   case start=>intro i hi h;exact absurd h (by rw[Array.getD_eq_getD_getElem?,Array.getElem?_replicate];split<;>simp)
   case ext=>exact⟨rfl,rfl,rfl,Nat.le_refl _,fun _ _=>rfl⟩
   case hstab=>
    intro j L w9 w' i v hM _ _ h;by_cases h2:j=2
    ·subst h2;simp at h ⊢;exact h.below hM
    by_cases h5:j=5
    ·subst h5;simp at h ⊢;exact h.below hM
    by_cases h8:j=8
    ·subst h8;simp at h ⊢;exact h.below hM
    by_cases h9:j=9
    ·subst h9;simp at h ⊢;exact h.below hM
    simp only[if_neg h2,if_neg h5,if_neg h8,if_neg h9] at h ⊢;exact h
   case hop=>
    intro i o L t w' ho hLi hx hdep K hK;have hi:i<10:=(Array.getElem?_eq_some_iff.1 ho).1;obtain rfl|rfl|rfl|rfl|rfl|rfl|rfl|rfl|rfl|rfl:i=0∨i=1∨i=2∨i=3∨i=4∨i=5∨i=6∨i=7∨i=8∨i=9:=by omega
    all_goals(simp at ho;subst ho)
    ·clear hdep;have hK':=hK w' (.slice ad 16 cd) (by simp) hx (Below.refl _ _);clear hK;rw[if_pos (by rfl)];go_simp;simpa[upd] using hK'
    ·clear hdep;have hK':=hK w' (.slice ad 16 cd) (by simp) hx (Below.refl _ _);clear hK;rw[if_pos (by rfl)];go_simp;simpa[upd] using hK'
    ·have d0:t 0=.slice ad 16 cd:=by simpa using hdep ⟨0,.data⟩ (by simp) rfl
     have d1:t 1=.slice ad 16 cd:=by simpa using hdep ⟨1,.data⟩ (by simp) rfl
     clear hdep;have A:=fadd_any ad ad cd cd D D w' ((SRK2.out.at 8 _ _ rfl).below hx) ((SRK2.out.at 8 _ _ rfl).below hx);have hK':∀ ww v,FG ww v ((D+D)%fp)→Below w'.heap.size w' ww→K _ ww:=fun ww v hg hb=>hK ww v (by simpa using hg) (hx.trans (hb.mono hx.size)) hb
     clear hK;rw[if_pos (by rfl)];go_simp;try simp only[d0,d1]
     refine A.mono ?_;rintro e w9 ⟨g',c',rfl,_,_,hf,hb⟩;have hK2:=hK' w9 _ ⟨g',c',rfl,hf⟩ hb;clear hK' A hf hb;go_simp;simpa[upd,d0,d1] using hK2
    ·clear hdep;have hK':=hK w' (.pointer (some ⟨w.heap.size,3,none⟩)) (by simp) hx (Below.refl _ _);clear hK;rw[if_pos (by rfl)];go_simp;simpa[upd] using hK'
    ·have d3:t 3=.pointer (some ⟨w.heap.size,3,none⟩):=by simpa using hdep ⟨3,.data⟩ (by simp) rfl
     clear hdep;have cc:=(HP2.out.below hx HP2.out.lt).c3;have hK':=hK w' (.slice a3 16 c3) (by simp) hx (Below.refl _ _);clear hK;rw[if_pos (by rfl)];go_simp;simpa[upd,d3] using hK'
    ·have h2:FG w' (t 2) ((D+D)%fp):=by simpa using hdep ⟨2,.data⟩ (by simp) rfl
     refine h2.elim_ fun g2 c2 d2 f2=>?_
     clear h2;have d4:t 4=.slice a3 16 c3:=by simpa using hdep ⟨4,.data⟩ (by simp) rfl
     clear hdep;have A:=fmul_any (some ⟨g2,0,none⟩) a3 c2 c3 _ T1 w' f2 ((SRK2.out.at 3 _ _ rfl).below hx);have hK':∀ ww v,FG ww v (((D+D)%fp)*T1%fp)→Below w'.heap.size w' ww→K _ ww:=fun ww v hg hb=>hK ww v (by simpa using hg) (hx.trans (hb.mono hx.size)) hb
     clear hK;rw[if_pos (by rfl)];go_simp;try simp only[d2,d4]
     refine A.mono ?_;rintro e w9 ⟨g',c',rfl,_,_,hf,hb⟩;have hK2:=hK' w9 _ ⟨g',c',rfl,hf⟩ hb;clear hK' A hf hb;go_simp;simpa[upd,d2,d4] using hK2
    ·clear hdep;have hK':=hK w' (.pointer (some ⟨(w.heap.size+1),3,none⟩)) (by simp) hx (Below.refl _ _);clear hK;rw[if_pos (by rfl)];go_simp;simpa[upd] using hK'
    ·have d6:t 6=.pointer (some ⟨(w.heap.size+1),3,none⟩):=by simpa using hdep ⟨6,.data⟩ (by simp) rfl
     clear hdep;have cc:=(HQ2.out.below hx HQ2.out.lt).c3;have hK':=hK w' (.slice b3 16 e3) (by simp) hx (Below.refl _ _);clear hK;rw[if_pos (by rfl)];go_simp;simpa[upd,d6] using hK'
    ·have h5:FG w' (t 5) (((D+D)%fp)*T1%fp):=by simpa using hdep ⟨5,.data⟩ (by simp) rfl
     refine h5.elim_ fun g5 c5 d5 f5=>?_
     clear h5;have d7:t 7=.slice b3 16 e3:=by simpa using hdep ⟨7,.data⟩ (by simp) rfl
     clear hdep;have A:=fmul_any (some ⟨g5,0,none⟩) b3 c5 e3 _ T2 w' f5 ((SRK2.out.at 7 _ _ rfl).below hx);have hK':∀ ww v,FG ww v ((((D+D)%fp)*T1%fp)*T2%fp)→Below w'.heap.size w' ww→K _ ww:=fun ww v hg hb=>hK ww v (by simpa using hg) (hx.trans (hb.mono hx.size)) hb
     clear hK;rw[if_pos (by rfl)];go_simp;try simp only[d5,d7]
     refine A.mono ?_;rintro e w9 ⟨g',c',rfl,_,_,hf,hb⟩;have hK2:=hK' w9 _ ⟨g',c',rfl,hf⟩ hb;clear hK' A hf hb;go_simp;simpa[upd,d5,d7] using hK2
    ·have h8:FG w' (t 8) ((((D+D)%fp)*T1%fp)*T2%fp):=by simpa using hdep ⟨8,.data⟩ (by simp) rfl
     refine h8.elim_ fun g8 c8 d8 f8=>?_
     clear h8;clear hdep;have hK':=hK w' (.slice (some ⟨g8,0,none⟩) 16 c8) (by simpa using⟨g8,c8,rfl,f8⟩) hx (Below.refl _ _);clear hK;rw[if_pos (by rfl)];go_simp;simpa[upd,d8] using hK'
   case hdone=>
    intro L t3 w3 hx hg;have f9:FG w3 (t3 9) ((((D+D)%fp)*T1%fp)*T2%fp):=by simpa using hg 9 (by decide)
    clear hg;obtain⟨ggC,ccC,eC,ff⟩:=f9.get;have HP3:Hid (PtW w3 w.heap.size #[.slice a0 16 c0,.slice a1 16 c1,.slice a2 16 c2,.slice a3 16 c3]):=HP2.out.below hx HP2.out.lt;have HQ3:Hid (PtW w3 (w.heap.size+1) #[.slice b0 16 e0,.slice b1 16 e1,.slice b2 16 e2,.slice b3 16 e3]):=HQ2.out.below hx HQ2.out.lt;have HZ3:Hid (PtW w3 (w.heap.size+1+1) #[.slice none 0 0,.slice none 0 0,.slice none 0 0,.slice none 0 0]):=HZ2.out.below hx HZ2.out.lt;have SRK3:Hid (SR w w3 [(a0,X1),(a1,Y1),(a2,Z1),(a3,T1),(b0,X2),(b1,Y2),(b2,Z2),(b3,T2),(ad,D),(some ⟨ggA,0,none⟩,smA X1 Y1 X2 Y2),(some ⟨ggB,0,none⟩,smB X1 Y1 X2 Y2),(some ⟨ggC,0,none⟩,smC D T1 T2)]):=SRK2.out.more hx ff;clear HP2 HQ2 HZ2 SRK2 hx ff;simp only[eC];clear eC;go_wp2_with fail;refine wp_region_any (by kernel_rfl) ?_;refine wpAny_slotsG (fun _ w w'=>Below w.heap.size w w') (frame:=(fun (a b c d e f g h i j k l m n o p q r s u v w x y z A B C D E F G H I J K L M N O P Q R S T U V W X Y Z a0 a1 a2 a3 a4 a5 a6 a7 a8 a9 b0 b1 b2 b3 b4 b5 b6 b7 b8:Value)=>fun (t:Nat→Value)=>({ tmps:=List.toArray [a,b,c,d,e,f,g,h,i,j,t 8,k,l,m,n,o,p,q,r,s,u,v,w,x,y,z,A,B,C,D,E,F,G,H,I,J,K,L,M,N,O,P,Q,R,S,T,t 0,t 1,t 2,t 3,t 4,t 5,t 6,t 7,U,V,W,X,Y,Z,a0,a1,a2,a3,a4,a5,a6,a7,a8,a9,b0,b1,b2,b3,b4,b5,b6,b7,b8],defers:=[] }:Act)) _ _ _ _ _ _ _ _ _ _ _ _ _ _ _ _ _ _ _ _ _ _ _ _ _ _ _ _ _ _ _ _ _ _ _ _ _ _ _ _ _ _ _ _ _ _ _ _ _ _ _ _ _ _ _ _ _ _ _ _ _ _ _ _ _ _ _ _ _ _)
     (Ext:=fun L w'=>Below w3.heap.size w3 w') (Good:=fun i L w' v=>if i=0 then v=.pointer (some ⟨w.heap.size,2,none⟩) else if i=1 then v=.slice a2 16 c2 else if i=2 then v=.pointer (some ⟨w.heap.size,2,none⟩) else if i=3 then v=.slice a2 16 c2 else if i=4 then FG w' v ((Z1+Z1)%fp) else if i=5 then v=.pointer (some ⟨(w.heap.size+1),2,none⟩) else if i=6 then v=.slice b2 16 e2 else if i=7 then FG w' v (((Z1+Z1)%fp)*Z2%fp) else if i=8 then FG w' v (((Z1+Z1)%fp)*Z2%fp) else True) ?hstab (by kernel_rfl) ?hop ?hdone _ _ ((fun (x0 x1 x2 x3 x4 x5 x6 x7 x8:Value)=>fun (i:Nat)=>if i=0 then x0 else if i=1 then x1 else if i=2 then x2 else if i=3 then x3 else if i=4 then x4 else if i=5 then x5 else if i=6 then x6 else if i=7 then x7 else if i=8 then x8 else undef) _ _ _ _ _ _ _ _ _) _ (by simp) ?ext ?start (by simp)
    case start=>intro i hi h;exact absurd h (by rw[Array.getD_eq_getD_getElem?,Array.getElem?_replicate];split<;>simp)
    case ext=>exact⟨rfl,rfl,rfl,Nat.le_refl _,fun _ _=>rfl⟩
    case hstab=>
     intro j L w9 w' i v hM _ _ h;by_cases h4:j=4
     ·subst h4;simp at h ⊢;exact h.below hM
     by_cases h7:j=7
     ·subst h7;simp at h ⊢;exact h.below hM
     by_cases h8:j=8
     ·subst h8;simp at h ⊢;exact h.below hM
     simp only[if_neg h4,if_neg h7,if_neg h8] at h ⊢;exact h
    case hop=>
     intro i o L t w' ho hLi hx hdep K hK;have hi:i<9:=(Array.getElem?_eq_some_iff.1 ho).1;obtain rfl|rfl|rfl|rfl|rfl|rfl|rfl|rfl|rfl:i=0∨i=1∨i=2∨i=3∨i=4∨i=5∨i=6∨i=7∨i=8:=by omega
     all_goals(simp at ho;subst ho)
     ·clear hdep;have hK':=hK w' (.pointer (some ⟨w.heap.size,2,none⟩)) (by simp) hx (Below.refl _ _);clear hK;rw[if_pos (by rfl)];go_simp;simpa[upd] using hK'
     ·have d0:t 0=.pointer (some ⟨w.heap.size,2,none⟩):=by simpa using hdep ⟨0,.data⟩ (by simp) rfl
      clear hdep;have cc:=(HP3.out.below hx HP3.out.lt).c2;have hK':=hK w' (.slice a2 16 c2) (by simp) hx (Below.refl _ _);clear hK;rw[if_pos (by rfl)];go_simp;simpa[upd,d0] using hK'
     ·clear hdep;have hK':=hK w' (.pointer (some ⟨w.heap.size,2,none⟩)) (by simp) hx (Below.refl _ _);clear hK;rw[if_pos (by rfl)];go_simp;simpa[upd] using hK'
     ·have d2:t 2=.pointer (some ⟨w.heap.size,2,none⟩):=by simpa using hdep ⟨2,.data⟩ (by simp) rfl
      clear hdep;have cc:=(HP3.out.below hx HP3.out.lt).c2;have hK':=hK w' (.slice a2 16 c2) (by simp) hx (Below.refl _ _);clear hK;rw[if_pos (by rfl)];go_simp;simpa[upd,d2] using hK'
     ·have d1:t 1=.slice a2 16 c2:=by simpa using hdep ⟨1,.data⟩ (by simp) rfl
      have d3:t 3=.slice a2 16 c2:=by simpa using hdep ⟨3,.data⟩ (by simp) rfl
      clear hdep;have A:=fadd_any a2 a2 c2 c2 Z1 Z1 w' ((SRK3.out.at 2 _ _ rfl).below hx) ((SRK3.out.at 2 _ _ rfl).below hx);have hK':∀ ww v,FG ww v ((Z1+Z1)%fp)→Below w'.heap.size w' ww→K _ ww:=fun ww v hg hb=>hK ww v (by simpa using hg) (hx.trans (hb.mono hx.size)) hb
      clear hK;rw[if_pos (by rfl)];go_simp;try simp only[d1,d3]
      refine A.mono ?_;rintro e w9 ⟨g',c',rfl,_,_,hf,hb⟩;have hK2:=hK' w9 _ ⟨g',c',rfl,hf⟩ hb;clear hK' A hf hb;go_simp;simpa[upd,d1,d3] using hK2
     ·clear hdep;have hK':=hK w' (.pointer (some ⟨(w.heap.size+1),2,none⟩)) (by simp) hx (Below.refl _ _);clear hK;rw[if_pos (by rfl)];go_simp;simpa[upd] using hK'
     ·have d5:t 5=.pointer (some ⟨(w.heap.size+1),2,none⟩):=by simpa using hdep ⟨5,.data⟩ (by simp) rfl
      clear hdep;have cc:=(HQ3.out.below hx HQ3.out.lt).c2;have hK':=hK w' (.slice b2 16 e2) (by simp) hx (Below.refl _ _);clear hK;rw[if_pos (by rfl)];go_simp;simpa[upd,d5] using hK'
     ·have h4:FG w' (t 4) ((Z1+Z1)%fp):=by simpa using hdep ⟨4,.data⟩ (by simp) rfl
      refine h4.elim_ fun g4 c4 d4 f4=>?_
      clear h4;have d6:t 6=.slice b2 16 e2:=by simpa using hdep ⟨6,.data⟩ (by simp) rfl
      clear hdep;have A:=fmul_any (some ⟨g4,0,none⟩) b2 c4 e2 _ Z2 w' f4 ((SRK3.out.at 6 _ _ rfl).below hx);have hK':∀ ww v,FG ww v (((Z1+Z1)%fp)*Z2%fp)→Below w'.heap.size w' ww→K _ ww:=fun ww v hg hb=>hK ww v (by simpa using hg) (hx.trans (hb.mono hx.size)) hb
      clear hK;rw[if_pos (by rfl)];go_simp;try simp only[d4,d6]
      refine A.mono ?_;rintro e w9 ⟨g',c',rfl,_,_,hf,hb⟩;have hK2:=hK' w9 _ ⟨g',c',rfl,hf⟩ hb;clear hK' A hf hb;go_simp;simpa[upd,d4,d6] using hK2
     ·have h7:FG w' (t 7) (((Z1+Z1)%fp)*Z2%fp):=by simpa using hdep ⟨7,.data⟩ (by simp) rfl
      refine h7.elim_ fun g7 c7 d7 f7=>?_
      clear h7;clear hdep;have hK':=hK w' (.slice (some ⟨g7,0,none⟩) 16 c7) (by simpa using⟨g7,c7,rfl,f7⟩) hx (Below.refl _ _);clear hK;rw[if_pos (by rfl)];go_simp;simpa[upd,d7] using hK'
    case hdone=>
     intro L t4 w4 hx hg;have f8:FG w4 (t4 8) (((Z1+Z1)%fp)*Z2%fp):=by simpa using hg 8 (by decide)
     clear hg;obtain⟨ggG,ccG,eG,ff⟩:=f8.get;have HP4:Hid (PtW w4 w.heap.size #[.slice a0 16 c0,.slice a1 16 c1,.slice a2 16 c2,.slice a3 16 c3]):=HP3.out.below hx HP3.out.lt;have HQ4:Hid (PtW w4 (w.heap.size+1) #[.slice b0 16 e0,.slice b1 16 e1,.slice b2 16 e2,.slice b3 16 e3]):=HQ3.out.below hx HQ3.out.lt;have HZ4:Hid (PtW w4 (w.heap.size+1+1) #[.slice none 0 0,.slice none 0 0,.slice none 0 0,.slice none 0 0]):=HZ3.out.below hx HZ3.out.lt;have SRK4:Hid (SR w w4 [(a0,X1),(a1,Y1),(a2,Z1),(a3,T1),(b0,X2),(b1,Y2),(b2,Z2),(b3,T2),(ad,D),(some ⟨ggA,0,none⟩,smA X1 Y1 X2 Y2),(some ⟨ggB,0,none⟩,smB X1 Y1 X2 Y2),(some ⟨ggC,0,none⟩,smC D T1 T2),(some ⟨ggG,0,none⟩,smG Z1 Z2)]):=SRK3.out.more hx ff;clear HP3 HQ3 HZ3 SRK3 hx ff;simp only[eG];clear eG;go_wp2_with fail;clear HP4 HQ4;refine(fsub_any _ _ ccB ccA _ _ _ (SRK4.out.at 10 _ _ rfl) (SRK4.out.at 9 _ _ rfl)).mono ?_;rintro e w5 ⟨gE,kE,rfl,hk1,hl1,hf,hb⟩;have HZ5:Hid (PtW w5 (w.heap.size+1+1) #[.slice none 0 0,.slice none 0 0,.slice none 0 0,.slice none 0 0]):=HZ4.out.below hb HZ4.out.lt;have SRK5:Hid (SR w w5 [(a0,X1),(a1,Y1),(a2,Z1),(a3,T1),(b0,X2),(b1,Y2),(b2,Z2),(b3,T2),(ad,D),(some ⟨ggA,0,none⟩,smA X1 Y1 X2 Y2),(some ⟨ggB,0,none⟩,smB X1 Y1 X2 Y2),(some ⟨ggC,0,none⟩,smC D T1 T2),(some ⟨ggG,0,none⟩,smG Z1 Z2),(some ⟨gE,0,none⟩,(smB X1 Y1 X2 Y2-smA X1 Y1 X2 Y2)%fp)]):=SRK4.out.more hb hf;have hgE:w.heap.size+1+1<gE:=by have:=HZ4.out.lt;omega
     clear hf hb SRK4 HZ4 hk1 hl1;go_wp2_with fail;refine(fsub_any _ _ ccG ccC _ _ _ (SRK5.out.at 12 _ _ rfl) (SRK5.out.at 11 _ _ rfl)).mono ?_;rintro e w6 ⟨gF,kF,rfl,hk1,hl1,hf,hb⟩;have HZ6:Hid (PtW w6 (w.heap.size+1+1) #[.slice none 0 0,.slice none 0 0,.slice none 0 0,.slice none 0 0]):=HZ5.out.below hb HZ5.out.lt;have SRK6:Hid (SR w w6 [(a0,X1),(a1,Y1),(a2,Z1),(a3,T1),(b0,X2),(b1,Y2),(b2,Z2),(b3,T2),(ad,D),(some ⟨ggA,0,none⟩,smA X1 Y1 X2 Y2),(some ⟨ggB,0,none⟩,smB X1 Y1 X2 Y2),(some ⟨ggC,0,none⟩,smC D T1 T2),(some ⟨ggG,0,none⟩,smG Z1 Z2),(some ⟨gE,0,none⟩,(smB X1 Y1 X2 Y2-smA X1 Y1 X2 Y2)%fp),(some ⟨gF,0,none⟩,(smG Z1 Z2-smC D T1 T2)%fp)]):=SRK5.out.more hb hf;have hgF:w.heap.size+1+1<gF:=by have:=HZ5.out.lt;omega
     clear hf hb SRK5 HZ5 hk1 hl1;go_wp2_with fail;refine(fadd_any _ _ ccG ccC _ _ _ (SRK6.out.at 12 _ _ rfl) (SRK6.out.at 11 _ _ rfl)).mono ?_;rintro e w7 ⟨gH,kH,rfl,hk1,hl1,hf,hb⟩;have HZ7:Hid (PtW w7 (w.heap.size+1+1) #[.slice none 0 0,.slice none 0 0,.slice none 0 0,.slice none 0 0]):=HZ6.out.below hb HZ6.out.lt;have SRK7:Hid (SR w w7 [(a0,X1),(a1,Y1),(a2,Z1),(a3,T1),(b0,X2),(b1,Y2),(b2,Z2),(b3,T2),(ad,D),(some ⟨ggA,0,none⟩,smA X1 Y1 X2 Y2),(some ⟨ggB,0,none⟩,smB X1 Y1 X2 Y2),(some ⟨ggC,0,none⟩,smC D T1 T2),(some ⟨ggG,0,none⟩,smG Z1 Z2),(some ⟨gE,0,none⟩,(smB X1 Y1 X2 Y2-smA X1 Y1 X2 Y2)%fp),(some ⟨gF,0,none⟩,(smG Z1 Z2-smC D T1 T2)%fp),(some ⟨gH,0,none⟩,(smG Z1 Z2+smC D T1 T2)%fp)]):=SRK6.out.more hb hf;have hgH:w.heap.size+1+1<gH:=by have:=HZ6.out.lt;omega
     clear hf hb SRK6 HZ6 hk1 hl1;go_wp2_with fail;refine(fadd_any _ _ ccB ccA _ _ _ (SRK7.out.at 10 _ _ rfl) (SRK7.out.at 9 _ _ rfl)).mono ?_;rintro e w8 ⟨gK,kK,rfl,hk1,hl1,hf,hb⟩;have HZ8:Hid (PtW w8 (w.heap.size+1+1) #[.slice none 0 0,.slice none 0 0,.slice none 0 0,.slice none 0 0]):=HZ7.out.below hb HZ7.out.lt;have SRK8:Hid (SR w w8 [(a0,X1),(a1,Y1),(a2,Z1),(a3,T1),(b0,X2),(b1,Y2),(b2,Z2),(b3,T2),(ad,D),(some ⟨ggA,0,none⟩,smA X1 Y1 X2 Y2),(some ⟨ggB,0,none⟩,smB X1 Y1 X2 Y2),(some ⟨ggC,0,none⟩,smC D T1 T2),(some ⟨ggG,0,none⟩,smG Z1 Z2),(some ⟨gE,0,none⟩,(smB X1 Y1 X2 Y2-smA X1 Y1 X2 Y2)%fp),(some ⟨gF,0,none⟩,(smG Z1 Z2-smC D T1 T2)%fp),(some ⟨gH,0,none⟩,(smG Z1 Z2+smC D T1 T2)%fp),(some ⟨gK,0,none⟩,(smB X1 Y1 X2 Y2+smA X1 Y1 X2 Y2)%fp)]):=SRK7.out.more hb hf;have hgK:w.heap.size+1+1<gK:=by have:=HZ7.out.lt;omega
     clear hf hb SRK7 HZ7 hk1 hl1;go_wp2_with fail;refine(fmul_any _ _ kE kF _ _ _ (SRK8.out.at 13 _ _ rfl) (SRK8.out.at 14 _ _ rfl)).mono ?_;rintro e w9 ⟨gX,kX,rfl,hk1,hl1,hf,hb⟩;have HZ9:Hid (PtW w9 (w.heap.size+1+1) #[.slice none 0 0,.slice none 0 0,.slice none 0 0,.slice none 0 0]):=HZ8.out.below hb HZ8.out.lt;have SRK9:Hid (SR w w9 [(a0,X1),(a1,Y1),(a2,Z1),(a3,T1),(b0,X2),(b1,Y2),(b2,Z2),(b3,T2),(ad,D),(some ⟨ggA,0,none⟩,smA X1 Y1 X2 Y2),(some ⟨ggB,0,none⟩,smB X1 Y1 X2 Y2),(some ⟨ggC,0,none⟩,smC D T1 T2),(some ⟨ggG,0,none⟩,smG Z1 Z2),(some ⟨gE,0,none⟩,(smB X1 Y1 X2 Y2-smA X1 Y1 X2 Y2)%fp),(some ⟨gF,0,none⟩,(smG Z1 Z2-smC D T1 T2)%fp),(some ⟨gH,0,none⟩,(smG Z1 Z2+smC D T1 T2)%fp),(some ⟨gK,0,none⟩,(smB X1 Y1 X2 Y2+smA X1 Y1 X2 Y2)%fp),(some ⟨gX,0,none⟩,(smB X1 Y1 X2 Y2-smA X1 Y1 X2 Y2)%fp*((smG Z1 Z2-smC D T1 T2)%fp)%fp)]):=SRK8.out.more hb hf;have hgX:w.heap.size+1+1<gX:=by have:=HZ8.out.lt;omega
     clear hf hb SRK8 HZ8 hk1 hl1;go_wp2_with fail;refine(fmul_any _ _ kH kK _ _ _ (SRK9.out.at 15 _ _ rfl) (SRK9.out.at 16 _ _ rfl)).mono ?_;rintro e w10 ⟨gY,kY,rfl,hk1,hl1,hf,hb⟩;have HZ10:Hid (PtW w10 (w.heap.size+1+1) #[.slice none 0 0,.slice none 0 0,.slice none 0 0,.slice none 0 0]):=HZ9.out.below hb HZ9.out.lt;have SRK10:Hid (SR w w10 [(a0,X1),(a1,Y1),(a2,Z1),(a3,T1),(b0,X2),(b1,Y2),(b2,Z2),(b3,T2),(ad,D),(some ⟨ggA,0,none⟩,smA X1 Y1 X2 Y2),(some ⟨ggB,0,none⟩,smB X1 Y1 X2 Y2),(some ⟨ggC,0,none⟩,smC D T1 T2),(some ⟨ggG,0,none⟩,smG Z1 Z2),(some ⟨gE,0,none⟩,(smB X1 Y1 X2 Y2-smA X1 Y1 X2 Y2)%fp),(some ⟨gF,0,none⟩,(smG Z1 Z2-smC D T1 T2)%fp),(some ⟨gH,0,none⟩,(smG Z1 Z2+smC D T1 T2)%fp),(some ⟨gK,0,none⟩,(smB X1 Y1 X2 Y2+smA X1 Y1 X2 Y2)%fp),(some ⟨gX,0,none⟩,(smB X1 Y1 X2 Y2-smA X1 Y1 X2 Y2)%fp*((smG Z1 Z2-smC D T1 T2)%fp)%fp),(some ⟨gY,0,none⟩,(smG Z1 Z2+smC D T1 T2)%fp*((smB X1 Y1 X2 Y2+smA X1 Y1 X2 Y2)%fp)%fp)]):=SRK9.out.more hb hf;have hgY:w.heap.size+1+1<gY:=by have:=HZ9.out.lt;omega
     clear hf hb SRK9 HZ9 hk1 hl1;go_wp2_with fail;refine(fmul_any _ _ kF kH _ _ _ (SRK10.out.at 14 _ _ rfl) (SRK10.out.at 15 _ _ rfl)).mono ?_;rintro e w11 ⟨gZ,kZ,rfl,hk1,hl1,hf,hb⟩;have HZ11:Hid (PtW w11 (w.heap.size+1+1) #[.slice none 0 0,.slice none 0 0,.slice none 0 0,.slice none 0 0]):=HZ10.out.below hb HZ10.out.lt;have SRK11:Hid (SR w w11 [(a0,X1),(a1,Y1),(a2,Z1),(a3,T1),(b0,X2),(b1,Y2),(b2,Z2),(b3,T2),(ad,D),(some ⟨ggA,0,none⟩,smA X1 Y1 X2 Y2),(some ⟨ggB,0,none⟩,smB X1 Y1 X2 Y2),(some ⟨ggC,0,none⟩,smC D T1 T2),(some ⟨ggG,0,none⟩,smG Z1 Z2),(some ⟨gE,0,none⟩,(smB X1 Y1 X2 Y2-smA X1 Y1 X2 Y2)%fp),(some ⟨gF,0,none⟩,(smG Z1 Z2-smC D T1 T2)%fp),(some ⟨gH,0,none⟩,(smG Z1 Z2+smC D T1 T2)%fp),(some ⟨gK,0,none⟩,(smB X1 Y1 X2 Y2+smA X1 Y1 X2 Y2)%fp),(some ⟨gX,0,none⟩,(smB X1 Y1 X2 Y2-smA X1 Y1 X2 Y2)%fp*((smG Z1 Z2-smC D T1 T2)%fp)%fp),(some ⟨gY,0,none⟩,(smG Z1 Z2+smC D T1 T2)%fp*((smB X1 Y1 X2 Y2+smA X1 Y1 X2 Y2)%fp)%fp),(some ⟨gZ,0,none⟩,(smG Z1 Z2-smC D T1 T2)%fp*((smG Z1 Z2+smC D T1 T2)%fp)%fp)]):=SRK10.out.more hb hf;have hgZ:w.heap.size+1+1<gZ:=by have:=HZ10.out.lt;omega
     clear hf hb SRK10 HZ10 hk1 hl1;go_wp2_with fail;refine(fmul_any _ _ kE kK _ _ _ (SRK11.out.at 13 _ _ rfl) (SRK11.out.at 16 _ _ rfl)).mono ?_;rintro e w12 ⟨gT,kT,rfl,hk1,hl1,hf,hb⟩;have HZ12:Hid (PtW w12 (w.heap.size+1+1) #[.slice none 0 0,.slice none 0 0,.slice none 0 0,.slice none 0 0]):=HZ11.out.below hb HZ11.out.lt;have SRK12:Hid (SR w w12 [(a0,X1),(a1,Y1),(a2,Z1),(a3,T1),(b0,X2),(b1,Y2),(b2,Z2),(b3,T2),(ad,D),(some ⟨ggA,0,none⟩,smA X1 Y1 X2 Y2),(some ⟨ggB,0,none⟩,smB X1 Y1 X2 Y2),(some ⟨ggC,0,none⟩,smC D T1 T2),(some ⟨ggG,0,none⟩,smG Z1 Z2),(some ⟨gE,0,none⟩,(smB X1 Y1 X2 Y2-smA X1 Y1 X2 Y2)%fp),(some ⟨gF,0,none⟩,(smG Z1 Z2-smC D T1 T2)%fp),(some ⟨gH,0,none⟩,(smG Z1 Z2+smC D T1 T2)%fp),(some ⟨gK,0,none⟩,(smB X1 Y1 X2 Y2+smA X1 Y1 X2 Y2)%fp),(some ⟨gX,0,none⟩,(smB X1 Y1 X2 Y2-smA X1 Y1 X2 Y2)%fp*((smG Z1 Z2-smC D T1 T2)%fp)%fp),(some ⟨gY,0,none⟩,(smG Z1 Z2+smC D T1 T2)%fp*((smB X1 Y1 X2 Y2+smA X1 Y1 X2 Y2)%fp)%fp),(some ⟨gZ,0,none⟩,(smG Z1 Z2-smC D T1 T2)%fp*((smG Z1 Z2+smC D T1 T2)%fp)%fp),(some ⟨gT,0,none⟩,(smB X1 Y1 X2 Y2-smA X1 Y1 X2 Y2)%fp*((smB X1 Y1 X2 Y2+smA X1 Y1 X2 Y2)%fp)%fp)]):=SRK11.out.more hb hf;have hgT:w.heap.size+1+1<gT:=by have:=HZ11.out.lt;omega
     clear hf hb SRK11 HZ11 hk1 hl1;go_wp2_with (first
      |(refine wpList_storePt rfl (.tmp 6) (.tmp 78) rfl (w.heap.size+1+1) _ _ _ _ _ rfl rfl rfl rfl rfl rfl rfl HZ12.out ?_)
      |fail)
     intro w13 hp3 hw3;have HP3:Hid (PtW w13 (w.heap.size+1+1) #[.slice (some ⟨gX,0,none⟩) 16 kX,.slice (some ⟨gY,0,none⟩) 16 kY,.slice (some ⟨gZ,0,none⟩) 16 kZ,.slice (some ⟨gT,0,none⟩) 16 kT]):=hp3;have HF:Hid (FeA w13 (some ⟨gX,0,none⟩) ((smB X1 Y1 X2 Y2-smA X1 Y1 X2 Y2)%fp*((smG Z1 Z2-smC D T1 T2)%fp)%fp)∧FeA w13 (some ⟨gY,0,none⟩) ((smG Z1 Z2+smC D T1 T2)%fp*((smB X1 Y1 X2 Y2+smA X1 Y1 X2 Y2)%fp)%fp)∧FeA w13 (some ⟨gZ,0,none⟩) ((smG Z1 Z2-smC D T1 T2)%fp*((smG Z1 Z2+smC D T1 T2)%fp)%fp)∧FeA w13 (some ⟨gT,0,none⟩) ((smB X1 Y1 X2 Y2-smA X1 Y1 X2 Y2)%fp*((smB X1 Y1 X2 Y2+smA X1 Y1 X2 Y2)%fp)%fp)∧Below w.heap.size w w13):=
      ⟨(SRK12.out.at 17 _ _ rfl).wr hw3 (by omega),(SRK12.out.at 18 _ _ rfl).wr hw3 (by omega),(SRK12.out.at 19 _ _ rfl).wr hw3 (by omega),(SRK12.out.at 20 _ _ rfl).wr hw3 (by omega),SRK12.out.below.trans (hw3.below (by omega))⟩
     clear hp3 hw3 SRK12 HZ12;go_wp2;exact bodyPost_ret (v:=.agg #[.slice (some ⟨gX,0,none⟩) 16 kX,.slice (some ⟨gY,0,none⟩) 16 kY,.slice (some ⟨gZ,0,none⟩) 16 kZ,.slice (some ⟨gT,0,none⟩) 16 kT]) (results_cell_row rfl _ _ (w.heap.size+1+1) 109 _ (0,0) _ rfl HP3.out Tryz.underlying109 rfl Tryz.sizePt) rfl ⟨gX,kX,gY,kY,gZ,kZ,gT,kT,rfl,HF.out.1,HF.out.2.1,HF.out.2.2.1,HF.out.2.2.2.1,HF.out.2.2.2.2,by omega,by omega,by omega,by omega⟩
theorem run_sliceB (w:World) (b o c t:Nat) (ht:t<16) (hc:128≤c):(Instr.sliceAt 26 (.slice (some ⟨b,o,none⟩) 128 c) (some (.int .i64 (8*(t:Int)))) (some (.int .i64 (8*(t:Int)+8))) none).run Tryz.prog w=.ok (.slice (some ⟨b,o+8*t,none⟩) 8 (c-8*t)) w:=by
 have h2:(8*(t:Int)+8)≤(c:Int):=by omega
 have h3:(8*(t:Int)+8).toNat=8*t+8:=by omega
 have h4:¬ (c=8*t):=by omega
 have h5:(8*(t:Int)).toNat=8*t:=by omega
 have h6:(0:Int)≤8*(t:Int):=by omega
 have h7:(0:Int)≤8*(t:Int)+8:=by omega
 unfold Instr.sliceAt;simp[run_underlying Tryz.underlying26,go_sem,Instr.sliceBounds,h2,h3,h4,h5,h6,h7,Addr.add];rw[if_pos (by omega)];by_cases h0:t=0
 ·subst h0;simp
 ·rw[if_neg (by omega)]
structure BK (w:World) (bh oh bb ob bk:Nat) (hs bs:List Int):Prop where
 h:bh<w.heap.size∧∀ i,i<8→w.cell? ⟨bh,oh+i,none⟩=some (.int .u64 (hs.getD i 0))
 b:bb<w.heap.size∧∀ i,i<128→w.cell? ⟨bb,ob+i,none⟩=some (.int .u8 (bs.getD i 0))
 k:bk<w.heap.size∧∀ i,i<88→w.cell? ⟨bk,i,none⟩=some (.int .u64 (kt i))
theorem BK.below {w w':World} {bh oh bb ob bk:Nat} {hs bs:List Int} (h:BK w bh oh bb ob bk hs bs) (hb:Below w.heap.size w w'):BK w' bh oh bb ob bk hs bs:=by
 have:=hb.size;exact⟨⟨by have:=h.h.1;omega,fun i hi=>by rw[World.cell?_of_block (w:=w) (hb.block bh h.h.1)];exact h.h.2 i hi⟩,⟨by have:=h.b.1;omega,fun i hi=>by rw[World.cell?_of_block (w:=w) (hb.block bb h.b.1)];exact h.b.2 i hi⟩,⟨by have:=h.k.1;omega,fun i hi=>by rw[World.cell?_of_block (w:=w) (hb.block bk h.k.1)];exact h.k.2 i hi⟩⟩
theorem rs1 (x:Int) (w:World) (hx:U64 x):Calls Tryz.prog 121 #[.int .u64 x,.int .u64 1] w fun e w'=>e=.returned (.int .u64 (rtr 1 x))∧w'=w:=rotS_any x 1 w (by decide) hx
theorem rs8 (x:Int) (w:World) (hx:U64 x):Calls Tryz.prog 121 #[.int .u64 x,.int .u64 8] w fun e w'=>e=.returned (.int .u64 (rtr 8 x))∧w'=w:=rotS_any x 8 w (by decide) hx
theorem rs19 (x:Int) (w:World) (hx:U64 x):Calls Tryz.prog 121 #[.int .u64 x,.int .u64 19] w fun e w'=>e=.returned (.int .u64 (rtr 19 x))∧w'=w:=rotS_any x 19 w (by decide) hx
theorem rs61 (x:Int) (w:World) (hx:U64 x):Calls Tryz.prog 121 #[.int .u64 x,.int .u64 61] w fun e w'=>e=.returned (.int .u64 (rtr 61 x))∧w'=w:=rotS_any x 61 w (by decide) hx
theorem rs28 (x:Int) (w:World) (hx:U64 x):Calls Tryz.prog 121 #[.int .u64 x,.int .u64 28] w fun e w'=>e=.returned (.int .u64 (rtr 28 x))∧w'=w:=rotS_any x 28 w (by decide) hx
theorem rs34 (x:Int) (w:World) (hx:U64 x):Calls Tryz.prog 121 #[.int .u64 x,.int .u64 34] w fun e w'=>e=.returned (.int .u64 (rtr 34 x))∧w'=w:=rotS_any x 34 w (by decide) hx
theorem rs39 (x:Int) (w:World) (hx:U64 x):Calls Tryz.prog 121 #[.int .u64 x,.int .u64 39] w fun e w'=>e=.returned (.int .u64 (rtr 39 x))∧w'=w:=rotS_any x 39 w (by decide) hx
theorem rs14 (x:Int) (w:World) (hx:U64 x):Calls Tryz.prog 121 #[.int .u64 x,.int .u64 14] w fun e w'=>e=.returned (.int .u64 (rtr 14 x))∧w'=w:=rotS_any x 14 w (by decide) hx
theorem rs18 (x:Int) (w:World) (hx:U64 x):Calls Tryz.prog 121 #[.int .u64 x,.int .u64 18] w fun e w'=>e=.returned (.int .u64 (rtr 18 x))∧w'=w:=rotS_any x 18 w (by decide) hx
theorem rs41 (x:Int) (w:World) (hx:U64 x):Calls Tryz.prog 121 #[.int .u64 x,.int .u64 41] w fun e w'=>e=.returned (.int .u64 (rtr 41 x))∧w'=w:=rotS_any x 41 w (by decide) hx
end Go.Proofs.YtjdhhgaelgemcaaGreatDoor
