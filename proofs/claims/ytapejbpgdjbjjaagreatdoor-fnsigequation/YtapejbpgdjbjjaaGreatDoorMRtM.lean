import Derived.Test.YtapejbpgdjbjjaaGreatDoorIDd
import Derived.Test.YtapejbpgdjbjjaaGreatDoorSDc
import Derived.Test.YtapejbpgdjbjjaaGreatDoorFerm
namespace Go.Proofs.YtapejbpgdjbjjaaGreatDoor
set_option linter.unusedVariables false
theorem ml (a b:Int):(a%fp)*b%fp=a*b%fp:=by rw[Int.mul_emod,Int.emod_emod_of_dvd _ (Int.dvd_refl fp),←Int.mul_emod]
theorem mr (a b:Int):a*(b%fp)%fp=a*b%fp:=by rw[Int.mul_emod,Int.emod_emod_of_dvd _ (Int.dvd_refl fp),←Int.mul_emod]
theorem mpow (a:Int) (n:Nat):(a%fp)^n%fp=a^n%fp:=by
 induction n with
 |zero=>simp only[Int.pow_zero]
 |succ n ih=>rw[Int.pow_succ,Int.pow_succ,mr,Int.mul_emod,ih,←Int.mul_emod]
theorem ml2 (u a b:Int):u*(a%fp*b)%fp=u*(a*b)%fp:=by rw[←mr u (a%fp*b),ml,mr]
def exF (low nb top:Nat):Nat→Nat
 |0=>0
 |k+1=>2*exF low nb top k+(if pbit low nb (top-k) then 1 else 0)
theorem pwF_pow (x:Int) (low nb top k:Nat):pwF x low nb top k=x^exF low nb top k%fp:=by
 induction k with
 |zero=>simp only[pwF,exF,Int.pow_zero];decide
 |succ k ih=>
  simp only[pwF,exF,ih,pstep];split
  ·generalize exF low nb top k=E;have h1:∀ A:Int,A%fp*(A%fp)*x%fp=A*A*x%fp:=fun A=>by rw[←ml (A%fp*(A%fp)) x,mod_mul_mod,ml]
   rw[ml,h1,Int.pow_succ,Nat.two_mul,Int.pow_add]
  ·rw[ml,mr,Nat.add_zero,Nat.two_mul,Int.pow_add]
theorem ex0:exF 11 5 254 255=fpN-2:=by decide +kernel
theorem ex1:exF 5 3 251 252=(fpN-5)/8:=by decide +kernel
theorem exM:M250*4+1=(fpN-5)/8:=by unfold M250 m250;decide +kernel
theorem fermatI (x:Int) (h0:0<x) (h1:x<fp):x^(fpN-1)%fp=1:=by
 obtain⟨a,rfl⟩:=Int.eq_ofNat_of_zero_le (Int.le_of_lt h0)
 rw[fp_fpN] at h1 ⊢
 have ha:¬ fpN∣a:=fun h=>by
  have:=Nat.le_of_dvd (by omega) h;omega
 have:=fermat (p:=fpN) fp_prm a ha
 rw[←Int.natCast_pow,←Int.natCast_emod,this];rfl
theorem root_same (u v:Int) (p e:Nat) (hp:p=8*e+5) (hv:v^(p-1)%fp=1) :
  u*(v*v*v)*(u*(v*v*v)*(v*v*(v*v)))^e%fp=u*v^(p-2)*(u*v^(p-2))^e%fp:=by
 have e1:u*v^(p-2)*(u*v^(p-2))^e=u*u^e*(v^3*(v^7)^e)*(v^(p-1))^e:=by
  rw[Int.mul_pow,←Int.pow_mul,←Int.pow_mul,←Int.pow_mul];have:v^(p-2)*v^((p-2)*e)=v^3*v^(7*e)*v^((p-1)*e):=by
   rw[←Int.pow_add,←Int.pow_add,←Int.pow_add]
   congr 1
   subst hp;have a1:8*e+5-2=8*e+3:=by omega
   have a2:8*e+5-1=8*e+4:=by omega
   rw[a1,a2,Nat.add_mul,Nat.add_mul];omega
  generalize v^(p-2)=A at *;generalize v^((p-2)*e)=B at *;generalize v^(7*e)=C at *;generalize v^((p-1)*e)=E at *;generalize u^e=F at *;have h3:v^3=v*v*v:=by simp only[Int.pow_succ,Int.pow_zero,Int.one_mul]
  rw[h3] at *
  grind
 have e2:u*(v*v*v)*(u*(v*v*v)*(v*v*(v*v)))^e=u*u^e*(v^3*(v^7)^e):=by
  have h7:u*(v*v*v)*(v*v*(v*v))=u*v^7:=by simp only[Int.pow_succ,Int.pow_zero,Int.one_mul];grind
  rw[h7,Int.mul_pow];have h3:v^3=v*v*v:=by simp only[Int.pow_succ,Int.pow_zero,Int.one_mul]
  rw[h3];generalize (v^7)^e=C;generalize u^e=F
  grind
 rw[e1,e2,Int.mul_emod _ ((v^(p-1))^e),←mpow (v^(p-1)) e,hv,Int.one_pow]
 generalize u*u^e*(v^3*(v^7)^e)=Z
 rw[show(1:Int)%fp=1 from by decide,Int.mul_one,Int.emod_emod_of_dvd _ (Int.dvd_refl fp)]
theorem fp_odd_root:fpN=8*((fpN-5)/8)+5:=by decide +kernel
theorem inv0_eq (x:Int):inv0 x=x^(fpN-2)%fp:=by unfold inv0;rw[pwF_pow,ex0]
theorem pw1_eq (x:Int):pw1 x=x^((fpN-5)/8)%fp:=by unfold pw1;rw[pwF_pow,ex1]
theorem rpF_eq (x:Int):rpF x=x^((fpN-5)/8)%fp:=by unfold rpF;rw[exM]
theorem rt_md (u v:Int) (h0:0<v) (h1:v<fp):rtF u v=u*inv0 v%fp*pw1 (u*inv0 v%fp)%fp:=by
 have hs:=root_same u v fpN ((fpN-5)/8) fp_odd_root (fermatI v h0 h1)
 unfold rtF
 rw[rpF_eq,pw1_eq,inv0_eq]
 have s1:sqN v 1=v*v%fp:=rfl
 have s2:sqN v 2=v*v%fp*(v*v%fp)%fp:=rfl
 rw[s1,s2]
 generalize (fpN-5)/8=e at *
 generalize v^(fpN-2)=I at *
 have a1:u*(v*v%fp*v%fp)%fp=u*(v*v*v)%fp:=by rw[mr,ml2]
 have a2:v*v%fp*(v*v%fp)%fp=v*v*(v*v)%fp:=mod_mul_mod _ _
 have a3:u*(I%fp)%fp=u*I%fp:=mr _ _
 rw[a1,a2,a3,mod_mul_mod (u*(v*v*v)) (v*v*(v*v)),mpow,mpow,mod_mul_mod,mod_mul_mod]
 exact hs
def dN:Nat:=37095705934669439343138083508754565189542113879843219016388785533085940283555
theorem mdD_N:mdD=(dN:Int):=by decide +kernel
theorem curveD_N:ev curveDL=(dN:Int):=by decide +kernel
theorem s_sq:pw2 (2%fp)*pw2 (2%fp)%fp=fp-1:=by decide +kernel
theorem s_eq:ev sm1L=pw2 (2%fp):=by decide +kernel
theorem d_non:mpw dN fpN 255 ((fpN-1)/2)=fpN-1:=by decide +kernel
theorem d_nonI:(dN:Int)^((fpN-1)/2)%fp=fp-1:=by
 have h:=mpw_eq dN fpN 255 ((fpN-1)/2) (by decide +kernel)
 rw[d_non] at h
 rw[fp_fpN,←Int.natCast_pow,←Int.natCast_emod,←h];decide +kernel
theorem half_even:(fpN-1)/2=2*((fpN-1)/4):=by decide +kernel
theorem half_two:2*((fpN-1)/2)=fpN-1:=by decide +kernel
theorem v_ne (Y:Int) (h0:0≤Y) (h1:Y<fp):((dN:Int)*(Y*Y%fp)%fp+1%fp)%fp≠0:=by
 intro h
 have hz:(dN:Int)*(Y*Y)%fp=fp-1:=by
  rw[mr,show(1:Int)%fp=1 from by decide] at h;have a:=Int.emod_nonneg ((dN:Int)*(Y*Y)) (show fp≠0 by decide);have b:=Int.emod_lt_of_pos ((dN:Int)*(Y*Y)) (show 0<fp by decide);generalize (dN:Int)*(Y*Y)%fp=q at *;rw[fp_lit] at *;omega
 have hY:0<Y:=by
  rcases Int.lt_or_eq_of_le h0 with h|h
  ·exact h
  ·subst h;rw[Int.mul_zero,Int.mul_zero] at hz;exact absurd hz (by decide)
 have f:=fermatI Y hY h1
 have e1:((dN:Int)*(Y*Y))^((fpN-1)/2)%fp=fp-1:=by
  rw[Int.mul_pow,←mod_mul_mod,d_nonI];have:(Y*Y)^((fpN-1)/2)=Y^(fpN-1):=by
   rw[←half_two,Int.pow_mul]
   congr 1
   simp only[Int.pow_succ,Int.pow_zero,Int.one_mul]
  rw[this,f];decide
 have e2:((dN:Int)*(Y*Y))^((fpN-1)/2)%fp=1:=by
  rw[←mpow,hz,half_even,Int.pow_mul,←mpow];have:(fp-1)^2%fp=1:=by decide
  rw[this,Int.one_pow];decide
 rw[e1] at e2
 exact absurd e2 (by decide)
end Go.Proofs.YtapejbpgdjbjjaaGreatDoor
namespace Go.Proofs.YtapejbpgdjbjjaaGreatDoor
set_option linter.unusedVariables false
theorem vI (v:Int) (h0:0<v) (h1:v<fp):v*inv0 v%fp=1:=by
 have f:=fermatI v h0 h1
 rw[inv0_eq,mr]
 rw[show fpN-1=(fpN-2)+1 from by decide +kernel,Int.pow_succ,Int.mul_comm] at f
 exact f
theorem over_iff (a u v I:Int) (h:v*I%fp=1) (hu:u%fp=u):a*v%fp=u↔a%fp=u*I%fp:=by
 constructor
 ·intro e;have:a%fp=a*(v*I)%fp:=by rw[←mr,h,Int.mul_one]
  rw[this,←Int.mul_assoc,←ml,e]
 ·intro e;rw[←ml,e,ml,Int.mul_assoc,Int.mul_comm I v,←mr,h,Int.mul_one,hu]
theorem neg_iff (x u:Int) (h0:0≤u) (h1:u<fp):x%fp=(0-u)%fp↔(-x)%fp=u:=by
 rw[fp_lit] at *;omega
theorem rc_eq (u v:Int):rcF u v=rtF u v*rtF u v*v%fp:=by
 show rtF u v*rtF u v%fp*v%fp=_
 rw[ml]
theorem rt_bd (u v:Int):0≤rtF u v∧rtF u v<fp:=by unfold rtF;rw[fp_lit];omega
theorem first_iff (u v:Int) (h0:0<v) (h1:v<fp) (u0:0≤u) (u1:u<fp):rcF u v=u↔rtF u v*rtF u v%fp=u*inv0 v%fp:=by
 rw[rc_eq];exact over_iff _ u v _ (vI v h0 h1) (Int.emod_eq_of_lt u0 u1)
theorem neg_one_mod (a:Int):a*(fp-1)%fp=(-a)%fp:=by
 rw[show a*(fp-1)=-a+fp*a from by grind,Int.add_mul_emod_self_left]
theorem second_iff (u v:Int) (h0:0<v) (h1:v<fp) (u0:0≤u) (u1:u<fp) :
  rcF u v=(0-u)%fp↔(rtF u v*pw2 (2%fp)%fp)*(rtF u v*pw2 (2%fp)%fp)%fp=u*inv0 v%fp:=by
 have hq:(rtF u v*pw2 (2%fp)%fp)*(rtF u v*pw2 (2%fp)%fp)%fp=(-(rtF u v*rtF u v))%fp:=by
  rw[mod_mul_mod];have:=s_sq;generalize pw2 (2%fp)=s at *;generalize rtF u v=r at *;rw[show r*s*(r*s)=r*r*(s*s) from by grind,←mr,this,neg_one_mod]
 rw[hq,rc_eq,neg_iff _ u u0 u1,←over_iff _ u v _ (vI v h0 h1) (Int.emod_eq_of_lt u0 u1),Int.neg_mul]
theorem uF_eq (Y:Int):uF Y=mdU Y:=by
 unfold uF mdU
 rw[show ev oneL=1%fp from by decide];rfl
theorem vF_eq (Y:Int):vF Y=mdV Y mdD:=by
 unfold vF mdV
 rw[show ev oneL=1%fp from by decide,curveD_N,mdD_N,Int.mul_comm];rfl
theorem mdV_bd (Y:Int) (h0:0≤Y) (h1:Y<fp):0<mdV Y mdD∧mdV Y mdD<fp:=by
 have h:=v_ne Y h0 h1
 rw[←mdD_N] at h
 unfold mdV
 generalize mdD*(Y*Y%fp)%fp+1%fp=q at *
 rw[fp_lit] at *;omega
theorem mdU_bd (Y:Int):0≤mdU Y∧mdU Y<fp:=by unfold mdU;rw[fp_lit];omega
theorem roots_same (Y:Int) (h0:0≤Y) (h1:Y<fp):drR (uF Y) (vF Y)=mdOk Y mdD∧drX (uF Y) (vF Y)=mdX Y mdD:=by
 rw[uF_eq,vF_eq]
 have hv:=mdV_bd Y h0 h1
 have hu:=mdU_bd Y
 have hR:mdR Y mdD=rtF (mdU Y) (mdV Y mdD):=(rt_md _ _ hv.1 hv.2).symm
 have i1:=first_iff _ _ hv.1 hv.2 hu.1 hu.2
 have i2:=second_iff _ _ hv.1 hv.2 hu.1 hu.2
 unfold drR drX mdOk mdX mdQ mdW
 rw[hR,s_eq]
 refine⟨?_,?_⟩
 ·rw[decide_eq_decide.2 i1,decide_eq_decide.2 i2]
 ·by_cases h:rcF (mdU Y) (mdV Y mdD)=mdU Y
  ·rw[if_pos h,if_pos (i1.1 h)]
  ·rw[if_neg h,if_neg (fun e=>h (i1.2 e))]
theorem mdX_bd (Y:Int):0≤mdX Y mdD∧mdX Y mdD<fp:=by
 unfold mdX mdQ mdR
 generalize mdW Y mdD*pw1 (mdW Y mdD)=a
 generalize a%fp*pw2 (2%fp)=b
 split<;>(rw[fp_lit];omega)
theorem odd_same (zs:List Int) (hl:zs.length=32) (hz:Byte zs):dcO zs=(mO zs == 1):=by
 unfold dcO mO
 have e:=val_take 256 zs 31 (by omega)
 rw[List.take_of_length_le (by omega)] at e
 have dg:Dig 256 (zs.take 31):=fun z hz'=>hz z (List.mem_of_mem_take hz')
 have b0:=val_nonneg (B:=256) (by decide) dg
 have b1:=val_lt (B:=256) (by decide) dg
 rw[List.length_take,hl,show min 31 32=31 from rfl] at b1
 have e3:(256:Int)^31=452312848583266388373324160190187140051835877600158453279131187530910662656:=by decide
 rw[e3] at e b1
 have hb:=hz.get 31
 have:val 256 zs/(fp+19)=zs.getD 31 0/128:=by rw[fp_lit];omega
 rw[this]
theorem par_all (x:Int) (o:Bool) (h0:0≤x) (h1:x<fp):((((if((x%2 == 1) != o)=true then(0-x)%fp else x)%2 == 1) == o))=!(o && decide (x=0%fp)):=by
 have hz:(0:Int)%fp=0:=by decide
 rw[hz]
 rw[fp_lit] at *
 by_cases hx:x=0
 ·subst hx;cases o<;>decide
 ·rw[decide_eq_false hx,Bool.and_false];have hp:x%2=0∨x%2=1:=by omega
  have hn:(0-x)%57896044618658097711785492504343953926634992332820282019728792003956564819949=57896044618658097711785492504343953926634992332820282019728792003956564819949-x:=by omega
  rw[hn];rcases hp with hp|hp
  ·have h2:(57896044618658097711785492504343953926634992332820282019728792003956564819949-x)%2=1:=by omega
   cases o<;>simp[hp,h2]
  ·have h2:(57896044618658097711785492504343953926634992332820282019728792003956564819949-x)%2=0:=by omega
   cases o<;>simp[hp,h2]
theorem dec_same (zs:List Int) (hz:Byte zs):dcR zs=mB zs mdD:=by
 by_cases hl:zs.length=32
 ·have hY:dcY zs=mY zs:=rfl;unfold dcR mB;rw[hY];by_cases hy:mY zs<fp
  ·have h0:0≤mY zs:=by unfold mY;rw[fp_lit];omega
   obtain⟨r1,r2⟩:=roots_same (mY zs) h0 hy;have hb:=mdX_bd (mY zs);have hx:dcX zs=if((mdX (mY zs) mdD%2 == 1) != dcO zs)=true then(0-mdX (mY zs) mdD)%fp else mdX (mY zs) mdD:=by
    unfold dcX dc1;rw[hY,r2]
   rw[r1,hx,par_all _ _ hb.1 hb.2,odd_same zs hl hz]
  ·rw[decide_eq_false hy];simp
 ·unfold dcR mB;have:(zs.length == 32)=false:=by simpa using hl
  rw[this];rfl
end Go.Proofs.YtapejbpgdjbjjaaGreatDoor
namespace Go.Proofs.YtapejbpgdjbjjaaGreatDoor
open Go.ChangeShapes Go.WideShapes Go.ChangeAt Go.RowKit
set_option linter.unusedVariables false
set_option maxHeartbeats 2000000 in
theorem inverse_of (g o:Nat) (xs:List Int) (w:World) (h:EAt w g o xs) (v1 goalv:Int) (hv1:ev xs^M250%fp=v1) (hgoal:sqN v1 5*ev xs^11%fp=goalv) :
  Calls Tryz.prog 80 #[.pointer (some ⟨g,o,none⟩)] w (EP w goalv):=by
 have HE:Hid (sqN v1 5*ev xs^11%fp=goalv):=hgoal
 have HV1:Hid (ev xs^M250%fp=v1):=hv1
 have S0:=(Run.start w [(g,o,xs)] (fun e he=>by rcases List.mem_singleton.1 he with rfl;exact h)).room
 have HO:Hid (Run w (w.alloc (.cells #[.int .u64 0,.int .u64 0,.int .u64 0,.int .u64 0,.int .u64 0] 52)) [(w.heap.size,[0,0,0,0,0])] [(g,o,xs)]):=S0
 clear S0 h hv1 hgoal
 go_enter Tryz.func80,Tryz.ntmps80
 go_wp2_with fail
 refine(ones250_any g o xs _ (HO.out.el 0 _ _ _ rfl)).mono ?_
 rintro e w1 ⟨es,hk,hv,rfl,b⟩
 have HK1:Hid (EOk es∧ev es=v1):=⟨hk,hv.trans HV1.out⟩
 have S1:=HO.out.call b
 have H1:Hid (Run w w1 [(w.heap.size,[0,0,0,0,0])] [(g,o,xs)]):=S1
 clear S1 hk hv b HV1
 go_wp2_with (first
  |(refine wpList_storeN H1.out rfl (.tmp 3) (.tmp 6) rfl es rfl rfl HK1.out.1 rfl ?_)
  |fail)
 intro w2 S2
 have H2:Hid (Run w w2 [(w1.heap.size,es),(w.heap.size,[0,0,0,0,0])] [(g,o,xs)]):=S2
 clear S2 H1 HO
 generalize w1.heap.size=G1 at *
 go_wp2_with fail
 refine(squared_any G1 0 es 5 _ (by decide) (H2.out.re 0 _ _ rfl)).mono ?_
 rintro e w3 ⟨fs,hk,hv,rfl,b⟩
 have HK2:Hid (EOk fs∧ev fs=sqN v1 5):=⟨hk,by rw[hv,HK1.out.2]⟩
 have H3:Hid (Run w w3 [(G1,es),(w.heap.size,[0,0,0,0,0])] [(g,o,xs)]):=H2.out.call b
 clear H2 hk hv b
 go_wp2_with (first
  |(refine wpList_storeN H3.out rfl (.tmp 4) (.tmp 7) rfl fs rfl rfl HK2.out.1 rfl ?_)
  |fail)
 intro w4 S4
 have H4:Hid (Run w w4 [(w3.heap.size,fs),(G1,es),(w.heap.size,[0,0,0,0,0])] [(g,o,xs)]):=S4
 clear S4 H3
 generalize w3.heap.size=G2 at *
 go_wp2
 go_loopw [8] (fun i wr=>∃(k:Nat) (vs:List Int),k≤11∧i=.int .i64 k∧EOk vs∧ev vs=sqN v1 5*ev xs^k%fp∧Run w wr [(G2,vs),(G1,es),(w.heap.size,[0,0,0,0,0])] [(g,o,xs)]) (fun i _=>11-(intOf i).toNat)
 case atStart=>
  refine⟨0,fs,by decide,rfl,HK2.out.1,?_,H4.out⟩;rw[Int.pow_zero,Int.mul_one,←HK2.out.2];exact(Int.emod_eq_of_lt (ev_bd fs).1 (ev_bd fs).2).symm
 case round=>
  clear H4;obtain⟨k,vs,hk,rfl,hok,hev,hrun⟩:=hrel;have HR:Hid (Run w wr [(G2,vs),(G1,es),(w.heap.size,[0,0,0,0,0])] [(g,o,xs)]):=hrun;have HV:Hid (EOk vs∧ev vs=sqN v1 5*ev xs^k%fp):=⟨hok,hev⟩
  clear hok hev hrun;by_cases hlt:k<11
  ·have hlt':(k:Int)<11:=by omega
   go_wp2_with fail;refine(times_any G2 0 g o vs xs _ (HR.out.re 0 _ _ rfl) (HR.out.el 0 _ _ _ rfl)).mono ?_;rintro e w5 ⟨us,hk',hv,rfl,b⟩;have HU:Hid (EOk us∧ev us=sqN v1 5*ev xs^(k+1)%fp):=⟨hk',by rw[hv,HV.out.2,ml,Int.pow_succ,Int.mul_assoc]⟩
   have H5:Hid (Run w w5 [(G2,vs),(G1,es),(w.heap.size,[0,0,0,0,0])] [(g,o,xs)]):=HR.out.call b;clear hk' hv b HR;go_wp2_with (first
    |(refine wpList_storeR H5.out rfl (.tmp 4) (.tmp 11) rfl 0 G2 vs us rfl rfl rfl HU.out.1 rfl ?_)
    |fail)
   intro w6 S6;have H6:Hid (Run w w6 [(G2,us),(G1,es),(w.heap.size,[0,0,0,0,0])] [(g,o,xs)]):=S6;clear S6 H5;go_wp2;go_roundw
   case rel=>exact⟨k+1,us,by omega,by go_num,HU.out.1,HU.out.2,H6.out⟩
   case measure=>simp[intOf];omega
  ·have hk11:k=11:=by omega
   have HVE:Hid (ev vs=goalv):=by
    show _=_
    rw[HV.out.2,hk11,HE.out]
   have hlt':¬ (k:Int)<11:=by omega
   clear hk11;go_wp2_with (first
    |(refine wpList_loadE rfl (.tmp 4) rfl G2 0 vs rfl (HR.out.re 0 _ _ rfl) ?_)
    |(refine wpList_storeR HR.out rfl (.tmp 2) (.tmp 13) rfl 2 w.heap.size [0,0,0,0,0] vs rfl rfl rfl HV.out.1 rfl ?_)
    |fail)
   intro w7 S7;have H7:Hid (Run w w7 [(G2,vs),(G1,es),(w.heap.size,vs)] [(g,o,xs)]):=S7;clear S7 HR;go_wp2;exact bodyPost_ret (v:=.agg (vs.map (Value.int .u64)).toArray) (H7.out.ret rfl _ 2 w.heap.size vs rfl rfl) rfl ⟨vs,HV.out.1,HVE.out,rfl,H7.out.below⟩
theorem exI:M250*32+11=fpN-2:=by unfold M250 m250;decide +kernel
theorem inverse_any (g o:Nat) (xs:List Int) (w:World) (h:EAt w g o xs) :
  Calls Tryz.prog 80 #[.pointer (some ⟨g,o,none⟩)] w (EP w (inv0 (ev xs))):=by
 have e:=e250 (ev xs) M250 5 11
 rw[mr,show M250*2^5+11=fpN-2 from exI] at e
 rw[inv0_eq]
 exact inverse_of g o xs w h _ _ rfl e
end Go.Proofs.YtapejbpgdjbjjaaGreatDoor
namespace Go.Proofs.YtapejbpgdjbjjaaGreatDoor
set_option linter.unusedVariables false
theorem decX_same (zs:List Int) (hl:zs.length=32) (hz:Byte zs) (hy:mY zs<fp):dcX zs=mX zs mdD:=by
 have h0:0≤mY zs:=by unfold mY;rw[fp_lit];omega
 obtain⟨r1,r2⟩:=roots_same (mY zs) h0 hy
 have ho:=odd_same zs hl hz
 have hb:=hz.get 31
 have hm:mO zs=0∨mO zs=1:=by unfold mO;omega
 have hx:dcX zs=if((mdX (mY zs) mdD%2 == 1) != dcO zs)=true then(0-mdX (mY zs) mdD)%fp else mdX (mY zs) mdD:=by
  unfold dcX dc1;rw[show dcY zs=mY zs from rfl,r2]
 rw[hx,ho]
 unfold mX
 rw[show(0:Int)%fp=0 from by decide]
 generalize mdX (mY zs) mdD=x
 have hp:x%2=0∨x%2=1:=by omega
 rcases hm with hm|hm<;>rcases hp with hp|hp<;>rw[hm,hp]<;>simp
theorem twoD:ev curveD2L=(mdD+mdD)%fp:=by decide +kernel
end Go.Proofs.YtapejbpgdjbjjaaGreatDoor
