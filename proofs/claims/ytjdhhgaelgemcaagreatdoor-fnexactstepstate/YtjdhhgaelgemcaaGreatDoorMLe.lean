import Derived.Test.YtjdhhgaelgemcaaGreatDoorMIRt
import Derived.Test.YtjdhhgaelgemcaaGreatDoorMSAf
open Go.Proofs.Tryz renaming prog->tP
open Go.Proofs.Tryz
open Go.Value renaming slice->Z7,int->Z8,pointer->aF,agg->aH
open Go.Obj renaming cells->aJ
open Go.Ending renaming returned->aK
open Go.Ground renaming data->aL
open Option renaming some->aE,none->aA
open Go renaming World->aC,Value->aB
set_option maxHeartbeats 8000000
set_option maxRecDepth 100000
namespace Go.Proofs.YtjdhhgaelgemcaaGreatDoor
open Go.ChangeShapes Go.WideShapes Go.ChangeAt Go.RowKit
set_option linter.unusedVariables false
theorem N2 (a b:Nat) (ha:a<4611686018427387904) (hb:b<4611686018427387904):bits .or .i64 (a:Int) (b:Int)=((a ||| b:Nat):Int):=by
 have hx:a ||| b<2^62:=Nat.or_lt_two_pow AJ AJ;show IntKind.i64.wrap ((BitVec.ofInt 64 (a:Int) ||| BitVec.ofInt 64 (b:Int)).toNat:Int)=_
 rw[BitVec.toNat_or,ofInt_u64 a AJ,ofInt_u64 b AJ,An];omega
theorem N3 (a b:Int) (k:Nat) (ha:0<=a) (ha':a<4611686018427387904) (hb:0<=b) (hb':b<2^k) (hb'':b<4611686018427387904) (q:Int) (hd:a=q*2^k):bits .or .i64 b a=b+a:=by
 have h:=FX a b k ha AJ hb hb' AJ q hd;obtain⟨a,rfl⟩:=Aj ha;obtain⟨b,rfl⟩:=Aj hb;rw[u64_or_nat a b AJ AJ] at h;rw[N2 b a AJ AJ,Nat.or_comm];omega
theorem Ul (v x:Int) (j:Nat) (hj:j<7) (h0:0<=v) (h1:v<256^j) (x0:0<=x) (x1:x<256) :
  bits .or .i64 v (wrap64 (x*2^(8*j)))=v+x*256^j:=by
 have e:(2:Int)^(8*j)=256^j:=by rw[Int.pow_mul];rfl
 have hle:(256:Int)^j<=256^6:=by
  have:j=0\/j=1\/j=2\/j=3\/j=4\/j=5\/j=6:=AJ
  rcases this with h|h|h|h|h|h|h<;>rw[h]<;>decide
 have hP0:(0:Int)<256^j:=Int.pow_pos AK;have e7:(256:Int)^6=281474976710656:=AK
 rw[e7] at hle;have m0:0<=x*256^j:=Int.mul_nonneg x0 AJ;have m1:x*256^j<=255*256^j:=Int.mul_le_mul_of_nonneg_right AJ AJ;rw[e];unfold wrap64;have e2:(x*256^j+9223372036854775808)%18446744073709551616-9223372036854775808=x*256^j:=AJ
 rw[e2];exact N3 _ _ (8*j) m0 AJ h0 (by rw[e];exact h1) AJ x (by rw[e])
theorem Sb (a:Option Addr) (n cap:Nat) (zs:List Int) (w:aC) (hn:zs.length=n) (hm:n<=7) (ha:At .u8 w a zs) (hz:Ci zs) :
  Calls tP 100 #[Z7 a n cap] w λe w'=>e=aK (Z8 .i64 (val 256 zs))/\w'=w:=by
 go_enter func100,ntmps100;go_wp2
 go_loop [3,8] (λc i=>∃ k:Nat,k<=n/\i=Z8 .i64 k/\c=Z8 .i64 (val 256 (zs.take k))) (λ_ i=>n-(intOf i).toNat)
 case atStart=>exact⟨0,Au _,rfl,rfl⟩
 case round=>
  obtain⟨k,hk,rfl,rfl⟩:=hrel;by_cases hlt:k<n
  ·obtain⟨b,off,rfl,hb,hc⟩:=ha.get AJ;have hck:=hc k AJ;have hx:=hz.get k;have ht0:0<=val 256 (zs.take k):=C0 AK (λz hz'=>hz z (Ay hz'));have ht1:val 256 (zs.take k)<256^k:=by
    have:=EZ (B:=256) AK (xs:=zs.take k) (λz hz'=>hz z (Ay hz'))
    rwa [Ap,Nat.min_eq_left AJ] at this
   have hs:=Ul _ _ k AJ ht0 ht1 hx.1 hx.2;rw[<-DN 256 zs k AJ] at hs;have HS:AO (bits .or .i64 (val 256 (zs.take k)) (wrap64 (zs.getD k 0*2^(8*k)))=val 256 (zs.take (k+1))):=hs;clear hs hc ht0 ht1;generalize zs.getD k 0=x at *;generalize val 256 (zs.take k)=c at *;obtain⟨hx0,hx1⟩:=hx;go_wp2
   go_round
   case rel=>exact⟨k+1,AJ,by go_num,by rw[<-HS.o]⟩
   case measure=>simp[intOf];omega
  ·have hk':k=n:=AJ
   subst hk';have HT:AO (zs.take k=zs):=Ad AJ;go_wp2
   go_ret
   exact⟨DS (by rw[HT.o]),rfl⟩
end Go.Proofs.YtjdhhgaelgemcaaGreatDoor
namespace Go.Proofs.YtjdhhgaelgemcaaGreatDoor
set_option linter.unusedVariables false
theorem ml (a b:Int):(a%fp)*b%fp=a*b%fp:=by rw[Int.mul_emod,Int.emod_emod_of_dvd _ (Int.dvd_refl fp),<-Int.mul_emod]
theorem mr (a b:Int):a*(b%fp)%fp=a*b%fp:=by rw[Int.mul_emod,Int.emod_emod_of_dvd _ (Int.dvd_refl fp),<-Int.mul_emod]
theorem N4 (a:Int) (n:Nat):(a%fp)^n%fp=a^n%fp:=by
 induction n with
 |zero=>simp only[Int.pow_zero]
 |succ n ih=>rw[Int.pow_succ,Int.pow_succ,mr,Int.mul_emod,ih,<-Int.mul_emod]
theorem Zp (u a b:Int):u*(a%fp*b)%fp=u*(a*b)%fp:=by rw[<-mr u (a%fp*b),ml,mr]
def Wo (low nb top:Nat):Nat->Nat
 |0=>0
 |k+1=>2*Wo low nb top k+(if En low nb (top-k) then 1 else 0)
theorem PD (x:Int) (low nb top k:Nat):FC x low nb top k=x^Wo low nb top k%fp:=by
 induction k with
 |zero=>simp only[FC,Wo,Int.pow_zero];decide
 |succ k ih=>
  simp only[FC,Wo,ih,Dp];split
  ·generalize Wo low nb top k=E;have h1:∀ A:Int,A%fp*(A%fp)*x%fp=A*A*x%fp:=λA=>by rw[<-ml (A%fp*(A%fp)) x,DL,ml]
   rw[ml,h1,Int.pow_succ,Nat.two_mul,Int.pow_add]
  ·rw[ml,mr,Nat.add_zero,Nat.two_mul,Int.pow_add]
theorem Zq:Wo 11 5 254 255=Ft-2:=by decide +kernel
theorem Zr:Wo 5 3 251 252=(Ft-5)/8:=by decide +kernel
theorem Zs:H9*4+1=(Ft-5)/8:=by unfold H9 Wf;decide +kernel
theorem JK (x:Int) (h0:0<x) (h1:x<fp):x^(Ft-1)%fp=1:=by
 obtain⟨a,rfl⟩:=Aj (Int.le_of_lt h0);rw[Kz] at h1 |-;have ha:¬ Ft∣a:=λh=>by
  have:=Nat.le_of_dvd AJ h;omega
 have:=RZ (p:=Ft) WS a ha;rw[<-Int.natCast_pow,<-Int.natCast_emod,this];rfl
theorem QP (u v:Int) (p e:Nat) (hp:p=8*e+5) (hv:v^(p-1)%fp=1) :
  u*(v*v*v)*(u*(v*v*v)*(v*v*(v*v)))^e%fp=u*v^(p-2)*(u*v^(p-2))^e%fp:=by
 have e1:u*v^(p-2)*(u*v^(p-2))^e=u*u^e*(v^3*(v^7)^e)*(v^(p-1))^e:=by
  rw[Int.mul_pow,<-Int.pow_mul,<-Int.pow_mul,<-Int.pow_mul];have:v^(p-2)*v^((p-2)*e)=v^3*v^(7*e)*v^((p-1)*e):=by
   rw[<-Int.pow_add,<-Int.pow_add,<-Int.pow_add]
   congr 1
   subst hp;have a1:8*e+5-2=8*e+3:=AJ
   have a2:8*e+5-1=8*e+4:=AJ
   rw[a1,a2,Nat.add_mul,Nat.add_mul];omega
  generalize v^(p-2)=A at *;generalize v^((p-2)*e)=B at *;generalize v^(7*e)=C at *;generalize v^((p-1)*e)=E at *;generalize u^e=F at *;have h3:v^3=v*v*v:=by simp only[Int.pow_succ,Int.pow_zero,Int.one_mul]
  rw[h3] at *
  grind
 have e2:u*(v*v*v)*(u*(v*v*v)*(v*v*(v*v)))^e=u*u^e*(v^3*(v^7)^e):=by
  have h7:u*(v*v*v)*(v*v*(v*v))=u*v^7:=by simp only[Int.pow_succ,Int.pow_zero,Int.one_mul];grind
  rw[h7,Int.mul_pow];have h3:v^3=v*v*v:=by simp only[Int.pow_succ,Int.pow_zero,Int.one_mul]
  rw[h3];generalize (v^7)^e=C;generalize u^e=F
  grind
 rw[e1,e2,Int.mul_emod _ ((v^(p-1))^e),<-N4 (v^(p-1)) e,hv,Int.one_pow];generalize u*u^e*(v^3*(v^7)^e)=Z;rw[show(1:Int)%fp=1 from by decide,Int.mul_one,Int.emod_emod_of_dvd _ (Int.dvd_refl fp)]
theorem Mo:Ft=8*((Ft-5)/8)+5:=by decide +kernel
theorem Id (x:Int):Dm x=x^(Ft-2)%fp:=by unfold Dm;rw[PD,Zq]
theorem Wp (x:Int):MJ x=x^((Ft-5)/8)%fp:=by unfold MJ;rw[PD,Zr]
theorem Wq (x:Int):Ys x=x^((Ft-5)/8)%fp:=by unfold Ys;rw[Zs]
theorem YJ (u v:Int) (h0:0<v) (h1:v<fp):J5 u v=u*Dm v%fp*MJ (u*Dm v%fp)%fp:=by
 have hs:=QP u v Ft ((Ft-5)/8) Mo (JK v h0 h1);unfold J5;rw[Wq,Wp,Id];have s1:GT v 1=v*v%fp:=rfl;have s2:GT v 2=v*v%fp*(v*v%fp)%fp:=rfl;rw[s1,s2];generalize (Ft-5)/8=e at *;generalize v^(Ft-2)=I at *;have a1:u*(v*v%fp*v%fp)%fp=u*(v*v*v)%fp:=by rw[mr,Zp]
 have a2:v*v%fp*(v*v%fp)%fp=v*v*(v*v)%fp:=DL _ _;have a3:u*(I%fp)%fp=u*I%fp:=mr _ _;rw[a1,a2,a3,DL (u*(v*v*v)) (v*v*(v*v)),N4,N4,DL,DL];exact hs
def Qj:Nat:=37095705934669439343138083508754565189542113879843219016388785533085940283555
theorem Vx:Dy=(Qj:Int):=by decide +kernel
theorem Sc:ev Ex=(Qj:Int):=by decide +kernel
theorem ZA:Nh (2%fp)*Nh (2%fp)%fp=fp-1:=by decide +kernel
theorem ZB:ev Jq=Nh (2%fp):=by decide +kernel
theorem YK:Ti Qj Ft 255 ((Ft-1)/2)=Ft-1:=by decide +kernel
theorem Ws:(Qj:Int)^((Ft-1)/2)%fp=fp-1:=by
 have h:=Ja Qj Ft 255 ((Ft-1)/2) (by decide +kernel);rw[YK] at h;rw[Kz,<-Int.natCast_pow,<-Int.natCast_emod,<-h];decide +kernel
theorem QQ:(Ft-1)/2=2*((Ft-1)/4):=by decide +kernel
theorem Sd:2*((Ft-1)/2)=Ft-1:=by decide +kernel
theorem ZC (Y:Int) (h0:0<=Y) (h1:Y<fp):((Qj:Int)*(Y*Y%fp)%fp+1%fp)%fp≠0:=by
 intro h;have hz:(Qj:Int)*(Y*Y)%fp=fp-1:=by
  rw[mr,show(1:Int)%fp=1 from by decide] at h;have a:=Int.emod_nonneg ((Qj:Int)*(Y*Y)) (show fp≠0 by decide);have b:=Int.emod_lt_of_pos ((Qj:Int)*(Y*Y)) (show 0<fp by decide);generalize (Qj:Int)*(Y*Y)%fp=q at *;rw[Er] at *;omega
 have hY:0<Y:=by
  rcases Int.lt_or_eq_of_le h0 with h|h
  ·exact h
  ·subst h;rw[Int.mul_zero,Int.mul_zero] at hz;exact absurd hz AK
 have f:=JK Y hY h1;have e1:((Qj:Int)*(Y*Y))^((Ft-1)/2)%fp=fp-1:=by
  rw[Int.mul_pow,<-DL,Ws];have:(Y*Y)^((Ft-1)/2)=Y^(Ft-1):=by
   rw[<-Sd,Int.pow_mul]
   congr 1
   simp only[Int.pow_succ,Int.pow_zero,Int.one_mul]
  rw[this,f];decide
 have e2:((Qj:Int)*(Y*Y))^((Ft-1)/2)%fp=1:=by
  rw[<-N4,hz,QQ,Int.pow_mul,<-N4];have:(fp-1)^2%fp=1:=AK
  rw[this,Int.one_pow];decide
 rw[e1] at e2;exact absurd e2 AK
end Go.Proofs.YtjdhhgaelgemcaaGreatDoor
namespace Go.Proofs.YtjdhhgaelgemcaaGreatDoor
set_option linter.unusedVariables false
theorem vI (v:Int) (h0:0<v) (h1:v<fp):v*Dm v%fp=1:=by
 have f:=JK v h0 h1;rw[Id,mr];rw[show Ft-1=(Ft-2)+1 from by decide +kernel,Int.pow_succ,Int.mul_comm] at f;exact f
theorem Mp (a u v I:Int) (h:v*I%fp=1) (hu:u%fp=u):a*v%fp=u↔a%fp=u*I%fp:=by
 constructor
 ·intro e;have:a%fp=a*(v*I)%fp:=by rw[<-mr,h,Int.mul_one]
  rw[this,<-Int.mul_assoc,<-ml,e]
 ·intro e;rw[<-ml,e,ml,Int.mul_assoc,Int.mul_comm I v,<-mr,h,Int.mul_one,hu]
theorem Um (x u:Int) (h0:0<=u) (h1:u<fp):x%fp=(0-u)%fp↔(-x)%fp=u:=by
 rw[Er] at *;omega
theorem Vy (u v:Int):Ui u v=J5 u v*J5 u v*v%fp:=by
 show J5 u v*J5 u v%fp*v%fp=_
 rw[ml]
theorem QR (u v:Int) (h0:0<v) (h1:v<fp) (u0:0<=u) (u1:u<fp):Ui u v=u↔J5 u v*J5 u v%fp=u*Dm v%fp:=by
 rw[Vy];exact Mp _ u v _ (vI v h0 h1) (Int.emod_eq_of_lt u0 u1)
theorem Mq (a:Int):a*(fp-1)%fp=(-a)%fp:=by
 rw[show a*(fp-1)=-a+fp*a from by grind,Int.add_mul_emod_self_left]
theorem N5 (u v:Int) (h0:0<v) (h1:v<fp) (u0:0<=u) (u1:u<fp) :
  Ui u v=(0-u)%fp↔(J5 u v*Nh (2%fp)%fp)*(J5 u v*Nh (2%fp)%fp)%fp=u*Dm v%fp:=by
 have hq:(J5 u v*Nh (2%fp)%fp)*(J5 u v*Nh (2%fp)%fp)%fp=(-(J5 u v*J5 u v))%fp:=by
  rw[DL];have:=ZA;generalize Nh (2%fp)=s at *;generalize J5 u v=r at *;rw[show r*s*(r*s)=r*r*(s*s) from by grind,<-mr,this,Mq]
 rw[hq,Vy,Um _ u u0 u1,<-Mp _ u v _ (vI v h0 h1) (Int.emod_eq_of_lt u0 u1),Int.neg_mul]
theorem YL (Y:Int):uF Y=I5 Y:=by
 unfold uF I5;rw[show ev Cr=1%fp from by decide];rfl
theorem YM (Y:Int):vF Y=Hn Y Dy:=by
 unfold vF Hn;rw[show ev Cr=1%fp from by decide,Sc,Vx,Int.mul_comm];rfl
theorem Wt (Y:Int) (h0:0<=Y) (h1:Y<fp):0<Hn Y Dy/\Hn Y Dy<fp:=by
 have h:=ZC Y h0 h1;rw[<-Vx] at h;unfold Hn;generalize Dy*(Y*Y%fp)%fp+1%fp=q at *;rw[Er] at *;omega
theorem Wu (Y:Int):0<=I5 Y/\I5 Y<fp:=by unfold I5;rw[Er];omega
theorem Jt (Y:Int) (h0:0<=Y) (h1:Y<fp):KD (uF Y) (vF Y)=LE Y Dy/\Wm (uF Y) (vF Y)=Ef Y Dy:=by
 rw[YL,YM];have hv:=Wt Y h0 h1;have hu:=Wu Y;have hR:F5 Y Dy=J5 (I5 Y) (Hn Y Dy):=(YJ _ _ hv.1 hv.2).symm;have i1:=QR _ _ hv.1 hv.2 hu.1 hu.2;have i2:=N5 _ _ hv.1 hv.2 hu.1 hu.2;unfold KD Wm LE Ef LD GY;rw[hR,ZB];refine⟨?_,?_⟩
 ·rw[decide_eq_decide.2 i1,decide_eq_decide.2 i2]
 ·by_cases h:Ui (I5 Y) (Hn Y Dy)=I5 Y
  ·rw[AP h,AP (i1.1 h)]
  ·rw[AQ h,AQ (λe=>h (i1.2 e))]
theorem Wv (Y:Int):0<=Ef Y Dy/\Ef Y Dy<fp:=by
 unfold Ef LD F5;generalize GY Y Dy*MJ (GY Y Dy)=a;generalize a%fp*Nh (2%fp)=b;split<;>(rw[Er];omega)
theorem Mr (zs:List Int) (hl:zs.length=32) (hz:Ci zs):SZ zs=(mO zs == 1):=by
 unfold SZ mO;have e:=DN 256 zs 31 AJ;rw[Ad AJ] at e;have dg:J2 256 (zs.take 31):=λz hz'=>hz z (Ay hz')
 have b0:=C0 (B:=256) AK dg;have b1:=EZ (B:=256) AK dg;rw[Ap,hl,show min 31 32=31 from rfl] at b1;have e3:(256:Int)^31=452312848583266388373324160190187140051835877600158453279131187530910662656:=AK
 rw[e3] at e b1;have hb:=hz.get 31;have:val 256 zs/(fp+19)=zs.getD 31 0/128:=by rw[Er];omega
 rw[this]
theorem Un (x:Int) (o:Bool) (h0:0<=x) (h1:x<fp):((((if((x%2 == 1) != o)=true then(0-x)%fp else x)%2 == 1) == o))=!(o && decide (x=0%fp)):=by
 have hz:(0:Int)%fp=0:=AK
 rw[hz];rw[Er] at *;by_cases hx:x=0
 ·subst hx;cases o<;>decide
 ·rw[Af hx,Bool.and_false];have hp:x%2=0\/x%2=1:=AJ
  have hn:(0-x)%57896044618658097711785492504343953926634992332820282019728792003956564819949=57896044618658097711785492504343953926634992332820282019728792003956564819949-x:=AJ
  rw[hn];rcases hp with hp|hp
  ·have h2:(57896044618658097711785492504343953926634992332820282019728792003956564819949-x)%2=1:=AJ
   cases o<;>simp[hp,h2]
  ·have h2:(57896044618658097711785492504343953926634992332820282019728792003956564819949-x)%2=0:=AJ
   cases o<;>simp[hp,h2]
theorem Ju (zs:List Int) (hz:Ci zs):LV zs=mB zs Dy:=by
 by_cases hl:zs.length=32
 ·have hY:Fh zs=mY zs:=rfl;unfold LV mB;rw[hY];by_cases hy:mY zs<fp
  ·have h0:0<=mY zs:=by unfold mY;rw[Er];omega
   obtain⟨r1,r2⟩:=Jt (mY zs) h0 hy;have hb:=Wv (mY zs);have hx:I7 zs=if((Ef (mY zs) Dy%2 == 1) != SZ zs)=true then(0-Ef (mY zs) Dy)%fp else Ef (mY zs) Dy:=by
    unfold I7 Ki;rw[hY,r2]
   rw[r1,hx,Un _ _ hb.1 hb.2,Mr zs hl hz]
  ·rw[Af hy];simp
 ·unfold LV mB;have:(zs.length == 32)=false:=by simpa using hl
  rw[this];rfl
end Go.Proofs.YtjdhhgaelgemcaaGreatDoor
namespace Go.Proofs.YtjdhhgaelgemcaaGreatDoor
open Go.ChangeShapes Go.WideShapes Go.ChangeAt Go.RowKit
set_option linter.unusedVariables false
theorem N6 (g o:Nat) (xs:List Int) (w:aC) (h:Dj w g o xs) (v1 goalv:Int) (hv1:ev xs^H9%fp=v1) (hgoal:GT v1 5*ev xs^11%fp=goalv) :
  Calls tP 141 #[aF (aE ⟨g,o,aA⟩)] w (EP w goalv):=by
 have HE:AO (GT v1 5*ev xs^11%fp=goalv):=hgoal;have HV1:AO (ev xs^H9%fp=v1):=hv1;have S0:=(EL.start w [(g,o,xs)] (λe he=>by rcases List.mem_singleton.1 he with rfl;exact h)).room;have HO:AO (EL w (w.alloc (aJ CQ 138)) [(w.heap.size,[0,0,0,0,0])] [(g,o,xs)]):=S0;clear S0 h hv1 hgoal;go_enter func141,ntmps141;go_wp2_with fail;refine(Iw g o xs _ (HO.o.el 0 _ _ _ rfl)).mono ?_;rintro e w1 ⟨es,hk,hv,rfl,b⟩;have HK1:AO (Cs es/\ev es=v1):=⟨hk,hv.trans HV1.o⟩
 have S1:=HO.o.call b;have H1:AO (EL w w1 [(w.heap.size,[0,0,0,0,0])] [(g,o,xs)]):=S1;clear S1 hk hv b HV1;go_wp2_with (first
  |(refine Ew H1.o rfl (.tmp 3) (.tmp 6) rfl es rfl rfl HK1.o.1 rfl ?_)
  |fail)
 intro w2 S2;have H2:AO (EL w w2 [(w1.heap.size,es),(w.heap.size,[0,0,0,0,0])] [(g,o,xs)]):=S2;clear S2 H1 HO;generalize w1.heap.size=G1 at *;go_wp2_with fail;refine(Dq G1 0 es 5 _ AK (H2.o.re 0 _ _ rfl)).mono ?_;rintro e w3 ⟨fs,hk,hv,rfl,b⟩;have HK2:AO (Cs fs/\ev fs=GT v1 5):=⟨hk,by rw[hv,HK1.o.2]⟩
 have H3:AO (EL w w3 [(G1,es),(w.heap.size,[0,0,0,0,0])] [(g,o,xs)]):=H2.o.call b;clear H2 hk hv b;go_wp2_with (first
  |(refine Ew H3.o rfl (.tmp 4) (.tmp 7) rfl fs rfl rfl HK2.o.1 rfl ?_)
  |fail)
 intro w4 S4;have H4:AO (EL w w4 [(w3.heap.size,fs),(G1,es),(w.heap.size,[0,0,0,0,0])] [(g,o,xs)]):=S4;clear S4 H3;generalize w3.heap.size=G2 at *;go_wp2
 go_loopw [8] (λi wr=>∃(k:Nat) (vs:List Int),k<=11/\i=Z8 .i64 k/\Cs vs/\ev vs=GT v1 5*ev xs^k%fp/\EL w wr [(G2,vs),(G1,es),(w.heap.size,[0,0,0,0,0])] [(g,o,xs)]) (λi _=>11-(intOf i).toNat)
 case atStart=>
  refine⟨0,fs,AK,rfl,HK2.o.1,?_,H4.o⟩;rw[Int.pow_zero,Int.mul_one,<-HK2.o.2];exact(Int.emod_eq_of_lt (Gk fs).1 (Gk fs).2).symm
 case round=>
  clear H4;obtain⟨k,vs,hk,rfl,hok,hev,hrun⟩:=hrel;have HR:AO (EL w wr [(G2,vs),(G1,es),(w.heap.size,[0,0,0,0,0])] [(g,o,xs)]):=hrun;have HV:AO (Cs vs/\ev vs=GT v1 5*ev xs^k%fp):=⟨hok,hev⟩
  clear hok hev hrun;by_cases hlt:k<11
  ·have hlt':(k:Int)<11:=AJ
   go_wp2_with fail;refine(Ct G2 0 g o vs xs _ (HR.o.re 0 _ _ rfl) (HR.o.el 0 _ _ _ rfl)).mono ?_;rintro e w5 ⟨us,hk',hv,rfl,b⟩;have HU:AO (Cs us/\ev us=GT v1 5*ev xs^(k+1)%fp):=⟨hk',by rw[hv,HV.o.2,ml,Int.pow_succ,Int.mul_assoc]⟩
   have H5:AO (EL w w5 [(G2,vs),(G1,es),(w.heap.size,[0,0,0,0,0])] [(g,o,xs)]):=HR.o.call b;clear hk' hv b HR;go_wp2_with (first
    |(refine Dc H5.o rfl (.tmp 4) (.tmp 11) rfl 0 G2 vs us rfl rfl rfl HU.o.1 rfl ?_)
    |fail)
   intro w6 S6;have H6:AO (EL w w6 [(G2,us),(G1,es),(w.heap.size,[0,0,0,0,0])] [(g,o,xs)]):=S6;clear S6 H5;go_wp2;go_roundw
   case rel=>exact⟨k+1,us,AJ,by go_num,HU.o.1,HU.o.2,H6.o⟩
   case measure=>simp[intOf];omega
  ·have hk11:k=11:=AJ
   have HVE:AO (ev vs=goalv):=by
    show _=_
    rw[HV.o.2,hk11,HE.o]
   have hlt':¬ (k:Int)<11:=AJ
   clear hk11;go_wp2_with (first
    |(refine DT rfl (.tmp 4) rfl G2 0 vs rfl (HR.o.re 0 _ _ rfl) ?_)
    |(refine Dc HR.o rfl (.tmp 2) (.tmp 13) rfl 2 w.heap.size [0,0,0,0,0] vs rfl rfl rfl HV.o.1 rfl ?_)
    |fail)
   intro w7 S7;have H7:AO (EL w w7 [(G2,vs),(G1,es),(w.heap.size,vs)] [(g,o,xs)]):=S7;clear S7 HR;go_wp2;exact Ab (v:=aH (vs.map (Value.int .u64)).toArray) (H7.o.ret rfl _ 2 w.heap.size vs rfl rfl) rfl ⟨vs,HV.o.1,HVE.o,rfl,H7.o.below⟩
theorem Zt:H9*32+11=Ft-2:=by unfold H9 Wf;decide +kernel
theorem Ms (g o:Nat) (xs:List Int) (w:aC) (h:Dj w g o xs) :
  Calls tP 141 #[aF (aE ⟨g,o,aA⟩)] w (EP w (Dm (ev xs))):=by
 have e:=YH (ev xs) H9 5 11;rw[mr,show H9*2^5+11=Ft-2 from Zt] at e;rw[Id];exact N6 g o xs w h _ _ rfl e
def FG (w:aC) (v:aB) (x:Int):Prop:=∃ g c,v=Z7 (aE ⟨g,0,aA⟩) 16 c/\Cu w (aE ⟨g,0,aA⟩) x
theorem FG.below {w w':aC} {v:aB} {x:Int} (h:FG w v x) (b:Below w.heap.size w w'):FG w' v x:=by
 obtain⟨g,c,e,f⟩:=h;exact⟨g,c,e,f.below b⟩
theorem FG.get {w:aC} {v:aB} {x:Int} (h:FG w v x):∃ g c,v=Z7 (aE ⟨g,0,aA⟩) 16 c/\Cu w (aE ⟨g,0,aA⟩) x:=h
theorem FG.elim_ {w:aC} {v:aB} {x:Int} {C:Prop} (h:FG w v x) (k:∀ g c,v=Z7 (aE ⟨g,0,aA⟩) 16 c->Cu w (aE ⟨g,0,aA⟩) x->C):C:=by
 obtain⟨g,c,e,f⟩:=h;exact k g c e f
theorem DF.c0 {w:aC} {g:Nat} {s0 s1 s2 s3:aB} (h:DF w g #[s0,s1,s2,s3]):w.cell? ⟨g,0,aA⟩=aE s0:=by rw[AA h 0];rfl
theorem DF.c1 {w:aC} {g:Nat} {s0 s1 s2 s3:aB} (h:DF w g #[s0,s1,s2,s3]):w.cell? ⟨g,1,aA⟩=aE s1:=by rw[AA h 1];rfl
theorem DF.c2 {w:aC} {g:Nat} {s0 s1 s2 s3:aB} (h:DF w g #[s0,s1,s2,s3]):w.cell? ⟨g,2,aA⟩=aE s2:=by rw[AA h 2];rfl
theorem DF.c3 {w:aC} {g:Nat} {s0 s1 s2 s3:aB} (h:DF w g #[s0,s1,s2,s3]):w.cell? ⟨g,3,aA⟩=aE s3:=by rw[AA h 3];rfl
def E7 (X1 Y1 X2 Y2:Int):Int:=((Y1-X1)%fp)*((Y2-X2)%fp)%fp
def E9 (X1 Y1 X2 Y2:Int):Int:=((Y1+X1)%fp)*((Y2+X2)%fp)%fp
def Ek (D T1 T2:Int):Int:=(((D+D)%fp)*T1%fp)*T2%fp
def Ey (Z1 Z2:Int):Int:=((Z1+Z1)%fp)*Z2%fp
theorem SR.more {w wr w':aC} {L:List (Option Addr×Int)} {a:Option Addr} {x:Int} (h:SR w wr L) (b:Below wr.heap.size wr w') (hf:Cu w' a x):SR w w' (L++[(a,x)]):=
 ⟨h.below.trans (b.mono h.below.size),λe he=>by
  rcases CI.1 he with h'|h'
  ·exact(h.fe e h').below b
  ·simp only[List.mem_cons,List.not_mem_nil,or_false] at h';subst h';exact hf⟩
def YN (w:aC) (A B C G:Int) (e:Ending) (w':aC):Prop:=
 ∃ g1 k1 g2 k2 g3 k3 g4 k4,e=aK (aH #[Z7 (aE ⟨g1,0,aA⟩) 16 k1,Z7 (aE ⟨g2,0,aA⟩) 16 k2,Z7 (aE ⟨g3,0,aA⟩) 16 k3,Z7 (aE ⟨g4,0,aA⟩) 16 k4])/\
  Cu w' (aE ⟨g1,0,aA⟩) ((B-A)%fp*((G-C)%fp)%fp)/\Cu w' (aE ⟨g2,0,aA⟩) ((G+C)%fp*((B+A)%fp)%fp)/\
  Cu w' (aE ⟨g3,0,aA⟩) ((G-C)%fp*((G+C)%fp)%fp)/\Cu w' (aE ⟨g4,0,aA⟩) ((B-A)%fp*((B+A)%fp)%fp)/\Below w.heap.size w w'/\(w.heap.size<=g1/\w.heap.size<=g2/\w.heap.size<=g3/\w.heap.size<=g4)
theorem JL (a0 a1 a2 a3 b0 b1 b2 b3 ad:Option Addr) (c0 c1 c2 c3 e0 e1 e2 e3 cd:Nat) (X1 Y1 Z1 T1 X2 Y2 Z2 T2 D:Int) (w:aC) (hs:∀ e∈[(a0,X1),(a1,Y1),(a2,Z1),(a3,T1),(b0,X2),(b1,Y2),(b2,Z2),(b3,T2),(ad,D)],Cu w e.1 e.2) :
  Calls tP 78 #[aH #[Z7 a0 16 c0,Z7 a1 16 c1,Z7 a2 16 c2,Z7 a3 16 c3],aH #[Z7 b0 16 e0,Z7 b1 16 e1,Z7 b2 16 e2,Z7 b3 16 e3],Z7 ad 16 cd] w (YN w (E7 X1 Y1 X2 Y2) (E9 X1 Y1 X2 Y2) (Ek D T1 T2) (Ey Z1 Z2)):=by
 have bb:Below w.heap.size w (((w.alloc (aJ #[Z7 a0 16 c0,Z7 a1 16 c1,Z7 a2 16 c2,Z7 a3 16 c3] 109)).alloc (aJ #[Z7 b0 16 e0,Z7 b1 16 e1,Z7 b2 16 e2,Z7 b3 16 e3] 109)).alloc (aJ CT 109)):=((Cg.alloc Cl _).alloc AL _).alloc (by simp;omega) _;have HP:AO (DF (((w.alloc (aJ #[Z7 a0 16 c0,Z7 a1 16 c1,Z7 a2 16 c2,Z7 a3 16 c3] 109)).alloc (aJ #[Z7 b0 16 e0,Z7 b1 16 e1,Z7 b2 16 e2,Z7 b3 16 e3] 109)).alloc (aJ CT 109)) w.heap.size #[Z7 a0 16 c0,Z7 a1 16 c1,Z7 a2 16 c2,Z7 a3 16 c3]):=by
  show _=_
  rw[A5 _ _ w.heap.size (by simp;omega),A5 _ _ w.heap.size AL];exact AX w _
 have HQ:AO (DF (((w.alloc (aJ #[Z7 a0 16 c0,Z7 a1 16 c1,Z7 a2 16 c2,Z7 a3 16 c3] 109)).alloc (aJ #[Z7 b0 16 e0,Z7 b1 16 e1,Z7 b2 16 e2,Z7 b3 16 e3] 109)).alloc (aJ CT 109)) (w.heap.size+1) #[Z7 b0 16 e0,Z7 b1 16 e1,Z7 b2 16 e2,Z7 b3 16 e3]):=by
  show _=_
  rw[A5 _ _ (w.heap.size+1) AL];have:=AX (w.alloc (aJ #[Z7 a0 16 c0,Z7 a1 16 c1,Z7 a2 16 c2,Z7 a3 16 c3] 109)) (aJ #[Z7 b0 16 e0,Z7 b1 16 e1,Z7 b2 16 e2,Z7 b3 16 e3] 109);simpa using this
 have HZ:AO (DF (((w.alloc (aJ #[Z7 a0 16 c0,Z7 a1 16 c1,Z7 a2 16 c2,Z7 a3 16 c3] 109)).alloc (aJ #[Z7 b0 16 e0,Z7 b1 16 e1,Z7 b2 16 e2,Z7 b3 16 e3] 109)).alloc (aJ CT 109)) (w.heap.size+1+1) CT):=by
  show _=_
  have:=AX ((w.alloc (aJ #[Z7 a0 16 c0,Z7 a1 16 c1,Z7 a2 16 c2,Z7 a3 16 c3] 109)).alloc (aJ #[Z7 b0 16 e0,Z7 b1 16 e1,Z7 b2 16 e2,Z7 b3 16 e3] 109)) (aJ CT 109);simpa using this
 have SRK:AO (SR w (((w.alloc (aJ #[Z7 a0 16 c0,Z7 a1 16 c1,Z7 a2 16 c2,Z7 a3 16 c3] 109)).alloc (aJ #[Z7 b0 16 e0,Z7 b1 16 e1,Z7 b2 16 e2,Z7 b3 16 e3] 109)).alloc (aJ CT 109)) [(a0,X1),(a1,Y1),(a2,Z1),(a3,T1),(b0,X2),(b1,Y2),(b2,Z2),(b3,T2),(ad,D)]):=⟨bb,λe he=>(hs e he).below bb⟩
 clear bb hs;go_enter func78,ntmps78;go_wp2_with fail;generalize (((w.alloc (aJ #[Z7 a0 16 c0,Z7 a1 16 c1,Z7 a2 16 c2,Z7 a3 16 c3] 109)).alloc (aJ #[Z7 b0 16 e0,Z7 b1 16 e1,Z7 b2 16 e2,Z7 b3 16 e3] 109)).alloc (aJ CT 109))=w0 at *;refine Ag AM ?_;refine DE (λ_ w w'=>Below w.heap.size w w') (frame:=(λ(a b c d e f g h i j k l m n o p q r s u v w x y z A B C D E F G H I J K L M N O P Q R S T U V W X Y Z a0 a1 a2 a3 a4 a5 a6 a7 a8 a9 b0 b1 b2 b3 b4 b5:aB)=>λ(t:Nat->aB)=>({ tmps:=List.toArray [a,b,c,d,e,f,g,t 11,h,i,j,k,l,m,n,t 0,t 1,t 2,t 3,t 4,t 5,t 6,t 7,t 8,t 9,t 10,o,p,q,r,s,u,v,w,x,y,z,A,B,C,D,E,F,G,H,I,J,K,L,M,N,O,P,Q,R,S,T,U,V,W,X,Y,Z,a0,a1,a2,a3,a4,a5,a6,a7,a8,a9,b0,b1,b2,b3,b4,b5],defers:=[] }:Act)) _ _ _ _ _ _ _ _ _ _ _ _ _ _ _ _ _ _ _ _ _ _ _ _ _ _ _ _ _ _ _ _ _ _ _ _ _ _ _ _ _ _ _ _ _ _ _ _ _ _ _ _ _ _ _ _ _ _ _ _ _ _ _ _ _ _ _)
  (Ext:=λL w'=>Below w0.heap.size w0 w') (Good:=λi L w' v=>if i=0 then v=aF (aE ⟨w.heap.size,1,aA⟩) else if i=1 then v=Z7 a1 16 c1 else if i=2 then v=aF (aE ⟨w.heap.size,0,aA⟩) else if i=3 then v=Z7 a0 16 c0 else if i=4 then FG w' v ((Y1-X1)%fp) else if i=5 then v=aF (aE ⟨(w.heap.size+1),1,aA⟩) else if i=6 then v=Z7 b1 16 e1 else if i=7 then v=aF (aE ⟨(w.heap.size+1),0,aA⟩) else if i=8 then v=Z7 b0 16 e0 else if i=9 then FG w' v ((Y2-X2)%fp) else if i=10 then FG w' v (((Y1-X1)%fp)*((Y2-X2)%fp)%fp) else if i=11 then FG w' v (((Y1-X1)%fp)*((Y2-X2)%fp)%fp) else True) ?hstab AM ?hop ?hdone _ _ ((λ(x0 x1 x2 x3 x4 x5 x6 x7 x8 x9 x10 x11:aB)=>λ(i:Nat)=>if i=0 then x0 else if i=1 then x1 else if i=2 then x2 else if i=3 then x3 else if i=4 then x4 else if i=5 then x5 else if i=6 then x6 else if i=7 then x7 else if i=8 then x8 else if i=9 then x9 else if i=10 then x10 else if i=11 then x11 else undef) _ _ _ _ _ _ _ _ _ _ _ _) _ AL ?ext ?start AL
 case start=>intro i hi h;exact absurd h Et
 case ext=>exact⟨rfl,rfl,rfl,Ac _,λ_ _=>rfl⟩
 case hstab=>
  intro j L w9 w' i v hM _ _ h;by_cases h4:j=4
  ·subst h4;simp at h |-;exact h.below hM
  by_cases h9:j=9
  ·subst h9;simp at h |-;exact h.below hM
  by_cases h10:j=10
  ·subst h10;simp at h |-;exact h.below hM
  by_cases h11:j=11
  ·subst h11;simp at h |-;exact h.below hM
  simp only[if_neg h4,if_neg h9,if_neg h10,if_neg h11] at h |-;exact h
 case hop=>
  intro i o L t w' ho hLi hx hdep K hK;have hi:i<12:=(AR.1 ho).1;obtain rfl|rfl|rfl|rfl|rfl|rfl|rfl|rfl|rfl|rfl|rfl|rfl:i=0\/i=1\/i=2\/i=3\/i=4\/i=5\/i=6\/i=7\/i=8\/i=9\/i=10\/i=11:=AJ
  all_goals(simp at ho;subst ho)
  ·clear hdep;have hK':=hK w' (aF (aE ⟨w.heap.size,1,aA⟩)) AL hx Cg;clear hK;rw[AP AN];go_simp;simpa[Ce] using hK'
  ·have d0:t 0=aF (aE ⟨w.heap.size,1,aA⟩):=by simpa using hdep ⟨0,aL⟩ AL rfl
   clear hdep;have cc:=(HP.o.below hx HP.o.lt).c1;have hK':=hK w' (Z7 a1 16 c1) AL hx Cg;clear hK;rw[AP AN];go_simp;simpa[Ce,d0] using hK'
  ·clear hdep;have hK':=hK w' (aF (aE ⟨w.heap.size,0,aA⟩)) AL hx Cg;clear hK;rw[AP AN];go_simp;simpa[Ce] using hK'
  ·have d2:t 2=aF (aE ⟨w.heap.size,0,aA⟩):=by simpa using hdep ⟨2,aL⟩ AL rfl
   clear hdep;have cc:=(HP.o.below hx HP.o.lt).c0;have hK':=hK w' (Z7 a0 16 c0) AL hx Cg;clear hK;rw[AP AN];go_simp;simpa[Ce,d2] using hK'
  ·have d1:t 1=Z7 a1 16 c1:=by simpa using hdep ⟨1,aL⟩ AL rfl
   have d3:t 3=Z7 a0 16 c0:=by simpa using hdep ⟨3,aL⟩ AL rfl
   clear hdep;have A:=Fa a1 a0 c1 c0 Y1 X1 w' ((SRK.o.at 1 _ _ rfl).below hx) ((SRK.o.at 0 _ _ rfl).below hx);have hK':∀ ww v,FG ww v ((Y1-X1)%fp)->Below w'.heap.size w' ww->K _ ww:=λww v hg hb=>hK ww v (by simpa using hg) (hx.trans (hb.mono hx.size)) hb
   clear hK;rw[AP AN];go_simp;try simp only[d1,d3]
   refine A.mono ?_;rintro e w9 ⟨g',c',rfl,_,_,hf,hb⟩;have hK2:=hK' w9 _ ⟨g',c',rfl,hf⟩ hb;clear hK' A hf hb;go_simp;simpa[Ce,d1,d3] using hK2
  ·clear hdep;have hK':=hK w' (aF (aE ⟨(w.heap.size+1),1,aA⟩)) AL hx Cg;clear hK;rw[AP AN];go_simp;simpa[Ce] using hK'
  ·have d5:t 5=aF (aE ⟨(w.heap.size+1),1,aA⟩):=by simpa using hdep ⟨5,aL⟩ AL rfl
   clear hdep;have cc:=(HQ.o.below hx HQ.o.lt).c1;have hK':=hK w' (Z7 b1 16 e1) AL hx Cg;clear hK;rw[AP AN];go_simp;simpa[Ce,d5] using hK'
  ·clear hdep;have hK':=hK w' (aF (aE ⟨(w.heap.size+1),0,aA⟩)) AL hx Cg;clear hK;rw[AP AN];go_simp;simpa[Ce] using hK'
  ·have d7:t 7=aF (aE ⟨(w.heap.size+1),0,aA⟩):=by simpa using hdep ⟨7,aL⟩ AL rfl
   clear hdep;have cc:=(HQ.o.below hx HQ.o.lt).c0;have hK':=hK w' (Z7 b0 16 e0) AL hx Cg;clear hK;rw[AP AN];go_simp;simpa[Ce,d7] using hK'
  ·have d6:t 6=Z7 b1 16 e1:=by simpa using hdep ⟨6,aL⟩ AL rfl
   have d8:t 8=Z7 b0 16 e0:=by simpa using hdep ⟨8,aL⟩ AL rfl
   clear hdep;have A:=Fa b1 b0 e1 e0 Y2 X2 w' ((SRK.o.at 5 _ _ rfl).below hx) ((SRK.o.at 4 _ _ rfl).below hx);have hK':∀ ww v,FG ww v ((Y2-X2)%fp)->Below w'.heap.size w' ww->K _ ww:=λww v hg hb=>hK ww v (by simpa using hg) (hx.trans (hb.mono hx.size)) hb
   clear hK;rw[AP AN];go_simp;try simp only[d6,d8]
   refine A.mono ?_;rintro e w9 ⟨g',c',rfl,_,_,hf,hb⟩;have hK2:=hK' w9 _ ⟨g',c',rfl,hf⟩ hb;clear hK' A hf hb;go_simp;simpa[Ce,d6,d8] using hK2
  ·have h4:FG w' (t 4) ((Y1-X1)%fp):=by simpa using hdep ⟨4,aL⟩ AL rfl
   refine h4.elim_ λg4 c4 d4 f4=>?_
   clear h4;have h9:FG w' (t 9) ((Y2-X2)%fp):=by simpa using hdep ⟨9,aL⟩ AL rfl
   refine h9.elim_ λg9 c9 d9 f9=>?_
   clear h9;clear hdep;have A:=Cw (aE ⟨g4,0,aA⟩) (aE ⟨g9,0,aA⟩) c4 c9 _ _ w' f4 f9;have hK':∀ ww v,FG ww v (((Y1-X1)%fp)*((Y2-X2)%fp)%fp)->Below w'.heap.size w' ww->K _ ww:=λww v hg hb=>hK ww v (by simpa using hg) (hx.trans (hb.mono hx.size)) hb
   clear hK;rw[AP AN];go_simp;try simp only[d4,d9]
   refine A.mono ?_;rintro e w9 ⟨g',c',rfl,_,_,hf,hb⟩;have hK2:=hK' w9 _ ⟨g',c',rfl,hf⟩ hb;clear hK' A hf hb;go_simp;simpa[Ce,d4,d9] using hK2
  ·have h10:FG w' (t 10) (((Y1-X1)%fp)*((Y2-X2)%fp)%fp):=by simpa using hdep ⟨10,aL⟩ AL rfl
   refine h10.elim_ λg10 c10 d10 f10=>?_
   clear h10;clear hdep;have hK':=hK w' (Z7 (aE ⟨g10,0,aA⟩) 16 c10) (by simpa using⟨g10,c10,rfl,f10⟩) hx Cg;clear hK;rw[AP AN];go_simp;simpa[Ce,d10] using hK'
 case hdone=>
  intro L t1 w1 hx hg;have f11:FG w1 (t1 11) (((Y1-X1)%fp)*((Y2-X2)%fp)%fp):=by simpa using hg 11 AK
  clear hg;obtain⟨ggA,ccA,eA,ff⟩:=f11.get;have HP1:AO (DF w1 w.heap.size #[Z7 a0 16 c0,Z7 a1 16 c1,Z7 a2 16 c2,Z7 a3 16 c3]):=HP.o.below hx HP.o.lt;have HQ1:AO (DF w1 (w.heap.size+1) #[Z7 b0 16 e0,Z7 b1 16 e1,Z7 b2 16 e2,Z7 b3 16 e3]):=HQ.o.below hx HQ.o.lt;have HZ1:AO (DF w1 (w.heap.size+1+1) CT):=HZ.o.below hx HZ.o.lt;have SRK1:AO (SR w w1 [(a0,X1),(a1,Y1),(a2,Z1),(a3,T1),(b0,X2),(b1,Y2),(b2,Z2),(b3,T2),(ad,D),(aE ⟨ggA,0,aA⟩,E7 X1 Y1 X2 Y2)]):=SRK.o.more hx ff;clear HP HQ HZ SRK hx ff;simp only[eA];clear eA;go_wp2_with fail;refine Ag AM ?_;refine DE (λ_ w w'=>Below w.heap.size w w') (frame:=(λ(a b c d e f g h i j k l m n o p q r s u v w x y z A B C D E F G H I J K L M N O P Q R S T U V W X Y Z a0 a1 a2 a3 a4 a5 a6 a7 a8 a9 b0 b1 b2 b3 b4 b5:aB)=>λ(t:Nat->aB)=>({ tmps:=List.toArray [a,b,c,d,e,f,g,h,t 11,i,j,k,l,m,n,o,p,q,r,s,u,v,w,x,y,z,t 0,t 1,t 2,t 3,t 4,t 5,t 6,t 7,t 8,t 9,t 10,A,B,C,D,E,F,G,H,I,J,K,L,M,N,O,P,Q,R,S,T,U,V,W,X,Y,Z,a0,a1,a2,a3,a4,a5,a6,a7,a8,a9,b0,b1,b2,b3,b4,b5],defers:=[] }:Act)) _ _ _ _ _ _ _ _ _ _ _ _ _ _ _ _ _ _ _ _ _ _ _ _ _ _ _ _ _ _ _ _ _ _ _ _ _ _ _ _ _ _ _ _ _ _ _ _ _ _ _ _ _ _ _ _ _ _ _ _ _ _ _ _ _ _ _)
   (Ext:=λL w'=>Below w1.heap.size w1 w') (Good:=λi L w' v=>if i=0 then v=aF (aE ⟨w.heap.size,1,aA⟩) else if i=1 then v=Z7 a1 16 c1 else if i=2 then v=aF (aE ⟨w.heap.size,0,aA⟩) else if i=3 then v=Z7 a0 16 c0 else if i=4 then FG w' v ((Y1+X1)%fp) else if i=5 then v=aF (aE ⟨(w.heap.size+1),1,aA⟩) else if i=6 then v=Z7 b1 16 e1 else if i=7 then v=aF (aE ⟨(w.heap.size+1),0,aA⟩) else if i=8 then v=Z7 b0 16 e0 else if i=9 then FG w' v ((Y2+X2)%fp) else if i=10 then FG w' v (((Y1+X1)%fp)*((Y2+X2)%fp)%fp) else if i=11 then FG w' v (((Y1+X1)%fp)*((Y2+X2)%fp)%fp) else True) ?hstab AM ?hop ?hdone _ _ ((λ(x0 x1 x2 x3 x4 x5 x6 x7 x8 x9 x10 x11:aB)=>λ(i:Nat)=>if i=0 then x0 else if i=1 then x1 else if i=2 then x2 else if i=3 then x3 else if i=4 then x4 else if i=5 then x5 else if i=6 then x6 else if i=7 then x7 else if i=8 then x8 else if i=9 then x9 else if i=10 then x10 else if i=11 then x11 else undef) _ _ _ _ _ _ _ _ _ _ _ _) _ AL ?ext ?start AL
  case start=>intro i hi h;exact absurd h Et
  case ext=>exact⟨rfl,rfl,rfl,Ac _,λ_ _=>rfl⟩
  case hstab=>
   intro j L w9 w' i v hM _ _ h;by_cases h4:j=4
   ·subst h4;simp at h |-;exact h.below hM
   by_cases h9:j=9
   ·subst h9;simp at h |-;exact h.below hM
   by_cases h10:j=10
   ·subst h10;simp at h |-;exact h.below hM
   by_cases h11:j=11
   ·subst h11;simp at h |-;exact h.below hM
   simp only[if_neg h4,if_neg h9,if_neg h10,if_neg h11] at h |-;exact h
  case hop=>
   intro i o L t w' ho hLi hx hdep K hK;have hi:i<12:=(AR.1 ho).1;obtain rfl|rfl|rfl|rfl|rfl|rfl|rfl|rfl|rfl|rfl|rfl|rfl:i=0\/i=1\/i=2\/i=3\/i=4\/i=5\/i=6\/i=7\/i=8\/i=9\/i=10\/i=11:=AJ
   all_goals(simp at ho;subst ho)
   ·clear hdep;have hK':=hK w' (aF (aE ⟨w.heap.size,1,aA⟩)) AL hx Cg;clear hK;rw[AP AN];go_simp;simpa[Ce] using hK'
   ·have d0:t 0=aF (aE ⟨w.heap.size,1,aA⟩):=by simpa using hdep ⟨0,aL⟩ AL rfl
    clear hdep;have cc:=(HP1.o.below hx HP1.o.lt).c1;have hK':=hK w' (Z7 a1 16 c1) AL hx Cg;clear hK;rw[AP AN];go_simp;simpa[Ce,d0] using hK'
   ·clear hdep;have hK':=hK w' (aF (aE ⟨w.heap.size,0,aA⟩)) AL hx Cg;clear hK;rw[AP AN];go_simp;simpa[Ce] using hK'
   ·have d2:t 2=aF (aE ⟨w.heap.size,0,aA⟩):=by simpa using hdep ⟨2,aL⟩ AL rfl
    clear hdep;have cc:=(HP1.o.below hx HP1.o.lt).c0;have hK':=hK w' (Z7 a0 16 c0) AL hx Cg;clear hK;rw[AP AN];go_simp;simpa[Ce,d2] using hK'
   ·have d1:t 1=Z7 a1 16 c1:=by simpa using hdep ⟨1,aL⟩ AL rfl
    have d3:t 3=Z7 a0 16 c0:=by simpa using hdep ⟨3,aL⟩ AL rfl
    clear hdep;have A:=FZ a1 a0 c1 c0 Y1 X1 w' ((SRK1.o.at 1 _ _ rfl).below hx) ((SRK1.o.at 0 _ _ rfl).below hx);have hK':∀ ww v,FG ww v ((Y1+X1)%fp)->Below w'.heap.size w' ww->K _ ww:=λww v hg hb=>hK ww v (by simpa using hg) (hx.trans (hb.mono hx.size)) hb
    clear hK;rw[AP AN];go_simp;try simp only[d1,d3]
    refine A.mono ?_;rintro e w9 ⟨g',c',rfl,_,_,hf,hb⟩;have hK2:=hK' w9 _ ⟨g',c',rfl,hf⟩ hb;clear hK' A hf hb;go_simp;simpa[Ce,d1,d3] using hK2
   ·clear hdep;have hK':=hK w' (aF (aE ⟨(w.heap.size+1),1,aA⟩)) AL hx Cg;clear hK;rw[AP AN];go_simp;simpa[Ce] using hK'
   ·have d5:t 5=aF (aE ⟨(w.heap.size+1),1,aA⟩):=by simpa using hdep ⟨5,aL⟩ AL rfl
    clear hdep;have cc:=(HQ1.o.below hx HQ1.o.lt).c1;have hK':=hK w' (Z7 b1 16 e1) AL hx Cg;clear hK;rw[AP AN];go_simp;simpa[Ce,d5] using hK'
   ·clear hdep;have hK':=hK w' (aF (aE ⟨(w.heap.size+1),0,aA⟩)) AL hx Cg;clear hK;rw[AP AN];go_simp;simpa[Ce] using hK'
   ·have d7:t 7=aF (aE ⟨(w.heap.size+1),0,aA⟩):=by simpa using hdep ⟨7,aL⟩ AL rfl
    clear hdep;have cc:=(HQ1.o.below hx HQ1.o.lt).c0;have hK':=hK w' (Z7 b0 16 e0) AL hx Cg;clear hK;rw[AP AN];go_simp;simpa[Ce,d7] using hK'
   ·have d6:t 6=Z7 b1 16 e1:=by simpa using hdep ⟨6,aL⟩ AL rfl
    have d8:t 8=Z7 b0 16 e0:=by simpa using hdep ⟨8,aL⟩ AL rfl
    clear hdep;have A:=FZ b1 b0 e1 e0 Y2 X2 w' ((SRK1.o.at 5 _ _ rfl).below hx) ((SRK1.o.at 4 _ _ rfl).below hx);have hK':∀ ww v,FG ww v ((Y2+X2)%fp)->Below w'.heap.size w' ww->K _ ww:=λww v hg hb=>hK ww v (by simpa using hg) (hx.trans (hb.mono hx.size)) hb
    clear hK;rw[AP AN];go_simp;try simp only[d6,d8]
    refine A.mono ?_;rintro e w9 ⟨g',c',rfl,_,_,hf,hb⟩;have hK2:=hK' w9 _ ⟨g',c',rfl,hf⟩ hb;clear hK' A hf hb;go_simp;simpa[Ce,d6,d8] using hK2
   ·have h4:FG w' (t 4) ((Y1+X1)%fp):=by simpa using hdep ⟨4,aL⟩ AL rfl
    refine h4.elim_ λg4 c4 d4 f4=>?_
    clear h4;have h9:FG w' (t 9) ((Y2+X2)%fp):=by simpa using hdep ⟨9,aL⟩ AL rfl
    refine h9.elim_ λg9 c9 d9 f9=>?_
    clear h9;clear hdep;have A:=Cw (aE ⟨g4,0,aA⟩) (aE ⟨g9,0,aA⟩) c4 c9 _ _ w' f4 f9;have hK':∀ ww v,FG ww v (((Y1+X1)%fp)*((Y2+X2)%fp)%fp)->Below w'.heap.size w' ww->K _ ww:=λww v hg hb=>hK ww v (by simpa using hg) (hx.trans (hb.mono hx.size)) hb
    clear hK;rw[AP AN];go_simp;try simp only[d4,d9]
    refine A.mono ?_;rintro e w9 ⟨g',c',rfl,_,_,hf,hb⟩;have hK2:=hK' w9 _ ⟨g',c',rfl,hf⟩ hb;clear hK' A hf hb;go_simp;simpa[Ce,d4,d9] using hK2
   ·have h10:FG w' (t 10) (((Y1+X1)%fp)*((Y2+X2)%fp)%fp):=by simpa using hdep ⟨10,aL⟩ AL rfl
    refine h10.elim_ λg10 c10 d10 f10=>?_
    clear h10;clear hdep;have hK':=hK w' (Z7 (aE ⟨g10,0,aA⟩) 16 c10) (by simpa using⟨g10,c10,rfl,f10⟩) hx Cg;clear hK;rw[AP AN];go_simp;simpa[Ce,d10] using hK'
  case hdone=>
   intro L t2 w2 hx hg;have f11:FG w2 (t2 11) (((Y1+X1)%fp)*((Y2+X2)%fp)%fp):=by simpa using hg 11 AK
   clear hg;obtain⟨ggB,ccB,eB,ff⟩:=f11.get;have HP2:AO (DF w2 w.heap.size #[Z7 a0 16 c0,Z7 a1 16 c1,Z7 a2 16 c2,Z7 a3 16 c3]):=HP1.o.below hx HP1.o.lt;have HQ2:AO (DF w2 (w.heap.size+1) #[Z7 b0 16 e0,Z7 b1 16 e1,Z7 b2 16 e2,Z7 b3 16 e3]):=HQ1.o.below hx HQ1.o.lt;have HZ2:AO (DF w2 (w.heap.size+1+1) CT):=HZ1.o.below hx HZ1.o.lt;have SRK2:AO (SR w w2 [(a0,X1),(a1,Y1),(a2,Z1),(a3,T1),(b0,X2),(b1,Y2),(b2,Z2),(b3,T2),(ad,D),(aE ⟨ggA,0,aA⟩,E7 X1 Y1 X2 Y2),(aE ⟨ggB,0,aA⟩,E9 X1 Y1 X2 Y2)]):=SRK1.o.more hx ff;clear HP1 HQ1 HZ1 SRK1 hx ff;simp only[eB];clear eB;go_wp2_with fail;refine Ag AM ?_;refine DE (λ_ w w'=>Below w.heap.size w w') (frame:=(λ(a b c d e f g h i j k l m n o p q r s u v w x y z A B C D E F G H I J K L M N O P Q R S T U V W X Y Z a0 a1 a2 a3 a4 a5 a6 a7 a8 a9 b0 b1 b2 b3 b4 b5 b6 b7:aB)=>λ(t:Nat->aB)=>({ tmps:=List.toArray [a,b,c,d,e,f,g,h,i,t 9,j,k,l,m,n,o,p,q,r,s,u,v,w,x,y,z,A,B,C,D,E,F,G,H,I,J,K,t 0,t 1,t 2,t 3,t 4,t 5,t 6,t 7,t 8,L,M,N,O,P,Q,R,S,T,U,V,W,X,Y,Z,a0,a1,a2,a3,a4,a5,a6,a7,a8,a9,b0,b1,b2,b3,b4,b5,b6,b7],defers:=[] }:Act)) _ _ _ _ _ _ _ _ _ _ _ _ _ _ _ _ _ _ _ _ _ _ _ _ _ _ _ _ _ _ _ _ _ _ _ _ _ _ _ _ _ _ _ _ _ _ _ _ _ _ _ _ _ _ _ _ _ _ _ _ _ _ _ _ _ _ _ _ _)
    (Ext:=λL w'=>Below w2.heap.size w2 w') (Good:=λi L w' v=>if i=0 then v=Z7 ad 16 cd else if i=1 then v=Z7 ad 16 cd else if i=2 then FG w' v ((D+D)%fp) else if i=3 then v=aF (aE ⟨w.heap.size,3,aA⟩) else if i=4 then v=Z7 a3 16 c3 else if i=5 then FG w' v (((D+D)%fp)*T1%fp) else if i=6 then v=aF (aE ⟨(w.heap.size+1),3,aA⟩) else if i=7 then v=Z7 b3 16 e3 else if i=8 then FG w' v ((((D+D)%fp)*T1%fp)*T2%fp) else if i=9 then FG w' v ((((D+D)%fp)*T1%fp)*T2%fp) else True) ?hstab AM ?hop ?hdone _ _ ((λ(x0 x1 x2 x3 x4 x5 x6 x7 x8 x9:aB)=>λ(i:Nat)=>if i=0 then x0 else if i=1 then x1 else if i=2 then x2 else if i=3 then x3 else if i=4 then x4 else if i=5 then x5 else if i=6 then x6 else if i=7 then x7 else if i=8 then x8 else if i=9 then x9 else undef) _ _ _ _ _ _ _ _ _ _) _ AL ?ext ?start AL
   case start=>intro i hi h;exact absurd h Et
   case ext=>exact⟨rfl,rfl,rfl,Ac _,λ_ _=>rfl⟩
   case hstab=>
    intro j L w9 w' i v hM _ _ h;by_cases h2:j=2
    ·subst h2;simp at h |-;exact h.below hM
    by_cases h5:j=5
    ·subst h5;simp at h |-;exact h.below hM
    by_cases h8:j=8
    ·subst h8;simp at h |-;exact h.below hM
    by_cases h9:j=9
    ·subst h9;simp at h |-;exact h.below hM
    simp only[if_neg h2,if_neg h5,if_neg h8,if_neg h9] at h |-;exact h
   case hop=>
    intro i o L t w' ho hLi hx hdep K hK;have hi:i<10:=(AR.1 ho).1;obtain rfl|rfl|rfl|rfl|rfl|rfl|rfl|rfl|rfl|rfl:i=0\/i=1\/i=2\/i=3\/i=4\/i=5\/i=6\/i=7\/i=8\/i=9:=AJ
    all_goals(simp at ho;subst ho)
    ·clear hdep;have hK':=hK w' (Z7 ad 16 cd) AL hx Cg;clear hK;rw[AP AN];go_simp;simpa[Ce] using hK'
    ·clear hdep;have hK':=hK w' (Z7 ad 16 cd) AL hx Cg;clear hK;rw[AP AN];go_simp;simpa[Ce] using hK'
    ·have d0:t 0=Z7 ad 16 cd:=by simpa using hdep ⟨0,aL⟩ AL rfl
     have d1:t 1=Z7 ad 16 cd:=by simpa using hdep ⟨1,aL⟩ AL rfl
     clear hdep;have A:=FZ ad ad cd cd D D w' ((SRK2.o.at 8 _ _ rfl).below hx) ((SRK2.o.at 8 _ _ rfl).below hx);have hK':∀ ww v,FG ww v ((D+D)%fp)->Below w'.heap.size w' ww->K _ ww:=λww v hg hb=>hK ww v (by simpa using hg) (hx.trans (hb.mono hx.size)) hb
     clear hK;rw[AP AN];go_simp;try simp only[d0,d1]
     refine A.mono ?_;rintro e w9 ⟨g',c',rfl,_,_,hf,hb⟩;have hK2:=hK' w9 _ ⟨g',c',rfl,hf⟩ hb;clear hK' A hf hb;go_simp;simpa[Ce,d0,d1] using hK2
    ·clear hdep;have hK':=hK w' (aF (aE ⟨w.heap.size,3,aA⟩)) AL hx Cg;clear hK;rw[AP AN];go_simp;simpa[Ce] using hK'
    ·have d3:t 3=aF (aE ⟨w.heap.size,3,aA⟩):=by simpa using hdep ⟨3,aL⟩ AL rfl
     clear hdep;have cc:=(HP2.o.below hx HP2.o.lt).c3;have hK':=hK w' (Z7 a3 16 c3) AL hx Cg;clear hK;rw[AP AN];go_simp;simpa[Ce,d3] using hK'
    ·have h2:FG w' (t 2) ((D+D)%fp):=by simpa using hdep ⟨2,aL⟩ AL rfl
     refine h2.elim_ λg2 c2 d2 f2=>?_
     clear h2;have d4:t 4=Z7 a3 16 c3:=by simpa using hdep ⟨4,aL⟩ AL rfl
     clear hdep;have A:=Cw (aE ⟨g2,0,aA⟩) a3 c2 c3 _ T1 w' f2 ((SRK2.o.at 3 _ _ rfl).below hx);have hK':∀ ww v,FG ww v (((D+D)%fp)*T1%fp)->Below w'.heap.size w' ww->K _ ww:=λww v hg hb=>hK ww v (by simpa using hg) (hx.trans (hb.mono hx.size)) hb
     clear hK;rw[AP AN];go_simp;try simp only[d2,d4]
     refine A.mono ?_;rintro e w9 ⟨g',c',rfl,_,_,hf,hb⟩;have hK2:=hK' w9 _ ⟨g',c',rfl,hf⟩ hb;clear hK' A hf hb;go_simp;simpa[Ce,d2,d4] using hK2
    ·clear hdep;have hK':=hK w' (aF (aE ⟨(w.heap.size+1),3,aA⟩)) AL hx Cg;clear hK;rw[AP AN];go_simp;simpa[Ce] using hK'
    ·have d6:t 6=aF (aE ⟨(w.heap.size+1),3,aA⟩):=by simpa using hdep ⟨6,aL⟩ AL rfl
     clear hdep;have cc:=(HQ2.o.below hx HQ2.o.lt).c3;have hK':=hK w' (Z7 b3 16 e3) AL hx Cg;clear hK;rw[AP AN];go_simp;simpa[Ce,d6] using hK'
    ·have h5:FG w' (t 5) (((D+D)%fp)*T1%fp):=by simpa using hdep ⟨5,aL⟩ AL rfl
     refine h5.elim_ λg5 c5 d5 f5=>?_
     clear h5;have d7:t 7=Z7 b3 16 e3:=by simpa using hdep ⟨7,aL⟩ AL rfl
     clear hdep;have A:=Cw (aE ⟨g5,0,aA⟩) b3 c5 e3 _ T2 w' f5 ((SRK2.o.at 7 _ _ rfl).below hx);have hK':∀ ww v,FG ww v ((((D+D)%fp)*T1%fp)*T2%fp)->Below w'.heap.size w' ww->K _ ww:=λww v hg hb=>hK ww v (by simpa using hg) (hx.trans (hb.mono hx.size)) hb
     clear hK;rw[AP AN];go_simp;try simp only[d5,d7]
     refine A.mono ?_;rintro e w9 ⟨g',c',rfl,_,_,hf,hb⟩;have hK2:=hK' w9 _ ⟨g',c',rfl,hf⟩ hb;clear hK' A hf hb;go_simp;simpa[Ce,d5,d7] using hK2
    ·have h8:FG w' (t 8) ((((D+D)%fp)*T1%fp)*T2%fp):=by simpa using hdep ⟨8,aL⟩ AL rfl
     refine h8.elim_ λg8 c8 d8 f8=>?_
     clear h8;clear hdep;have hK':=hK w' (Z7 (aE ⟨g8,0,aA⟩) 16 c8) (by simpa using⟨g8,c8,rfl,f8⟩) hx Cg;clear hK;rw[AP AN];go_simp;simpa[Ce,d8] using hK'
   case hdone=>
    intro L t3 w3 hx hg;have f9:FG w3 (t3 9) ((((D+D)%fp)*T1%fp)*T2%fp):=by simpa using hg 9 AK
    clear hg;obtain⟨ggC,ccC,eC,ff⟩:=f9.get;have HP3:AO (DF w3 w.heap.size #[Z7 a0 16 c0,Z7 a1 16 c1,Z7 a2 16 c2,Z7 a3 16 c3]):=HP2.o.below hx HP2.o.lt;have HQ3:AO (DF w3 (w.heap.size+1) #[Z7 b0 16 e0,Z7 b1 16 e1,Z7 b2 16 e2,Z7 b3 16 e3]):=HQ2.o.below hx HQ2.o.lt;have HZ3:AO (DF w3 (w.heap.size+1+1) CT):=HZ2.o.below hx HZ2.o.lt;have SRK3:AO (SR w w3 [(a0,X1),(a1,Y1),(a2,Z1),(a3,T1),(b0,X2),(b1,Y2),(b2,Z2),(b3,T2),(ad,D),(aE ⟨ggA,0,aA⟩,E7 X1 Y1 X2 Y2),(aE ⟨ggB,0,aA⟩,E9 X1 Y1 X2 Y2),(aE ⟨ggC,0,aA⟩,Ek D T1 T2)]):=SRK2.o.more hx ff;clear HP2 HQ2 HZ2 SRK2 hx ff;simp only[eC];clear eC;go_wp2_with fail;refine Ag AM ?_;refine DE (λ_ w w'=>Below w.heap.size w w') (frame:=(λ(a b c d e f g h i j k l m n o p q r s u v w x y z A B C D E F G H I J K L M N O P Q R S T U V W X Y Z a0 a1 a2 a3 a4 a5 a6 a7 a8 a9 b0 b1 b2 b3 b4 b5 b6 b7 b8:aB)=>λ(t:Nat->aB)=>({ tmps:=List.toArray [a,b,c,d,e,f,g,h,i,j,t 8,k,l,m,n,o,p,q,r,s,u,v,w,x,y,z,A,B,C,D,E,F,G,H,I,J,K,L,M,N,O,P,Q,R,S,T,t 0,t 1,t 2,t 3,t 4,t 5,t 6,t 7,U,V,W,X,Y,Z,a0,a1,a2,a3,a4,a5,a6,a7,a8,a9,b0,b1,b2,b3,b4,b5,b6,b7,b8],defers:=[] }:Act)) _ _ _ _ _ _ _ _ _ _ _ _ _ _ _ _ _ _ _ _ _ _ _ _ _ _ _ _ _ _ _ _ _ _ _ _ _ _ _ _ _ _ _ _ _ _ _ _ _ _ _ _ _ _ _ _ _ _ _ _ _ _ _ _ _ _ _ _ _ _)
     (Ext:=λL w'=>Below w3.heap.size w3 w') (Good:=λi L w' v=>if i=0 then v=aF (aE ⟨w.heap.size,2,aA⟩) else if i=1 then v=Z7 a2 16 c2 else if i=2 then v=aF (aE ⟨w.heap.size,2,aA⟩) else if i=3 then v=Z7 a2 16 c2 else if i=4 then FG w' v ((Z1+Z1)%fp) else if i=5 then v=aF (aE ⟨(w.heap.size+1),2,aA⟩) else if i=6 then v=Z7 b2 16 e2 else if i=7 then FG w' v (((Z1+Z1)%fp)*Z2%fp) else if i=8 then FG w' v (((Z1+Z1)%fp)*Z2%fp) else True) ?hstab AM ?hop ?hdone _ _ ((λ(x0 x1 x2 x3 x4 x5 x6 x7 x8:aB)=>λ(i:Nat)=>if i=0 then x0 else if i=1 then x1 else if i=2 then x2 else if i=3 then x3 else if i=4 then x4 else if i=5 then x5 else if i=6 then x6 else if i=7 then x7 else if i=8 then x8 else undef) _ _ _ _ _ _ _ _ _) _ AL ?ext ?start AL
    case start=>intro i hi h;exact absurd h Et
    case ext=>exact⟨rfl,rfl,rfl,Ac _,λ_ _=>rfl⟩
    case hstab=>
     intro j L w9 w' i v hM _ _ h;by_cases h4:j=4
     ·subst h4;simp at h |-;exact h.below hM
     by_cases h7:j=7
     ·subst h7;simp at h |-;exact h.below hM
     by_cases h8:j=8
     ·subst h8;simp at h |-;exact h.below hM
     simp only[if_neg h4,if_neg h7,if_neg h8] at h |-;exact h
    case hop=>
     intro i o L t w' ho hLi hx hdep K hK;have hi:i<9:=(AR.1 ho).1;obtain rfl|rfl|rfl|rfl|rfl|rfl|rfl|rfl|rfl:i=0\/i=1\/i=2\/i=3\/i=4\/i=5\/i=6\/i=7\/i=8:=AJ
     all_goals(simp at ho;subst ho)
     ·clear hdep;have hK':=hK w' (aF (aE ⟨w.heap.size,2,aA⟩)) AL hx Cg;clear hK;rw[AP AN];go_simp;simpa[Ce] using hK'
     ·have d0:t 0=aF (aE ⟨w.heap.size,2,aA⟩):=by simpa using hdep ⟨0,aL⟩ AL rfl
      clear hdep;have cc:=(HP3.o.below hx HP3.o.lt).c2;have hK':=hK w' (Z7 a2 16 c2) AL hx Cg;clear hK;rw[AP AN];go_simp;simpa[Ce,d0] using hK'
     ·clear hdep;have hK':=hK w' (aF (aE ⟨w.heap.size,2,aA⟩)) AL hx Cg;clear hK;rw[AP AN];go_simp;simpa[Ce] using hK'
     ·have d2:t 2=aF (aE ⟨w.heap.size,2,aA⟩):=by simpa using hdep ⟨2,aL⟩ AL rfl
      clear hdep;have cc:=(HP3.o.below hx HP3.o.lt).c2;have hK':=hK w' (Z7 a2 16 c2) AL hx Cg;clear hK;rw[AP AN];go_simp;simpa[Ce,d2] using hK'
     ·have d1:t 1=Z7 a2 16 c2:=by simpa using hdep ⟨1,aL⟩ AL rfl
      have d3:t 3=Z7 a2 16 c2:=by simpa using hdep ⟨3,aL⟩ AL rfl
      clear hdep;have A:=FZ a2 a2 c2 c2 Z1 Z1 w' ((SRK3.o.at 2 _ _ rfl).below hx) ((SRK3.o.at 2 _ _ rfl).below hx);have hK':∀ ww v,FG ww v ((Z1+Z1)%fp)->Below w'.heap.size w' ww->K _ ww:=λww v hg hb=>hK ww v (by simpa using hg) (hx.trans (hb.mono hx.size)) hb
      clear hK;rw[AP AN];go_simp;try simp only[d1,d3]
      refine A.mono ?_;rintro e w9 ⟨g',c',rfl,_,_,hf,hb⟩;have hK2:=hK' w9 _ ⟨g',c',rfl,hf⟩ hb;clear hK' A hf hb;go_simp;simpa[Ce,d1,d3] using hK2
     ·clear hdep;have hK':=hK w' (aF (aE ⟨(w.heap.size+1),2,aA⟩)) AL hx Cg;clear hK;rw[AP AN];go_simp;simpa[Ce] using hK'
     ·have d5:t 5=aF (aE ⟨(w.heap.size+1),2,aA⟩):=by simpa using hdep ⟨5,aL⟩ AL rfl
      clear hdep;have cc:=(HQ3.o.below hx HQ3.o.lt).c2;have hK':=hK w' (Z7 b2 16 e2) AL hx Cg;clear hK;rw[AP AN];go_simp;simpa[Ce,d5] using hK'
     ·have h4:FG w' (t 4) ((Z1+Z1)%fp):=by simpa using hdep ⟨4,aL⟩ AL rfl
      refine h4.elim_ λg4 c4 d4 f4=>?_
      clear h4;have d6:t 6=Z7 b2 16 e2:=by simpa using hdep ⟨6,aL⟩ AL rfl
      clear hdep;have A:=Cw (aE ⟨g4,0,aA⟩) b2 c4 e2 _ Z2 w' f4 ((SRK3.o.at 6 _ _ rfl).below hx);have hK':∀ ww v,FG ww v (((Z1+Z1)%fp)*Z2%fp)->Below w'.heap.size w' ww->K _ ww:=λww v hg hb=>hK ww v (by simpa using hg) (hx.trans (hb.mono hx.size)) hb
      clear hK;rw[AP AN];go_simp;try simp only[d4,d6]
      refine A.mono ?_;rintro e w9 ⟨g',c',rfl,_,_,hf,hb⟩;have hK2:=hK' w9 _ ⟨g',c',rfl,hf⟩ hb;clear hK' A hf hb;go_simp;simpa[Ce,d4,d6] using hK2
     ·have h7:FG w' (t 7) (((Z1+Z1)%fp)*Z2%fp):=by simpa using hdep ⟨7,aL⟩ AL rfl
      refine h7.elim_ λg7 c7 d7 f7=>?_
      clear h7;clear hdep;have hK':=hK w' (Z7 (aE ⟨g7,0,aA⟩) 16 c7) (by simpa using⟨g7,c7,rfl,f7⟩) hx Cg;clear hK;rw[AP AN];go_simp;simpa[Ce,d7] using hK'
    case hdone=>
     intro L t4 w4 hx hg;have f8:FG w4 (t4 8) (((Z1+Z1)%fp)*Z2%fp):=by simpa using hg 8 AK
     clear hg;obtain⟨ggG,ccG,eG,ff⟩:=f8.get;have HP4:AO (DF w4 w.heap.size #[Z7 a0 16 c0,Z7 a1 16 c1,Z7 a2 16 c2,Z7 a3 16 c3]):=HP3.o.below hx HP3.o.lt;have HQ4:AO (DF w4 (w.heap.size+1) #[Z7 b0 16 e0,Z7 b1 16 e1,Z7 b2 16 e2,Z7 b3 16 e3]):=HQ3.o.below hx HQ3.o.lt;have HZ4:AO (DF w4 (w.heap.size+1+1) CT):=HZ3.o.below hx HZ3.o.lt;have SRK4:AO (SR w w4 [(a0,X1),(a1,Y1),(a2,Z1),(a3,T1),(b0,X2),(b1,Y2),(b2,Z2),(b3,T2),(ad,D),(aE ⟨ggA,0,aA⟩,E7 X1 Y1 X2 Y2),(aE ⟨ggB,0,aA⟩,E9 X1 Y1 X2 Y2),(aE ⟨ggC,0,aA⟩,Ek D T1 T2),(aE ⟨ggG,0,aA⟩,Ey Z1 Z2)]):=SRK3.o.more hx ff;clear HP3 HQ3 HZ3 SRK3 hx ff;simp only[eG];clear eG;go_wp2_with fail;clear HP4 HQ4;refine(Fa _ _ ccB ccA _ _ _ (SRK4.o.at 10 _ _ rfl) (SRK4.o.at 9 _ _ rfl)).mono ?_;rintro e w5 ⟨gE,kE,rfl,hk1,hl1,hf,hb⟩;have HZ5:AO (DF w5 (w.heap.size+1+1) CT):=HZ4.o.below hb HZ4.o.lt;have SRK5:AO (SR w w5 [(a0,X1),(a1,Y1),(a2,Z1),(a3,T1),(b0,X2),(b1,Y2),(b2,Z2),(b3,T2),(ad,D),(aE ⟨ggA,0,aA⟩,E7 X1 Y1 X2 Y2),(aE ⟨ggB,0,aA⟩,E9 X1 Y1 X2 Y2),(aE ⟨ggC,0,aA⟩,Ek D T1 T2),(aE ⟨ggG,0,aA⟩,Ey Z1 Z2),(aE ⟨gE,0,aA⟩,(E9 X1 Y1 X2 Y2-E7 X1 Y1 X2 Y2)%fp)]):=SRK4.o.more hb hf;have hgE:w.heap.size+1+1<gE:=AG HZ4.o.lt
     clear hf hb SRK4 HZ4 hk1 hl1;go_wp2_with fail;refine(Fa _ _ ccG ccC _ _ _ (SRK5.o.at 12 _ _ rfl) (SRK5.o.at 11 _ _ rfl)).mono ?_;rintro e w6 ⟨gF,kF,rfl,hk1,hl1,hf,hb⟩;have HZ6:AO (DF w6 (w.heap.size+1+1) CT):=HZ5.o.below hb HZ5.o.lt;have SRK6:AO (SR w w6 [(a0,X1),(a1,Y1),(a2,Z1),(a3,T1),(b0,X2),(b1,Y2),(b2,Z2),(b3,T2),(ad,D),(aE ⟨ggA,0,aA⟩,E7 X1 Y1 X2 Y2),(aE ⟨ggB,0,aA⟩,E9 X1 Y1 X2 Y2),(aE ⟨ggC,0,aA⟩,Ek D T1 T2),(aE ⟨ggG,0,aA⟩,Ey Z1 Z2),(aE ⟨gE,0,aA⟩,(E9 X1 Y1 X2 Y2-E7 X1 Y1 X2 Y2)%fp),(aE ⟨gF,0,aA⟩,(Ey Z1 Z2-Ek D T1 T2)%fp)]):=SRK5.o.more hb hf;have hgF:w.heap.size+1+1<gF:=AG HZ5.o.lt
     clear hf hb SRK5 HZ5 hk1 hl1;go_wp2_with fail;refine(FZ _ _ ccG ccC _ _ _ (SRK6.o.at 12 _ _ rfl) (SRK6.o.at 11 _ _ rfl)).mono ?_;rintro e w7 ⟨gH,kH,rfl,hk1,hl1,hf,hb⟩;have HZ7:AO (DF w7 (w.heap.size+1+1) CT):=HZ6.o.below hb HZ6.o.lt;have SRK7:AO (SR w w7 [(a0,X1),(a1,Y1),(a2,Z1),(a3,T1),(b0,X2),(b1,Y2),(b2,Z2),(b3,T2),(ad,D),(aE ⟨ggA,0,aA⟩,E7 X1 Y1 X2 Y2),(aE ⟨ggB,0,aA⟩,E9 X1 Y1 X2 Y2),(aE ⟨ggC,0,aA⟩,Ek D T1 T2),(aE ⟨ggG,0,aA⟩,Ey Z1 Z2),(aE ⟨gE,0,aA⟩,(E9 X1 Y1 X2 Y2-E7 X1 Y1 X2 Y2)%fp),(aE ⟨gF,0,aA⟩,(Ey Z1 Z2-Ek D T1 T2)%fp),(aE ⟨gH,0,aA⟩,(Ey Z1 Z2+Ek D T1 T2)%fp)]):=SRK6.o.more hb hf;have hgH:w.heap.size+1+1<gH:=AG HZ6.o.lt
     clear hf hb SRK6 HZ6 hk1 hl1;go_wp2_with fail;refine(FZ _ _ ccB ccA _ _ _ (SRK7.o.at 10 _ _ rfl) (SRK7.o.at 9 _ _ rfl)).mono ?_;rintro e w8 ⟨gK,kK,rfl,hk1,hl1,hf,hb⟩;have HZ8:AO (DF w8 (w.heap.size+1+1) CT):=HZ7.o.below hb HZ7.o.lt;have SRK8:AO (SR w w8 [(a0,X1),(a1,Y1),(a2,Z1),(a3,T1),(b0,X2),(b1,Y2),(b2,Z2),(b3,T2),(ad,D),(aE ⟨ggA,0,aA⟩,E7 X1 Y1 X2 Y2),(aE ⟨ggB,0,aA⟩,E9 X1 Y1 X2 Y2),(aE ⟨ggC,0,aA⟩,Ek D T1 T2),(aE ⟨ggG,0,aA⟩,Ey Z1 Z2),(aE ⟨gE,0,aA⟩,(E9 X1 Y1 X2 Y2-E7 X1 Y1 X2 Y2)%fp),(aE ⟨gF,0,aA⟩,(Ey Z1 Z2-Ek D T1 T2)%fp),(aE ⟨gH,0,aA⟩,(Ey Z1 Z2+Ek D T1 T2)%fp),(aE ⟨gK,0,aA⟩,(E9 X1 Y1 X2 Y2+E7 X1 Y1 X2 Y2)%fp)]):=SRK7.o.more hb hf;have hgK:w.heap.size+1+1<gK:=AG HZ7.o.lt
     clear hf hb SRK7 HZ7 hk1 hl1;go_wp2_with fail;refine(Cw _ _ kE kF _ _ _ (SRK8.o.at 13 _ _ rfl) (SRK8.o.at 14 _ _ rfl)).mono ?_;rintro e w9 ⟨gX,kX,rfl,hk1,hl1,hf,hb⟩;have HZ9:AO (DF w9 (w.heap.size+1+1) CT):=HZ8.o.below hb HZ8.o.lt;have SRK9:AO (SR w w9 [(a0,X1),(a1,Y1),(a2,Z1),(a3,T1),(b0,X2),(b1,Y2),(b2,Z2),(b3,T2),(ad,D),(aE ⟨ggA,0,aA⟩,E7 X1 Y1 X2 Y2),(aE ⟨ggB,0,aA⟩,E9 X1 Y1 X2 Y2),(aE ⟨ggC,0,aA⟩,Ek D T1 T2),(aE ⟨ggG,0,aA⟩,Ey Z1 Z2),(aE ⟨gE,0,aA⟩,(E9 X1 Y1 X2 Y2-E7 X1 Y1 X2 Y2)%fp),(aE ⟨gF,0,aA⟩,(Ey Z1 Z2-Ek D T1 T2)%fp),(aE ⟨gH,0,aA⟩,(Ey Z1 Z2+Ek D T1 T2)%fp),(aE ⟨gK,0,aA⟩,(E9 X1 Y1 X2 Y2+E7 X1 Y1 X2 Y2)%fp),(aE ⟨gX,0,aA⟩,(E9 X1 Y1 X2 Y2-E7 X1 Y1 X2 Y2)%fp*((Ey Z1 Z2-Ek D T1 T2)%fp)%fp)]):=SRK8.o.more hb hf;have hgX:w.heap.size+1+1<gX:=AG HZ8.o.lt
     clear hf hb SRK8 HZ8 hk1 hl1;go_wp2_with fail;refine(Cw _ _ kH kK _ _ _ (SRK9.o.at 15 _ _ rfl) (SRK9.o.at 16 _ _ rfl)).mono ?_;rintro e w10 ⟨gY,kY,rfl,hk1,hl1,hf,hb⟩;have HZ10:AO (DF w10 (w.heap.size+1+1) CT):=HZ9.o.below hb HZ9.o.lt;have SRK10:AO (SR w w10 [(a0,X1),(a1,Y1),(a2,Z1),(a3,T1),(b0,X2),(b1,Y2),(b2,Z2),(b3,T2),(ad,D),(aE ⟨ggA,0,aA⟩,E7 X1 Y1 X2 Y2),(aE ⟨ggB,0,aA⟩,E9 X1 Y1 X2 Y2),(aE ⟨ggC,0,aA⟩,Ek D T1 T2),(aE ⟨ggG,0,aA⟩,Ey Z1 Z2),(aE ⟨gE,0,aA⟩,(E9 X1 Y1 X2 Y2-E7 X1 Y1 X2 Y2)%fp),(aE ⟨gF,0,aA⟩,(Ey Z1 Z2-Ek D T1 T2)%fp),(aE ⟨gH,0,aA⟩,(Ey Z1 Z2+Ek D T1 T2)%fp),(aE ⟨gK,0,aA⟩,(E9 X1 Y1 X2 Y2+E7 X1 Y1 X2 Y2)%fp),(aE ⟨gX,0,aA⟩,(E9 X1 Y1 X2 Y2-E7 X1 Y1 X2 Y2)%fp*((Ey Z1 Z2-Ek D T1 T2)%fp)%fp),(aE ⟨gY,0,aA⟩,(Ey Z1 Z2+Ek D T1 T2)%fp*((E9 X1 Y1 X2 Y2+E7 X1 Y1 X2 Y2)%fp)%fp)]):=SRK9.o.more hb hf;have hgY:w.heap.size+1+1<gY:=AG HZ9.o.lt
     clear hf hb SRK9 HZ9 hk1 hl1;go_wp2_with fail;refine(Cw _ _ kF kH _ _ _ (SRK10.o.at 14 _ _ rfl) (SRK10.o.at 15 _ _ rfl)).mono ?_;rintro e w11 ⟨gZ,kZ,rfl,hk1,hl1,hf,hb⟩;have HZ11:AO (DF w11 (w.heap.size+1+1) CT):=HZ10.o.below hb HZ10.o.lt;have SRK11:AO (SR w w11 [(a0,X1),(a1,Y1),(a2,Z1),(a3,T1),(b0,X2),(b1,Y2),(b2,Z2),(b3,T2),(ad,D),(aE ⟨ggA,0,aA⟩,E7 X1 Y1 X2 Y2),(aE ⟨ggB,0,aA⟩,E9 X1 Y1 X2 Y2),(aE ⟨ggC,0,aA⟩,Ek D T1 T2),(aE ⟨ggG,0,aA⟩,Ey Z1 Z2),(aE ⟨gE,0,aA⟩,(E9 X1 Y1 X2 Y2-E7 X1 Y1 X2 Y2)%fp),(aE ⟨gF,0,aA⟩,(Ey Z1 Z2-Ek D T1 T2)%fp),(aE ⟨gH,0,aA⟩,(Ey Z1 Z2+Ek D T1 T2)%fp),(aE ⟨gK,0,aA⟩,(E9 X1 Y1 X2 Y2+E7 X1 Y1 X2 Y2)%fp),(aE ⟨gX,0,aA⟩,(E9 X1 Y1 X2 Y2-E7 X1 Y1 X2 Y2)%fp*((Ey Z1 Z2-Ek D T1 T2)%fp)%fp),(aE ⟨gY,0,aA⟩,(Ey Z1 Z2+Ek D T1 T2)%fp*((E9 X1 Y1 X2 Y2+E7 X1 Y1 X2 Y2)%fp)%fp),(aE ⟨gZ,0,aA⟩,(Ey Z1 Z2-Ek D T1 T2)%fp*((Ey Z1 Z2+Ek D T1 T2)%fp)%fp)]):=SRK10.o.more hb hf;have hgZ:w.heap.size+1+1<gZ:=AG HZ10.o.lt
     clear hf hb SRK10 HZ10 hk1 hl1;go_wp2_with fail;refine(Cw _ _ kE kK _ _ _ (SRK11.o.at 13 _ _ rfl) (SRK11.o.at 16 _ _ rfl)).mono ?_;rintro e w12 ⟨gT,kT,rfl,hk1,hl1,hf,hb⟩;have HZ12:AO (DF w12 (w.heap.size+1+1) CT):=HZ11.o.below hb HZ11.o.lt;have SRK12:AO (SR w w12 [(a0,X1),(a1,Y1),(a2,Z1),(a3,T1),(b0,X2),(b1,Y2),(b2,Z2),(b3,T2),(ad,D),(aE ⟨ggA,0,aA⟩,E7 X1 Y1 X2 Y2),(aE ⟨ggB,0,aA⟩,E9 X1 Y1 X2 Y2),(aE ⟨ggC,0,aA⟩,Ek D T1 T2),(aE ⟨ggG,0,aA⟩,Ey Z1 Z2),(aE ⟨gE,0,aA⟩,(E9 X1 Y1 X2 Y2-E7 X1 Y1 X2 Y2)%fp),(aE ⟨gF,0,aA⟩,(Ey Z1 Z2-Ek D T1 T2)%fp),(aE ⟨gH,0,aA⟩,(Ey Z1 Z2+Ek D T1 T2)%fp),(aE ⟨gK,0,aA⟩,(E9 X1 Y1 X2 Y2+E7 X1 Y1 X2 Y2)%fp),(aE ⟨gX,0,aA⟩,(E9 X1 Y1 X2 Y2-E7 X1 Y1 X2 Y2)%fp*((Ey Z1 Z2-Ek D T1 T2)%fp)%fp),(aE ⟨gY,0,aA⟩,(Ey Z1 Z2+Ek D T1 T2)%fp*((E9 X1 Y1 X2 Y2+E7 X1 Y1 X2 Y2)%fp)%fp),(aE ⟨gZ,0,aA⟩,(Ey Z1 Z2-Ek D T1 T2)%fp*((Ey Z1 Z2+Ek D T1 T2)%fp)%fp),(aE ⟨gT,0,aA⟩,(E9 X1 Y1 X2 Y2-E7 X1 Y1 X2 Y2)%fp*((E9 X1 Y1 X2 Y2+E7 X1 Y1 X2 Y2)%fp)%fp)]):=SRK11.o.more hb hf;have hgT:w.heap.size+1+1<gT:=AG HZ11.o.lt
     clear hf hb SRK11 HZ11 hk1 hl1;go_wp2_with (first
      |(refine Cm rfl (.tmp 6) (.tmp 78) rfl (w.heap.size+1+1) _ _ _ _ _ rfl rfl rfl rfl rfl rfl rfl HZ12.o ?_)
      |fail)
     intro w13 hp3 hw3;have HP3:AO (DF w13 (w.heap.size+1+1) #[Z7 (aE ⟨gX,0,aA⟩) 16 kX,Z7 (aE ⟨gY,0,aA⟩) 16 kY,Z7 (aE ⟨gZ,0,aA⟩) 16 kZ,Z7 (aE ⟨gT,0,aA⟩) 16 kT]):=hp3;have HF:AO (Cu w13 (aE ⟨gX,0,aA⟩) ((E9 X1 Y1 X2 Y2-E7 X1 Y1 X2 Y2)%fp*((Ey Z1 Z2-Ek D T1 T2)%fp)%fp)/\Cu w13 (aE ⟨gY,0,aA⟩) ((Ey Z1 Z2+Ek D T1 T2)%fp*((E9 X1 Y1 X2 Y2+E7 X1 Y1 X2 Y2)%fp)%fp)/\Cu w13 (aE ⟨gZ,0,aA⟩) ((Ey Z1 Z2-Ek D T1 T2)%fp*((Ey Z1 Z2+Ek D T1 T2)%fp)%fp)/\Cu w13 (aE ⟨gT,0,aA⟩) ((E9 X1 Y1 X2 Y2-E7 X1 Y1 X2 Y2)%fp*((E9 X1 Y1 X2 Y2+E7 X1 Y1 X2 Y2)%fp)%fp)/\Below w.heap.size w w13):=
      ⟨(SRK12.o.at 17 _ _ rfl).wr hw3 AJ,(SRK12.o.at 18 _ _ rfl).wr hw3 AJ,(SRK12.o.at 19 _ _ rfl).wr hw3 AJ,(SRK12.o.at 20 _ _ rfl).wr hw3 AJ,SRK12.o.below.trans (hw3.below AJ)⟩
     clear hp3 hw3 SRK12 HZ12;go_wp2;exact Ab (v:=aH #[Z7 (aE ⟨gX,0,aA⟩) 16 kX,Z7 (aE ⟨gY,0,aA⟩) 16 kY,Z7 (aE ⟨gZ,0,aA⟩) 16 kZ,Z7 (aE ⟨gT,0,aA⟩) 16 kT]) (Ah rfl _ _ (w.heap.size+1+1) 109 _ (0,0) _ rfl HP3.o underlying109 rfl Tryz.sizePt) rfl ⟨gX,kX,gY,kY,gZ,kZ,gT,kT,rfl,HF.o.1,HF.o.2.1,HF.o.2.2.1,HF.o.2.2.2.1,HF.o.2.2.2.2,AJ,AJ,AJ,AJ⟩
theorem N7 (w:aC) (b o c t:Nat) (ht:t<16) (hc:128<=c):(Instr.sliceAt 26 (Z7 (aE ⟨b,o,aA⟩) 128 c) (aE (Z8 .i64 (8*(t:Int)))) (aE (Z8 .i64 (8*(t:Int)+8))) aA).run tP w=.ok (Z7 (aE ⟨b,o+8*t,aA⟩) 8 (c-8*t)) w:=by
 have h2:(8*(t:Int)+8)<=(c:Int):=AJ
 have h3:(8*(t:Int)+8).toNat=8*t+8:=AJ
 have h4:¬ (c=8*t):=AJ
 have h5:(8*(t:Int)).toNat=8*t:=AJ
 have h6:(0:Int)<=8*(t:Int):=AJ
 have h7:(0:Int)<=8*(t:Int)+8:=AJ
 unfold Instr.sliceAt;simp[run_underlying underlying26,go_sem,Instr.sliceBounds,h2,h3,h4,h5,h6,h7,Addr.add];rw[AP AJ];by_cases h0:t=0
 ·subst h0;simp
 ·rw[AQ AJ]
structure BK (w:aC) (bh oh bb ob bk:Nat) (hs bs:List Int):Prop where
 h:bh<w.heap.size/\∀ i,i<8->w.cell? ⟨bh,oh+i,aA⟩=aE (Z8 .u64 (hs.getD i 0))
 b:bb<w.heap.size/\∀ i,i<128->w.cell? ⟨bb,ob+i,aA⟩=aE (Z8 .u8 (bs.getD i 0))
 k:bk<w.heap.size/\∀ i,i<88->w.cell? ⟨bk,i,aA⟩=aE (Z8 .u64 (kt i))
theorem BK.below {w w':aC} {bh oh bb ob bk:Nat} {hs bs:List Int} (h:BK w bh oh bb ob bk hs bs) (hb:Below w.heap.size w w'):BK w' bh oh bb ob bk hs bs:=by
 have:=hb.size;exact⟨⟨AG h.h.1,λi hi=>by rw[Ai (w:=w) (hb.block bh h.h.1)];exact h.h.2 i hi⟩,⟨AG h.b.1,λi hi=>by rw[Ai (w:=w) (hb.block bb h.b.1)];exact h.b.2 i hi⟩,⟨AG h.k.1,λi hi=>by rw[Ai (w:=w) (hb.block bk h.k.1)];exact h.k.2 i hi⟩⟩
theorem Zu (x:Int) (w:aC) (hx:EE x):Calls tP 121 #[Z8 .u64 x,Z8 .u64 1] w λe w'=>e=aK (Z8 .u64 (Cp 1 x))/\w'=w:=EI x 1 w AK hx
theorem Zv (x:Int) (w:aC) (hx:EE x):Calls tP 121 #[Z8 .u64 x,Z8 .u64 8] w λe w'=>e=aK (Z8 .u64 (Cp 8 x))/\w'=w:=EI x 8 w AK hx
theorem ZD (x:Int) (w:aC) (hx:EE x):Calls tP 121 #[Z8 .u64 x,Z8 .u64 19] w λe w'=>e=aK (Z8 .u64 (Cp 19 x))/\w'=w:=EI x 19 w AK hx
theorem ZE (x:Int) (w:aC) (hx:EE x):Calls tP 121 #[Z8 .u64 x,Z8 .u64 61] w λe w'=>e=aK (Z8 .u64 (Cp 61 x))/\w'=w:=EI x 61 w AK hx
theorem ZF (x:Int) (w:aC) (hx:EE x):Calls tP 121 #[Z8 .u64 x,Z8 .u64 28] w λe w'=>e=aK (Z8 .u64 (Cp 28 x))/\w'=w:=EI x 28 w AK hx
theorem ZG (x:Int) (w:aC) (hx:EE x):Calls tP 121 #[Z8 .u64 x,Z8 .u64 34] w λe w'=>e=aK (Z8 .u64 (Cp 34 x))/\w'=w:=EI x 34 w AK hx
theorem ZH (x:Int) (w:aC) (hx:EE x):Calls tP 121 #[Z8 .u64 x,Z8 .u64 39] w λe w'=>e=aK (Z8 .u64 (Cp 39 x))/\w'=w:=EI x 39 w AK hx
theorem ZI (x:Int) (w:aC) (hx:EE x):Calls tP 121 #[Z8 .u64 x,Z8 .u64 14] w λe w'=>e=aK (Z8 .u64 (Cp 14 x))/\w'=w:=EI x 14 w AK hx
theorem ZJ (x:Int) (w:aC) (hx:EE x):Calls tP 121 #[Z8 .u64 x,Z8 .u64 18] w λe w'=>e=aK (Z8 .u64 (Cp 18 x))/\w'=w:=EI x 18 w AK hx
theorem ZK (x:Int) (w:aC) (hx:EE x):Calls tP 121 #[Z8 .u64 x,Z8 .u64 41] w λe w'=>e=aK (Z8 .u64 (Cp 41 x))/\w'=w:=EI x 41 w AK hx
end Go.Proofs.YtjdhhgaelgemcaaGreatDoor
