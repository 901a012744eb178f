import Derived.Test.YtapejbpgdjbjjaaGreatDoorMRtM
import Derived.Test.YtapejbpgdjbjjaaGreatDoorMICd
namespace Go.Proofs.YtapejbpgdjbjjaaGreatDoor
set_option linter.unusedVariables false
def Z0 (a:Int):Prop:=a%fp=0
theorem Z0.mul {a:Int} (h:Z0 a) (b:Int):Z0 (b*a):=by unfold Z0 at *;rw[Int.mul_emod,h,Int.mul_zero];rfl
theorem Z0.add {a b:Int} (h:Z0 a) (k:Z0 b):Z0 (a+b):=by unfold Z0 at *;rw[Int.add_emod,h,k];rfl
theorem Z0.sub {a b:Int} (h:Z0 a) (k:Z0 b):Z0 (a-b):=by unfold Z0 at *;rw[Int.sub_emod,h,k];rfl
theorem Z0.of_eq {a b:Int} (h:Z0 a) (e:a=b):Z0 b:=e ▸ h
theorem z0_iff {a b:Int}:Z0 (a-b)↔a%fp=b%fp:=by unfold Z0;rw[fp_lit];omega
theorem z0_dvd (a:Int):Z0 a↔(fpN∣a.natAbs):=by
 unfold Z0
 rw[fp_fpN]
 constructor
 ·intro h;exact Int.ofNat_dvd_left.1 (Int.dvd_of_emod_eq_zero h)
 ·intro h;exact Int.emod_eq_zero_of_dvd (Int.ofNat_dvd_left.2 h)
theorem Z0.prime {a b:Int} (h:Z0 (a*b)):Z0 a∨Z0 b:=by
 rw[z0_dvd,Int.natAbs_mul] at h
 rcases fp_prm.dvd_mul h with h|h
 ·exact .inl ((z0_dvd a).2 h)
 ·exact .inr ((z0_dvd b).2 h)
theorem nz_mul {a b:Int} (ha:¬ Z0 a) (hb:¬ Z0 b):¬ Z0 (a*b):=fun h=>by
 rcases h.prime with h|h
 ·exact ha h
 ·exact hb h
theorem nz_one:¬ Z0 1:=by unfold Z0;decide
theorem nz_two:¬ Z0 2:=by unfold Z0;decide
def On (x y:Int):Prop:=Z0 (y*y-x*x-1-mdD*(x*x)*(y*y))
theorem sq2 (a:Int):a*a=a^2:=by rw[Int.pow_succ,Int.pow_succ,Int.pow_zero,Int.one_mul]
theorem d_sq {a b:Int} (h:Z0 (a*a-mdD*(b*b))):Z0 b:=by
 have h':a*a%fp=mdD*(b*b)%fp:=z0_iff.1 h
 by_cases hb:Z0 b
 ·exact hb
 exfalso
 have ha:¬ Z0 a:=fun ha=>by
  have h1:Z0 (mdD*(b*b)):=((ha.mul a).sub h).of_eq (by grind);rcases h1.prime with h2|h2
  ·revert h2;unfold Z0;rw[mdD_N];decide +kernel
  ·rcases h2.prime with h3|h3<;>exact hb h3
 have red:∀ c:Int,¬ Z0 c→c^(fpN-1)%fp=1:=fun c hc=>by
  rw[←mpow];refine fermatI (c%fp) ?_ (Int.emod_lt_of_pos _ (by decide));have:=Int.emod_nonneg c (show fp≠0 by decide);unfold Z0 at hc;omega
 have e1:(a*a)^((fpN-1)/2)%fp=1:=by
  rw[sq2 a,←Int.pow_mul,half_two];exact red a ha
 have e2:(b*b)^((fpN-1)/2)%fp=1:=by
  rw[sq2 b,←Int.pow_mul,half_two];exact red b hb
 rw[←mpow,h',mpow,Int.mul_pow,←mr,e2,Int.mul_one,mdD_N,d_nonI] at e1
 revert e1;decide
theorem i_sq:∃ s:Int,Z0 (s*s+1):=⟨pw2 (2%fp),by
 have:=s_sq
 unfold Z0
 rw[Int.add_emod,this];decide⟩
def as_x1 (x1 y1 x2 y2 x3 y3 d:Int):Int:=-y1*x2*y2*y2*y2*y2*x3*x3*y3*d-y1*x2*x2*y2*y2*y2*x3*d-y1*x2*x2*y2*y2*y2*x3*x3*x3*d-y1*x2*x2*x2*y2*y2*y3*d+y1*x2*x2*x2*y2*y2*y3*y3*y3*d+y1*x2*x2*x2*y2*y2*y2*y2*x3*x3*y3*d*d+y1*x2*x2*x2*x2*y2*x3*y3*y3*d+y1*x2*x2*x2*x2*y2*y2*y2*x3*y3*y3*d*d+x1*x2*y2*y2*y2*y2*x3*y3*y3*d-x1*x2*x2*y2*y2*y2*y3*d+x1*x2*x2*y2*y2*y2*y3*y3*y3*d-x1*x2*x2*x2*y2*y2*x3*d-x1*x2*x2*x2*y2*y2*x3*x3*x3*d-x1*x2*x2*x2*y2*y2*y2*y2*x3*y3*y3*d*d-x1*x2*x2*x2*x2*y2*x3*x3*y3*d-x1*x2*x2*x2*x2*y2*y2*y2*x3*x3*y3*d*d
def as_x2 (x1 y1 x2 y2 x3 y3 d:Int):Int:=y1*y2*x3-y1*y2*x3*y3*y3+y1*y2*x3*x3*x3+y1*y2*x3*x3*x3*y3*y3*d+y1*x2*y3-y1*x2*y3*y3*y3+y1*x2*x3*x3*y3+y1*x2*x3*x3*y3*y3*y3*d-y1*x2*y2*y2*x3*x3*y3*d-y1*x2*x2*y2*x3*y3*y3*d-y1*y1*y1*y2*x3+y1*y1*y1*y2*x3*y3*y3-y1*y1*y1*y2*x3*x3*x3-y1*y1*y1*y2*x3*x3*x3*y3*y3*d-y1*y1*y1*x2*y3+y1*y1*y1*x2*y3*y3*y3-y1*y1*y1*x2*x3*x3*y3-y1*y1*y1*x2*x3*x3*y3*y3*y3*d+y1*y1*y1*x2*y2*y2*x3*x3*y3*d+y1*y1*y1*x2*x2*y2*x3*y3*y3*d+x1*y2*y3-x1*y2*y3*y3*y3+x1*y2*x3*x3*y3+x1*y2*x3*x3*y3*y3*y3*d+x1*x2*x3-x1*x2*x3*y3*y3+x1*x2*x3*x3*x3+x1*x2*x3*x3*x3*y3*y3*d+x1*x2*y2*y2*x3*y3*y3*d+x1*x2*x2*y2*x3*x3*y3*d-x1*y1*y1*y2*y3+x1*y1*y1*y2*y3*y3*y3-x1*y1*y1*y2*x3*x3*y3-x1*y1*y1*y2*x3*x3*y3*y3*y3*d-x1*y1*y1*x2*x3+x1*y1*y1*x2*x3*y3*y3-x1*y1*y1*x2*x3*x3*x3-x1*y1*y1*x2*x3*x3*x3*y3*y3*d-x1*y1*y1*x2*y2*y2*x3*y3*y3*d+x1*y1*y1*x2*y2*y2*x3*x3*x3*y3*y3*d*d-x1*y1*y1*x2*x2*y2*x3*x3*y3*d-x1*y1*y1*x2*x2*y2*x3*x3*y3*y3*y3*d*d+x1*x1*y1*y2*x3-x1*x1*y1*y2*x3*y3*y3+x1*x1*y1*y2*x3*x3*x3+x1*x1*y1*y2*x3*x3*x3*y3*y3*d+x1*x1*y1*x2*y3-x1*x1*y1*x2*y3*y3*y3+x1*x1*y1*x2*x3*x3*y3+x1*x1*y1*x2*x3*x3*y3*y3*y3*d-x1*x1*y1*x2*y2*y2*x3*x3*y3*d-x1*x1*y1*x2*y2*y2*x3*x3*y3*y3*y3*d*d-x1*x1*y1*x2*x2*y2*x3*y3*y3*d+x1*x1*y1*x2*x2*y2*x3*x3*x3*y3*y3*d*d+x1*x1*x1*y2*y3-x1*x1*x1*y2*y3*y3*y3+x1*x1*x1*y2*x3*x3*y3+x1*x1*x1*y2*x3*x3*y3*y3*y3*d+x1*x1*x1*x2*x3-x1*x1*x1*x2*x3*y3*y3+x1*x1*x1*x2*x3*x3*x3+x1*x1*x1*x2*x3*x3*x3*y3*y3*d+x1*x1*x1*x2*y2*y2*x3*y3*y3*d+x1*x1*x1*x2*x2*y2*x3*x3*y3*d
def as_x3 (x1 y1 x2 y2 x3 y3 d:Int):Int:=-y1*y2*x3+y1*y2*y2*y2*x3-y1*x2*y3+y1*x2*y2*y2*y3-y1*x2*x2*y2*x3-y1*x2*x2*x2*y3+y1*y1*y1*y2*x3-y1*y1*y1*y2*y2*y2*x3+y1*y1*y1*x2*y3-y1*y1*y1*x2*y2*y2*y3+y1*y1*y1*x2*x2*y2*x3+y1*y1*y1*x2*x2*x2*y3-x1*y2*y3+x1*y2*y2*y2*y3-x1*x2*x3+x1*x2*y2*y2*x3-x1*x2*x2*y2*y3-x1*x2*x2*x2*x3+x1*y1*y1*y2*y3-x1*y1*y1*y2*y2*y2*y3+x1*y1*y1*x2*x3-x1*y1*y1*x2*y2*y2*x3-x1*y1*y1*x2*y2*y2*x3*d+x1*y1*y1*x2*x2*y2*y3+x1*y1*y1*x2*x2*y2*y3*d+x1*y1*y1*x2*x2*x2*x3-x1*x1*y1*y2*x3+x1*x1*y1*y2*y2*y2*x3-x1*x1*y1*x2*y3+x1*x1*y1*x2*y2*y2*y3+x1*x1*y1*x2*y2*y2*y3*d-x1*x1*y1*x2*x2*y2*x3-x1*x1*y1*x2*x2*y2*x3*d-x1*x1*y1*x2*x2*x2*y3-x1*x1*x1*y2*y3+x1*x1*x1*y2*y2*y2*y3-x1*x1*x1*x2*x3+x1*x1*x1*x2*y2*y2*x3-x1*x1*x1*x2*x2*y2*y3-x1*x1*x1*x2*x2*x2*x3
set_option maxHeartbeats 2000000 in
theorem as_x (x1 y1 x2 y2 x3 y3 d:Int):((x1*y2+x2*y1)*(1-d*x1*x2*y1*y2)*y3+(y1*y2+x1*x2)*(1+d*x1*x2*y1*y2)*x3)*((1+d*x2*x3*y2*y3)*(1-d*x2*x3*y2*y3)+d*(x2*y3+x3*y2)*(y2*y3+x2*x3)*x1*y1)-(x1*(y2*y3+x2*x3)*(1+d*x2*x3*y2*y3)+(x2*y3+x3*y2)*(1-d*x2*x3*y2*y3)*y1)*((1+d*x1*x2*y1*y2)*(1-d*x1*x2*y1*y2)+d*(x1*y2+x2*y1)*(y1*y2+x1*x2)*x3*y3)=as_x1 x1 y1 x2 y2 x3 y3 d*(y1*y1-x1*x1-1-d*(x1*x1)*(y1*y1))+as_x2 x1 y1 x2 y2 x3 y3 d*(y2*y2-x2*x2-1-d*(x2*x2)*(y2*y2))+as_x3 x1 y1 x2 y2 x3 y3 d*(y3*y3-x3*x3-1-d*(x3*x3)*(y3*y3)):=by
 unfold as_x1 as_x2 as_x3
 grind
def as_y1 (x1 y1 x2 y2 x3 y3 d:Int):Int:=y1*x2*y2*y2*y2*y2*x3*y3*y3*d-y1*x2*x2*y2*y2*y2*y3*d+y1*x2*x2*y2*y2*y2*y3*y3*y3*d-y1*x2*x2*x2*y2*y2*x3*d-y1*x2*x2*x2*y2*y2*x3*x3*x3*d-y1*x2*x2*x2*y2*y2*y2*y2*x3*y3*y3*d*d-y1*x2*x2*x2*x2*y2*x3*x3*y3*d-y1*x2*x2*x2*x2*y2*y2*y2*x3*x3*y3*d*d-x1*x2*y2*y2*y2*y2*x3*x3*y3*d-x1*x2*x2*y2*y2*y2*x3*d-x1*x2*x2*y2*y2*y2*x3*x3*x3*d-x1*x2*x2*x2*y2*y2*y3*d+x1*x2*x2*x2*y2*y2*y3*y3*y3*d+x1*x2*x2*x2*y2*y2*y2*y2*x3*x3*y3*d*d+x1*x2*x2*x2*x2*y2*x3*y3*y3*d+x1*x2*x2*x2*x2*y2*y2*y2*x3*y3*y3*d*d
def as_y2 (x1 y1 x2 y2 x3 y3 d:Int):Int:=y1*y2*y3-y1*y2*y3*y3*y3+y1*y2*x3*x3*y3+y1*y2*x3*x3*y3*y3*y3*d+y1*x2*x3-y1*x2*x3*y3*y3+y1*x2*x3*x3*x3+y1*x2*x3*x3*x3*y3*y3*d+y1*x2*y2*y2*x3*y3*y3*d+y1*x2*x2*y2*x3*x3*y3*d-y1*y1*y1*y2*y3+y1*y1*y1*y2*y3*y3*y3-y1*y1*y1*y2*x3*x3*y3-y1*y1*y1*y2*x3*x3*y3*y3*y3*d-y1*y1*y1*x2*x3+y1*y1*y1*x2*x3*y3*y3-y1*y1*y1*x2*x3*x3*x3-y1*y1*y1*x2*x3*x3*x3*y3*y3*d-y1*y1*y1*x2*y2*y2*x3*y3*y3*d-y1*y1*y1*x2*x2*y2*x3*x3*y3*d+x1*y2*x3-x1*y2*x3*y3*y3+x1*y2*x3*x3*x3+x1*y2*x3*x3*x3*y3*y3*d+x1*x2*y3-x1*x2*y3*y3*y3+x1*x2*x3*x3*y3+x1*x2*x3*x3*y3*y3*y3*d-x1*x2*y2*y2*x3*x3*y3*d-x1*x2*x2*y2*x3*y3*y3*d-x1*y1*y1*y2*x3+x1*y1*y1*y2*x3*y3*y3-x1*y1*y1*y2*x3*x3*x3-x1*y1*y1*y2*x3*x3*x3*y3*y3*d-x1*y1*y1*x2*y3+x1*y1*y1*x2*y3*y3*y3-x1*y1*y1*x2*x3*x3*y3-x1*y1*y1*x2*x3*x3*y3*y3*y3*d+x1*y1*y1*x2*y2*y2*x3*x3*y3*d+x1*y1*y1*x2*y2*y2*x3*x3*y3*y3*y3*d*d+x1*y1*y1*x2*x2*y2*x3*y3*y3*d-x1*y1*y1*x2*x2*y2*x3*x3*x3*y3*y3*d*d+x1*x1*y1*y2*y3-x1*x1*y1*y2*y3*y3*y3+x1*x1*y1*y2*x3*x3*y3+x1*x1*y1*y2*x3*x3*y3*y3*y3*d+x1*x1*y1*x2*x3-x1*x1*y1*x2*x3*y3*y3+x1*x1*y1*x2*x3*x3*x3+x1*x1*y1*x2*x3*x3*x3*y3*y3*d+x1*x1*y1*x2*y2*y2*x3*y3*y3*d-x1*x1*y1*x2*y2*y2*x3*x3*x3*y3*y3*d*d+x1*x1*y1*x2*x2*y2*x3*x3*y3*d+x1*x1*y1*x2*x2*y2*x3*x3*y3*y3*y3*d*d+x1*x1*x1*y2*x3-x1*x1*x1*y2*x3*y3*y3+x1*x1*x1*y2*x3*x3*x3+x1*x1*x1*y2*x3*x3*x3*y3*y3*d+x1*x1*x1*x2*y3-x1*x1*x1*x2*y3*y3*y3+x1*x1*x1*x2*x3*x3*y3+x1*x1*x1*x2*x3*x3*y3*y3*y3*d-x1*x1*x1*x2*y2*y2*x3*x3*y3*d-x1*x1*x1*x2*x2*y2*x3*y3*y3*d
def as_y3 (x1 y1 x2 y2 x3 y3 d:Int):Int:=-y1*y2*y3+y1*y2*y2*y2*y3-y1*x2*x3+y1*x2*y2*y2*x3-y1*x2*x2*y2*y3-y1*x2*x2*x2*x3+y1*y1*y1*y2*y3-y1*y1*y1*y2*y2*y2*y3+y1*y1*y1*x2*x3-y1*y1*y1*x2*y2*y2*x3+y1*y1*y1*x2*x2*y2*y3+y1*y1*y1*x2*x2*x2*x3-x1*y2*x3+x1*y2*y2*y2*x3-x1*x2*y3+x1*x2*y2*y2*y3-x1*x2*x2*y2*x3-x1*x2*x2*x2*y3+x1*y1*y1*y2*x3-x1*y1*y1*y2*y2*y2*x3+x1*y1*y1*x2*y3-x1*y1*y1*x2*y2*y2*y3-x1*y1*y1*x2*y2*y2*y3*d+x1*y1*y1*x2*x2*y2*x3+x1*y1*y1*x2*x2*y2*x3*d+x1*y1*y1*x2*x2*x2*y3-x1*x1*y1*y2*y3+x1*x1*y1*y2*y2*y2*y3-x1*x1*y1*x2*x3+x1*x1*y1*x2*y2*y2*x3+x1*x1*y1*x2*y2*y2*x3*d-x1*x1*y1*x2*x2*y2*y3-x1*x1*y1*x2*x2*y2*y3*d-x1*x1*y1*x2*x2*x2*x3-x1*x1*x1*y2*x3+x1*x1*x1*y2*y2*y2*x3-x1*x1*x1*x2*y3+x1*x1*x1*x2*y2*y2*y3-x1*x1*x1*x2*x2*y2*x3-x1*x1*x1*x2*x2*x2*y3
set_option maxHeartbeats 2000000 in
theorem as_y (x1 y1 x2 y2 x3 y3 d:Int):((y1*y2+x1*x2)*(1+d*x1*x2*y1*y2)*y3+(x1*y2+x2*y1)*(1-d*x1*x2*y1*y2)*x3)*((1+d*x2*x3*y2*y3)*(1-d*x2*x3*y2*y3)-d*(x2*y3+x3*y2)*(y2*y3+x2*x3)*x1*y1)-(y1*(y2*y3+x2*x3)*(1+d*x2*x3*y2*y3)+(x2*y3+x3*y2)*(1-d*x2*x3*y2*y3)*x1)*((1+d*x1*x2*y1*y2)*(1-d*x1*x2*y1*y2)-d*(x1*y2+x2*y1)*(y1*y2+x1*x2)*x3*y3)=as_y1 x1 y1 x2 y2 x3 y3 d*(y1*y1-x1*x1-1-d*(x1*x1)*(y1*y1))+as_y2 x1 y1 x2 y2 x3 y3 d*(y2*y2-x2*x2-1-d*(x2*x2)*(y2*y2))+as_y3 x1 y1 x2 y2 x3 y3 d*(y3*y3-x3*x3-1-d*(x3*x3)*(y3*y3)):=by
 unfold as_y1 as_y2 as_y3
 grind
def cl1 (x1 y1 x2 y2 d:Int):Int:=y2*y2*y2*y2-4*x2*x2*y2*y2-2*x2*x2*y2*y2*d+2*x2*x2*y2*y2*y2*y2+x2*x2*x2*x2-2*x2*x2*x2*x2*y2*y2-2*x2*x2*x2*x2*y2*y2*y2*y2*d-x2*x2*x2*x2*y2*y2*y2*y2*d*d-y1*y1*x2*x2*y2*y2*y2*y2*d+y1*y1*x2*x2*x2*x2*y2*y2*d+y1*y1*x2*x2*x2*x2*y2*y2*y2*y2*d*d+x1*x1*x2*x2*y2*y2*y2*y2*d-x1*x1*x2*x2*x2*x2*y2*y2*d-x1*x1*x2*x2*x2*x2*y2*y2*y2*y2*d*d+x1*x1*y1*y1*x2*x2*x2*x2*y2*y2*y2*y2*d*d*d
def cl2 (x1 y1 x2 y2 d:Int):Int:=1+y2*y2-x2*x2+2*x2*x2*y2*y2+x2*x2*y2*y2*d-y1*y1*y2*y2+y1*y1*x2*x2-2*y1*y1*x2*x2*y2*y2-2*y1*y1*x2*x2*y2*y2*d+y1*y1*y1*y1*x2*x2*y2*y2*d+x1*x1*y2*y2-x1*x1*x2*x2+2*x1*x1*x2*x2*y2*y2+2*x1*x1*x2*x2*y2*y2*d+x1*x1*x1*x1*x2*x2*y2*y2*d
set_option maxHeartbeats 2000000 in
theorem clo_id (x1 y1 x2 y2 d:Int):(y1*y2+x1*x2)*(y1*y2+x1*x2)*((1+d*x1*x2*y1*y2)*(1+d*x1*x2*y1*y2))-(x1*y2+x2*y1)*(x1*y2+x2*y1)*((1-d*x1*x2*y1*y2)*(1-d*x1*x2*y1*y2))-(1+d*x1*x2*y1*y2)*(1+d*x1*x2*y1*y2)*((1-d*x1*x2*y1*y2)*(1-d*x1*x2*y1*y2))-d*((x1*y2+x2*y1)*(x1*y2+x2*y1)*((y1*y2+x1*x2)*(y1*y2+x1*x2)))=cl1 x1 y1 x2 y2 d*(y1*y1-x1*x1-1-d*(x1*x1)*(y1*y1))+cl2 x1 y1 x2 y2 d*(y2*y2-x2*x2-1-d*(x2*x2)*(y2*y2)):=by
 unfold cl1 cl2
 grind
theorem compl1 {s e x1 y1 x2 y2:Int} (h1:On x1 y1) (h2:On x2 y2) (hs:Z0 (s*s+1)) (he:e*e=1) (hg:Z0 (mdD*x1*x2*y1*y2-e)):Z0 (x1*y1*(s*x2+y2)):=by
 refine d_sq (a:=s*x1+e*y1) ?_
 unfold On at h1 h2
 refine((((h1.sub (h2.mul (mdD*(x1*x1)*(y1*y1)))).add (hs.mul (x1*x1-mdD*(x1*x1)*(y1*y1)*(x2*x2)))).sub (hg.mul (mdD*x1*x2*y1*y2-e))).sub (hg.mul (2*e+2*s*x1*y1))).of_eq ?_
 generalize mdD=d at *
 grind
theorem compl {e x1 y1 x2 y2:Int} (h1:On x1 y1) (h2:On x2 y2) (he:e*e=1):¬ Z0 (mdD*x1*x2*y1*y2-e):=fun hg=>by
 obtain⟨s,hs⟩:=i_sq
 have a1:=compl1 h1 h2 hs he hg
 have a2:=compl1 (s:=-s) h1 h2 (hs.of_eq (by grind)) he hg
 have hne:¬ Z0 e:=fun h=>nz_one ((h.mul e).of_eq he)
 have hxy:¬ Z0 (x1*y1):=fun h=>hne (((h.mul (mdD*x2*y2)).sub hg).of_eq (by generalize mdD=d at *;grind))
 have hy:¬ Z0 y2:=fun h=>hne (((h.mul (mdD*x1*x2*y1)).sub hg).of_eq (by generalize mdD=d at *;grind))
 rcases a1.prime with h|b1
 ·exact hxy h
 rcases a2.prime with h|b2
 ·exact hxy h
 rcases ((b1.add b2).of_eq (show _=2*y2 by grind)).prime with h|h
 ·exact nz_two h
 ·exact hy h
theorem nzU {x1 y1 x2 y2:Int} (h1:On x1 y1) (h2:On x2 y2):¬ Z0 (1+mdD*x1*x2*y1*y2):=fun h=>compl (e:=-1) h1 h2 (by decide) (h.of_eq (by generalize mdD=d at *;grind))
theorem nzW {x1 y1 x2 y2:Int} (h1:On x1 y1) (h2:On x2 y2):¬ Z0 (1-mdD*x1*x2*y1*y2):=fun h=>compl (e:=1) h1 h2 (by decide) ((h.mul (-1)).of_eq (by generalize mdD=d at *;grind))
theorem cmul {a b c d:Int} (h:Z0 (a-b)) (k:Z0 (c-d)):Z0 (a*c-b*d):=((h.mul c).add (k.mul b)).of_eq (by grind)
theorem canc {x x' U a:Int} (h:Z0 (x*U-a)) (h':Z0 (x'*U-a)) (hU:¬ Z0 U):Z0 (x-x'):=by
 rcases ((h.sub h').of_eq (show _=(x-x')*U by grind)).prime with h|h
 ·exact h
 ·exact absurd h hU
def Sm (x1 y1 x2 y2 x3 y3:Int):Prop:=Z0 (x3*(1+mdD*x1*x2*y1*y2)-(x1*y2+x2*y1))∧Z0 (y3*(1-mdD*x1*x2*y1*y2)-(y1*y2+x1*x2))
theorem Sm.on {x1 y1 x2 y2 x3 y3:Int} (h1:On x1 y1) (h2:On x2 y2) (h:Sm x1 y1 x2 y2 x3 y3):On x3 y3:=by
 obtain⟨ha,hb⟩:=h
 have hU:=nzU h1 h2
 have hW:=nzW h1 h2
 have hxx:=cmul ha ha
 have hyy:=cmul hb hb
 have hF:Z0 _:=((h1.mul (cl1 x1 y1 x2 y2 mdD)).add (h2.mul (cl2 x1 y1 x2 y2 mdD))).of_eq (clo_id x1 y1 x2 y2 mdD).symm
 generalize (1+mdD*x1*x2*y1*y2)=U at *
 generalize (1-mdD*x1*x2*y1*y2)=W at *
 generalize (x1*y2+x2*y1)=a at *
 generalize (y1*y2+x1*x2)=b at *
 have hz:Z0 ((y3*y3-x3*x3-1-mdD*(x3*x3)*(y3*y3))*(U*U*(W*W))):=by
  refine((((hF.add (hyy.mul (U*U))).sub (hxx.mul (W*W))).sub ((cmul hxx hyy).mul mdD))).of_eq ?_;generalize mdD=d at *
  grind
 rcases hz.prime with h|h
 ·exact h
 ·exact absurd h (nz_mul (nz_mul hU hU) (nz_mul hW hW))
theorem sm_assoc {x1 y1 x2 y2 x3 y3 xa ya xb yb xc yc xe ye:Int} (h1:On x1 y1) (h2:On x2 y2) (h3:On x3 y3) (ha:Sm x1 y1 x2 y2 xa ya) (hb:Sm xa ya x3 y3 xb yb) (hc:Sm x2 y2 x3 y3 xc yc) (he:Sm x1 y1 xc yc xe ye):Z0 (xb-xe)∧Z0 (yb-ye):=by
 have oa:=ha.on h1 h2
 have oc:=hc.on h2 h3
 have ix:=as_x x1 y1 x2 y2 x3 y3 mdD
 have iy:=as_y x1 y1 x2 y2 x3 y3 mdD
 have zx:Z0 _:=(((h1.mul (as_x1 x1 y1 x2 y2 x3 y3 mdD)).add (h2.mul (as_x2 x1 y1 x2 y2 x3 y3 mdD))).add (h3.mul (as_x3 x1 y1 x2 y2 x3 y3 mdD))).of_eq ix.symm
 have zy:Z0 _:=(((h1.mul (as_y1 x1 y1 x2 y2 x3 y3 mdD)).add (h2.mul (as_y2 x1 y1 x2 y2 x3 y3 mdD))).add (h3.mul (as_y3 x1 y1 x2 y2 x3 y3 mdD))).of_eq iy.symm
 clear ix iy
 have nU:=nzU h1 h2
 have nW:=nzW h1 h2
 have nU2:=nzU h2 h3
 have nW2:=nzW h2 h3
 have nU3:=nzU oa h3
 have nW3:=nzW oa h3
 have nU4:=nzU h1 oc
 have nW4:=nzW h1 oc
 obtain⟨ax,ay⟩:=ha
 obtain⟨bx,by'⟩:=hb
 obtain⟨cx,cy⟩:=hc
 obtain⟨ex,ey⟩:=he
 generalize (x1*y2+x2*y1)=a12 at *
 generalize (y1*y2+x1*x2)=b12 at *
 generalize (1+mdD*x1*x2*y1*y2)=U at *
 generalize (1-mdD*x1*x2*y1*y2)=W at *
 generalize (x2*y3+x3*y2)=a23 at *
 generalize (y2*y3+x2*x3)=b23 at *
 generalize (1+mdD*x2*x3*y2*y3)=U2 at *
 generalize (1-mdD*x2*x3*y2*y3)=W2 at *
 have axy:=cmul ax ay
 have cxy:=cmul cx cy
 have dl:Z0 ((1+mdD*xa*x3*ya*y3)*(U*W)-(U*W+mdD*a12*b12*x3*y3)):=(axy.mul (mdD*x3*y3)).of_eq (by generalize mdD=d at *;grind)
 have dl':Z0 ((1-mdD*xa*x3*ya*y3)*(U*W)-(U*W-mdD*a12*b12*x3*y3)):=(axy.mul (-(mdD*x3*y3))).of_eq (by generalize mdD=d at *;grind)
 have dr:Z0 ((1+mdD*x1*xc*y1*yc)*(U2*W2)-(U2*W2+mdD*a23*b23*x1*y1)):=(cxy.mul (mdD*x1*y1)).of_eq (by generalize mdD=d at *;grind)
 have dr':Z0 ((1-mdD*x1*xc*y1*yc)*(U2*W2)-(U2*W2-mdD*a23*b23*x1*y1)):=(cxy.mul (-(mdD*x1*y1))).of_eq (by generalize mdD=d at *;grind)
 have nz_of:∀ {p q r:Int},¬ Z0 p→¬ Z0 q→Z0 (p*q-r)→¬ Z0 r:=fun {p q r} hp hq h hr=>nz_mul hp hq ((h.add hr).of_eq (by grind))
 have nl:=nz_of nU3 (nz_mul nU nW) dl
 have nl':=nz_of nW3 (nz_mul nU nW) dl'
 have nr:=nz_of nU4 (nz_mul nU2 nW2) dr
 have nr':=nz_of nW4 (nz_mul nU2 nW2) dr'
 have lx:Z0 (xb*(U*W+mdD*a12*b12*x3*y3)-(a12*W*y3+b12*U*x3)):=((((bx.mul (U*W)).sub (dl.mul xb)).add (ax.mul (W*y3))).add (ay.mul (U*x3))).of_eq (by generalize mdD=d at *;grind)
 have rx:Z0 (xe*(U2*W2+mdD*a23*b23*x1*y1)-(x1*b23*U2+a23*W2*y1)):=((((ex.mul (U2*W2)).sub (dr.mul xe)).add (cy.mul (U2*x1))).add (cx.mul (W2*y1))).of_eq (by generalize mdD=d at *;grind)
 have ly:Z0 (yb*(U*W-mdD*a12*b12*x3*y3)-(b12*U*y3+a12*W*x3)):=((((by'.mul (U*W)).sub (dl'.mul yb)).add (ay.mul (U*y3))).add (ax.mul (W*x3))).of_eq (by generalize mdD=d at *;grind)
 have ry:Z0 (ye*(U2*W2-mdD*a23*b23*x1*y1)-(y1*b23*U2+a23*W2*x1)):=((((ey.mul (U2*W2)).sub (dr'.mul ye)).add (cy.mul (U2*y1))).add (cx.mul (W2*x1))).of_eq (by generalize mdD=d at *;grind)
 have fin:∀ {p q Dl Dr Nl Nr:Int},Z0 (p*Dl-Nl)→Z0 (q*Dr-Nr)→Z0 (Nl*Dr-Nr*Dl)→¬ Z0 Dl→¬ Z0 Dr→Z0 (p-q):=fun {p q Dl Dr Nl Nr} h1 h2 h3 h4 h5=>by
  rcases ((((h1.mul Dr).sub (h2.mul Dl)).add h3).of_eq (show _=(p-q)*(Dl*Dr) by grind)).prime with h|h
  ·exact h
  ·exact absurd h (nz_mul h4 h5)
 exact⟨fin lx rx zx nl nr,fin ly ry zy nl' nr'⟩
end Go.Proofs.YtapejbpgdjbjjaaGreatDoor
namespace Go.Proofs.YtapejbpgdjbjjaaGreatDoor
set_option linter.unusedVariables false
theorem md0 (a:Int):Z0 (a%fp-a):=z0_iff.2 (Int.emod_emod_of_dvd _ (Int.dvd_refl fp))
theorem Z0.tr {a b c:Int} (h:Z0 (a-b)) (k:Z0 (b-c)):Z0 (a-c):=(h.add k).of_eq (by grind)
theorem iv_spec {a:Int} (h:¬ Z0 a):Z0 (a*inv0 (a%fp)-1):=by
 have h1:=Int.emod_nonneg a (show fp≠0 by decide)
 have h2:=Int.emod_lt_of_pos a (show 0<fp by decide)
 have h3:=vI (a%fp) (by unfold Z0 at h;omega) h2
 rw[ml] at h3
 refine z0_iff.2 ?_
 rw[h3];decide
abbrev Pt2:=Int×Int
def Rd2' (P:Pt2):Prop:=(0≤P.1∧P.1<fp)∧(0≤P.2∧P.2<fp)
def addA (P Q:Pt2):Pt2:=((P.1*Q.2+Q.1*P.2)*inv0 ((1+mdD*P.1*Q.1*P.2*Q.2)%fp)%fp,(P.2*Q.2+P.1*Q.1)*inv0 ((1-mdD*P.1*Q.1*P.2*Q.2)%fp)%fp)
def OnA (P:Pt2):Prop:=On P.1 P.2
theorem addA_rd (P Q:Pt2):Rd2' (addA P Q):=⟨⟨Int.emod_nonneg _ (by decide),Int.emod_lt_of_pos _ (by decide)⟩,⟨Int.emod_nonneg _ (by decide),Int.emod_lt_of_pos _ (by decide)⟩⟩
theorem addA_sm {P Q:Pt2} (hP:OnA P) (hQ:OnA Q):Sm P.1 P.2 Q.1 Q.2 (addA P Q).1 (addA P Q).2:=by
 have hU:=iv_spec (nzU hP hQ)
 have hW:=iv_spec (nzW hP hQ)
 have key:∀(a U i:Int),Z0 (U*i-1)→Z0 (a*i%fp*U-a):=fun a U i h=>(((md0 (a*i)).mul U).add (h.mul a)).of_eq (by grind)
 exact⟨key _ _ _ hU,key _ _ _ hW⟩
theorem addA_on {P Q:Pt2} (hP:OnA P) (hQ:OnA Q):OnA (addA P Q):=(addA_sm hP hQ).on hP hQ
theorem rd_eq {a b:Int} (h:Z0 (a-b)) (ha:0≤a∧a<fp) (hb:0≤b∧b<fp):a=b:=by
 have:=z0_iff.1 h
 rwa [Int.emod_eq_of_lt ha.1 ha.2,Int.emod_eq_of_lt hb.1 hb.2] at this
theorem pt_eq {P Q:Pt2} (h1:Z0 (P.1-Q.1)) (h2:Z0 (P.2-Q.2)) (hP:Rd2' P) (hQ:Rd2' Q):P=Q:=Prod.ext (rd_eq h1 hP.1 hQ.1) (rd_eq h2 hP.2 hQ.2)
theorem addA_assoc {P Q R:Pt2} (hP:OnA P) (hQ:OnA Q) (hR:OnA R):addA (addA P Q) R=addA P (addA Q R):=by
 obtain⟨h1,h2⟩:=sm_assoc hP hQ hR (addA_sm hP hQ) (addA_sm (addA_on hP hQ) hR) (addA_sm hQ hR) (addA_sm hP (addA_on hQ hR))
 exact pt_eq h1 h2 (addA_rd _ _) (addA_rd _ _)
theorem addA_comm (P Q:Pt2):addA P Q=addA Q P:=by
 unfold addA
 rw[show P.1*Q.2+Q.1*P.2=Q.1*P.2+P.1*Q.2 by grind,show P.2*Q.2+P.1*Q.1=Q.2*P.2+Q.1*P.1 by grind,show mdD*P.1*Q.1*P.2*Q.2=mdD*Q.1*P.1*Q.2*P.2 by generalize mdD=d;grind]
def OA:Pt2:=(0,1)
theorem OA_on:OnA OA:=by unfold OnA On OA Z0;simp
theorem OA_rd:Rd2' OA:=⟨⟨by decide,by decide⟩,⟨by decide,by decide⟩⟩
theorem addA_id {P:Pt2} (hP:OnA P) (hr:Rd2' P):addA OA P=P:=by
 obtain⟨h1,h2⟩:=addA_sm OA_on hP
 refine pt_eq (h1.of_eq ?_) (h2.of_eq ?_) (addA_rd _ _) hr
 ·show _*(1+mdD*0*P.1*1*P.2)-(0*P.2+P.1*1)=_
  generalize mdD=d;grind
 ·show _*(1-mdD*0*P.1*1*P.2)-(1*P.2+0*P.1)=_
  generalize mdD=d;grind
def mulA (P:Pt2):Nat→Pt2
 |0=>OA
 |k+1=>addA (mulA P k) P
theorem mulA_on {P:Pt2} (hP:OnA P) (k:Nat):OnA (mulA P k):=by
 induction k with
 |zero=>exact OA_on
 |succ k ih=>exact addA_on ih hP
theorem mulA_rd (P:Pt2) (k:Nat):Rd2' (mulA P k):=by
 cases k with
 |zero=>exact OA_rd
 |succ k=>exact addA_rd _ _
theorem mulA_add {P:Pt2} (hP:OnA P) (a b:Nat):mulA P (a+b)=addA (mulA P a) (mulA P b):=by
 induction b with
 |zero=>rw[addA_comm];exact(addA_id (mulA_on hP a) (mulA_rd P a)).symm
 |succ b ih=>
  show addA (mulA P (a+b)) P=addA (mulA P a) (addA (mulA P b) P)
  rw[ih,addA_assoc (mulA_on hP a) (mulA_on hP b) hP]
theorem mulA_O {P:Pt2} (hP:OnA P) {k:Nat} (h:mulA P k=OA) (q:Nat):mulA P (k*q)=OA:=by
 induction q with
 |zero=>rfl
 |succ q ih=>rw[Nat.mul_succ,mulA_add hP,ih,h];exact addA_id OA_on OA_rd
def Rep (E:Q4) (P:Pt2):Prop:=¬ Z0 E.2.2.1∧Z0 (E.1-P.1*E.2.2.1)∧Z0 (E.2.1-P.2*E.2.2.1)∧Z0 (E.2.2.2-P.1*P.2*E.2.2.1)
theorem rep_id:Rep idQ OA:=by
 refine⟨?_,?_,?_,?_⟩
 ·exact nz_one
 ·show Z0 (0-0*1);unfold Z0;decide
 ·show Z0 (1-1*1);unfold Z0;decide
 ·show Z0 (0-0*1*1);unfold Z0;decide
theorem F4_rep {E E':Q4} {P Q:Pt2} (hP:OnA P) (hQ:OnA Q) (h:Rep E P) (k:Rep E' Q):Rep (F4 E E') (addA P Q):=by
 obtain⟨X1,Y1,Z1,T1⟩:=E
 obtain⟨X2,Y2,Z2,T2⟩:=E'
 obtain⟨sx,sy⟩:=addA_sm hP hQ
 have nU:=nzU hP hQ
 have nW:=nzW hP hQ
 generalize hR:addA P Q=R at *
 clear hR
 obtain⟨x1,y1⟩:=P
 obtain⟨x2,y2⟩:=Q
 obtain⟨x3,y3⟩:=R
 obtain⟨n1,p1,p2,p3⟩:=h
 obtain⟨n2,q1,q2,q3⟩:=k
 simp only at *
 have mA:Z0 (smA X1 Y1 X2 Y2-(Y1-X1)*(Y2-X2)):=(md0 _).tr (cmul (md0 _) (md0 _))
 have mBb:Z0 (smB X1 Y1 X2 Y2-(Y1+X1)*(Y2+X2)):=(md0 _).tr (cmul (md0 _) (md0 _))
 have mC:Z0 (smC mdD T1 T2-(mdD+mdD)*T1*T2):=(md0 _).tr (cmul ((md0 _).tr (cmul (md0 _) ((show Z0 (0:Int) by unfold Z0;decide).of_eq (by grind):Z0 (T1-T1)))) ((show Z0 (0:Int) by unfold Z0;decide).of_eq (by grind):Z0 (T2-T2)))
 have mG:Z0 (smG Z1 Z2-(Z1+Z1)*Z2):=(md0 _).tr (cmul (md0 _) ((show Z0 (0:Int) by unfold Z0;decide).of_eq (by grind):Z0 (Z2-Z2)))
 have r1:=cmul p1 q2
 have r2:=cmul q1 p2
 have r3:=cmul p2 q2
 have r4:=cmul p1 q1
 have r5:=cmul p3 q3
 unfold F4
 simp only
 generalize smA X1 Y1 X2 Y2=A at *
 generalize smB X1 Y1 X2 Y2=B at *
 generalize smC mdD T1 T2=C at *
 generalize smG Z1 Z2=G at *
 have hE:Z0 ((B-A)-2*Z1*Z2*(x1*y2+x2*y1)):=(((mBb.sub mA).add (r1.mul 2)).add (r2.mul 2)).of_eq (by grind)
 have hH:Z0 ((B+A)-2*Z1*Z2*(y1*y2+x1*x2)):=(((mBb.add mA).add (r3.mul 2)).add (r4.mul 2)).of_eq (by grind)
 have hF:Z0 ((G-C)-2*Z1*Z2*(1-mdD*x1*x2*y1*y2)):=(((mG.sub mC).sub (r5.mul (2*mdD)))).of_eq (by generalize mdD=d at *;grind)
 have hG:Z0 ((G+C)-2*Z1*Z2*(1+mdD*x1*x2*y1*y2)):=(((mG.add mC).add (r5.mul (2*mdD)))).of_eq (by generalize mdD=d at *;grind)
 generalize (1+mdD*x1*x2*y1*y2)=U at *
 generalize (1-mdD*x1*x2*y1*y2)=W at *
 generalize (x1*y2+x2*y1)=a at *
 generalize (y1*y2+x1*x2)=b at *
 have hk:¬ Z0 (2*Z1*Z2):=nz_mul (nz_mul nz_two n1) n2
 generalize 2*Z1*Z2=k at *
 have vX:Z0 (fX A B C G-k*a*(k*W)):=(md0 _).tr ((cmul (md0 _) (md0 _)).tr (cmul hE hF))
 have vY:Z0 (fY A B C G-k*U*(k*b)):=(md0 _).tr ((cmul (md0 _) (md0 _)).tr (cmul hG hH))
 have vZ:Z0 (fZ A B C G-k*W*(k*U)):=(md0 _).tr ((cmul (md0 _) (md0 _)).tr (cmul hF hG))
 have vT:Z0 (fT A B C G-k*a*(k*b)):=(md0 _).tr ((cmul (md0 _) (md0 _)).tr (cmul hE hH))
 generalize fX A B C G=X3 at *
 generalize fY A B C G=Y3 at *
 generalize fZ A B C G=Z3 at *
 generalize fT A B C G=T3 at *
 have sxy:=cmul sx sy
 refine⟨fun hz=>nz_mul (nz_mul hk nW) (nz_mul hk nU) ((hz.sub vZ).of_eq (by grind)),?_,?_,?_⟩
 ·exact((vX.sub (vZ.mul x3)).sub (sx.mul (k*k*W))).of_eq (by grind)
 ·exact((vY.sub (vZ.mul y3)).sub (sy.mul (k*k*U))).of_eq (by grind)
 ·exact((vT.sub (vZ.mul (x3*y3))).sub (sxy.mul (k*k))).of_eq (by grind)
theorem top_bits (V:Int) (n:Nat) (h0:0≤V) (hn:n<256):(V/2^(256-(n+1))).toNat=2*(V/2^(256-n)).toNat+(if vbit V (255-n) then 1 else 0):=by
 have e:256-(n+1)=255-n:=by omega
 have e2:(2:Int)^(256-n)=2^(255-n)*2:=by rw[show 256-n=(255-n)+1 by omega,Int.pow_succ]
 have hp:(0:Int)≤2^(255-n):=Int.pow_nonneg (by decide)
 rw[e,e2,←Int.ediv_ediv_of_nonneg hp]
 unfold vbit
 have hq:0≤V/2^(255-n):=Int.ediv_nonneg h0 hp
 generalize V/2^(255-n)=q at *
 have hb:q%2=0∨q%2=1:=by omega
 rcases hb with hb|hb
 ·rw[hb];simp;omega
 ·rw[hb];simp;omega
theorem pS_rep {E:Q4} {P:Pt2} (hP:OnA P) (h:Rep E P) (V:Int) (h0:0≤V) (h1:V<2^256) (n:Nat) (hn:n≤256):Rep (pS V E n) (mulA P (V/2^(256-n)).toNat):=by
 induction n with
 |zero=>
  have:V/2^(256-0)=0:=Int.ediv_eq_zero_of_lt h0 h1;rw[this];exact rep_id
 |succ n ih=>
  have ih:=ih (by omega);rw[top_bits V n h0 (by omega)];generalize (V/2^(256-n)).toNat=m at *;have hd:=F4_rep (mulA_on hP m) (mulA_on hP m) ih ih;rw[←mulA_add hP] at hd;rw[show m+m=2*m by omega] at hd;show Rep (bif vbit V (255-n) then F4 (F4 (pS V E n) (pS V E n)) E else F4 (pS V E n) (pS V E n)) _
  cases vbit V (255-n) with
  |true=>exact F4_rep (mulA_on hP _) hP hd h
  |false=>exact hd
theorem pS_rd (V:Int) (E:Q4) (n:Nat):Rd (pS V E (n+1)):=by
 show Rd (bif vbit V (255-n) then F4 (F4 (pS V E n) (pS V E n)) E else F4 (pS V E n) (pS V E n))
 cases vbit V (255-n)<;>exact F4_rd _ _
theorem cd_rep {E:Q4} {P:Pt2} (h:Rep E P) (hr:Rd E) (hp:Rd2' P):cdV E.1 E.2.1 E.2.2.1=P.2+top255*(P.1%2):=by
 obtain⟨n1,p1,p2,_⟩:=h
 have hz:0<E.2.2.1:=by
  have:=hr.2.2.1;rcases Int.lt_or_eq_of_le this.1 with h|h
  ·exact h
  ·exact absurd (by rw[←h];unfold Z0;decide) n1
 have hv:=vI E.2.2.1 hz hr.2.2.1.2
 have hv':Z0 (E.2.2.1*inv0 E.2.2.1-1):=z0_iff.2 (by rw[hv];decide)
 have key:∀ {X x:Int},Z0 (X-x*E.2.2.1)→0≤x∧x<fp→X*inv0 E.2.2.1%fp=x:=fun {X x} h hx=>by
  have h1:Z0 (X*inv0 E.2.2.1-x):=((h.mul (inv0 E.2.2.1)).add (hv'.mul x)).of_eq (by generalize inv0 E.2.2.1=i;grind);rw[z0_iff.1 h1,Int.emod_eq_of_lt hx.1 hx.2]
 unfold cdV
 rw[key p1 hp.1,key p2 hp.2]
theorem mu_val {E:Q4} {P:Pt2} (hP:OnA P) (h:Rep E P) (hr:Rd E) (V:Int) (h0:0≤V) (h1:V<2^256):muV V E=(mulA P V.toNat).2+top255*((mulA P V.toNat).1%2):=by
 rw[←muV_prog V E hr]
 have:=pS_rep hP h V h0 h1 256 (Nat.le_refl _)
 rw[Nat.sub_self,Int.pow_zero,Int.ediv_one] at this
 exact cd_rep this (pS_rd V E 255) (mulA_rd _ _)
end Go.Proofs.YtapejbpgdjbjjaaGreatDoor
