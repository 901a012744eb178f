import Derived.Test.YtapejbpgdjbjjaaGreatDoorMGp
import Derived.Test.YtapejbpgdjbjjaaGreatDoorMBb
import Derived.Test.YtapejbpgdjbjjaaGreatDoorMVal
import Derived.Test.YtapejbpgdjbjjaaGreatDoorMPOs
import Derived.Test.YtapejbpgdjbjjaaGreatDoorMVsP
import Derived.Test.YtapejbpgdjbjjaaGreatDoorMIRed
import Derived.Test.YtapejbpgdjbjjaaGreatDoorMU8i
import Derived.Test.YtapejbpgdjbjjaaGreatDoorMEpt
import Derived.Test.YtapejbpgdjbjjaaGreatDoorMIMu
import Derived.Lib.SmallJoins
import Derived.Test.YtapejbpgdjbjjaaGreatDoorMBase
import Derived.Laws.BytesArg
namespace Go.Proofs.YtapejbpgdjbjjaaGreatDoor
set_option linter.unusedVariables false
set_option maxRecDepth 1000000 in
theorem LB_k:(pS bigL (ptQ bB) 256).1=0∧(pS bigL (ptQ bB) 256).2.1=(pS bigL (ptQ bB) 256).2.2.1:=by decide +kernel
def bA:Pt2:=(mX bB mdD,mY bB)
theorem bA_on:OnA bA:=by unfold OnA On Z0 bA;decide +kernel
theorem bA_rd:Rd2' bA:=by unfold Rd2' bA;decide +kernel
theorem ptQ_rep {zs:List Int}:Rep (ptQ zs) (mX zs mdD,mY zs):=by
 refine⟨?_,?_,?_,?_⟩
 ·show ¬ Z0 (1%fp);unfold Z0;decide
 ·show Z0 (mX zs mdD-mX zs mdD*(1%fp));rw[show(1:Int)%fp=1 from by decide,Int.mul_one,Int.sub_self];unfold Z0;decide
 ·show Z0 (mY zs-mY zs*(1%fp));rw[show(1:Int)%fp=1 from by decide,Int.mul_one,Int.sub_self];unfold Z0;decide
 ·show Z0 (mX zs mdD*mY zs%fp-mX zs mdD*mY zs*(1%fp));rw[show(1:Int)%fp=1 from by decide,Int.mul_one];exact md0 _
theorem LB:mulA bA bigL.toNat=OA:=by
 have h:=pS_rep bA_on (show Rep (ptQ bB) bA from ptQ_rep (zs:=bB)) bigL (by decide) (by decide) 256 (Nat.le_refl _)
 rw[Nat.sub_self,Int.pow_zero,Int.ediv_one] at h
 obtain⟨n,p1,p2,_⟩:=h
 obtain⟨k1,k2⟩:=LB_k
 rw[k1] at p1
 rw[k2] at p2
 refine pt_eq ?_ ?_ (mulA_rd _ _) OA_rd
 ·show Z0 ((mulA bA bigL.toNat).1-0)
  generalize (mulA bA bigL.toNat).1=x at p1 ⊢;generalize (pS bigL (ptQ bB) 256).2.2.1=z at *;rcases ((p1.mul (-1)).of_eq (show _=x*z by grind)).prime with h|h
  ·exact h.of_eq (by grind)
  ·exact absurd h n
 ·show Z0 ((mulA bA bigL.toNat).2-1)
  generalize (mulA bA bigL.toNat).2=y at p2 ⊢;generalize (pS bigL (ptQ bB) 256).2.2.1=z at *;rcases ((p2.mul (-1)).of_eq (show _=(y-1)*z by grind)).prime with h|h
  ·exact h
  ·exact absurd h n
theorem mu_rest (V:Int) (h0:0≤V) (h1:V<2^256):muV V (ptQ bB)=muV (V%bigL) (ptQ bB):=by
 have hr:Rd (ptQ bB):=by unfold Rd ptQ;decide +kernel
 have hb:0<bigL:=by decide
 have m0:=Int.emod_nonneg V (show bigL≠0 by decide)
 have m1:=Int.emod_lt_of_pos V hb
 have hlt:V%bigL<2^256:=Int.lt_trans m1 (by decide)
 rw[mu_val bA_on ptQ_rep hr V h0 h1,mu_val bA_on ptQ_rep hr (V%bigL) m0 hlt]
 have e:V.toNat=bigL.toNat*(V/bigL).toNat+(V%bigL).toNat:=by
  have:=Int.emod_add_mul_ediv V bigL;have q0:0≤V/bigL:=Int.ediv_nonneg h0 (by omega);have hm:(bigL.toNat:Int)*((V/bigL).toNat:Int)=bigL*(V/bigL):=by rw[Int.toNat_of_nonneg q0,Int.toNat_of_nonneg (by omega)]
  have:((bigL.toNat*(V/bigL).toNat+(V%bigL).toNat:Nat):Int)=(V.toNat:Int):=by
   rw[Int.natCast_add,Int.natCast_mul,hm,Int.toNat_of_nonneg m0,Int.toNat_of_nonneg h0];omega
  omega
 rw[e,mulA_add bA_on,mulA_O bA_on LB,addA_id (mulA_on bA_on _) (mulA_rd _ _)]
end Go.Proofs.YtapejbpgdjbjjaaGreatDoor
namespace Go.Proofs.YtapejbpgdjbjjaaGreatDoor
set_option linter.unusedVariables false
theorem digE:∀(n:Nat) (V:Int),0≤V→V<256^n→∃ rs:List Int,Byte rs∧rs.length=n∧val 256 rs=V
 |0,V,h0,h1=>⟨[],(fun v hv=>by cases hv),rfl,by simp at h1;show(0:Int)=V;omega⟩
 |n+1,V,h0,h1=>by
  rw[Int.pow_succ] at h1;obtain⟨rs,hb,hl,hv⟩:=digE n (V/256) (by omega) (by generalize (256:Int)^n=q at *;omega);refine⟨V%256::rs,fun v h=>?_,by simp[hl],?_⟩
  ·rcases List.mem_cons.1 h with h|h
   ·omega
   ·exact hb v h
  ·show V%256+256*val 256 rs=V
   rw[hv];omega
theorem mu_rng {ks:List Int} (hl:ks.length=32) (hb:Byte ks):0≤muV (val 256 ks) (ptQ bB)∧muV (val 256 ks) (ptQ bB)<256^32:=by
 have h0:=val_nonneg (B:=256) (by decide) hb
 have h1:val 256 ks<2^256:=by
  have:=val_lt (B:=256) (by decide) hb;rw[hl] at this;exact Int.lt_of_lt_of_le this (by decide)
 have hr:Rd (ptQ bB):=by unfold Rd ptQ;decide +kernel
 rw[mu_val bA_on ptQ_rep hr (val 256 ks) h0 h1]
 obtain⟨q1,q2⟩:=mulA_rd bA (val 256 ks).toNat
 generalize (mulA bA (val 256 ks).toNat)=P at *
 have hx:=Int.emod_nonneg P.1 (show(2:Int)≠0 by decide)
 have hx':=Int.emod_lt_of_pos P.1 (show(0:Int)<2 by decide)
 have ht:top255+fp≤256^32:=by unfold top255 fp;decide
 have ht0:0≤top255:=by unfold top255;decide
 have y0:0≤P.2∧P.2<fp:=q2
 rcases (show P.1%2=0∨P.1%2=1 by omega) with h|h
 ·rw[h];generalize (256:Int)^32=q at *;omega
 ·rw[h];generalize (256:Int)^32=q at *;omega
theorem s_neg:Z0 (pw2 (2%fp)*pw2 (2%fp)+1):=by
 have h:=s_sq
 unfold Z0
 generalize pw2 (2%fp)*pw2 (2%fp)=a at *
 rw[fp_lit] at *;omega
theorem w_eq (Y:Int) (h0:0≤Y) (h1:Y<fp) (x:Int):On x Y↔Z0 (x*x-mdW Y mdD):=by
 obtain⟨v0,v1⟩:=mdV_bd Y h0 h1
 have hI:=vI (mdV Y mdD) v0 v1
 have eI:Z0 (mdV Y mdD*inv0 (mdV Y mdD)-1):=z0_iff.2 (by rw[hI];decide)
 have eU:Z0 (mdU Y-(Y*Y-1)):=by unfold mdU;refine z0_iff.2 ?_;rw[Int.emod_emod_of_dvd _ (Int.dvd_refl fp),Int.sub_emod,Int.emod_emod_of_dvd _ (Int.dvd_refl fp),Int.emod_emod_of_dvd _ (Int.dvd_refl fp),←Int.sub_emod]
 have eV:Z0 (mdV Y mdD-(mdD*(Y*Y)+1)):=by
  unfold mdV;refine z0_iff.2 ?_;rw[Int.emod_emod_of_dvd _ (Int.dvd_refl fp),Int.add_emod,Int.emod_emod_of_dvd _ (Int.dvd_refl fp),Int.emod_emod_of_dvd _ (Int.dvd_refl fp),mr,←Int.add_emod]
 have eW:Z0 (mdW Y mdD-mdU Y*inv0 (mdV Y mdD)):=by unfold mdW;exact md0 _
 have nV:¬ Z0 (mdV Y mdD):=by unfold Z0;rw[Int.emod_eq_of_lt (by omega) v1];omega
 unfold On
 generalize mdV Y mdD=V at *
 generalize inv0 V=I at *
 generalize mdU Y=U at *
 generalize mdW Y mdD=W at *
 constructor
 ·intro h;have k:Z0 (V*(x*x-W)):=by
   refine(((eV.mul (x*x)).sub h).sub ((eW.mul V).add ((eI.mul U).add eU))).of_eq ?_
   grind
  rcases k.prime with k|k
  ·exact absurd k nV
  ·exact k
 ·intro h;refine(((eV.mul (x*x)).sub (h.mul V)).sub ((eW.mul V).add ((eI.mul U).add eU))).of_eq ?_
  grind
theorem mdX_sq (Y:Int) (h:mdOk Y mdD=true):Z0 (mdX Y mdD*mdX Y mdD-mdW Y mdD):=by
 have hw:mdW Y mdD%fp=mdW Y mdD:=by unfold mdW;exact Int.emod_emod_of_dvd _ (Int.dvd_refl fp)
 unfold mdOk at h
 unfold mdX
 split
 ·next e=>exact z0_iff.2 (by rw[e,hw])
 ·next e=>
  rw[decide_eq_false e,Bool.false_or,decide_eq_true_eq] at h;exact z0_iff.2 (by rw[h,hw])
theorem ok_of_sq (Y x:Int) (h:Z0 (x*x-mdW Y mdD)):mdOk Y mdD=true:=by
 have hw:mdW Y mdD%fp=mdW Y mdD:=by unfold mdW;exact Int.emod_emod_of_dvd _ (Int.dvd_refl fp)
 have eR:Z0 (mdR Y mdD-mdW Y mdD*mdW Y mdD^((fpN-5)/8)):=by
  unfold mdR;rw[pw1_eq];refine z0_iff.2 ?_;rw[Int.emod_emod_of_dvd _ (Int.dvd_refl fp),mr]
 have eQ:Z0 (mdQ Y mdD-mdR Y mdD*pw2 (2%fp)):=by unfold mdQ;exact md0 _
 have es:=s_neg
 have key:Z0 ((mdR Y mdD*mdR Y mdD-mdW Y mdD)*(mdR Y mdD*mdR Y mdD+mdW Y mdD)):=by
  by_cases hx:Z0 (mdW Y mdD)
  ·have r0:Z0 (mdR Y mdD):=(eR.add (hx.mul (mdW Y mdD^((fpN-5)/8)))).of_eq (by grind);generalize mdR Y mdD=R at *;generalize mdW Y mdD=W at *;exact((r0.mul (R*R*R)).sub (hx.mul W)).of_eq (by grind)
  ·have hf:Z0 (mdW Y mdD^((fpN-1)/2)-1):=by
    have nx:¬ Z0 x:=fun k=>hx (((k.mul x).sub h).of_eq (by grind))
    have f:=fermatI (x%fp) (by
     have:=Int.emod_nonneg x (show fp≠0 by decide);unfold Z0 at nx;omega) (Int.emod_lt_of_pos _ (by decide))
    rw[mpow] at f;refine z0_iff.2 ?_;have e:x*x%fp=mdW Y mdD%fp:=z0_iff.1 h;rw[←mpow,←e,mpow,sq2,←Int.pow_mul,half_two,f];decide
   have e4:Z0 (mdR Y mdD^4-(mdW Y mdD*mdW Y mdD^((fpN-5)/8))^4):=by
    refine z0_iff.2 ?_;rw[←mpow,z0_iff.1 eR,mpow]
   have ex:(mdW Y mdD*mdW Y mdD^((fpN-5)/8))^4=mdW Y mdD^2*mdW Y mdD^((fpN-1)/2):=by
    rw[Int.mul_pow,←Int.pow_mul,←Int.pow_add,←Int.pow_add]
    congr 1
   rw[ex] at e4;generalize mdW Y mdD^((fpN-1)/2)=F at *;generalize mdR Y mdD=R at *;generalize mdW Y mdD=W at *;exact(e4.add (hf.mul (W^2))).of_eq (by grind)
 unfold mdOk
 rcases key.prime with k|k
 ·rw[decide_eq_true (by have:=z0_iff.1 k;rw[hw] at this;exact this),Bool.true_or]
 ·have kq:Z0 (mdQ Y mdD*mdQ Y mdD-mdW Y mdD):=by
   generalize mdQ Y mdD=Q at *;generalize mdR Y mdD=R at *;generalize mdW Y mdD=W at *;generalize pw2 (2%fp)=s at *;refine((((eQ.mul Q).add (eQ.mul (R*s))).add (es.mul (R*R))).sub k).of_eq ?_
   grind
  rw[decide_eq_true (p:=mdQ Y mdD*mdQ Y mdD%fp=mdW Y mdD) (by have:=z0_iff.1 kq;rw[hw] at this;exact this),Bool.or_true]
theorem val_top (zs:List Int) (hl:zs.length=32) (hz:Byte zs):val 256 zs/top255=mO zs:=by
 unfold mO
 have e:=val_take 256 zs 31 (by omega)
 rw[List.take_of_length_le (by omega)] at e
 have dg:Dig 256 (zs.take 31):=fun z hz'=>hz z (List.mem_of_mem_take hz')
 have b0:=val_nonneg (B:=256) (by decide) dg
 have b1:=val_lt (B:=256) (by decide) dg
 rw[List.length_take,hl,show min 31 32=31 from rfl] at b1
 have e3:(256:Int)^31=452312848583266388373324160190187140051835877600158453279131187530910662656:=by decide
 rw[e3] at e b1
 have hb:=hz.get 31
 unfold top255;omega
theorem on_of_mB {zs:List Int} (hz:Byte zs) (h:mB zs mdD=true):OnA (mX zs mdD,mY zs)∧Rd2' (mX zs mdD,mY zs):=by
 unfold mB at h
 simp only[Bool.and_eq_true] at h
 obtain⟨⟨⟨h1,h2⟩,h3⟩,h4⟩:=h
 have y0:0≤mY zs:=Int.emod_nonneg _ (by decide)
 have y1:mY zs<fp:=of_decide_eq_true h2
 obtain⟨x0,x1⟩:=mdX_bd (mY zs)
 have hsq:=mdX_sq _ h3
 have hz:(0:Int)%fp=0:=by decide
 unfold OnA Rd2' mX
 split
 ·exact⟨(w_eq _ y0 y1 _).2 hsq,⟨x0,x1⟩,y0,y1⟩
 ·refine⟨(w_eq _ y0 y1 _).2 ?_,⟨Int.emod_nonneg _ (by decide),Int.emod_lt_of_pos _ (by decide)⟩,y0,y1⟩;show Z0 ((0%fp-mdX (mY zs) mdD)%fp*((0%fp-mdX (mY zs) mdD)%fp)-mdW (mY zs) mdD)
  rw[hz];have e:=md0 (0-mdX (mY zs) mdD);generalize (0-mdX (mY zs) mdD)%fp=N at *;generalize mdX (mY zs) mdD=X at *;generalize mdW (mY zs) mdD=W at *;exact(((e.mul N).add (e.mul (-X))).add hsq).of_eq (by grind)
theorem dec_code {P:Pt2} (hP:OnA P) (hr:Rd2' P) {zs:List Int} (hz:Byte zs) (hl:zs.length=32) (hv:val 256 zs=P.2+top255*(P.1%2)):mB zs mdD=true∧mX zs mdD=P.1∧mY zs=P.2:=by
 obtain⟨⟨x0,x1⟩,y0,y1⟩:=hr
 have ht:=val_top zs hl hz
 have hY:mY zs=P.2:=by unfold mY;rw[hv];unfold top255;rw[fp_lit] at *;omega
 have hO:mO zs=P.1%2:=by rw[←ht,hv];unfold top255;rw[fp_lit] at *;omega
 have hsq:=(w_eq P.2 y0 y1 P.1).1 hP
 have hok:=ok_of_sq P.2 P.1 hsq
 have hq:=mdX_sq P.2 hok
 obtain⟨m0,m1⟩:=mdX_bd P.2
 have h00:(0:Int)%fp=0:=by decide
 have hpm:mdX P.2 mdD=P.1∨(mdX P.2 mdD+P.1=fp∨(mdX P.2 mdD=0∧P.1=0)):=by
  have k:Z0 ((mdX P.2 mdD-P.1)*(mdX P.2 mdD+P.1)):=(hq.sub hsq).of_eq (by generalize mdX P.2 mdD=X at *;generalize mdW P.2 mdD=W at *;grind);rcases k.prime with k|k
  ·left;have:=z0_iff.1 k;rw[Int.emod_eq_of_lt m0 m1,Int.emod_eq_of_lt x0 x1] at this;exact this
  ·right;unfold Z0 at k;rw[fp_lit] at *;omega
 unfold mB mX
 rw[hY,hO,hok,hl,decide_eq_true y1]
 refine⟨?_,?_,rfl⟩
 ·rw[h00];by_cases hx:P.1%2=1
  ·have:¬ mdX P.2 mdD=0:=by rw[fp_lit] at *;omega
   simp[this]
  ·simp[hx]
 ·rw[h00];split
  ·next e=>rw[fp_lit] at *;omega
  ·next e=>rw[fp_lit] at *;omega
end Go.Proofs.YtapejbpgdjbjjaaGreatDoor
namespace Go.Proofs.YtapejbpgdjbjjaaGreatDoor
set_option linter.unusedVariables false
theorem ptQ_rd2 {zs:List Int} (hz:Byte zs) (h:mB zs mdD=true):Rd (ptQ zs):=by
 obtain⟨_,⟨x0,x1⟩,y0,y1⟩:=on_of_mB hz h
 exact⟨⟨x0,x1⟩,⟨y0,y1⟩,by show 0≤1%fp∧1%fp<fp;decide,⟨Int.emod_nonneg _ (by decide),Int.emod_lt_of_pos _ (by decide)⟩⟩
theorem code_rng {P:Pt2} (hr:Rd2' P):0≤P.2+top255*(P.1%2)∧P.2+top255*(P.1%2)<256^32:=by
 obtain⟨⟨x0,x1⟩,y0,y1⟩:=hr
 have ht:top255+fp≤256^32:=by unfold top255 fp;decide
 have ht0:0≤top255:=by unfold top255;decide
 rcases (show P.1%2=0∨P.1%2=1 by omega) with h|h
 ·rw[h];generalize (256:Int)^32=q at *;omega
 ·rw[h];generalize (256:Int)^32=q at *;omega
theorem muZ_code {ks zs:List Int} (hl:ks.length=32) (hb:Byte ks) (hz:Byte zs) (h:mB zs mdD=true) :
  (muZ ks zs).length=32∧Byte (muZ ks zs)∧val 256 (muZ ks zs)=(mulA (mX zs mdD,mY zs) (val 256 ks).toNat).2+top255*((mulA (mX zs mdD,mY zs) (val 256 ks).toNat).1%2):=by
 obtain⟨hP,hR⟩:=on_of_mB hz h
 have h0:=val_nonneg (B:=256) (by decide) hb
 have h1:val 256 ks<2^256:=by
  have:=val_lt (B:=256) (by decide) hb;rw[hl] at this;exact Int.lt_of_lt_of_le this (by decide)
 have e:=mu_val hP ptQ_rep (ptQ_rd2 hz h) (val 256 ks) h0 h1
 obtain⟨r0,r1⟩:=code_rng (mulA_rd (mX zs mdD,mY zs) (val 256 ks).toNat)
 obtain⟨rs,d1,d2,d3⟩:=digE 32 _ r0 r1
 rw[muZ_eq ⟨hl,h⟩ d1 d2 (by rw[d3,e])]
 exact⟨d2,d1,d3⟩
theorem padV_F4 (xs ys:List Int):padV xs ys=cdV (F4 (ptQ xs) (ptQ ys)).1 (F4 (ptQ xs) (ptQ ys)).2.1 (F4 (ptQ xs) (ptQ ys)).2.2.1:=by
 unfold padV sdV F4 ptQ fX fY fZ;dsimp only
theorem grp {ka kb kc zs:List Int} (la:ka.length=32) (ba:Byte ka) (lb:kb.length=32) (bb:Byte kb) (lc:kc.length=32) (bc:Byte kc) (hz:Byte zs) (h:mB zs mdD=true)
  (hs:val 256 kc=val 256 ka+val 256 kb):paZ (muZ ka zs) (muZ kb zs)=muZ kc zs∧mB (muZ kc zs) mdD=true:=by
 obtain⟨hP,hR⟩:=on_of_mB hz h
 obtain⟨a1,a2,a3⟩:=muZ_code la ba hz h
 obtain⟨b1,b2,b3⟩:=muZ_code lb bb hz h
 obtain⟨c1,c2,c3⟩:=muZ_code lc bc hz h
 obtain⟨ma,xa,ya⟩:=dec_code (mulA_on hP _) (mulA_rd _ _) a2 a1 a3
 obtain⟨mb,xb,yb⟩:=dec_code (mulA_on hP _) (mulA_rd _ _) b2 b1 b3
 obtain⟨mc,_,_⟩:=dec_code (mulA_on hP _) (mulA_rd _ _) c2 c1 c3
 refine⟨paZ_eq ⟨ma,mb⟩ c2 c1 ?_,mc⟩
 have ra:Rep (ptQ (muZ ka zs)) (mulA (mX zs mdD,mY zs) (val 256 ka).toNat):=by
  have:=ptQ_rep (zs:=muZ ka zs);rw[xa,ya] at this;exact this
 have rb:Rep (ptQ (muZ kb zs)) (mulA (mX zs mdD,mY zs) (val 256 kb).toNat):=by
  have:=ptQ_rep (zs:=muZ kb zs);rw[xb,yb] at this;exact this
 have n0:=val_nonneg (B:=256) (by decide) ba
 have n1:=val_nonneg (B:=256) (by decide) bb
 have en:(val 256 kc).toNat=(val 256 ka).toNat+(val 256 kb).toNat:=by omega
 have ea:=mulA_add hP (val 256 ka).toNat (val 256 kb).toNat
 have hr:=cd_rep (F4_rep (mulA_on hP _) (mulA_on hP _) ra rb) (F4_rd _ _) (by rw[←ea];exact mulA_rd _ _)
 rw[padV_F4,hr,←ea,c3,en]
end Go.Proofs.YtapejbpgdjbjjaaGreatDoor
namespace Go.Proofs.YtapejbpgdjbjjaaGreatDoor
set_option linter.unusedVariables false
theorem pS_cd {P:Pt2} {E:Q4} (hP:OnA P) (h:Rep E P) (V:Int) (h0:0≤V) (h1:V<2^256):Rep (pS V E 256) (mulA P V.toNat):=by
 have:=pS_rep hP h V h0 h1 256 (Nat.le_refl _)
 simpa using this
theorem sc_rng {ks:List Int} (hl:ks.length=32) (hb:Byte ks):0≤val 256 ks∧val 256 ks<2^256:=by
 refine⟨val_nonneg (B:=256) (by decide) hb,?_⟩
 have:=val_lt (B:=256) (by decide) hb
 rw[hl] at this
 exact Int.lt_of_lt_of_le this (by decide)
theorem paZ_code {xs ys:List Int} (hx:Byte xs) (hy:Byte ys) (mx:mB xs mdD=true) (my:mB ys mdD=true) :
  (paZ xs ys).length=32∧Byte (paZ xs ys)∧val 256 (paZ xs ys)=(addA (mX xs mdD,mY xs) (mX ys mdD,mY ys)).2+top255*((addA (mX xs mdD,mY xs) (mX ys mdD,mY ys)).1%2):=by
 obtain⟨hP,hR⟩:=on_of_mB hx mx
 obtain⟨hQ,hS⟩:=on_of_mB hy my
 have e:=cd_rep (F4_rep hP hQ ptQ_rep ptQ_rep) (F4_rd _ _) (addA_rd _ _)
 rw[←padV_F4] at e
 obtain⟨r0,r1⟩:=code_rng (addA_rd (mX xs mdD,mY xs) (mX ys mdD,mY ys))
 obtain⟨rs,d1,d2,d3⟩:=digE 32 _ r0 r1
 rw[paZ_eq ⟨mx,my⟩ d1 d2 (by rw[d3,e])]
 exact⟨d2,d1,d3⟩
theorem sig_eqn {pub msg sig k:List Int} (hs:sig.length=64) (zp:Byte pub) (zs:Byte sig) (hp:mB pub mdD=true) (hR:mB (sig.take 32) mdD=true)
  (kl:k.length=32) (kb:Byte k) (kv:val 256 k=hsV pub msg sig) :
  (muZ (sig.drop 32) bB).length=32∧Byte (muZ (sig.drop 32) bB)∧(muZ k pub).length=32∧Byte (muZ k pub)∧(paZ (sig.take 32) (muZ k pub)).length=32∧Byte (paZ (sig.take 32) (muZ k pub))∧
   decide (muZ (sig.drop 32) bB=paZ (sig.take 32) (muZ k pub))=eqnS pub msg sig:=by
 have zl:Byte (sig.drop 32):=fun z hz=>zs z (List.mem_of_mem_drop hz)
 have zt:Byte (sig.take 32):=fun z hz=>zs z (List.mem_of_mem_take hz)
 have dl:(sig.drop 32).length=32:=by simp;omega
 obtain⟨hA,rA⟩:=on_of_mB zp hp
 obtain⟨hT,rT⟩:=on_of_mB zt hR
 obtain⟨hB,rB⟩:=on_of_mB bB_byte bB_ok
 obtain⟨a1,a2,a3⟩:=muZ_code dl zl bB_byte bB_ok
 obtain⟨b1,b2,b3⟩:=muZ_code kl kb zp hp
 obtain⟨mb,xb,yb⟩:=dec_code (mulA_on hA _) (mulA_rd _ _) b2 b1 b3
 obtain⟨c1,c2,c3⟩:=paZ_code zt b2 hR mb
 refine⟨a1,a2,b1,b2,c1,c2,?_⟩
 rw[←eqn_same pub msg sig (ptQ_rd2 zp hp) (ptQ_rd2 zt hR) (ptQ_rd2 bB_byte bB_ok)]
 unfold eqnI cdQ
 obtain⟨s0,s1⟩:=sc_rng dl zl
 obtain⟨k0,k1⟩:=sc_rng kl kb
 rw[kv] at k0 k1
 have e1:=cd_rep (pS_cd hB ptQ_rep _ s0 s1) (pS_rd _ _ 255) (mulA_rd _ _)
 have e2:=cd_rep (F4_rep hT (mulA_on hA _) ptQ_rep (pS_cd hA ptQ_rep _ k0 k1)) (F4_rd _ _) (addA_rd _ _)
 rw[e1,e2]
 rw[xb,yb,kv] at c3
 rw[decide_eq_decide]
 constructor
 ·intro h;rw[←a3,h,c3]
 ·intro h;refine val_inj (B:=256) (by decide) a2 c2 (by rw[a1,c1]) ?_;rw[a3,c3,h]
end Go.Proofs.YtapejbpgdjbjjaaGreatDoor
namespace Go.Proofs.YtapejbpgdjbjjaaGreatDoor
open Go.ChangeShapes Go.WideShapes Go.ChangeAt Go.RowKit
set_option linter.unusedVariables false
theorem mB_len {zs:List Int} (h:mB zs mdD=true):zs.length=32∧mY zs<fp:=by
 unfold mB at h
 simp only[Bool.and_eq_true] at h
 exact⟨by simpa using h.1.1.1,by simpa using h.1.1.2⟩
theorem Pt.wrh {w w':World} {g V:Nat} {x y z t:List Int} (h:Pt w g x y z t) (hw:WrH V w w') (hne:g≠V):Pt w' g x y z t:=⟨hw.rowW h.row hne,h.x,h.y,h.z,h.t⟩
theorem At.wrh {k:IntKind} {w w':World} {a:Option Addr} {zs:List Int} {V:Nat} (h:At k w a zs) (hw:WrH V w w') (hne:∀ b o,a=some ⟨b,o,none⟩→b≠V):At k w' a zs:=by
 rcases h with h|⟨b,off,rfl,hl,hc⟩
 ·exact .inl h
 ·exact .inr ⟨b,off,rfl,by have:=hw.size;omega,fun i hi=>by rw[World.cell?_of_block (a:=⟨b,off+i,none⟩) (w:=w) (hw.block b hl (hne b off rfl))];exact hc i hi⟩
set_option maxRecDepth 100000 in
set_option maxHeartbeats 4000000 in
theorem ipad_any (p q:Option Addr) (n cap m cap':Nat) (zs ys:List Int) (w:World) (hn:zs.length=n) (hm:n≤1048576) (ha:At .u8 w p zs) (hz:Byte zs) (hn':ys.length=m) (hm':m≤1048576) (ha':At .u8 w q ys) (hy:Byte ys) :
  Calls Tryz.prog 13 #[.slice p n cap,.slice q m cap'] w (PadP w zs ys):=by
 have HB0:Below w.heap.size w ((w.alloc (.cells #[.int .u64 0,.int .u64 0,.int .u64 0,.int .u64 0,.int .u64 0,.int .u64 0,.int .u64 0,.int .u64 0,.int .u64 0,.int .u64 0,.int .u64 0,.int .u64 0,.int .u64 0,.int .u64 0,.int .u64 0,.int .u64 0,.int .u64 0,.int .u64 0,.int .u64 0,.int .u64 0] 54)).alloc (.cells #[.int .u64 0,.int .u64 0,.int .u64 0,.int .u64 0,.int .u64 0,.int .u64 0,.int .u64 0,.int .u64 0,.int .u64 0,.int .u64 0,.int .u64 0,.int .u64 0,.int .u64 0,.int .u64 0,.int .u64 0,.int .u64 0,.int .u64 0,.int .u64 0,.int .u64 0,.int .u64 0] 54)):=(below_new3 _ _).trans ((below_new3 _ _).mono (by simp))
 have HP1:Pt ((w.alloc (.cells #[.int .u64 0,.int .u64 0,.int .u64 0,.int .u64 0,.int .u64 0,.int .u64 0,.int .u64 0,.int .u64 0,.int .u64 0,.int .u64 0,.int .u64 0,.int .u64 0,.int .u64 0,.int .u64 0,.int .u64 0,.int .u64 0,.int .u64 0,.int .u64 0,.int .u64 0,.int .u64 0] 54)).alloc (.cells #[.int .u64 0,.int .u64 0,.int .u64 0,.int .u64 0,.int .u64 0,.int .u64 0,.int .u64 0,.int .u64 0,.int .u64 0,.int .u64 0,.int .u64 0,.int .u64 0,.int .u64 0,.int .u64 0,.int .u64 0,.int .u64 0,.int .u64 0,.int .u64 0,.int .u64 0,.int .u64 0] 54)) w.heap.size [0,0,0,0,0] [0,0,0,0,0] [0,0,0,0,0] [0,0,0,0,0]:=(pt_new w).below (below_new3 _ _) (by simp)
 have HP2:Pt ((w.alloc (.cells #[.int .u64 0,.int .u64 0,.int .u64 0,.int .u64 0,.int .u64 0,.int .u64 0,.int .u64 0,.int .u64 0,.int .u64 0,.int .u64 0,.int .u64 0,.int .u64 0,.int .u64 0,.int .u64 0,.int .u64 0,.int .u64 0,.int .u64 0,.int .u64 0,.int .u64 0,.int .u64 0] 54)).alloc (.cells #[.int .u64 0,.int .u64 0,.int .u64 0,.int .u64 0,.int .u64 0,.int .u64 0,.int .u64 0,.int .u64 0,.int .u64 0,.int .u64 0,.int .u64 0,.int .u64 0,.int .u64 0,.int .u64 0,.int .u64 0,.int .u64 0,.int .u64 0,.int .u64 0,.int .u64 0,.int .u64 0] 54)) (w.heap.size+1) [0,0,0,0,0] [0,0,0,0,0] [0,0,0,0,0] [0,0,0,0,0]:=by
  have:=pt_new (w.alloc (.cells #[.int .u64 0,.int .u64 0,.int .u64 0,.int .u64 0,.int .u64 0,.int .u64 0,.int .u64 0,.int .u64 0,.int .u64 0,.int .u64 0,.int .u64 0,.int .u64 0,.int .u64 0,.int .u64 0,.int .u64 0,.int .u64 0,.int .u64 0,.int .u64 0,.int .u64 0,.int .u64 0] 54))
  rwa [show(w.alloc (.cells #[.int .u64 0,.int .u64 0,.int .u64 0,.int .u64 0,.int .u64 0,.int .u64 0,.int .u64 0,.int .u64 0,.int .u64 0,.int .u64 0,.int .u64 0,.int .u64 0,.int .u64 0,.int .u64 0,.int .u64 0,.int .u64 0,.int .u64 0,.int .u64 0,.int .u64 0,.int .u64 0] 54)).heap.size=w.heap.size+1 by simp] at this
 have ha1:=ha.below HB0
 have ha2:=ha'.below HB0
 have hqb:∀ b o,q=some ⟨b,o,none⟩→ys≠[]→b<w.heap.size:=fun b o e h=>by
  rcases ha' with h'|⟨b',o',e',hl,_⟩
  ·exact absurd h' h
  ·rw[e] at e';cases e';exact hl
 go_enter Tryz.func13,Tryz.ntmps13
 go_wp2_with fail
 generalize (w.alloc (.cells #[.int .u64 0,.int .u64 0,.int .u64 0,.int .u64 0,.int .u64 0,.int .u64 0,.int .u64 0,.int .u64 0,.int .u64 0,.int .u64 0,.int .u64 0,.int .u64 0,.int .u64 0,.int .u64 0,.int .u64 0,.int .u64 0,.int .u64 0,.int .u64 0,.int .u64 0,.int .u64 0] 54)).alloc (.cells #[.int .u64 0,.int .u64 0,.int .u64 0,.int .u64 0,.int .u64 0,.int .u64 0,.int .u64 0,.int .u64 0,.int .u64 0,.int .u64 0,.int .u64 0,.int .u64 0,.int .u64 0,.int .u64 0,.int .u64 0,.int .u64 0,.int .u64 0,.int .u64 0,.int .u64 0,.int .u64 0] 54)=w0 at *
 refine(decode_any w.heap.size _ _ _ _ p n cap zs _ hn hm ha1 hz HP1).mono ?_
 rintro e w1 ⟨x1,y1,z1,t1,P1,hw1,rfl,hv1⟩
 have HB1:Hid (Below w.heap.size w w1):=HB0.trans (hw1.below w.heap.size (Nat.le_refl _) HB0.size)
 have HQ1:Hid (Pt w1 (w.heap.size+1) [0,0,0,0,0] [0,0,0,0,0] [0,0,0,0,0] [0,0,0,0,0]):=HP2.wrh hw1 (by omega)
 have HA1:Hid (At .u8 w1 q ys):=ha'.below HB1.out
 have HP1':Hid (Pt w1 w.heap.size x1 y1 z1 t1):=P1
 have HV1:Hid (dcR zs=true→ev x1=dcX zs∧ev y1=dcY zs∧ev z1=1∧ev t1=dcX zs*dcY zs%fp):=hv1
 clear hw1 HP1 HB0 ha1 ha2 HP2 P1 hv1 ha ha'
 have HDS:Hid (dcR zs=mB zs mdD):=dec_same zs hz
 rw[HDS.out]
 have HNO:(¬ (mB zs mdD=true∧mB ys mdD=true))→∀ wz,Below w.heap.size w wz→Hid (PadP w zs ys (.returned (.slice none 0 0)) wz):=fun h wz hb=>by
  show PadP _ _ _ _ _
  unfold PadP;rw[paZ_no h];exact⟨_,rfl,⟨none,0,rfl,.inl rfl,.inl rfl,fun ad h=>by cases h⟩,hb⟩
 cases hb:mB zs mdD with
 |false=>
  have H:=HNO (by rw[hb];simp) w1 HB1.out;clear HNO HB1 HQ1 HA1 HP1' HV1;go_wp2
  go_ret
  exact H.out
 |true=>
  go_wp2_with fail;refine(decode_any (w.heap.size+1) _ _ _ _ q m cap' ys _ hn' hm' HA1.out hy HQ1.out).mono ?_;rintro e w2 ⟨x2,y2,z2,t2,P2,hw2,rfl,hv2⟩;have HB2:Hid (Below w.heap.size w w2):=HB1.out.trans (hw2.below w.heap.size (by omega) HB1.out.size);have HP2':Hid (Pt w2 w.heap.size x1 y1 z1 t1):=HP1'.out.wrh hw2 (by omega);have HP2:Hid (Pt w2 (w.heap.size+1) x2 y2 z2 t2):=P2;have HV2:Hid (dcR ys=true→ev x2=dcX ys∧ev y2=dcY ys∧ev z2=1∧ev t2=dcX ys*dcY ys%fp):=hv2;have HDS2:Hid (dcR ys=mB ys mdD):=dec_same ys hy;rw[HDS2.out];clear hw2 P2 hv2 HB1 HQ1 HA1 HP1';cases hb2:mB ys mdD with
  |false=>
   have H:=HNO (by rw[hb2];simp) w2 HB2.out;clear HNO;go_wp2
   go_ret
   exact H.out
  |true=>
   obtain⟨e1,e2,e3,e4⟩:=HV1.out (by rw[HDS.out];exact hb);obtain⟨f1,f2,f3,f4⟩:=HV2.out (by rw[HDS2.out];exact hb2);have q1:=decX_same zs (mB_len hb).1 hz (mB_len hb).2;have q2:=decX_same ys (mB_len hb2).1 hy (mB_len hb2).2;have HE:Hid (ev x1=mX zs mdD∧ev y1=mY zs∧ev z1=1%fp∧ev t1=mX zs mdD*mY zs%fp∧ev x2=mX ys mdD∧ev y2=mY ys∧ev z2=1%fp∧ev t2=mX ys mdD*mY ys%fp):=
    ⟨by rw[e1,q1],e2,by rw[e3];decide,by rw[e4,q1];rfl,by rw[f1,q2],f2,by rw[f3];decide,by rw[f4,q2];rfl⟩
   clear e1 e2 e3 e4 f1 f2 f3 f4 q1 q2 HV1 HV2 HNO;go_wp2_with fail;refine(add_any w.heap.size (w.heap.size+1) x1 y1 z1 t1 x2 y2 z2 t2 _ HP2'.out HP2.out).mono ?_;rintro e w3 ⟨x,y,z,t,P3,hw3,rfl,v1,v2,v3,v4⟩;have HB3:Hid (Below w.heap.size w w3):=HB2.out.trans (hw3.below w.heap.size (Nat.le_refl _) HB2.out.size);have HP3:Hid (Pt w3 w.heap.size x y z t):=P3;have HCV:Hid (cdV (ev x) (ev y) (ev z)=padV zs ys):=by
    show _=_
    obtain⟨a1,a2,a3,a4,b1,b2,b3,b4⟩:=HE.out;rw[v1,v2,v3,a1,a2,a3,a4,b1,b2,b3,b4];rfl
   clear P3 hw3 v1 v2 v3 v4 HB2 HP2 HP2' HE;go_wp2_with fail;refine(pcode_any w.heap.size x y z t _ HP3.out).mono ?_;rintro e w4 ⟨ms,hl,hw,hv,rfl,b4⟩;rw[HCV.out] at hv;have HB4:Hid (Below w.heap.size w w4):=HB3.out.trans (b4.mono HB3.out.size)
   match ms,hl with
   |[n0,n1,n2,n3],_=>
   have HN:Hid (RowW (w4.alloc (.cells #[.int .u64 n0,.int .u64 n1,.int .u64 n2,.int .u64 n3] 57)) w4.heap.size 57 [n0,n1,n2,n3]):=heap_alloc_new w4 _;have HB5:Hid (Below w.heap.size w (w4.alloc (.cells #[.int .u64 n0,.int .u64 n1,.int .u64 n2,.int .u64 n3] 57))):=HB4.out.trans ((below_new3 _ _).mono HB4.out.size);have HW:Hid (Wrd [n0,n1,n2,n3]∧val 18446744073709551616 [n0,n1,n2,n3]=padV zs ys):=⟨hw,hv⟩
   clear b4 HB3 HP3 hw hv HCV HB4;simp only[List.map_cons,List.map_nil];go_wp2_with fail;generalize w4.alloc (.cells #[.int .u64 n0,.int .u64 n1,.int .u64 n2,.int .u64 n3] 57)=w5 at *;refine(text_any w4.heap.size [n0,n1,n2,n3] _ rfl HN.out HW.out.1).mono ?_;rintro e w6 ⟨bs,hbl,hbb,hbv,rfl,O,b6⟩;have HF:Hid (PadP w zs ys (.returned (.slice (some ⟨w5.heap.size,0,none⟩) 32 32)) w6):=by
    show PadP _ _ _ _ _
    unfold PadP;rw[paZ_eq ⟨hb,hb2⟩ hbb hbl (by rw[hbv];exact HW.out.2)];have R:=own_res O;obtain⟨a,c,e,r1,r2,r3⟩:=R;exact⟨_,rfl,⟨a,c,e,r1,r2,fun ad h=>Nat.le_trans HB5.out.size (r3 ad h)⟩,HB5.out.trans (b6.mono HB5.out.size)⟩
   clear hbl hbb hbv O b6 HN HW HB5;go_wp2
   go_ret
   exact HF.out
end Go.Proofs.YtapejbpgdjbjjaaGreatDoor
namespace Go.Proofs.YtapejbpgdjbjjaaGreatDoor
open Go.ChangeShapes Go.WideShapes Go.ChangeAt Go.RowKit Go.Joins
set_option linter.unusedVariables false
set_option maxHeartbeats 400000 in
theorem iredS_any (a:Option Addr) (n cap:Nat) (zs:List Int) (w:World) (hn:zs.length=n) (hm:n≤64) (ha:At .u8 w a zs) (hz:Byte zs) :
  Calls Tryz.prog 9 #[.slice a n cap] w fun e w'=>∃ v rs,e=.returned v∧Own w' w.heap.size v rs∧Byte rs∧rs.length=32∧val 256 rs=val 256 zs%bigL∧Below w.heap.size w w':=by
 have hm':¬ ((64:Int)<(n:Int)):=by omega
 go_enter Tryz.func9,Tryz.ntmps9
 go_wp2_with fail
 refine(rnum_any a n cap zs _ hn (by omega) ha hz).mono ?_
 rintro e w1 ⟨ms,hml,hmw,hmv,rfl,B1⟩
 have HSZ:Hid ((Tryz.prog.info? 57).map (·.size)=some ((ms.map (Value.int .u64)).toArray).size):=sizeNumR hml
 have HZ4:Hid ((#[Value.int .u64 0,.int .u64 0,.int .u64 0,.int .u64 0]:Array Value).size=((ms.map (Value.int .u64)).toArray).size):=by show _=_;simp[hml]
 have HR:Hid (RowW (w1.alloc (.cells #[.int .u64 0,.int .u64 0,.int .u64 0,.int .u64 0] 57)) w1.heap.size 57 [0,0,0,0]):=heap_alloc_new w1 _
 have HMV:Hid (val 18446744073709551616 ms=val 256 zs%bigL):=hmv
 clear hmv
 go_wp2_with (first
  |(refine wpList_store_row rfl 57 (.tmp 3) (.tmp 8) rfl w1.heap.size ((ms.map (Value.int .u64)).toArray) rfl rfl 57 _ HR.out HSZ.out HZ4.out (all_oneCell_toArray (ints_oneCell _ _)) ?_)
  |fail)
 have R1:RowW ((w1.alloc (.cells #[.int .u64 0,.int .u64 0,.int .u64 0,.int .u64 0] 57)).setRow w1.heap.size (ms.map (Value.int .u64)).toArray) w1.heap.size 57 ms:=HR.out.setRow ms
 have B2:Below w1.heap.size w1 ((w1.alloc (.cells #[.int .u64 0,.int .u64 0,.int .u64 0,.int .u64 0] 57)).setRow w1.heap.size (ms.map (Value.int .u64)).toArray):=(below_new2 _ _).trans ((Wr.setRow _ _ _).below (Nat.le_refl _))
 clear HR HZ4 HSZ
 generalize (w1.alloc (.cells #[.int .u64 0,.int .u64 0,.int .u64 0,.int .u64 0] 57)).setRow w1.heap.size (ms.map (Value.int .u64)).toArray=w2 at *
 refine(text_any _ ms _ hml R1 hmw).mono ?_
 rintro e w3 ⟨bs,hbl,hbb,hbv,rfl,O3,B3⟩
 rw[HMV.out] at hbv
 have s1:=B1.size
 have s2:=B2.size
 have HP:Hid (∃ v rs,Ending.returned (.slice (some ⟨w2.heap.size,0,none⟩) 32 32)=.returned v∧Own w3 w.heap.size v rs∧Byte rs∧rs.length=32∧val 256 rs=val 256 zs%bigL∧Below w.heap.size w w3):=
  ⟨_,bs,rfl,O3.lower2 (by omega),hbb,hbl,hbv,B1.trans ((B2.trans (B3.mono s2)).mono s1)⟩
 clear O3 B1 B2 B3 hbv R1 HMV
 go_wp2
 go_ret
 exact HP.out
end Go.Proofs.YtapejbpgdjbjjaaGreatDoor
namespace Go.Proofs.YtapejbpgdjbjjaaGreatDoor
open Go.ChangeShapes Go.WideShapes Go.ChangeAt Go.RowKit
set_option linter.unusedVariables false
theorem strR_inj {xs ys:List Int} (hx:Byte xs) (hy:Byte ys):((strOfNums xs).toList == (strOfNums ys).toList)=decide (xs=ys):=by
 rw[Bool.eq_iff_iff,decide_eq_true_eq,beq_iff_eq,ByteArray.toList_eq,ByteArray.toList_eq,strOfNums_data,strOfNums_data]
 constructor
 ·intro h;have hl:xs.length=ys.length:=by simpa using congrArg List.length h
  apply List.ext_getElem hl;intro i h1 h2;have e:(xs.map fun n=>UInt8.ofNat n.toNat)[i]?=(ys.map fun n=>UInt8.ofNat n.toNat)[i]?:=by rw[h]
  simp[h1,h2] at e;have e':=congrArg UInt8.toNat e;have bx:=hx xs[i] (List.getElem_mem h1);have by':=hy ys[i] (List.getElem_mem h2);simp only[UInt8.toNat_ofNat'] at e';omega
 ·rintro rfl;rfl
theorem convR_any (a:Option Addr) (n cap:Nat) (xs:List Int) (w:World) (hn:xs.length=n) (ha:At .u8 w a xs) :
  (convert 22 9 (.slice a n cap)).run Tryz.prog w=.ok (.string (strOfNums xs)) w:=by
 by_cases h0:xs=[]
 ·subst h0;obtain rfl:n=0:=by simpa using hn.symm
  cases a with
  |none=>exact run_convert_bytes_nil w 22 5 Tryz.underlying22 Tryz.underlying5 0 cap 9 Tryz.underlying9
  |some ad=>
   rw[run_convert_bytes_string w 22 9 5 _ 0 cap Tryz.underlying22 Tryz.underlying5 Tryz.underlying9];exact run_bytesToString w ad 0 cap [] (by simp[loadCells,loadCellsFrom])
 ·rcases ha with h|⟨b,off,rfl,hb,hc⟩
  ·exact absurd h h0
  ·exact run_convert_bytes_arg w 22 5 Tryz.underlying22 Tryz.underlying5 b off n cap xs hn (fun i hi=>hc i (by omega)) 9 Tryz.underlying9
set_option maxHeartbeats 400000 in
theorem lwR_any (a a':Option Addr) (n n' cap cap':Nat) (xs ys:List Int) (w:World) (hn:xs.length=n) (hn':ys.length=n') (ha:At .u8 w a xs) (ha':At .u8 w a' ys) (bx:Byte xs) (by':Byte ys) :
  Calls Tryz.prog 14 #[.slice a n cap,.slice a' n' cap'] w fun e w'=>e=.returned (.bool (decide (xs=ys)))∧w'=w:=by
 have c1:=convR_any a n cap xs w hn ha
 have c2:=convR_any a' n' cap' ys w hn' ha'
 have hi:=strR_inj bx by'
 clear ha ha'
 go_enter Tryz.func14,Tryz.ntmps14
 go_wp2
 go_ret
 exact⟨rfl,rfl⟩
end Go.Proofs.YtapejbpgdjbjjaaGreatDoor
