import Derived.Test.YtncomnkdlpoelaaGreatDoorMCatC
import Derived.Test.YtncomnkdlpoelaaGreatDoorMIDd
import Derived.Test.YtncomnkdlpoelaaGreatDoorMISt
import Derived.Test.YtncomnkdlpoelaaGreatDoorMCatF
import Derived.Deep.Cut
import Derived.Test.YtncomnkdlpoelaaGreatDoorMSvK
import Derived.Deep.AppendSrc
import Derived.Test.YtncomnkdlpoelaaGreatDoorMBase
import Derived.Test.YtncomnkdlpoelaaGreatDoorMINofS
import Derived.Test.YtncomnkdlpoelaaGreatDoorMArrW
import Derived.Lib.SmallJoins
namespace Go.Proofs.YtncomnkdlpoelaaGreatDoor
set_option linter.unusedVariables false
abbrev Q4:Type:=Int×Int×Int×Int
theorem al (a b:Int):(a%fp+b)%fp=(a+b)%fp:=by rw[Int.add_emod,Int.emod_emod_of_dvd _ (Int.dvd_refl fp),←Int.add_emod]
theorem ar (a b:Int):(a+b%fp)%fp=(a+b)%fp:=by rw[Int.add_emod,Int.emod_emod_of_dvd _ (Int.dvd_refl fp),←Int.add_emod]
theorem sl (a b:Int):(a%fp-b)%fp=(a-b)%fp:=by rw[Int.sub_emod,Int.emod_emod_of_dvd _ (Int.dvd_refl fp),←Int.sub_emod]
theorem sr_ (a b:Int):(a-b%fp)%fp=(a-b)%fp:=by rw[Int.sub_emod,Int.emod_emod_of_dvd _ (Int.dvd_refl fp),←Int.sub_emod]
def fX (A B C G:Int):Int:=(B-A)%fp*((G-C)%fp)%fp
def fY (A B C G:Int):Int:=(G+C)%fp*((B+A)%fp)%fp
def fZ (A B C G:Int):Int:=(G-C)%fp*((G+C)%fp)%fp
def fT (A B C G:Int):Int:=(B-A)%fp*((B+A)%fp)%fp
def F4 (P Q:Q4):Q4:=
 (fX (smA P.1 P.2.1 Q.1 Q.2.1) (smB P.1 P.2.1 Q.1 Q.2.1) (smC mdD P.2.2.2 Q.2.2.2) (smG P.2.2.1 Q.2.2.1),
  fY (smA P.1 P.2.1 Q.1 Q.2.1) (smB P.1 P.2.1 Q.1 Q.2.1) (smC mdD P.2.2.2 Q.2.2.2) (smG P.2.2.1 Q.2.2.1),
  fZ (smA P.1 P.2.1 Q.1 Q.2.1) (smB P.1 P.2.1 Q.1 Q.2.1) (smC mdD P.2.2.2 Q.2.2.2) (smG P.2.2.1 Q.2.2.1),
  fT (smA P.1 P.2.1 Q.1 Q.2.1) (smB P.1 P.2.1 Q.1 Q.2.1) (smC mdD P.2.2.2 Q.2.2.2) (smG P.2.2.1 Q.2.2.1))
def scl (l:Int) (P:Q4):Q4:=(l*P.1%fp,l*P.2.1%fp,l*P.2.2.1%fp,l*P.2.2.2%fp)
theorem scA (l m X1 Y1 X2 Y2:Int):smA (l*X1%fp) (l*Y1%fp) (m*X2%fp) (m*Y2%fp)=l*m*smA X1 Y1 X2 Y2%fp:=by
 unfold smA;simp only[ml,mr,sl,sr_]
 congr 1;grind
theorem scB (l m X1 Y1 X2 Y2:Int):smB (l*X1%fp) (l*Y1%fp) (m*X2%fp) (m*Y2%fp)=l*m*smB X1 Y1 X2 Y2%fp:=by
 unfold smB;simp only[ml,mr,al,ar]
 congr 1;grind
theorem scC (l m D T1 T2:Int):smC D (l*T1%fp) (m*T2%fp)=l*m*smC D T1 T2%fp:=by
 unfold smC;simp only[ml,mr]
 congr 1;grind
theorem scG (l m Z1 Z2:Int):smG (l*Z1%fp) (m*Z2%fp)=l*m*smG Z1 Z2%fp:=by
 unfold smG;simp only[ml,mr,al,ar]
 congr 1;grind
theorem scFX (k A B C G:Int):fX (k*A%fp) (k*B%fp) (k*C%fp) (k*G%fp)=k*k*fX A B C G%fp:=by
 unfold fX;simp only[ml,mr,sl,sr_]
 congr 1;grind
theorem scFY (k A B C G:Int):fY (k*A%fp) (k*B%fp) (k*C%fp) (k*G%fp)=k*k*fY A B C G%fp:=by
 unfold fY;simp only[ml,mr,al,ar]
 congr 1;grind
theorem scFZ (k A B C G:Int):fZ (k*A%fp) (k*B%fp) (k*C%fp) (k*G%fp)=k*k*fZ A B C G%fp:=by
 unfold fZ;simp only[ml,mr,al,ar,sl,sr_]
 congr 1;grind
theorem scFT (k A B C G:Int):fT (k*A%fp) (k*B%fp) (k*C%fp) (k*G%fp)=k*k*fT A B C G%fp:=by
 unfold fT;simp only[ml,mr,al,ar,sl,sr_]
 congr 1;grind
theorem F4_scl (l m:Int) (P Q:Q4):F4 (scl l P) (scl m Q)=scl (l*m*(l*m)) (F4 P Q):=by
 obtain⟨x,y,z,t⟩:=P;obtain⟨x',y',z',t'⟩:=Q;simp only[F4,scl,scA,scB,scC,scG,scFX,scFY,scFZ,scFT]
theorem scl_scl (l m:Int) (P:Q4):scl l (scl m P)=scl (l*m) P:=by
 obtain⟨x,y,z,t⟩:=P;simp only[scl,mr,Int.mul_assoc]
def Rd (P:Q4):Prop:=(0≤P.1∧P.1<fp)∧(0≤P.2.1∧P.2.1<fp)∧(0≤P.2.2.1∧P.2.2.1<fp)∧(0≤P.2.2.2∧P.2.2.2<fp)
theorem scl_one {P:Q4} (h:Rd P):scl 1 P=P:=by
 obtain⟨x,y,z,t⟩:=P;obtain⟨h1,h2,h3,h4⟩:=h;simp only[scl,Int.one_mul];simp only at h1 h2 h3 h4;rw[Int.emod_eq_of_lt h1.1 h1.2,Int.emod_eq_of_lt h2.1 h2.2,Int.emod_eq_of_lt h3.1 h3.2,Int.emod_eq_of_lt h4.1 h4.2]
theorem md_rd (a:Int):0≤a%fp∧a%fp<fp:=⟨Int.emod_nonneg _ (by decide),Int.emod_lt_of_pos _ (by decide)⟩
theorem F4_rd (P Q:Q4):Rd (F4 P Q):=⟨md_rd _,md_rd _,md_rd _,md_rd _⟩
def idQ:Q4:=(0,1,1,0)
theorem idQ_dbl:F4 idQ idQ=scl 4 idQ:=by
 have h:smA 0 1 0 1=1∧smB 0 1 0 1=1∧smC mdD 0 0=0∧smG 1 1=2:=by
  refine⟨by decide,by decide,?_,by decide⟩;unfold smC;rw[Int.mul_zero];decide
 unfold idQ;simp only[F4,h.1,h.2.1,h.2.2.1,h.2.2.2];decide
def vbit (V:Int) (i:Nat):Bool:=V/2^i%2 == 1
def pS (V:Int) (P:Q4):Nat→Q4
 |0=>idQ
 |n+1=>bif vbit V (255-n) then F4 (F4 (pS V P n) (pS V P n)) P else F4 (pS V P n) (pS V P n)
def mS (V:Int) (P:Q4):Nat→Q4×Bool
 |0=>(idQ,false)
 |n+1=>
  let d:=bif (mS V P n).2 then F4 (mS V P n).1 (mS V P n).1 else(mS V P n).1
  bif vbit V (255-n) then(F4 d P,true) else(d,(mS V P n).2)
theorem same_S (V:Int) (P:Q4) (hP:Rd P) (n:Nat):(∃ k:Nat,pS V P n=scl (2^k) (mS V P n).1)∧((mS V P n).2=false→(mS V P n).1=idQ)∧Rd (mS V P n).1:=by
 induction n with
 |zero=>exact⟨⟨0,by show idQ=scl 1 idQ;decide⟩,fun _=>rfl,by show Rd idQ;unfold Rd idQ;decide⟩
 |succ n ih=>
  obtain⟨⟨k,hk⟩,hi,hr⟩:=ih;have hd:∃ j:Nat,F4 (pS V P n) (pS V P n)=scl (2^j) (bif (mS V P n).2 then F4 (mS V P n).1 (mS V P n).1 else(mS V P n).1):=by
   rw[hk,F4_scl];cases hb:(mS V P n).2 with
   |true=>exact⟨k+k+(k+k),by rw[cond_true,Int.pow_add,Int.pow_add]⟩
   |false=>
    rw[hi hb,idQ_dbl,scl_scl,cond_false];exact⟨k+k+(k+k)+2,by rw[Int.pow_add,Int.pow_add,Int.pow_add];rfl⟩
  obtain⟨j,hj⟩:=hd;have hrd:Rd (bif (mS V P n).2 then F4 (mS V P n).1 (mS V P n).1 else(mS V P n).1):=by
   cases (mS V P n).2 with
   |true=>exact F4_rd _ _
   |false=>exact hr
  cases hv:vbit V (255-n) with
  |true=>
   refine⟨⟨j+j,?_⟩,?_,?_⟩
   ·simp only[pS,mS,hv,cond_true];rw[hj];have e:=F4_scl (2^j) 1 (bif (mS V P n).2 then F4 (mS V P n).1 (mS V P n).1 else(mS V P n).1) P;rw[scl_one hP,Int.mul_one] at e;rw[e,Int.pow_add]
   ·simp only[mS,hv,cond_true];intro h;cases h
   ·simp only[mS,hv,cond_true];exact F4_rd _ _
  |false=>
   refine⟨⟨j,?_⟩,?_,?_⟩
   ·simp only[pS,mS,hv,cond_false];exact hj
   ·simp only[mS,hv,cond_false];intro h;rw[h];exact hi h
   ·simp only[mS,hv,cond_false];exact hrd
theorem pow_inv (n k:Nat) (X Z:Int) (h:(2:Int)^(n+1)%fp=1):(2^k*X%fp)*((2^k*Z%fp)^n%fp)%fp=X*(Z^n%fp)%fp:=by
 rw[ml,mr,mr,←mr,mpow,mr,Int.mul_pow];have e:(2:Int)^k*X*((2^k)^n*Z^n)=(2^(n+1))^k*(X*Z^n):=by
  have e1:(2:Int)^k*(2^k)^n=(2^(n+1))^k:=by
   rw[←Int.pow_mul,←Int.pow_add,←Int.pow_mul];congr 1;grind
  rw[←e1];grind
 rw[e,←ml,←mpow,h,Int.one_pow,show(1:Int)%fp=1 from by decide,Int.one_mul]
theorem cdV_scl (k:Nat) (X Y Z:Int):cdV (2^k*X%fp) (2^k*Y%fp) (2^k*Z%fp)=cdV X Y Z:=by
 have h:(2:Int)^(fpN-2+1)%fp=1:=by
  have:=fermatI 2 (by decide) (by decide)
  rwa [show fpN-2+1=fpN-1 from by decide +kernel]
 unfold cdV;rw[inv0_eq,inv0_eq,pow_inv _ k X Z h,pow_inv _ k Y Z h]
end Go.Proofs.YtncomnkdlpoelaaGreatDoor
namespace Go.Proofs.YtncomnkdlpoelaaGreatDoor
open Go.ChangeShapes Go.WideShapes Go.ChangeAt Go.RowKit
set_option linter.unusedVariables false
def ptQ (zs:List Int):Q4:=(mX zs mdD,mY zs,1%fp,mX zs mdD*mY zs%fp)
theorem mB_len2 {zs:List Int} (h:mB zs mdD=true):zs.length=32∧mY zs<fp:=by
 unfold mB at h;simp only[Bool.and_eq_true] at h;exact⟨by simpa using h.1.1.1,by simpa using h.1.1.2⟩
def bB:List Int:=[88,102,102,102,102,102,102,102,102,102,102,102,102,102,102,102,102,102,102,102,102,102,102,102,102,102,102,102,102,102,102,102]
theorem bB_len:bB.length=32:=rfl
theorem bB_val:val 256 bB=baseY:=by decide +kernel
theorem bB_byte:Byte bB:=by unfold Byte bB;decide
theorem bB_ok:mB bB mdD=true:=by decide +kernel
theorem bB_of {bs:List Int} (hb:Byte bs) (hl:bs.length=32) (hv:val 256 bs=baseY):bs=bB:=
 val_inj (B:=256) (by decide) hb bB_byte (by rw[hl,bB_len]) (by rw[hv,bB_val])
end Go.Proofs.YtncomnkdlpoelaaGreatDoor
namespace Go.Proofs.YtncomnkdlpoelaaGreatDoor
open Go.ChangeShapes Go.WideShapes Go.ChangeAt Go.RowKit
set_option linter.unusedVariables false
variable {w w':World} {g:Nat} {d u:List Int} {k:Int} {v:Value}
def NeG (g:Nat) (v:Value):Prop:=∀ t,v.ownBlock=some t→t≠g
def TapV (B:Nat) (w:World) (v:Value) (T:List Int) (n:Nat):Prop:=
 T.length=n*2∧((v=.slice none 0 0∧n=0)∨
  ∃ t o c,v=.slice (some ⟨t,o,none⟩) n c∧B≤t∧t<w.heap.size∧n≤c∧c≤9223372036854775807∧(∀ i,i<n*2→w.cell? ⟨t,o+i,none⟩=some (.int .i64 (T.getD i 0))∧w.frozen? ⟨t,o+i,none⟩=false)∧∃ cs,w.heap[t]?=some (.cells cs 70 (0,0))∧o+c*2≤cs.size)
theorem TapO.tapV {B:Nat} {T:List Int} {n:Nat} (h:TapO B w v T n):TapV B w v T n:=by
 have hT:T.length=n*2:=by simpa using h.1
 refine⟨hT,?_⟩;rcases h.2 with⟨h1,h2⟩|⟨t,c,cur,h1,h2,h3,h4,h5,h6,h7⟩
 ·exact .inl ⟨h1,h2⟩
 ·refine .inr ⟨t,0,c,h1,h2,(Array.getElem?_eq_some_iff.1 h3).1,h4,by unfold maxLen at h5;omega,fun i hi=>?_,cur,h3,by omega⟩;rw[Nat.zero_add];refine⟨?_,frozen_of_row _ _ _ _ _ h3⟩;subst h1;rw[World.ownsRow.cellAt h i hi];simp[show i<T.length by omega]
theorem TapV.block {B:Nat} {T:List Int} {n:Nat} (h:TapV B w v T n) (hs:w.heap.size≤w'.heap.size) (hb:∀ t,v.ownBlock=some t→t<w.heap.size→w'.heap[t]?=w.heap[t]?):TapV B w' v T n:=by
 obtain⟨h1,h2|⟨t,o,c,e,hB,ht,hc,hm,hx,cs,hcs,hsz⟩⟩:=h
 ·exact⟨h1,.inl h2⟩
 ·have hk:=hb t (by rw[e];rfl) ht;refine⟨h1,.inr ⟨t,o,c,e,hB,by omega,hc,hm,fun i hi=>?_,cs,by rw[hk];exact hcs,hsz⟩⟩;rw[World.cell?_of_block (a:=⟨t,o+i,none⟩) (w:=w) hk,World.frozen?_of_block (a:=⟨t,o+i,none⟩) (w:=w) hk];exact hx i hi
theorem TapV.drop {B t o c:Nat} {T:List Int} {n:Nat} (h:TapV B w (.slice (some ⟨t,o,none⟩) n c) T n) (m:Nat) (hm:m≤n):TapV B w (ackV t o n c m) (T.drop (m*2)) (n-m):=by
 obtain⟨h1,⟨h2,_⟩|⟨t',o',c',e,hB,ht,hc,hx,hy,cs,hcs,hsz⟩⟩:=h
 ·cases h2
 ·cases e;refine⟨by rw[List.length_drop];omega,.inr ?_⟩;unfold ackV;by_cases he:c=m
  ·rw[if_pos he];exact⟨t,o,c-m,rfl,hB,ht,by omega,by omega,fun i hi=>by omega,cs,hcs,by omega⟩
  ·rw[if_neg he];refine⟨t,o+m*2,c-m,rfl,hB,ht,by omega,by omega,fun i hi=>?_,cs,hcs,by omega⟩;have:=hy (m*2+i) (by omega);rw[←Nat.add_assoc] at this;rw[show(T.drop (m*2)).getD i 0=T.getD (m*2+i) 0 by simp[List.getD]];exact this
def ApP (H B g:Nat) (w:World) (ok:Bool) (D U:Nat→Prop) (k:Int) (T:List Int) (n:Nat) (e:Ending) (w':World):Prop:=
 e=.returned (.bool ok)∧Below H w w'∧(ok=true→∃ d u v,Bk w' g d u k v∧SetB d D∧SetB u U∧TapV B w' v T n∧NeG g v)
def ackM (k a:Int):Nat:=(max a k-k).toNat
theorem bk_ack {B H:Nat} {T:List Int} {n m q:Nat} {v':Value} {k':Int} (hb:Bk w g d u k v) (hH:H≤g) (hgB:NeG g v') (hv:TapV B w v' T n) :
  Bk (((w.setCell ⟨g,65,none⟩ v').drewN q).setCell ⟨g,64,none⟩ (.int .i64 k')) g d u k' v'∧Below H w (((w.setCell ⟨g,65,none⟩ v').drewN q).setCell ⟨g,64,none⟩ (.int .i64 k'))∧
   TapV B (((w.setCell ⟨g,65,none⟩ v').drewN q).setCell ⟨g,64,none⟩ (.int .i64 k')) v' T n:=by
 have hw:Wr g w (((w.setCell ⟨g,65,none⟩ v').drewN q).setCell ⟨g,64,none⟩ (.int .i64 k')):=(((Wr.refl _ _).setCell _ _).drewN _).setCell _ _;refine⟨((hb.setV v').drew q).setK k',hw.below hH,hv.block (by rw[hw.size];exact Nat.le_refl _) (fun t ht _=>hw.block t (hgB t ht))⟩
end Go.Proofs.YtncomnkdlpoelaaGreatDoor
namespace Go.Proofs.YtncomnkdlpoelaaGreatDoor
open Go.ChangeShapes Go.WideShapes Go.ChangeAt Go.RowKit
set_option linter.unusedVariables false
variable {w w':World} {g:Nat} {d u:List Int} {k:Int} {v:Value} {D U:Nat→Prop} {T:List Int} {n H B:Nat}
theorem ack_any (m:Nat) (hb:Bk w g d u k v) (hv:TapV B w v T n) (h0:0≤k) (h1:k≤1048576) (hm:m≤n) (hn:n≤1048576) (hH:H≤g) (hgB:NeG g v) :
  Calls Tryz.prog 79 #[.pointer (some ⟨g,0,none⟩),.int .i64 (k+m)] w fun e w'=>e=.returned (.tuple #[])∧Below H w w'∧∃ v',Bk w' g d u (k+m) v'∧TapV B w' v' (T.drop (m*2)) (n-m)∧NeG g v':=by
 have hv0:=hv;obtain⟨hl,⟨rfl,hn0⟩|⟨t,o,c,rfl,hB,ht,hc,hx,hy⟩⟩:=hv
 ·have hm0:m=0:=by omega
  subst hm0;rw[show k+((0:Nat):Int)=k by omega];refine(ackN_any hb h0 h1).mono ?_;rintro e w1 ⟨rfl,q,rfl⟩;obtain⟨r1,r2,r3⟩:=bk_ack (q:=q) (k':=k) (m:=0) hb hH hgB hv0;exact⟨rfl,r2,_,r1,by simpa using r3,hgB⟩
 ·refine(ackS_any t o n c m hb h0 h1 hm hc hn hx).mono ?_;rintro e w1 ⟨rfl,q,rfl⟩;have hne:NeG g (ackV t o n c m):=fun x hx=>hgB x (by unfold ackV at hx;split at hx<;>exact hx)
  obtain⟨r1,r2,r3⟩:=bk_ack (q:=q) (k':=k+m) (m:=m) hb hH hne (hv0.drop m hm);exact⟨rfl,r2,_,r1,r3,hne⟩
theorem TapV.slice (h:TapV B w v T n):∃ a c,v=.slice a n c:=by
 obtain⟨hl,⟨h1,h2⟩|⟨t,o,c,h1,_⟩⟩:=h
 ·exact⟨none,0,by rw[h1,h2]⟩
 ·exact⟨_,c,h1⟩
theorem TapV.drew (h:TapV B w v T n) (q:Nat):TapV B (w.drewN q) v T n:=h.block (Nat.le_refl _) (fun t _ _=>rfl)
end Go.Proofs.YtncomnkdlpoelaaGreatDoor
namespace Go.Proofs.YtncomnkdlpoelaaGreatDoor
open Go.ChangeShapes Go.WideShapes Go.ChangeAt Go.RowKit
set_option linter.unusedVariables false
variable {w w':World} {g:Nat} {d u:List Int} {k:Int} {v:Value} {D U:Nat→Prop} {T:List Int} {n H B:Nat}
theorem ser_yes {s:Nat} (h:s<256):serOk (s:Int)=true:=decide_eq_true ⟨by omega,by omega⟩
theorem ser_no {s:Nat} (h:¬ s<256):serOk (s:Int)=false:=decide_eq_false (fun h'=>h (by omega))
theorem hasYes_any {o:Nat} (s:Nat) (hb:BAt w g o d) (hd:SetB d D) (hin:s<256∧D s):Calls Tryz.prog 71 #[.pointer (some ⟨g,o,none⟩),.int .i64 s] w fun e w'=>e=.returned (.bool true)∧w'=w:=
 hasS_any g o s d D true w hb hd (by
  rw[Int.toNat_natCast];exact⟨fun _=>⟨by omega,by omega,hin.2⟩,fun h=>rfl⟩)
theorem hasNo_any {o:Nat} (s:Nat) (hb:BAt w g o d) (hd:SetB d D) (hin:¬ (s<256∧D s)):Calls Tryz.prog 71 #[.pointer (some ⟨g,o,none⟩),.int .i64 s] w fun e w'=>e=.returned (.bool false)∧w'=w:=
 hasS_any g o s d D false w hb hd (by
  rw[Int.toNat_natCast];exact⟨fun h=>(by cases h),fun h=>absurd ⟨by omega,h.2.2⟩ hin⟩)
theorem TapV.wr (h:TapV B w v T n) (hw:Wr g w w') (hg:NeG g v):TapV B w' v T n:=h.block (by rw[hw.size];exact Nat.le_refl _) (fun t ht _=>hw.block t (hg t ht))
end Go.Proofs.YtncomnkdlpoelaaGreatDoor
namespace Go.Proofs.YtncomnkdlpoelaaGreatDoor
open Go.ChangeShapes Go.WideShapes Go.ChangeAt Go.RowKit
set_option linter.unusedVariables false
variable {w w':World} {g:Nat} {d u:List Int} {k:Int} {v:Value} {D U:Nat→Prop} {T:List Int} {n H B:Nat}
theorem TapO.ownBlock (h:TapO B w v T n):∀ k,v.ownBlock=some k→B≤k:=fun k hk=>by
 rcases h.2 with⟨h',_⟩|⟨g,c,cur,h',hb,_⟩
 ·rw[h'] at hk;simp[Value.ownBlock] at hk
 ·rw[h'] at hk;simp[Value.ownBlock] at hk;omega
theorem TapO.wrg (h:TapO B w v T n) (hne:NeG g v) (hw:Wr g w w'):TapO B w' v T n:=by
 refine⟨h.1,?_⟩;rcases h.2 with h'|⟨t,c,cur,h1,h2,h3,h4⟩
 ·exact .inl h'
 ·exact .inr ⟨t,c,cur,h1,h2,by rw[hw.block t (hne t (by rw[h1];rfl))];exact h3,h4⟩
theorem TapO.alloc (h:TapO B w v T n) (o:Obj):TapO B (w.alloc o) v T n:=World.ownsRow.alloc h _
theorem wpList_appT0 (w:World) {ops:Array Oper} {rest:List Oper} {o:Oper} {a:Act} {Q:Exit→Act→World→Prop} (hg:o.guard=none) (sx x:Operand)
  (hop:o.op=Op.call { callee:=Callee.builtin Builtin.append,args:=#[sx,x],argTypes:=#[24,24] }) (B:Nat) (v:Value) (T:List Int) (n:Nat) (hs:a.eval sx=v) (hown:TapO B w v T n)
  (wb:World) (s nw:Int) (hw:w=wb.alloc (.cells #[.int .i64 s,.int .i64 nw] 70)) (hx:a.eval x=.slice (some ⟨wb.heap.size,0,none⟩) 1 1) (hm:n≤1048576) (hB:B≤w.heap.size)
  (hK:∀ v' w',TapO B w' v' (T++[s,nw]) (n+1)→v'.oneCell'=true→Below B w w'→w.grownBy w' v.ownBlock→(v'.ownBlock=v.ownBlock∨v'.ownBlock=some w.heap.size)→wpList Tryz.prog ops Q rest (a.put o.dst v') w') :
  wpList Tryz.prog ops Q (o::rest) a w:=by
 obtain⟨i0,hi,hz0,hz1,hz2⟩:=info_parts Tryz.infoTap;refine wpList_append_own_at w hg sx x 24 hop B 70 i0 (.agg #[.int .i64 0,.int .i64 0]) 2 16 Tryz.underlying24 hi hz0 hz1 hz2 rfl (by decide) v n _ hs hown ⟨wb.heap.size,0,none⟩ 1 1 [.int .i64 s,.int .i64 nw] hx rfl ?_ (by simp[Value.oneCell']) (by unfold maxLen;omega) (by omega) hB ?_
 ·intro j z hz;have hj:j<2:=by have:=(List.getElem?_eq_some_iff.1 hz).1;simpa using this
  rw[Addr.add_lit,hw,cell_of_row _ _ _ _ _ _ (heap_alloc_new wb _),Nat.zero_add];have:j=0∨j=1:=by omega
  rcases this with rfl|rfl<;>simpa using hz
 intro v' w' h1 h2 _ h5;refine hK v' w' ?_ ?_ ((Below.refl _ _).grown h2 hB hown.ownBlock) h2 h5
 ·unfold TapO;rw[List.map_append];exact h1
 ·rcases h1.2 with⟨h,_⟩|⟨g,c,cur,h,_⟩
  ·rw[h];rfl
  ·rw[h];rfl
theorem TapV.alloc (h:TapV B w v T n) (o:Obj):TapV B (w.alloc o) v T n:=h.block (by simp) (fun t _ ht=>heap_alloc_old w o ht)
theorem TapV.ownBlock (h:TapV B w v T n):∀ k,v.ownBlock=some k→B≤k:=fun k hk=>by
 obtain⟨_,⟨h',_⟩|⟨t,o,c,h',hb,_⟩⟩:=h
 ·rw[h'] at hk;simp[Value.ownBlock] at hk
 ·rw[h'] at hk;simp[Value.ownBlock] at hk;omega
theorem heap_setC {w:World} {t o:Nat} {cs:Array Value} {T:TypeId} {fr:Nat×Nat} (h:w.heap[t]?=some (.cells cs T fr)) (v:Value):(w.setCell ⟨t,o,none⟩ v).heap[t]?=some (.cells (cs.setIfInBounds o v) T fr):=by
 simp[World.setCell,Array.getElem?_modify,h]
theorem run_appT (w:World) (ty:TypeId) (B:Nat) (v:Value) (T:List Int) (n:Nat) (hown:TapV B w v T n) (wb:World) (s nw:Int) (hw:w=wb.alloc (.cells #[.int .i64 s,.int .i64 nw] 70)) (hm:n≤1048576) (hB:B≤w.heap.size) :
  ∃ v' w',(Builtin.append_ #[24,24] ty #[v,.slice (some ⟨wb.heap.size,0,none⟩) 1 1]).run Tryz.prog w=.ok v' w'∧TapV B w' v' (T++[s,nw]) (n+1)∧w.grownBy w' v.ownBlock∧(v'.ownBlock=v.ownBlock∨v'.ownBlock=some w.heap.size):=by
 obtain⟨i0,hi,hz0,hz1,hz2⟩:=info_parts Tryz.infoTap;have hnews:∀ j u,[Value.int .i64 s,.int .i64 nw][j]?=some u→w.cell? ((⟨wb.heap.size,0,none⟩:Addr).add j)=some u:=by
  intro j z hz;have hj:j<2:=by have:=(List.getElem?_eq_some_iff.1 hz).1;simpa using this
  rw[Addr.add_lit,hw,cell_of_row _ _ _ _ _ _ (heap_alloc_new wb _),Nat.zero_add];have:j=0∨j=1:=by omega
  rcases this with rfl|rfl<;>simpa using hz
 obtain⟨hl,⟨rfl,rfl⟩|⟨t,o,c,rfl,hB0,ht,hc,hmx,hx,cs,hcs,hsz⟩⟩:=hown
 ·have hT:=List.eq_nil_of_length_eq_zero (by omega);subst hT;obtain⟨v',w',h1,h2,h3,_,h5⟩:=run_append_own_at (P:=Tryz.prog) w B 24 ty 70 i0 (.agg #[.int .i64 0,.int .i64 0]) 2 16 Tryz.underlying24 hi hz0 hz1 hz2 rfl (by decide) (.slice none 0 0) 0 [] ⟨rfl,.inl ⟨rfl,rfl⟩⟩ ⟨wb.heap.size,0,none⟩ 1 1 [.int .i64 s,.int .i64 nw] rfl hnews (by simp[Value.oneCell']) (by decide) (by decide) hB;exact⟨v',w',h1,TapO.tapV (T:=[]++[s,nw]) h2,h3,h5⟩
 ·have hsrc:Src Tryz.prog i0.size 24 (.slice (some ⟨wb.heap.size,0,none⟩) 1 1) 1 [.int .i64 s,.int .i64 nw] w:=
   Src.ofSlice w Tryz.underlying24 ⟨wb.heap.size,0,none⟩ 1 1 _ (by rw[hz1];rfl) hnews (by simp[Value.oneCell'])
  have hTl:=hl;by_cases hr:n+1≤c
  ·have hcell:∀ j,w.cell? ⟨t,j,none⟩=cs[j]?:=fun j=>cell_of_row w t j cs _ _ hcs
   have h1:=run_append_room_src (P:=Tryz.prog) w 24 24 ty 70 i0 Tryz.underlying24 hi t o n c _ 1 [.int .i64 s,.int .i64 nw] hsrc hr
    (fun j hj=>by have hj':j<2:=hj;rw[hcell,hz1,Array.getElem?_eq_getElem (by omega)];rfl) (fun j _=>frozen_of_row w t _ cs _ hcs)
   have e1:w.setCells t (o+n*i0.size) [.int .i64 s,.int .i64 nw]=(w.setCell ⟨t,o+n*2,none⟩ (.int .i64 s)).setCell ⟨t,o+n*2+1,none⟩ (.int .i64 nw):=by rw[hz1];rfl
   rw[e1] at h1;have hc2:((w.setCell ⟨t,o+n*2,none⟩ (.int .i64 s)).setCell ⟨t,o+n*2+1,none⟩ (.int .i64 nw)).heap[t]?=some (.cells ((cs.setIfInBounds (o+n*2) (.int .i64 s)).setIfInBounds (o+n*2+1) (.int .i64 nw)) 70 (0,0)):=heap_setC (heap_setC hcs _) _;have hsz2:((w.setCell ⟨t,o+n*2,none⟩ (.int .i64 s)).setCell ⟨t,o+n*2+1,none⟩ (.int .i64 nw)).heap.size=w.heap.size:=by simp[World.setCell]
   refine⟨_,_,h1,⟨by rw[List.length_append,hTl];simp;omega,.inr ⟨t,o,c,rfl,hB0,by rw[hsz2];exact ht,hr,hmx,fun i hi'=>⟨?_,frozen_of_row _ t _ _ _ hc2⟩,_,hc2,by simpa using hsz⟩⟩,⟨rfl,rfl,rfl,by rw[hsz2];exact Nat.le_refl _,fun k hk hne=>?_⟩,.inl rfl⟩
   ·rw[cell_of_row _ t _ _ _ _ hc2];have hb:o+n*2+1<cs.size:=by omega
    by_cases h1:i<n*2
    ·have hq:=(hx i h1).1;rw[hcell] at hq;rw[Array.getElem?_setIfInBounds_ne (by omega),Array.getElem?_setIfInBounds_ne (by omega),hq];simp[List.getD,List.getElem?_append_left (show i<T.length by omega)]
    ·by_cases h2:i=n*2
     ·subst h2;rw[Array.getElem?_setIfInBounds_ne (by omega),Array.getElem?_setIfInBounds_self_of_lt (by omega)];simp[List.getD,hTl]
     ·obtain rfl:i=n*2+1:=by omega
      rw[←Nat.add_assoc,Array.getElem?_setIfInBounds_self_of_lt (by simp;omega)];simp[List.getD,hTl]
   ·have hkt:k≠t:=fun e=>hne (by simp[Value.ownBlock,e])
    rw[heap_setCell_other _ _ _ _ (by show k≠t;exact hkt),heap_setCell_other _ _ _ _ (by show k≠t;exact hkt)]
  ·obtain rfl:c=n:=by omega
   have hcell:∀ j,w.cell? ⟨t,j,none⟩=cs[j]?:=fun j=>cell_of_row w t j cs _ _ hcs
   have hold:=run_firstCells_some (P:=Tryz.prog) w.drew i0.size c ⟨t,o,none⟩ c c (T.map (Value.int .i64)) (by rw[hz1];simpa using hTl) (fun j u hu=>by
    have hj:j<T.length:=by have:=(List.getElem?_eq_some_iff.1 hu).1;simpa using this
    rw[Addr.add_lit];have:=(hx j (by omega)).1;rw[show w.drew.cell? ⟨t,o+j,none⟩=w.cell? ⟨t,o+j,none⟩ from rfl,this];simp[hj] at hu ⊢;exact hu)
   have hcap:=nextslicecap_le (need:=c+1) (old:=c) (by omega);have h1:=run_append_grow_src (P:=Tryz.prog) w 24 24 ty 70 i0 (.agg #[.int .i64 0,.int .i64 0]) Tryz.underlying24 hi hz0 (some ⟨t,o,none⟩) c c (T.map (Value.int .i64)) hold _ 1 [.int .i64 s,.int .i64 nw] hsrc (by omega) (by omega) (by rw[hz2];omega);have hlen:(T.map (Value.int .i64)++[Value.int .i64 s,Value.int .i64 nw]).length=(c+1)*2:=by rw[List.length_append,List.length_map,hTl];simp;omega
   have hge:=grownCap_ge w (c+1) c 70;have hle:=grownCap_le_maxLen w (c+1) c 70 (by unfold maxLen;omega);refine⟨_,_,h1,TapO.tapV (T:=T++[s,nw]) ⟨by simp[hTl];omega,.inr ⟨_,_,_,rfl,hB,heap_alloc_new w.drew _,hge,hle,?_,?_⟩⟩,⟨rfl,rfl,rfl,by simp,fun k hk _=>heap_alloc_old w.drew _ hk⟩,.inr rfl⟩
   ·rw[Array.size_append,size_zeroCells,List.size_toArray,hlen,show(Value.agg #[Value.int .i64 0,.int .i64 0]).cells.size=2 from rfl];omega
   ·rw[Array.toList_append,List.map_append,List.take_append_of_le_length (by rw[hlen];exact Nat.le_refl _),List.take_of_length_le (by rw[hlen];exact Nat.le_refl _)];rfl
theorem wpList_appT1 (w:World) {ops:Array Oper} {rest:List Oper} {o:Oper} {a:Act} {Q:Exit→Act→World→Prop} (hg:o.guard=none) (sx x:Operand)
  (hop:o.op=Op.call { callee:=Callee.builtin Builtin.append,args:=#[sx,x],argTypes:=#[24,24] }) (B:Nat) (v:Value) (T:List Int) (n:Nat) (hs:a.eval sx=v) (hown:TapV B w v T n)
  (wb:World) (s nw:Int) (hw:w=wb.alloc (.cells #[.int .i64 s,.int .i64 nw] 70)) (hx:a.eval x=.slice (some ⟨wb.heap.size,0,none⟩) 1 1) (hm:n≤1048576) (hB:B≤w.heap.size)
  (hK:∀ v' w',TapV B w' v' (T++[s,nw]) (n+1)→v'.oneCell'=true→Below B w w'→w.grownBy w' v.ownBlock→(v'.ownBlock=v.ownBlock∨v'.ownBlock=some w.heap.size)→wpList Tryz.prog ops Q rest (a.put o.dst v') w') :
  wpList Tryz.prog ops Q (o::rest) a w:=by
 obtain⟨v',w',hr,h1,h2,h5⟩:=run_appT w o.type B v T n hown wb s nw hw hm hB;obtain⟨a',c',e'⟩:=h1.slice;have hk:=hK v' w' h1 (by rw[e'];rfl) ((Below.refl _ _).grown h2 hB hown.ownBlock) h2 h5;refine wpList_plain hg fun K hK'=>?_
 unfold Oper.wp execOp;simp only[hop,resolve,invoke,builtin,Sem.run_bind,Sem.run_pure,Result.andThen_ok,List.map_toArray,List.map_cons,List.map_nil,hs,hx,hr];exact hK' _ _ hk
set_option maxRecDepth 100000 in
set_option maxHeartbeats 1000000 in
theorem admit_any (s:Nat) (nw:Int) (hs:s<256) (hb:Bk w g d u k v) (hd:SetB d D) (hu:SetB u U) (hv:TapV B w v T n) (hn:n≤1048576) (hH:H≤g) (hHB:H≤B) (hgB:NeG g v) (hBw:B≤w.heap.size) :
  Calls Tryz.prog 76 #[.pointer (some ⟨g,0,none⟩),.int .i64 s,.int .i64 nw] w fun e w'=>e=.returned (.tuple #[])∧Below H w w'∧∃ u' v',Bk w' g d u' k v'∧SetB u' (fun x=>U x∨x=s)∧TapV B w' v' (T++[(s:Int),nw]) (n+1)∧NeG g v':=by
 have HB:Hid (Bk w g d u k v):=hb;have HN:∀ q,Hid (Bk ((w.setCell ⟨g,32+s/8,none⟩ (.int .u8 ((addB u s).getD (s/8) 0))).drewN q) g d (addB u s) k v∧TapV B ((w.setCell ⟨g,32+s/8,none⟩ (.int .u8 ((addB u s).getD (s/8) 0))).drewN q) v T n∧Below H w ((w.setCell ⟨g,32+s/8,none⟩ (.int .u8 ((addB u s).getD (s/8) 0))).drewN q)∧B≤((w.setCell ⟨g,32+s/8,none⟩ (.int .u8 ((addB u s).getD (s/8) 0))).drewN q).heap.size):=fun q=>by
  have hw:Wr g w ((w.setCell ⟨g,32+s/8,none⟩ (.int .u8 ((addB u s).getD (s/8) 0))).drewN q):=((Wr.refl _ _).setCell _ _).drewN _;exact⟨(hb.addU s hs).drew q,hv.wr hw hgB,hw.below hH,by rw[hw.size];exact hBw⟩
 have HU:Hid (SetB (addB u s) (fun x=>U x∨x=s)):=hu.add s hs;clear hb hd hu hv hBw;go_enter Tryz.func76,Tryz.ntmps76;go_wp2_with fail;refine(addS_any g 32 s u _ hs HB.out.batu).mono ?_;rintro e w4 ⟨rfl,q,rfl⟩;have H2:=HN q;clear HN HB;generalize (w.setCell ⟨g,32+s/8,none⟩ (.int .u8 ((addB u s).getD (s/8) 0))).drewN q=w4 at *;have c1:=H2.out.1.cv;have HA:Hid (TapV B (w4.alloc (.cells #[.int .i64 (s:Int),.int .i64 nw] 70)) v T n):=H2.out.2.1.alloc _;have HBW:Hid (B≤(w4.alloc (.cells #[.int .i64 (s:Int),.int .i64 nw] 70)).heap.size):=by
  show _≤_
  have:=H2.out.2.2.2;simp;omega
 go_wp2_with (first
  |(refine wpList_appT1 _ rfl (.tmp 15) (.tmp 19) rfl B v T n rfl HA.out w4 s nw rfl rfl hn HBW.out ?_)
  |fail)
 intro v' w5 h1 ho h2 hgr how;obtain⟨a',c',rfl⟩:=h1.slice;have hg4:=H2.out.1.lt;have hb4:Bk (w4.alloc (.cells #[.int .i64 (s:Int),.int .i64 nw] 70)) g d (addB u s) k v:=H2.out.1.below ((Below.refl _ _).alloc (Nat.le_refl _) _) hg4;have hb5:Bk w5 g d (addB u s) k v:=⟨by rw[hgr.block g hb4.lt (fun e=>hgB g e.symm rfl)];exact hb4.row,hb4.ld,hb4.lu,hb4.bd,hb4.bu⟩
 have hne5:NeG g (.slice a' (n+1:Nat) c'):=fun x hx=>by
  rcases how with e|e
  ·exact hgB x (e ▸ hx)
  ·rw[e] at hx;have hx':=Option.some.inj hx;have:=World.size_alloc w4 (.cells #[.int .i64 (s:Int),.int .i64 nw] 70);omega
 have f1:=hb5.fz 65;have c5:=hb5.cv;have HF:Hid (Below H w (w5.setCell ⟨g,65,none⟩ (.slice a' (n+1:Nat) c'))∧∃ u' v'',Bk (w5.setCell ⟨g,65,none⟩ (.slice a' (n+1:Nat) c')) g d u' k v''∧SetB u' (fun x=>U x∨x=s)∧TapV B (w5.setCell ⟨g,65,none⟩ (.slice a' (n+1:Nat) c')) v'' (T++[(s:Int),nw]) (n+1)∧NeG g v''):=by
  have hw:Wr g w5 (w5.setCell ⟨g,65,none⟩ (.slice a' (n+1:Nat) c')):=(Wr.refl _ _).setCell _ _;refine⟨?_,addB u s,_,hb5.setV _,HU.out,h1.wr hw hne5,hne5⟩;have b1:Below H w4 (w4.alloc (.cells #[.int .i64 (s:Int),.int .i64 nw] 70)):=(Below.refl _ _).alloc (by have:=H2.out.1.lt;omega) _;exact((H2.out.2.2.1.trans b1).trans (h2.mono (by omega))).trans (hw.below hH)
 clear h1 h2 hb4 hb5 hne5 hgr how HA HBW H2 HU c1;go_wp2
 go_end0
 exact⟨rfl,HF.out⟩
end Go.Proofs.YtncomnkdlpoelaaGreatDoor
namespace Go.Proofs.YtncomnkdlpoelaaGreatDoor
open Go.ChangeShapes Go.WideShapes Go.ChangeAt Go.RowKit
set_option linter.unusedVariables false
structure ApR where
 ok:Bool
 D:List Int
 U:List Int
 k:Int
 T:List Int
 n:Nat
def apNo:ApR:=⟨false,[],[],0,[],0⟩
open Classical in
noncomputable def withS (xs:List Int) (a:Nat):List Int:=upTo (fun v=>decide ((v:Int)∈xs∨v=a)) 256
def lessS (xs:List Int) (a:Nat):List Int:=xs.filter (fun z=>z != (a:Int))
open Classical in
noncomputable def apR (D U:List Int) (k:Int) (T:List Int) (n:Nat) (kind:Int) (a b:Nat):ApR:=
 if kind=1 then(if a<256∧¬ (a:Int)∈U∧¬ (a:Int)∈D then ⟨true,D,withS U a,k,T++[(a:Int),(b:Int)],n+1⟩ else apNo)
 else if kind=2 then(if b=1∧a<256∧¬ (a:Int)∈D∧¬ D.length=16 then ⟨true,withS D a,U,k,T,n⟩ else if b=0∧a<256∧(a:Int)∈D then ⟨true,lessS D a,U,k,T,n⟩ else apNo)
 else if kind=3 then(if b=0∧(a:Int)≤k+n then ⟨true,D,U,max a k,T.drop (ackM k a*2),n-ackM k a⟩ else apNo)
 else apNo
theorem withS_mem {xs:List Int} {a v:Nat} (h:v<256):((v:Int)∈xs∨v=a)↔(v:Int)∈withS xs a:=by
 unfold withS;rw[upTo_mem];constructor
 ·intro hv;exact⟨v,h,decide_eq_true hv,rfl⟩
 ·rintro⟨v',h1,h2,h3⟩;have:v=v':=by omega
  subst this;exact of_decide_eq_true h2
theorem lessS_mem {xs:List Int} {a v:Nat}:((v:Int)∈xs∧v≠a)↔(v:Int)∈lessS xs a:=by
 unfold lessS;rw[List.mem_filter];constructor
 ·rintro⟨h1,h2⟩;exact⟨h1,by rw[bne_iff_ne];omega⟩
 ·rintro⟨h1,h2⟩;exact⟨h1,by rw[bne_iff_ne] at h2;omega⟩
def apPost (H B g:Nat) (w:World) (r:ApR):Ending→World→Prop:=ApP H B g w r.ok (fun v=>(v:Int)∈r.D) (fun v=>(v:Int)∈r.U) r.k r.T r.n
theorem ApP.to {H B g:Nat} {w w1:World} {D D' U U':Nat→Prop} {k:Int} {T:List Int} {n:Nat} {ok:Bool} {e:Ending} {w':World} (h:ApP H B g w ok D U k T n e w') (hb:Below H w1 w) (hD:∀ v,v<256→(D v↔D' v)) (hU:∀ v,v<256→(U v↔U' v)):ApP H B g w1 ok D' U' k T n e w':=by
 obtain⟨h1,h2,h3⟩:=h;refine⟨h1,hb.trans h2,fun ho=>?_⟩;obtain⟨d,u,v,r1,r2,r3,r4,r5⟩:=h3 ho;exact⟨d,u,v,r1,r2.congr hD,r3.congr hU,r4,r5⟩
open Classical in
set_option maxRecDepth 100000 in
set_option maxHeartbeats 1000000 in
theorem with_any (ad:Option Addr) (n cap:Nat) (xs:List Int) (a:Nat) (w:World) (hn:xs.length=n) (hm:n≤1048576) (ha:At .i64 w ad xs) :
  Calls Tryz.prog 32 #[.slice ad n cap,.int .i64 a] w fun e w'=>∃ v,e=.returned v∧IO w.heap.size w' v (withS xs a)∧Below w.heap.size w w':=by
 have HW:Hid (withS xs a=upTo (fun v=>decide ((v:Int)∈xs∨v=a)) 256):=rfl;have HPD:Hid (∀ v:Nat,(fun v:Nat=>decide ((v:Int)∈xs∨v=a)) v=true↔((v:Int)∈xs∨v=a)):=fun v=>by simp
 generalize (fun v:Nat=>decide ((v:Int)∈xs∨v=a))=P at HW HPD;have HA:=hdI <| ha
 have HNX:=hdI <| hn
 have H0:Hid (LIS w P 0 (.slice (some ⟨w.heap.size,0,none⟩) 0 0) (w.alloc (.cells #[] 2))):=
  ⟨⟨by simp[upTo],.inr ⟨w.heap.size,0,#[],rfl,Nat.le_refl _,heap_alloc_new w _,Nat.le_refl _,by simp[maxLen],rfl,rfl⟩⟩,(Below.refl _ _).alloc (Nat.le_refl _) _⟩
 clear ha hn;go_enter Tryz.func32,Tryz.ntmps32;go_wp2_with fail
 go_loopw [5,6] (fun l i wr=>∃(k:Nat) (v:Value),k≤256∧i=.int .i64 k∧v=l∧LIS w P k v wr) (fun _ i _=>256-(intOf i).toNat)
 case atStart=>exact⟨0,_,by omega,rfl,rfl,H0.out⟩
 case round=>
  clear H0;obtain⟨k,l,hk,rfl,rfl,hst⟩:=hrel;by_cases hlt:k<256
  ·have hlt':(k:Int)<256:=by omega
   have HST:Hid (LIS w P k l wr):=hst;clear hst;by_cases hp:P k=true
   ·have HN:Hid (upTo P (k+1)=upTo P k++[(k:Int)]):=by show _=_;rw[upTo_succ,if_pos hp]
    have HL:Hid ((upTo P k).length≤1048576):=Nat.le_trans (upTo_len P k) (by omega);have HO:Hid (IO w.heap.size (wr.alloc (.cells #[.int .i64 (k:Int)] 2)) l (upTo P k)):=HST.out.own.alloc _;have HZ:Hid (w.heap.size≤(wr.alloc (.cells #[.int .i64 (k:Int)] 2)).heap.size):=by
     show _≤_
     have:=HST.out.below.size;simp;omega
    have HD:Hid ((k:Int)∈xs∨k=a):=(HPD.out k).1 hp;clear hp;by_cases hka:k=a
    ·subst hka;go_wp2_with (first
      |(refine wpList_app1 _ rfl (.tmp 20) (.tmp 22) rfl w.heap.size _ (upTo P k) rfl HO.out wr k rfl rfl HL.out HZ.out ?_)
      |fail)
     intro v' w3 h1 h2;have HF:Hid (LIS w P (k+1) v' w3):=⟨by rw[HN.out];exact h1,(HST.out.below.alloc HST.out.below.size _).trans h2⟩
     clear h1 h2 HO HZ HL;go_wp2;go_roundw
     case rel=>exact⟨k+1,_,by omega,by go_num,rfl,HF.out⟩
     case measure=>simp[intOf];omega
    ·have hka':¬ ((k:Int)=(a:Int)):=by omega
     have HM:Hid (memB (k:Int) xs=true):=memB_yes (HD.out.resolve_right hka);clear hka;go_wp2_with fail;refine(holds_any ad n cap xs k _ HNX.out hm (HA.out.below HST.out.below)).mono ?_;rintro e w2 ⟨rfl,rfl⟩;rw[HM.out];go_wp2_with (first
      |(refine wpList_app1 _ rfl (.tmp 20) (.tmp 22) rfl w.heap.size _ (upTo P k) rfl HO.out _ k rfl rfl HL.out HZ.out ?_)
      |fail)
     intro v' w3 h1 h2;have HF:Hid (LIS w P (k+1) v' w3):=⟨by rw[HN.out];exact h1,(HST.out.below.alloc HST.out.below.size _).trans h2⟩
     clear h1 h2 HO HZ HL;go_wp2;go_roundw
     case rel=>exact⟨k+1,_,by omega,by go_num,rfl,HF.out⟩
     case measure=>simp[intOf];omega
   ·have HF:Hid (LIS w P (k+1) l wr):=⟨by rw[upTo_succ,if_neg hp];exact HST.out.own,HST.out.below⟩
    have hka':¬ ((k:Int)=(a:Int)):=fun h=>hp ((HPD.out k).2 (.inr (by omega)))
    have HM:=hdI <| memB_no (fun h=>hp ((HPD.out k).2 (.inl h)))
    clear hp;go_wp2_with fail;refine(holds_any ad n cap xs k _ HNX.out hm (HA.out.below HST.out.below)).mono ?_;rintro e w2 ⟨rfl,rfl⟩;rw[HM.out];go_wp2;go_roundw
    case rel=>exact⟨k+1,_,by omega,by go_num,rfl,HF.out⟩
    case measure=>simp[intOf];omega
  ·have hke:k=256:=by omega
   subst hke;have HF:Hid (∃ v,Ending.returned l=.returned v∧IO w.heap.size wr v (withS xs a)∧Below w.heap.size w wr):=⟨l,rfl,by rw[HW.out];exact hst.own,hst.below⟩
   clear hst;go_wp2
   go_ret
   exact HF.out
end Go.Proofs.YtncomnkdlpoelaaGreatDoor
namespace Go.Proofs.YtncomnkdlpoelaaGreatDoor
open Go.ChangeShapes Go.WideShapes Go.ChangeAt Go.RowKit Go.Joins
set_option linter.unusedVariables false
set_option maxHeartbeats 400000 in
theorem iok2_any (a:Option Addr) (n cap:Nat) (zs:List Int) (w:World) (hn:zs.length=n) (ha:At .u8 w a zs) (hz:Byte zs) :
  Calls Tryz.prog 102 #[.slice a n cap] w fun e w'=>e=.returned (.bool (decide (n=32∧val 256 zs<bigL)))∧Below w.heap.size w w':=by
 by_cases h:n=32
 ·subst h;go_enter Tryz.func102,Tryz.ntmps102;go_wp2_with fail;refine(rnum_any a 32 cap zs _ hn (by omega) ha hz).mono ?_;rintro e w1 ⟨ms,hml,hmw,hmv,rfl,B1⟩;have A1:=ha.below B1;go_wp2_with fail;refine(nof_any a 32 cap zs _ hn (by omega) (by omega) A1 hz).mono ?_;rintro e w2 ⟨ns,hnl,hnw,hnv,rfl,B2⟩;have HQ:Hid (decide (ms=ns)=decide (val 256 zs<bigL)):=by
   show decide (ms=ns)=decide (val 256 zs<bigL)
   rw[List.take_of_length_le (by omega)] at hnv;have z0:0≤val 256 zs:=val_nonneg (by decide) hz;by_cases hlt:val 256 zs<bigL
   ·have e:ms=ns:=val_inj (B:=18446744073709551616) (by decide) hmw hnw (by omega) (by rw[hmv,hnv,Int.emod_eq_of_lt z0 hlt]);simp[e,hlt]
   ·have e:¬ ms=ns:=fun h=>by
     rw[h,hnv] at hmv;have:=Int.emod_lt_of_pos (val 256 zs) (show 0<bigL by decide);omega
    simp[e,hlt]
  have s1:=B1.size;have HB:Hid (Below w.heap.size w w2):=B1.trans (B2.mono s1);clear hmv hnv B1 B2 A1 ha;go_wp2_with (simp only[run_eqW _ 9998 4 146 Tryz.underlying146 ms ns hml hnl]);rw[HQ.out];obtain⟨q,hq⟩:∃ q,q=decide (val 256 zs<bigL):=⟨_,rfl⟩
  rw[←hq];have HQQ:Hid (q=decide (val 256 zs<bigL)):=hq;clear hq HQ;simp only[Result.andThen_ok];go_simp;go_wp2
  go_ret
  exact⟨by rw[HQQ.out];simp,HB.out⟩
 ·have e:decide (n=32∧val 256 zs<bigL)=false:=by simp[h]
  rw[e];have h':((n:Int) == 32)=false:=by simp;omega
  go_enter Tryz.func102,Tryz.ntmps102;go_wp2
  go_ret
  exact⟨rfl,Below.refl _ _⟩
end Go.Proofs.YtncomnkdlpoelaaGreatDoor
namespace Go.Proofs.YtncomnkdlpoelaaGreatDoor
open Go.ChangeShapes Go.WideShapes Go.ChangeAt Go.RowKit
set_option linter.unusedVariables false
set_option maxRecDepth 100000 in
set_option maxHeartbeats 2000000 in
theorem ivs_any (aD aU aT:Option Addr) (nD cD nU cU nT cT:Nat) (D U:List Int) (k:Int) (T:List Int) (w:World) (hD:D.length=nD) (hU:U.length=nU) (hT:T.length=nT*2) (mD:nD≤1048576) (mU:nU≤1048576) (mT:nT≤1048576)
  (haD:At .i64 w aD D) (haU:At .i64 w aU U) (haT:At .i64 w aT T) (hnil:aT=none→nT=0∧cT=0) (hk0:-9223372036854775808≤k) (hk1:k<9223372036854775808) :
  Calls Tryz.prog 12 #[.agg #[.slice aD nD cD,.slice aU nU cU,.int .i64 k,.slice aT nT cT]] w fun e w'=>e=.returned (.bool (stB D U k T nT))∧Below w.heap.size w w':=by
 have b0:Below w.heap.size w (w.alloc (.cells #[.slice aD nD cD,.slice aU nU cU,.int .i64 k,.slice aT nT cT] 26)):=(Below.refl _ _).alloc (Nat.le_refl _) _;have HC:=openBook_any aD aU aT nD cD nU cU nT cT D U k T _ hD hU hT mD mU mT (haD.below b0) (haU.below b0) (haT.below b0) hnil hk0 hk1;have HB0:Hid (Below w.heap.size w (w.alloc (.cells #[.slice aD nD cD,.slice aU nU cU,.int .i64 k,.slice aT nT cT] 26))):=b0;clear haD haU haT hnil hk0 hk1 hD hU hT b0;go_enter Tryz.func12,Tryz.ntmps12;go_wp2_with fail;refine HC.mono ?_;rintro e w1 ⟨bk,rfl,hs,ho,hb,_⟩;have HB1:Hid (Below w.heap.size w w1):=HB0.out.trans (hb.mono HB0.out.size);have HN:Hid ((w1.alloc (.cells Tryz.zeroCells61 61)).heap[w1.heap.size]?=some (.cells Tryz.zeroCells61 61 (0,0))):=heap_alloc_new w1 _;have HSZ:Hid ((Tryz.prog.info? 61).map (·.size)=some bk.size):=by show _=_;rw[hs];exact Tryz.sizeBook
 have HEQ:Hid ((Tryz.zeroCells61).size=bk.size):=by show _=_;rw[hs];exact zc_size
 have HOK:Hid (bk.all (fun x=>x.oneCell')=true):=ho;have HB2:Hid (∀ cs,Below w.heap.size w ((w1.alloc (.cells Tryz.zeroCells61 61)).setRow w1.heap.size cs)):=fun cs=>HB1.out.trans ((((Below.refl _ _).alloc (Nat.le_refl _) _).trans ((Wr.setRow _ _ _).below (Nat.le_refl _))).mono HB1.out.size)
 clear hs ho hb HC HB0;generalize hq:stB D U k T nT=q at *;have HQ:Hid (stB D U k T nT=q):=hq;clear hq;go_wp2_with (first
  |(refine wpList_store_row rfl 61 (.tmp 3) (.tmp 8) rfl w1.heap.size bk rfl rfl 61 _ HN.out HSZ.out HEQ.out HOK.out ?_)
  |fail)
 go_ret
 exact⟨by rw[HQ.out];rfl,HB2.out _⟩
end Go.Proofs.YtncomnkdlpoelaaGreatDoor
