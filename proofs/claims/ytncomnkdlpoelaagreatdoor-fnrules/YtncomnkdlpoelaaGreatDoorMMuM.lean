import Derived.Test.YtncomnkdlpoelaaGreatDoorMIAd
import Derived.Test.YtncomnkdlpoelaaGreatDoorMIDd
import Derived.Test.YtncomnkdlpoelaaGreatDoorSDc
import Derived.Test.YtncomnkdlpoelaaGreatDoorMCatC
import Derived.Test.YtncomnkdlpoelaaGreatDoorMCatF
import Derived.Deep.Cut
import Derived.Test.YtncomnkdlpoelaaGreatDoorMSvP
import Derived.Test.YtncomnkdlpoelaaGreatDoorMSvS
import Derived.Deep.AppendSrc
import Derived.Test.YtncomnkdlpoelaaGreatDoorMBase
import Derived.BigRegion
import Derived.Test.YtncomnkdlpoelaaGreatDoorMDraw
import Derived.Test.YtncomnkdlpoelaaGreatDoorMINofS
import Derived.Test.YtncomnkdlpoelaaGreatDoorMU8i
import Derived.Lib.SmallJoins
import Derived.Test.YtncomnkdlpoelaaGreatDoorSvK
namespace Go.Proofs.YtncomnkdlpoelaaGreatDoor
set_option linter.unusedVariables false
abbrev Q4:Type:=Int×Int×Int×Int
theorem al (a b:Int):(a%fp+b)%fp=(a+b)%fp:=by rw[Int.add_emod,Int.emod_emod_of_dvd _ (Int.dvd_refl fp),←Int.add_emod]
theorem ar (a b:Int):(a+b%fp)%fp=(a+b)%fp:=by rw[Int.add_emod,Int.emod_emod_of_dvd _ (Int.dvd_refl fp),←Int.add_emod]
theorem sl (a b:Int):(a%fp-b)%fp=(a-b)%fp:=by rw[Int.sub_emod,Int.emod_emod_of_dvd _ (Int.dvd_refl fp),←Int.sub_emod]
theorem sr_ (a b:Int):(a-b%fp)%fp=(a-b)%fp:=by rw[Int.sub_emod,Int.emod_emod_of_dvd _ (Int.dvd_refl fp),←Int.sub_emod]
def fX (A B C G:Int):Int:=(B-A)%fp*((G-C)%fp)%fp
def fY (A B C G:Int):Int:=(G+C)%fp*((B+A)%fp)%fp
def fZ (A B C G:Int):Int:=(G-C)%fp*((G+C)%fp)%fp
def fT (A B C G:Int):Int:=(B-A)%fp*((B+A)%fp)%fp
def F4 (P Q:Q4):Q4:=
 (fX (smA P.1 P.2.1 Q.1 Q.2.1) (smB P.1 P.2.1 Q.1 Q.2.1) (smC mdD P.2.2.2 Q.2.2.2) (smG P.2.2.1 Q.2.2.1),
  fY (smA P.1 P.2.1 Q.1 Q.2.1) (smB P.1 P.2.1 Q.1 Q.2.1) (smC mdD P.2.2.2 Q.2.2.2) (smG P.2.2.1 Q.2.2.1),
  fZ (smA P.1 P.2.1 Q.1 Q.2.1) (smB P.1 P.2.1 Q.1 Q.2.1) (smC mdD P.2.2.2 Q.2.2.2) (smG P.2.2.1 Q.2.2.1),
  fT (smA P.1 P.2.1 Q.1 Q.2.1) (smB P.1 P.2.1 Q.1 Q.2.1) (smC mdD P.2.2.2 Q.2.2.2) (smG P.2.2.1 Q.2.2.1))
def scl (l:Int) (P:Q4):Q4:=(l*P.1%fp,l*P.2.1%fp,l*P.2.2.1%fp,l*P.2.2.2%fp)
theorem scA (l m X1 Y1 X2 Y2:Int):smA (l*X1%fp) (l*Y1%fp) (m*X2%fp) (m*Y2%fp)=l*m*smA X1 Y1 X2 Y2%fp:=by
 unfold smA;simp only[ml,mr,sl,sr_]
 congr 1;grind
theorem scB (l m X1 Y1 X2 Y2:Int):smB (l*X1%fp) (l*Y1%fp) (m*X2%fp) (m*Y2%fp)=l*m*smB X1 Y1 X2 Y2%fp:=by
 unfold smB;simp only[ml,mr,al,ar]
 congr 1;grind
theorem scC (l m D T1 T2:Int):smC D (l*T1%fp) (m*T2%fp)=l*m*smC D T1 T2%fp:=by
 unfold smC;simp only[ml,mr]
 congr 1;grind
theorem scG (l m Z1 Z2:Int):smG (l*Z1%fp) (m*Z2%fp)=l*m*smG Z1 Z2%fp:=by
 unfold smG;simp only[ml,mr,al,ar]
 congr 1;grind
theorem scFX (k A B C G:Int):fX (k*A%fp) (k*B%fp) (k*C%fp) (k*G%fp)=k*k*fX A B C G%fp:=by
 unfold fX;simp only[ml,mr,sl,sr_]
 congr 1;grind
theorem scFY (k A B C G:Int):fY (k*A%fp) (k*B%fp) (k*C%fp) (k*G%fp)=k*k*fY A B C G%fp:=by
 unfold fY;simp only[ml,mr,al,ar]
 congr 1;grind
theorem scFZ (k A B C G:Int):fZ (k*A%fp) (k*B%fp) (k*C%fp) (k*G%fp)=k*k*fZ A B C G%fp:=by
 unfold fZ;simp only[ml,mr,al,ar,sl,sr_]
 congr 1;grind
theorem scFT (k A B C G:Int):fT (k*A%fp) (k*B%fp) (k*C%fp) (k*G%fp)=k*k*fT A B C G%fp:=by
 unfold fT;simp only[ml,mr,al,ar,sl,sr_]
 congr 1;grind
theorem F4_scl (l m:Int) (P Q:Q4):F4 (scl l P) (scl m Q)=scl (l*m*(l*m)) (F4 P Q):=by
 obtain⟨x,y,z,t⟩:=P;obtain⟨x',y',z',t'⟩:=Q;simp only[F4,scl,scA,scB,scC,scG,scFX,scFY,scFZ,scFT]
theorem scl_scl (l m:Int) (P:Q4):scl l (scl m P)=scl (l*m) P:=by
 obtain⟨x,y,z,t⟩:=P;simp only[scl,mr,Int.mul_assoc]
def Rd (P:Q4):Prop:=(0≤P.1∧P.1<fp)∧(0≤P.2.1∧P.2.1<fp)∧(0≤P.2.2.1∧P.2.2.1<fp)∧(0≤P.2.2.2∧P.2.2.2<fp)
theorem scl_one {P:Q4} (h:Rd P):scl 1 P=P:=by
 obtain⟨x,y,z,t⟩:=P;obtain⟨h1,h2,h3,h4⟩:=h;simp only[scl,Int.one_mul];simp only at h1 h2 h3 h4;rw[Int.emod_eq_of_lt h1.1 h1.2,Int.emod_eq_of_lt h2.1 h2.2,Int.emod_eq_of_lt h3.1 h3.2,Int.emod_eq_of_lt h4.1 h4.2]
theorem md_rd (a:Int):0≤a%fp∧a%fp<fp:=⟨Int.emod_nonneg _ (by decide),Int.emod_lt_of_pos _ (by decide)⟩
theorem F4_rd (P Q:Q4):Rd (F4 P Q):=⟨md_rd _,md_rd _,md_rd _,md_rd _⟩
def idQ:Q4:=(0,1,1,0)
theorem idQ_dbl:F4 idQ idQ=scl 4 idQ:=by
 have h:smA 0 1 0 1=1∧smB 0 1 0 1=1∧smC mdD 0 0=0∧smG 1 1=2:=by
  refine⟨by decide,by decide,?_,by decide⟩;unfold smC;rw[Int.mul_zero];decide
 unfold idQ;simp only[F4,h.1,h.2.1,h.2.2.1,h.2.2.2];decide
def vbit (V:Int) (i:Nat):Bool:=V/2^i%2 == 1
def pS (V:Int) (P:Q4):Nat→Q4
 |0=>idQ
 |n+1=>bif vbit V (255-n) then F4 (F4 (pS V P n) (pS V P n)) P else F4 (pS V P n) (pS V P n)
def mS (V:Int) (P:Q4):Nat→Q4×Bool
 |0=>(idQ,false)
 |n+1=>
  let d:=bif (mS V P n).2 then F4 (mS V P n).1 (mS V P n).1 else(mS V P n).1
  bif vbit V (255-n) then(F4 d P,true) else(d,(mS V P n).2)
theorem same_S (V:Int) (P:Q4) (hP:Rd P) (n:Nat):(∃ k:Nat,pS V P n=scl (2^k) (mS V P n).1)∧((mS V P n).2=false→(mS V P n).1=idQ)∧Rd (mS V P n).1:=by
 induction n with
 |zero=>exact⟨⟨0,by show idQ=scl 1 idQ;decide⟩,fun _=>rfl,by show Rd idQ;unfold Rd idQ;decide⟩
 |succ n ih=>
  obtain⟨⟨k,hk⟩,hi,hr⟩:=ih;have hd:∃ j:Nat,F4 (pS V P n) (pS V P n)=scl (2^j) (bif (mS V P n).2 then F4 (mS V P n).1 (mS V P n).1 else(mS V P n).1):=by
   rw[hk,F4_scl];cases hb:(mS V P n).2 with
   |true=>exact⟨k+k+(k+k),by rw[cond_true,Int.pow_add,Int.pow_add]⟩
   |false=>
    rw[hi hb,idQ_dbl,scl_scl,cond_false];exact⟨k+k+(k+k)+2,by rw[Int.pow_add,Int.pow_add,Int.pow_add];rfl⟩
  obtain⟨j,hj⟩:=hd;have hrd:Rd (bif (mS V P n).2 then F4 (mS V P n).1 (mS V P n).1 else(mS V P n).1):=by
   cases (mS V P n).2 with
   |true=>exact F4_rd _ _
   |false=>exact hr
  cases hv:vbit V (255-n) with
  |true=>
   refine⟨⟨j+j,?_⟩,?_,?_⟩
   ·simp only[pS,mS,hv,cond_true];rw[hj];have e:=F4_scl (2^j) 1 (bif (mS V P n).2 then F4 (mS V P n).1 (mS V P n).1 else(mS V P n).1) P;rw[scl_one hP,Int.mul_one] at e;rw[e,Int.pow_add]
   ·simp only[mS,hv,cond_true];intro h;cases h
   ·simp only[mS,hv,cond_true];exact F4_rd _ _
  |false=>
   refine⟨⟨j,?_⟩,?_,?_⟩
   ·simp only[pS,mS,hv,cond_false];exact hj
   ·simp only[mS,hv,cond_false];intro h;rw[h];exact hi h
   ·simp only[mS,hv,cond_false];exact hrd
theorem pow_inv (n k:Nat) (X Z:Int) (h:(2:Int)^(n+1)%fp=1):(2^k*X%fp)*((2^k*Z%fp)^n%fp)%fp=X*(Z^n%fp)%fp:=by
 rw[ml,mr,mr,←mr,mpow,mr,Int.mul_pow];have e:(2:Int)^k*X*((2^k)^n*Z^n)=(2^(n+1))^k*(X*Z^n):=by
  have e1:(2:Int)^k*(2^k)^n=(2^(n+1))^k:=by
   rw[←Int.pow_mul,←Int.pow_add,←Int.pow_mul];congr 1;grind
  rw[←e1];grind
 rw[e,←ml,←mpow,h,Int.one_pow,show(1:Int)%fp=1 from by decide,Int.one_mul]
theorem cdV_scl (k:Nat) (X Y Z:Int):cdV (2^k*X%fp) (2^k*Y%fp) (2^k*Z%fp)=cdV X Y Z:=by
 have h:(2:Int)^(fpN-2+1)%fp=1:=by
  have:=fermatI 2 (by decide) (by decide)
  rwa [show fpN-2+1=fpN-1 from by decide +kernel]
 unfold cdV;rw[inv0_eq,inv0_eq,pow_inv _ k X Z h,pow_inv _ k Y Z h]
end Go.Proofs.YtncomnkdlpoelaaGreatDoor
namespace Go.Proofs.YtncomnkdlpoelaaGreatDoor
open Go.ChangeShapes Go.WideShapes Go.ChangeAt Go.RowKit
set_option linter.unusedVariables false
def ptQ (zs:List Int):Q4:=(mX zs mdD,mY zs,1%fp,mX zs mdD*mY zs%fp)
theorem mB_len2 {zs:List Int} (h:mB zs mdD=true):zs.length=32∧mY zs<fp:=by
 unfold mB at h;simp only[Bool.and_eq_true] at h;exact⟨by simpa using h.1.1.1,by simpa using h.1.1.2⟩
def bB:List Int:=[88,102,102,102,102,102,102,102,102,102,102,102,102,102,102,102,102,102,102,102,102,102,102,102,102,102,102,102,102,102,102,102]
theorem bB_len:bB.length=32:=rfl
theorem bB_val:val 256 bB=baseY:=by decide +kernel
theorem bB_byte:Byte bB:=by unfold Byte bB;decide
theorem bB_ok:mB bB mdD=true:=by decide +kernel
theorem bB_of {bs:List Int} (hb:Byte bs) (hl:bs.length=32) (hv:val 256 bs=baseY):bs=bB:=
 val_inj (B:=256) (by decide) hb bB_byte (by rw[hl,bB_len]) (by rw[hv,bB_val])
end Go.Proofs.YtncomnkdlpoelaaGreatDoor
namespace Go.Proofs.YtncomnkdlpoelaaGreatDoor
open Go.ChangeShapes Go.WideShapes Go.ChangeAt Go.RowKit
set_option linter.unusedVariables false
variable {w w':World} {g:Nat} {d u:List Int} {k:Int} {v:Value}
def NeG (g:Nat) (v:Value):Prop:=∀ t,v.ownBlock=some t→t≠g
def TapV (B:Nat) (w:World) (v:Value) (T:List Int) (n:Nat):Prop:=
 T.length=n*2∧((v=.slice none 0 0∧n=0)∨
  ∃ t o c,v=.slice (some ⟨t,o,none⟩) n c∧B≤t∧t<w.heap.size∧n≤c∧c≤9223372036854775807∧(∀ i,i<n*2→w.cell? ⟨t,o+i,none⟩=some (.int .i64 (T.getD i 0))∧w.frozen? ⟨t,o+i,none⟩=false)∧∃ cs,w.heap[t]?=some (.cells cs 70 (0,0))∧o+c*2≤cs.size)
theorem TapO.tapV {B:Nat} {T:List Int} {n:Nat} (h:TapO B w v T n):TapV B w v T n:=by
 have hT:T.length=n*2:=by simpa using h.1
 refine⟨hT,?_⟩;rcases h.2 with⟨h1,h2⟩|⟨t,c,cur,h1,h2,h3,h4,h5,h6,h7⟩
 ·exact .inl ⟨h1,h2⟩
 ·refine .inr ⟨t,0,c,h1,h2,(Array.getElem?_eq_some_iff.1 h3).1,h4,by unfold maxLen at h5;omega,fun i hi=>?_,cur,h3,by omega⟩;rw[Nat.zero_add];refine⟨?_,frozen_of_row _ _ _ _ _ h3⟩;subst h1;rw[World.ownsRow.cellAt h i hi];simp[show i<T.length by omega]
theorem TapV.block {B:Nat} {T:List Int} {n:Nat} (h:TapV B w v T n) (hs:w.heap.size≤w'.heap.size) (hb:∀ t,v.ownBlock=some t→t<w.heap.size→w'.heap[t]?=w.heap[t]?):TapV B w' v T n:=by
 obtain⟨h1,h2|⟨t,o,c,e,hB,ht,hc,hm,hx,cs,hcs,hsz⟩⟩:=h
 ·exact⟨h1,.inl h2⟩
 ·have hk:=hb t (by rw[e];rfl) ht;refine⟨h1,.inr ⟨t,o,c,e,hB,by omega,hc,hm,fun i hi=>?_,cs,by rw[hk];exact hcs,hsz⟩⟩;rw[World.cell?_of_block (a:=⟨t,o+i,none⟩) (w:=w) hk,World.frozen?_of_block (a:=⟨t,o+i,none⟩) (w:=w) hk];exact hx i hi
theorem TapV.drop {B t o c:Nat} {T:List Int} {n:Nat} (h:TapV B w (.slice (some ⟨t,o,none⟩) n c) T n) (m:Nat) (hm:m≤n):TapV B w (ackV t o n c m) (T.drop (m*2)) (n-m):=by
 obtain⟨h1,⟨h2,_⟩|⟨t',o',c',e,hB,ht,hc,hx,hy,cs,hcs,hsz⟩⟩:=h
 ·cases h2
 ·cases e;refine⟨by rw[List.length_drop];omega,.inr ?_⟩;unfold ackV;by_cases he:c=m
  ·rw[if_pos he];exact⟨t,o,c-m,rfl,hB,ht,by omega,by omega,fun i hi=>by omega,cs,hcs,by omega⟩
  ·rw[if_neg he];refine⟨t,o+m*2,c-m,rfl,hB,ht,by omega,by omega,fun i hi=>?_,cs,hcs,by omega⟩;have:=hy (m*2+i) (by omega);rw[←Nat.add_assoc] at this;rw[show(T.drop (m*2)).getD i 0=T.getD (m*2+i) 0 by simp[List.getD]];exact this
def ApP (H B g:Nat) (w:World) (ok:Bool) (D U:Nat→Prop) (k:Int) (T:List Int) (n:Nat) (e:Ending) (w':World):Prop:=
 e=.returned (.bool ok)∧Below H w w'∧(ok=true→∃ d u v,Bk w' g d u k v∧SetB d D∧SetB u U∧TapV B w' v T n∧NeG g v)
def ackM (k a:Int):Nat:=(max a k-k).toNat
theorem bk_ack {B H:Nat} {T:List Int} {n m q:Nat} {v':Value} {k':Int} (hb:Bk w g d u k v) (hH:H≤g) (hgB:NeG g v') (hv:TapV B w v' T n) :
  Bk (((w.setCell ⟨g,65,none⟩ v').drewN q).setCell ⟨g,64,none⟩ (.int .i64 k')) g d u k' v'∧Below H w (((w.setCell ⟨g,65,none⟩ v').drewN q).setCell ⟨g,64,none⟩ (.int .i64 k'))∧
   TapV B (((w.setCell ⟨g,65,none⟩ v').drewN q).setCell ⟨g,64,none⟩ (.int .i64 k')) v' T n:=by
 have hw:Wr g w (((w.setCell ⟨g,65,none⟩ v').drewN q).setCell ⟨g,64,none⟩ (.int .i64 k')):=(((Wr.refl _ _).setCell _ _).drewN _).setCell _ _;refine⟨((hb.setV v').drew q).setK k',hw.below hH,hv.block (by rw[hw.size];exact Nat.le_refl _) (fun t ht _=>hw.block t (hgB t ht))⟩
end Go.Proofs.YtncomnkdlpoelaaGreatDoor
namespace Go.Proofs.YtncomnkdlpoelaaGreatDoor
open Go.ChangeShapes Go.WideShapes Go.ChangeAt Go.RowKit
set_option linter.unusedVariables false
variable {w w':World} {g:Nat} {d u:List Int} {k:Int} {v:Value} {D U:Nat→Prop} {T:List Int} {n H B:Nat}
theorem ack_any (m:Nat) (hb:Bk w g d u k v) (hv:TapV B w v T n) (h0:0≤k) (h1:k≤1048576) (hm:m≤n) (hn:n≤1048576) (hH:H≤g) (hgB:NeG g v) :
  Calls Tryz.prog 79 #[.pointer (some ⟨g,0,none⟩),.int .i64 (k+m)] w fun e w'=>e=.returned (.tuple #[])∧Below H w w'∧∃ v',Bk w' g d u (k+m) v'∧TapV B w' v' (T.drop (m*2)) (n-m)∧NeG g v':=by
 have hv0:=hv;obtain⟨hl,⟨rfl,hn0⟩|⟨t,o,c,rfl,hB,ht,hc,hx,hy⟩⟩:=hv
 ·have hm0:m=0:=by omega
  subst hm0;rw[show k+((0:Nat):Int)=k by omega];refine(ackN_any hb h0 h1).mono ?_;rintro e w1 ⟨rfl,q,rfl⟩;obtain⟨r1,r2,r3⟩:=bk_ack (q:=q) (k':=k) (m:=0) hb hH hgB hv0;exact⟨rfl,r2,_,r1,by simpa using r3,hgB⟩
 ·refine(ackS_any t o n c m hb h0 h1 hm hc hn hx).mono ?_;rintro e w1 ⟨rfl,q,rfl⟩;have hne:NeG g (ackV t o n c m):=fun x hx=>hgB x (by unfold ackV at hx;split at hx<;>exact hx)
  obtain⟨r1,r2,r3⟩:=bk_ack (q:=q) (k':=k+m) (m:=m) hb hH hne (hv0.drop m hm);exact⟨rfl,r2,_,r1,r3,hne⟩
theorem TapV.slice (h:TapV B w v T n):∃ a c,v=.slice a n c:=by
 obtain⟨hl,⟨h1,h2⟩|⟨t,o,c,h1,_⟩⟩:=h
 ·exact⟨none,0,by rw[h1,h2]⟩
 ·exact⟨_,c,h1⟩
theorem TapV.drew (h:TapV B w v T n) (q:Nat):TapV B (w.drewN q) v T n:=h.block (Nat.le_refl _) (fun t _ _=>rfl)
end Go.Proofs.YtncomnkdlpoelaaGreatDoor
namespace Go.Proofs.YtncomnkdlpoelaaGreatDoor
open Go.ChangeShapes Go.WideShapes Go.ChangeAt Go.RowKit
set_option linter.unusedVariables false
variable {w w':World} {g:Nat} {d u:List Int} {k:Int} {v:Value} {D U:Nat→Prop} {T:List Int} {n H B:Nat}
theorem ser_yes {s:Nat} (h:s<256):serOk (s:Int)=true:=decide_eq_true ⟨by omega,by omega⟩
theorem ser_no {s:Nat} (h:¬ s<256):serOk (s:Int)=false:=decide_eq_false (fun h'=>h (by omega))
theorem hasYes_any {o:Nat} (s:Nat) (hb:BAt w g o d) (hd:SetB d D) (hin:s<256∧D s):Calls Tryz.prog 71 #[.pointer (some ⟨g,o,none⟩),.int .i64 s] w fun e w'=>e=.returned (.bool true)∧w'=w:=
 hasS_any g o s d D true w hb hd (by
  rw[Int.toNat_natCast];exact⟨fun _=>⟨by omega,by omega,hin.2⟩,fun h=>rfl⟩)
theorem hasNo_any {o:Nat} (s:Nat) (hb:BAt w g o d) (hd:SetB d D) (hin:¬ (s<256∧D s)):Calls Tryz.prog 71 #[.pointer (some ⟨g,o,none⟩),.int .i64 s] w fun e w'=>e=.returned (.bool false)∧w'=w:=
 hasS_any g o s d D false w hb hd (by
  rw[Int.toNat_natCast];exact⟨fun h=>(by cases h),fun h=>absurd ⟨by omega,h.2.2⟩ hin⟩)
theorem TapV.wr (h:TapV B w v T n) (hw:Wr g w w') (hg:NeG g v):TapV B w' v T n:=h.block (by rw[hw.size];exact Nat.le_refl _) (fun t ht _=>hw.block t (hg t ht))
end Go.Proofs.YtncomnkdlpoelaaGreatDoor
namespace Go.Proofs.YtncomnkdlpoelaaGreatDoor
open Go.ChangeShapes Go.WideShapes Go.ChangeAt Go.RowKit
set_option linter.unusedVariables false
variable {w w':World} {g:Nat} {d u:List Int} {k:Int} {v:Value} {D U:Nat→Prop} {T:List Int} {n H B:Nat}
theorem TapO.ownBlock (h:TapO B w v T n):∀ k,v.ownBlock=some k→B≤k:=fun k hk=>by
 rcases h.2 with⟨h',_⟩|⟨g,c,cur,h',hb,_⟩
 ·rw[h'] at hk;simp[Value.ownBlock] at hk
 ·rw[h'] at hk;simp[Value.ownBlock] at hk;omega
theorem TapO.wrg (h:TapO B w v T n) (hne:NeG g v) (hw:Wr g w w'):TapO B w' v T n:=by
 refine⟨h.1,?_⟩;rcases h.2 with h'|⟨t,c,cur,h1,h2,h3,h4⟩
 ·exact .inl h'
 ·exact .inr ⟨t,c,cur,h1,h2,by rw[hw.block t (hne t (by rw[h1];rfl))];exact h3,h4⟩
theorem TapO.alloc (h:TapO B w v T n) (o:Obj):TapO B (w.alloc o) v T n:=World.ownsRow.alloc h _
theorem wpList_appT0 (w:World) {ops:Array Oper} {rest:List Oper} {o:Oper} {a:Act} {Q:Exit→Act→World→Prop} (hg:o.guard=none) (sx x:Operand)
  (hop:o.op=Op.call { callee:=Callee.builtin Builtin.append,args:=#[sx,x],argTypes:=#[24,24] }) (B:Nat) (v:Value) (T:List Int) (n:Nat) (hs:a.eval sx=v) (hown:TapO B w v T n)
  (wb:World) (s nw:Int) (hw:w=wb.alloc (.cells #[.int .i64 s,.int .i64 nw] 70)) (hx:a.eval x=.slice (some ⟨wb.heap.size,0,none⟩) 1 1) (hm:n≤1048576) (hB:B≤w.heap.size)
  (hK:∀ v' w',TapO B w' v' (T++[s,nw]) (n+1)→v'.oneCell'=true→Below B w w'→w.grownBy w' v.ownBlock→(v'.ownBlock=v.ownBlock∨v'.ownBlock=some w.heap.size)→wpList Tryz.prog ops Q rest (a.put o.dst v') w') :
  wpList Tryz.prog ops Q (o::rest) a w:=by
 obtain⟨i0,hi,hz0,hz1,hz2⟩:=info_parts Tryz.infoTap;refine wpList_append_own_at w hg sx x 24 hop B 70 i0 (.agg #[.int .i64 0,.int .i64 0]) 2 16 Tryz.underlying24 hi hz0 hz1 hz2 rfl (by decide) v n _ hs hown ⟨wb.heap.size,0,none⟩ 1 1 [.int .i64 s,.int .i64 nw] hx rfl ?_ (by simp[Value.oneCell']) (by unfold maxLen;omega) (by omega) hB ?_
 ·intro j z hz;have hj:j<2:=by have:=(List.getElem?_eq_some_iff.1 hz).1;simpa using this
  rw[Addr.add_lit,hw,cell_of_row _ _ _ _ _ _ (heap_alloc_new wb _),Nat.zero_add];have:j=0∨j=1:=by omega
  rcases this with rfl|rfl<;>simpa using hz
 intro v' w' h1 h2 _ h5;refine hK v' w' ?_ ?_ ((Below.refl _ _).grown h2 hB hown.ownBlock) h2 h5
 ·unfold TapO;rw[List.map_append];exact h1
 ·rcases h1.2 with⟨h,_⟩|⟨g,c,cur,h,_⟩
  ·rw[h];rfl
  ·rw[h];rfl
theorem TapV.alloc (h:TapV B w v T n) (o:Obj):TapV B (w.alloc o) v T n:=h.block (by simp) (fun t _ ht=>heap_alloc_old w o ht)
theorem TapV.ownBlock (h:TapV B w v T n):∀ k,v.ownBlock=some k→B≤k:=fun k hk=>by
 obtain⟨_,⟨h',_⟩|⟨t,o,c,h',hb,_⟩⟩:=h
 ·rw[h'] at hk;simp[Value.ownBlock] at hk
 ·rw[h'] at hk;simp[Value.ownBlock] at hk;omega
theorem heap_setC {w:World} {t o:Nat} {cs:Array Value} {T:TypeId} {fr:Nat×Nat} (h:w.heap[t]?=some (.cells cs T fr)) (v:Value):(w.setCell ⟨t,o,none⟩ v).heap[t]?=some (.cells (cs.setIfInBounds o v) T fr):=by
 simp[World.setCell,Array.getElem?_modify,h]
theorem run_appT (w:World) (ty:TypeId) (B:Nat) (v:Value) (T:List Int) (n:Nat) (hown:TapV B w v T n) (wb:World) (s nw:Int) (hw:w=wb.alloc (.cells #[.int .i64 s,.int .i64 nw] 70)) (hm:n≤1048576) (hB:B≤w.heap.size) :
  ∃ v' w',(Builtin.append_ #[24,24] ty #[v,.slice (some ⟨wb.heap.size,0,none⟩) 1 1]).run Tryz.prog w=.ok v' w'∧TapV B w' v' (T++[s,nw]) (n+1)∧w.grownBy w' v.ownBlock∧(v'.ownBlock=v.ownBlock∨v'.ownBlock=some w.heap.size):=by
 obtain⟨i0,hi,hz0,hz1,hz2⟩:=info_parts Tryz.infoTap;have hnews:∀ j u,[Value.int .i64 s,.int .i64 nw][j]?=some u→w.cell? ((⟨wb.heap.size,0,none⟩:Addr).add j)=some u:=by
  intro j z hz;have hj:j<2:=by have:=(List.getElem?_eq_some_iff.1 hz).1;simpa using this
  rw[Addr.add_lit,hw,cell_of_row _ _ _ _ _ _ (heap_alloc_new wb _),Nat.zero_add];have:j=0∨j=1:=by omega
  rcases this with rfl|rfl<;>simpa using hz
 obtain⟨hl,⟨rfl,rfl⟩|⟨t,o,c,rfl,hB0,ht,hc,hmx,hx,cs,hcs,hsz⟩⟩:=hown
 ·have hT:=List.eq_nil_of_length_eq_zero (by omega);subst hT;obtain⟨v',w',h1,h2,h3,_,h5⟩:=run_append_own_at (P:=Tryz.prog) w B 24 ty 70 i0 (.agg #[.int .i64 0,.int .i64 0]) 2 16 Tryz.underlying24 hi hz0 hz1 hz2 rfl (by decide) (.slice none 0 0) 0 [] ⟨rfl,.inl ⟨rfl,rfl⟩⟩ ⟨wb.heap.size,0,none⟩ 1 1 [.int .i64 s,.int .i64 nw] rfl hnews (by simp[Value.oneCell']) (by decide) (by decide) hB;exact⟨v',w',h1,TapO.tapV (T:=[]++[s,nw]) h2,h3,h5⟩
 ·have hsrc:Src Tryz.prog i0.size 24 (.slice (some ⟨wb.heap.size,0,none⟩) 1 1) 1 [.int .i64 s,.int .i64 nw] w:=
   Src.ofSlice w Tryz.underlying24 ⟨wb.heap.size,0,none⟩ 1 1 _ (by rw[hz1];rfl) hnews (by simp[Value.oneCell'])
  have hTl:=hl;by_cases hr:n+1≤c
  ·have hcell:∀ j,w.cell? ⟨t,j,none⟩=cs[j]?:=fun j=>cell_of_row w t j cs _ _ hcs
   have h1:=run_append_room_src (P:=Tryz.prog) w 24 24 ty 70 i0 Tryz.underlying24 hi t o n c _ 1 [.int .i64 s,.int .i64 nw] hsrc hr
    (fun j hj=>by have hj':j<2:=hj;rw[hcell,hz1,Array.getElem?_eq_getElem (by omega)];rfl) (fun j _=>frozen_of_row w t _ cs _ hcs)
   have e1:w.setCells t (o+n*i0.size) [.int .i64 s,.int .i64 nw]=(w.setCell ⟨t,o+n*2,none⟩ (.int .i64 s)).setCell ⟨t,o+n*2+1,none⟩ (.int .i64 nw):=by rw[hz1];rfl
   rw[e1] at h1;have hc2:((w.setCell ⟨t,o+n*2,none⟩ (.int .i64 s)).setCell ⟨t,o+n*2+1,none⟩ (.int .i64 nw)).heap[t]?=some (.cells ((cs.setIfInBounds (o+n*2) (.int .i64 s)).setIfInBounds (o+n*2+1) (.int .i64 nw)) 70 (0,0)):=heap_setC (heap_setC hcs _) _;have hsz2:((w.setCell ⟨t,o+n*2,none⟩ (.int .i64 s)).setCell ⟨t,o+n*2+1,none⟩ (.int .i64 nw)).heap.size=w.heap.size:=by simp[World.setCell]
   refine⟨_,_,h1,⟨by rw[List.length_append,hTl];simp;omega,.inr ⟨t,o,c,rfl,hB0,by rw[hsz2];exact ht,hr,hmx,fun i hi'=>⟨?_,frozen_of_row _ t _ _ _ hc2⟩,_,hc2,by simpa using hsz⟩⟩,⟨rfl,rfl,rfl,by rw[hsz2];exact Nat.le_refl _,fun k hk hne=>?_⟩,.inl rfl⟩
   ·rw[cell_of_row _ t _ _ _ _ hc2];have hb:o+n*2+1<cs.size:=by omega
    by_cases h1:i<n*2
    ·have hq:=(hx i h1).1;rw[hcell] at hq;rw[Array.getElem?_setIfInBounds_ne (by omega),Array.getElem?_setIfInBounds_ne (by omega),hq];simp[List.getD,List.getElem?_append_left (show i<T.length by omega)]
    ·by_cases h2:i=n*2
     ·subst h2;rw[Array.getElem?_setIfInBounds_ne (by omega),Array.getElem?_setIfInBounds_self_of_lt (by omega)];simp[List.getD,hTl]
     ·obtain rfl:i=n*2+1:=by omega
      rw[←Nat.add_assoc,Array.getElem?_setIfInBounds_self_of_lt (by simp;omega)];simp[List.getD,hTl]
   ·have hkt:k≠t:=fun e=>hne (by simp[Value.ownBlock,e])
    rw[heap_setCell_other _ _ _ _ (by show k≠t;exact hkt),heap_setCell_other _ _ _ _ (by show k≠t;exact hkt)]
  ·obtain rfl:c=n:=by omega
   have hcell:∀ j,w.cell? ⟨t,j,none⟩=cs[j]?:=fun j=>cell_of_row w t j cs _ _ hcs
   have hold:=run_firstCells_some (P:=Tryz.prog) w.drew i0.size c ⟨t,o,none⟩ c c (T.map (Value.int .i64)) (by rw[hz1];simpa using hTl) (fun j u hu=>by
    have hj:j<T.length:=by have:=(List.getElem?_eq_some_iff.1 hu).1;simpa using this
    rw[Addr.add_lit];have:=(hx j (by omega)).1;rw[show w.drew.cell? ⟨t,o+j,none⟩=w.cell? ⟨t,o+j,none⟩ from rfl,this];simp[hj] at hu ⊢;exact hu)
   have hcap:=nextslicecap_le (need:=c+1) (old:=c) (by omega);have h1:=run_append_grow_src (P:=Tryz.prog) w 24 24 ty 70 i0 (.agg #[.int .i64 0,.int .i64 0]) Tryz.underlying24 hi hz0 (some ⟨t,o,none⟩) c c (T.map (Value.int .i64)) hold _ 1 [.int .i64 s,.int .i64 nw] hsrc (by omega) (by omega) (by rw[hz2];omega);have hlen:(T.map (Value.int .i64)++[Value.int .i64 s,Value.int .i64 nw]).length=(c+1)*2:=by rw[List.length_append,List.length_map,hTl];simp;omega
   have hge:=grownCap_ge w (c+1) c 70;have hle:=grownCap_le_maxLen w (c+1) c 70 (by unfold maxLen;omega);refine⟨_,_,h1,TapO.tapV (T:=T++[s,nw]) ⟨by simp[hTl];omega,.inr ⟨_,_,_,rfl,hB,heap_alloc_new w.drew _,hge,hle,?_,?_⟩⟩,⟨rfl,rfl,rfl,by simp,fun k hk _=>heap_alloc_old w.drew _ hk⟩,.inr rfl⟩
   ·rw[Array.size_append,size_zeroCells,List.size_toArray,hlen,show(Value.agg #[Value.int .i64 0,.int .i64 0]).cells.size=2 from rfl];omega
   ·rw[Array.toList_append,List.map_append,List.take_append_of_le_length (by rw[hlen];exact Nat.le_refl _),List.take_of_length_le (by rw[hlen];exact Nat.le_refl _)];rfl
theorem wpList_appT1 (w:World) {ops:Array Oper} {rest:List Oper} {o:Oper} {a:Act} {Q:Exit→Act→World→Prop} (hg:o.guard=none) (sx x:Operand)
  (hop:o.op=Op.call { callee:=Callee.builtin Builtin.append,args:=#[sx,x],argTypes:=#[24,24] }) (B:Nat) (v:Value) (T:List Int) (n:Nat) (hs:a.eval sx=v) (hown:TapV B w v T n)
  (wb:World) (s nw:Int) (hw:w=wb.alloc (.cells #[.int .i64 s,.int .i64 nw] 70)) (hx:a.eval x=.slice (some ⟨wb.heap.size,0,none⟩) 1 1) (hm:n≤1048576) (hB:B≤w.heap.size)
  (hK:∀ v' w',TapV B w' v' (T++[s,nw]) (n+1)→v'.oneCell'=true→Below B w w'→w.grownBy w' v.ownBlock→(v'.ownBlock=v.ownBlock∨v'.ownBlock=some w.heap.size)→wpList Tryz.prog ops Q rest (a.put o.dst v') w') :
  wpList Tryz.prog ops Q (o::rest) a w:=by
 obtain⟨v',w',hr,h1,h2,h5⟩:=run_appT w o.type B v T n hown wb s nw hw hm hB;obtain⟨a',c',e'⟩:=h1.slice;have hk:=hK v' w' h1 (by rw[e'];rfl) ((Below.refl _ _).grown h2 hB hown.ownBlock) h2 h5;refine wpList_plain hg fun K hK'=>?_
 unfold Oper.wp execOp;simp only[hop,resolve,invoke,builtin,Sem.run_bind,Sem.run_pure,Result.andThen_ok,List.map_toArray,List.map_cons,List.map_nil,hs,hx,hr];exact hK' _ _ hk
set_option maxRecDepth 100000 in
set_option maxHeartbeats 1000000 in
theorem admit_any (s:Nat) (nw:Int) (hs:s<256) (hb:Bk w g d u k v) (hd:SetB d D) (hu:SetB u U) (hv:TapV B w v T n) (hn:n≤1048576) (hH:H≤g) (hHB:H≤B) (hgB:NeG g v) (hBw:B≤w.heap.size) :
  Calls Tryz.prog 76 #[.pointer (some ⟨g,0,none⟩),.int .i64 s,.int .i64 nw] w fun e w'=>e=.returned (.tuple #[])∧Below H w w'∧∃ u' v',Bk w' g d u' k v'∧SetB u' (fun x=>U x∨x=s)∧TapV B w' v' (T++[(s:Int),nw]) (n+1)∧NeG g v':=by
 have HB:Hid (Bk w g d u k v):=hb;have HN:∀ q,Hid (Bk ((w.setCell ⟨g,32+s/8,none⟩ (.int .u8 ((addB u s).getD (s/8) 0))).drewN q) g d (addB u s) k v∧TapV B ((w.setCell ⟨g,32+s/8,none⟩ (.int .u8 ((addB u s).getD (s/8) 0))).drewN q) v T n∧Below H w ((w.setCell ⟨g,32+s/8,none⟩ (.int .u8 ((addB u s).getD (s/8) 0))).drewN q)∧B≤((w.setCell ⟨g,32+s/8,none⟩ (.int .u8 ((addB u s).getD (s/8) 0))).drewN q).heap.size):=fun q=>by
  have hw:Wr g w ((w.setCell ⟨g,32+s/8,none⟩ (.int .u8 ((addB u s).getD (s/8) 0))).drewN q):=((Wr.refl _ _).setCell _ _).drewN _;exact⟨(hb.addU s hs).drew q,hv.wr hw hgB,hw.below hH,by rw[hw.size];exact hBw⟩
 have HU:Hid (SetB (addB u s) (fun x=>U x∨x=s)):=hu.add s hs;clear hb hd hu hv hBw;go_enter Tryz.func76,Tryz.ntmps76;go_wp2_with fail;refine(addS_any g 32 s u _ hs HB.out.batu).mono ?_;rintro e w4 ⟨rfl,q,rfl⟩;have H2:=HN q;clear HN HB;generalize (w.setCell ⟨g,32+s/8,none⟩ (.int .u8 ((addB u s).getD (s/8) 0))).drewN q=w4 at *;have c1:=H2.out.1.cv;have HA:Hid (TapV B (w4.alloc (.cells #[.int .i64 (s:Int),.int .i64 nw] 70)) v T n):=H2.out.2.1.alloc _;have HBW:Hid (B≤(w4.alloc (.cells #[.int .i64 (s:Int),.int .i64 nw] 70)).heap.size):=by
  show _≤_
  have:=H2.out.2.2.2;simp;omega
 go_wp2_with (first
  |(refine wpList_appT1 _ rfl (.tmp 15) (.tmp 19) rfl B v T n rfl HA.out w4 s nw rfl rfl hn HBW.out ?_)
  |fail)
 intro v' w5 h1 ho h2 hgr how;obtain⟨a',c',rfl⟩:=h1.slice;have hg4:=H2.out.1.lt;have hb4:Bk (w4.alloc (.cells #[.int .i64 (s:Int),.int .i64 nw] 70)) g d (addB u s) k v:=H2.out.1.below ((Below.refl _ _).alloc (Nat.le_refl _) _) hg4;have hb5:Bk w5 g d (addB u s) k v:=⟨by rw[hgr.block g hb4.lt (fun e=>hgB g e.symm rfl)];exact hb4.row,hb4.ld,hb4.lu,hb4.bd,hb4.bu⟩
 have hne5:NeG g (.slice a' (n+1:Nat) c'):=fun x hx=>by
  rcases how with e|e
  ·exact hgB x (e ▸ hx)
  ·rw[e] at hx;have hx':=Option.some.inj hx;have:=World.size_alloc w4 (.cells #[.int .i64 (s:Int),.int .i64 nw] 70);omega
 have f1:=hb5.fz 65;have c5:=hb5.cv;have HF:Hid (Below H w (w5.setCell ⟨g,65,none⟩ (.slice a' (n+1:Nat) c'))∧∃ u' v'',Bk (w5.setCell ⟨g,65,none⟩ (.slice a' (n+1:Nat) c')) g d u' k v''∧SetB u' (fun x=>U x∨x=s)∧TapV B (w5.setCell ⟨g,65,none⟩ (.slice a' (n+1:Nat) c')) v'' (T++[(s:Int),nw]) (n+1)∧NeG g v''):=by
  have hw:Wr g w5 (w5.setCell ⟨g,65,none⟩ (.slice a' (n+1:Nat) c')):=(Wr.refl _ _).setCell _ _;refine⟨?_,addB u s,_,hb5.setV _,HU.out,h1.wr hw hne5,hne5⟩;have b1:Below H w4 (w4.alloc (.cells #[.int .i64 (s:Int),.int .i64 nw] 70)):=(Below.refl _ _).alloc (by have:=H2.out.1.lt;omega) _;exact((H2.out.2.2.1.trans b1).trans (h2.mono (by omega))).trans (hw.below hH)
 clear h1 h2 hb4 hb5 hne5 hgr how HA HBW H2 HU c1;go_wp2
 go_end0
 exact⟨rfl,HF.out⟩
end Go.Proofs.YtncomnkdlpoelaaGreatDoor
namespace Go.Proofs.YtncomnkdlpoelaaGreatDoor
open Go.ChangeShapes Go.WideShapes Go.ChangeAt Go.RowKit
set_option linter.unusedVariables false
structure ApR where
 ok:Bool
 D:List Int
 U:List Int
 k:Int
 T:List Int
 n:Nat
def apNo:ApR:=⟨false,[],[],0,[],0⟩
open Classical in
noncomputable def withS (xs:List Int) (a:Nat):List Int:=upTo (fun v=>decide ((v:Int)∈xs∨v=a)) 256
def lessS (xs:List Int) (a:Nat):List Int:=xs.filter (fun z=>z != (a:Int))
open Classical in
noncomputable def apR (D U:List Int) (k:Int) (T:List Int) (n:Nat) (kind:Int) (a b:Nat):ApR:=
 if kind=1 then(if a<256∧¬ (a:Int)∈U∧¬ (a:Int)∈D then ⟨true,D,withS U a,k,T++[(a:Int),(b:Int)],n+1⟩ else apNo)
 else if kind=2 then(if b=1∧a<256∧¬ (a:Int)∈D∧¬ D.length=16 then ⟨true,withS D a,U,k,T,n⟩ else if b=0∧a<256∧(a:Int)∈D then ⟨true,lessS D a,U,k,T,n⟩ else apNo)
 else if kind=3 then(if b=0∧(a:Int)≤k+n then ⟨true,D,U,max a k,T.drop (ackM k a*2),n-ackM k a⟩ else apNo)
 else apNo
theorem withS_mem {xs:List Int} {a v:Nat} (h:v<256):((v:Int)∈xs∨v=a)↔(v:Int)∈withS xs a:=by
 unfold withS;rw[upTo_mem];constructor
 ·intro hv;exact⟨v,h,decide_eq_true hv,rfl⟩
 ·rintro⟨v',h1,h2,h3⟩;have:v=v':=by omega
  subst this;exact of_decide_eq_true h2
theorem lessS_mem {xs:List Int} {a v:Nat}:((v:Int)∈xs∧v≠a)↔(v:Int)∈lessS xs a:=by
 unfold lessS;rw[List.mem_filter];constructor
 ·rintro⟨h1,h2⟩;exact⟨h1,by rw[bne_iff_ne];omega⟩
 ·rintro⟨h1,h2⟩;exact⟨h1,by rw[bne_iff_ne] at h2;omega⟩
def apPost (H B g:Nat) (w:World) (r:ApR):Ending→World→Prop:=ApP H B g w r.ok (fun v=>(v:Int)∈r.D) (fun v=>(v:Int)∈r.U) r.k r.T r.n
theorem ApP.to {H B g:Nat} {w w1:World} {D D' U U':Nat→Prop} {k:Int} {T:List Int} {n:Nat} {ok:Bool} {e:Ending} {w':World} (h:ApP H B g w ok D U k T n e w') (hb:Below H w1 w) (hD:∀ v,v<256→(D v↔D' v)) (hU:∀ v,v<256→(U v↔U' v)):ApP H B g w1 ok D' U' k T n e w':=by
 obtain⟨h1,h2,h3⟩:=h;refine⟨h1,hb.trans h2,fun ho=>?_⟩;obtain⟨d,u,v,r1,r2,r3,r4,r5⟩:=h3 ho;exact⟨d,u,v,r1,r2.congr hD,r3.congr hU,r4,r5⟩
open Classical in
set_option maxRecDepth 100000 in
set_option maxHeartbeats 1000000 in
theorem with_any (ad:Option Addr) (n cap:Nat) (xs:List Int) (a:Nat) (w:World) (hn:xs.length=n) (hm:n≤1048576) (ha:At .i64 w ad xs) :
  Calls Tryz.prog 32 #[.slice ad n cap,.int .i64 a] w fun e w'=>∃ v,e=.returned v∧IO w.heap.size w' v (withS xs a)∧Below w.heap.size w w':=by
 have HW:Hid (withS xs a=upTo (fun v=>decide ((v:Int)∈xs∨v=a)) 256):=rfl;have HPD:Hid (∀ v:Nat,(fun v:Nat=>decide ((v:Int)∈xs∨v=a)) v=true↔((v:Int)∈xs∨v=a)):=fun v=>by simp
 generalize (fun v:Nat=>decide ((v:Int)∈xs∨v=a))=P at HW HPD;have HA:=hdI <| ha
 have HNX:=hdI <| hn
 have H0:Hid (LIS w P 0 (.slice (some ⟨w.heap.size,0,none⟩) 0 0) (w.alloc (.cells #[] 2))):=
  ⟨⟨by simp[upTo],.inr ⟨w.heap.size,0,#[],rfl,Nat.le_refl _,heap_alloc_new w _,Nat.le_refl _,by simp[maxLen],rfl,rfl⟩⟩,(Below.refl _ _).alloc (Nat.le_refl _) _⟩
 clear ha hn;go_enter Tryz.func32,Tryz.ntmps32;go_wp2_with fail
 go_loopw [5,6] (fun l i wr=>∃(k:Nat) (v:Value),k≤256∧i=.int .i64 k∧v=l∧LIS w P k v wr) (fun _ i _=>256-(intOf i).toNat)
 case atStart=>exact⟨0,_,by omega,rfl,rfl,H0.out⟩
 case round=>
  clear H0;obtain⟨k,l,hk,rfl,rfl,hst⟩:=hrel;by_cases hlt:k<256
  ·have hlt':(k:Int)<256:=by omega
   have HST:Hid (LIS w P k l wr):=hst;clear hst;by_cases hp:P k=true
   ·have HN:Hid (upTo P (k+1)=upTo P k++[(k:Int)]):=by show _=_;rw[upTo_succ,if_pos hp]
    have HL:Hid ((upTo P k).length≤1048576):=Nat.le_trans (upTo_len P k) (by omega);have HO:Hid (IO w.heap.size (wr.alloc (.cells #[.int .i64 (k:Int)] 2)) l (upTo P k)):=HST.out.own.alloc _;have HZ:Hid (w.heap.size≤(wr.alloc (.cells #[.int .i64 (k:Int)] 2)).heap.size):=by
     show _≤_
     have:=HST.out.below.size;simp;omega
    have HD:Hid ((k:Int)∈xs∨k=a):=(HPD.out k).1 hp;clear hp;by_cases hka:k=a
    ·subst hka;go_wp2_with (first
      |(refine wpList_app1 _ rfl (.tmp 20) (.tmp 22) rfl w.heap.size _ (upTo P k) rfl HO.out wr k rfl rfl HL.out HZ.out ?_)
      |fail)
     intro v' w3 h1 h2;have HF:Hid (LIS w P (k+1) v' w3):=⟨by rw[HN.out];exact h1,(HST.out.below.alloc HST.out.below.size _).trans h2⟩
     clear h1 h2 HO HZ HL;go_wp2;go_roundw
     case rel=>exact⟨k+1,_,by omega,by go_num,rfl,HF.out⟩
     case measure=>simp[intOf];omega
    ·have hka':¬ ((k:Int)=(a:Int)):=by omega
     have HM:Hid (memB (k:Int) xs=true):=memB_yes (HD.out.resolve_right hka);clear hka;go_wp2_with fail;refine(holds_any ad n cap xs k _ HNX.out hm (HA.out.below HST.out.below)).mono ?_;rintro e w2 ⟨rfl,rfl⟩;rw[HM.out];go_wp2_with (first
      |(refine wpList_app1 _ rfl (.tmp 20) (.tmp 22) rfl w.heap.size _ (upTo P k) rfl HO.out _ k rfl rfl HL.out HZ.out ?_)
      |fail)
     intro v' w3 h1 h2;have HF:Hid (LIS w P (k+1) v' w3):=⟨by rw[HN.out];exact h1,(HST.out.below.alloc HST.out.below.size _).trans h2⟩
     clear h1 h2 HO HZ HL;go_wp2;go_roundw
     case rel=>exact⟨k+1,_,by omega,by go_num,rfl,HF.out⟩
     case measure=>simp[intOf];omega
   ·have HF:Hid (LIS w P (k+1) l wr):=⟨by rw[upTo_succ,if_neg hp];exact HST.out.own,HST.out.below⟩
    have hka':¬ ((k:Int)=(a:Int)):=fun h=>hp ((HPD.out k).2 (.inr (by omega)))
    have HM:=hdI <| memB_no (fun h=>hp ((HPD.out k).2 (.inl h)))
    clear hp;go_wp2_with fail;refine(holds_any ad n cap xs k _ HNX.out hm (HA.out.below HST.out.below)).mono ?_;rintro e w2 ⟨rfl,rfl⟩;rw[HM.out];go_wp2;go_roundw
    case rel=>exact⟨k+1,_,by omega,by go_num,rfl,HF.out⟩
    case measure=>simp[intOf];omega
  ·have hke:k=256:=by omega
   subst hke;have HF:Hid (∃ v,Ending.returned l=.returned v∧IO w.heap.size wr v (withS xs a)∧Below w.heap.size w wr):=⟨l,rfl,by rw[HW.out];exact hst.own,hst.below⟩
   clear hst;go_wp2
   go_ret
   exact HF.out
structure LES (w:World) (xs:List Int) (a k:Nat) (v:Value) (wr:World):Prop where
 own:IO w.heap.size wr v (lessS (xs.take k) a)
 below:Below w.heap.size w wr
theorem less_yes {xs:List Int} {a k:Nat} (h:k<xs.length) (hne:¬ xs.getD k 0=(a:Int)):lessS (xs.take (k+1)) a=lessS (xs.take k) a++[xs.getD k 0]:=by
 unfold lessS;rw[take_snoc xs k h,List.filter_append];simp;simpa[List.getD] using hne
theorem less_no {xs:List Int} {a k:Nat} (h:k<xs.length) (he:xs.getD k 0=(a:Int)):lessS (xs.take (k+1)) a=lessS (xs.take k) a:=by
 unfold lessS;rw[take_snoc xs k h,List.filter_append];simp;simpa[List.getD] using he
theorem less_len (xs:List Int) (a k:Nat):(lessS (xs.take k) a).length≤k:=by
 unfold lessS;exact Nat.le_trans (List.length_filter_le _ _) (by rw[List.length_take];omega)
set_option maxRecDepth 100000 in
set_option maxHeartbeats 1000000 in
theorem less_any (ad:Option Addr) (n cap:Nat) (xs:List Int) (a:Nat) (w:World) (hn:xs.length=n) (hm:n≤1048576) (ha:At .i64 w ad xs) :
  Calls Tryz.prog 33 #[.slice ad n cap,.int .i64 a] w fun e w'=>∃ v,e=.returned v∧IO w.heap.size w' v (lessS xs a)∧Below w.heap.size w w':=by
 have HA:=hdI <| ha
 have HNX:=hdI <| hn
 have H0:Hid (LES w xs a 0 (.slice (some ⟨w.heap.size,0,none⟩) 0 0) (w.alloc (.cells #[] 2))):=
  ⟨⟨by simp[lessS],.inr ⟨w.heap.size,0,#[],rfl,Nat.le_refl _,heap_alloc_new w _,Nat.le_refl _,by simp[maxLen],rfl,rfl⟩⟩,(Below.refl _ _).alloc (Nat.le_refl _) _⟩
 clear ha hn;go_enter Tryz.func33,Tryz.ntmps33;go_wp2_with fail
 go_loopw [5,6] (fun l i wr=>∃(k:Nat) (v:Value),k≤n∧i=.int .i64 k∧v=l∧LES w xs a k v wr) (fun _ i _=>n-(intOf i).toNat)
 case atStart=>exact⟨0,_,by omega,rfl,rfl,H0.out⟩
 case round=>
  clear H0;obtain⟨k,l,hk,rfl,rfl,hst⟩:=hrel;by_cases hlt:k<n
  ·have hlt':(k:Int)<n:=by omega
   have HST:=hdI <| hst
   obtain⟨b,off,ea,hb,hc⟩:=(HA.out.below hst.below).get (by have:=HNX.out;omega);have hck:=hc k (by have:=HNX.out;omega);subst ea;clear hst hc hb;have HLT:Hid (k<xs.length):=by show _<_;have:=HNX.out;omega
   by_cases hne:xs.getD k 0=(a:Int)
   ·have HF:Hid (LES w xs a (k+1) l wr):=⟨by rw[less_no HLT.out hne];exact HST.out.own,HST.out.below⟩
    rw[hne] at hck;clear hne;go_wp2;go_roundw
    case rel=>exact⟨k+1,_,by omega,by go_num,rfl,HF.out⟩
    case measure=>simp[intOf];omega
   ·have HN:=hdI <| less_yes HLT.out hne
    have HL:Hid ((lessS (xs.take k) a).length≤1048576):=Nat.le_trans (less_len xs a k) (by omega);generalize xs.getD k 0=z at *;have HO:Hid (IO w.heap.size (wr.alloc (.cells #[.int .i64 z] 2)) l (lessS (xs.take k) a)):=HST.out.own.alloc _;have HZ:Hid (w.heap.size≤(wr.alloc (.cells #[.int .i64 z] 2)).heap.size):=by
     show _≤_
     have:=HST.out.below.size;simp;omega
    go_wp2_with (first
     |(refine wpList_app1 _ rfl (.tmp 20) (.tmp 25) rfl w.heap.size _ (lessS (xs.take k) a) rfl HO.out wr z rfl rfl HL.out HZ.out ?_)
     |fail)
    intro v' w3 h1 h2;have HF:Hid (LES w xs a (k+1) v' w3):=⟨by rw[HN.out];exact h1,(HST.out.below.alloc HST.out.below.size _).trans h2⟩
    clear h1 h2 HO HZ HL hck;go_wp2;go_roundw
    case rel=>exact⟨k+1,_,by omega,by go_num,rfl,HF.out⟩
    case measure=>simp[intOf];omega
  ·have hke:k=n:=by omega
   have hlt':¬ ((k:Int)<n):=by omega
   have HF:Hid (∃ v,Ending.returned l=.returned v∧IO w.heap.size wr v (lessS xs a)∧Below w.heap.size w wr):=⟨l,rfl,by
    have:=hst.own
    rwa [List.take_of_length_le (by have:=HNX.out;omega)] at this,hst.below⟩
   clear hst hke;go_wp2
   go_ret
   exact HF.out
def SAt (w:World) (a:Option Addr) (zs:List Int):Prop:=
 zs=[]∨∃ b off,a=some ⟨b,off,none⟩∧b<w.heap.size∧∀ i,i<zs.length→w.cell? ⟨b,off+i,none⟩=some (.int .i64 (zs.getD i 0))∧w.frozen? ⟨b,off+i,none⟩=false
theorem SAt.at_ {w:World} {a:Option Addr} {zs:List Int} (h:SAt w a zs):At .i64 w a zs:=by
 rcases h with h|⟨b,off,e,hl,hc⟩
 ·exact .inl h
 ·exact .inr ⟨b,off,e,hl,fun i hi=>(hc i hi).1⟩
def Lies (lo:Nat) (w:World) (a:Option Addr):Prop:=∀ ad,a=some ad→lo≤ad.block∧ad.block<w.heap.size
def Aprt (a b:Option Addr):Prop:=∀ x y,a=some x→b=some y→x.block≠y.block
theorem Lies.mono {lo lo':Nat} {w w':World} {a:Option Addr} (h:Lies lo w a) (hl:lo'≤lo) (hs:w.heap.size≤w'.heap.size):Lies lo' w' a:=fun ad e=>by have:=h ad e;omega
theorem SAt.keep {w w':World} {a:Option Addr} {zs:List Int} (h:SAt w a zs) (hs:w.heap.size≤w'.heap.size) (hb:∀ ad,a=some ad→ad.block<w.heap.size→w'.heap[ad.block]?=w.heap[ad.block]?):SAt w' a zs:=by
 rcases h with h|⟨b,off,e,hl,hc⟩
 ·exact .inl h
 ·have hk:=hb _ e hl;refine .inr ⟨b,off,e,by omega,fun i hi=>?_⟩;rw[World.cell?_of_block (a:=⟨b,off+i,none⟩) (w:=w) hk,World.frozen?_of_block (a:=⟨b,off+i,none⟩) (w:=w) hk];exact hc i hi
theorem At.keepT {w w':World} {a:Option Addr} {zs:List Int} (h:At .i64 w a zs) (hs:w.heap.size≤w'.heap.size) (hb:∀ ad,a=some ad→ad.block<w.heap.size→w'.heap[ad.block]?=w.heap[ad.block]?):At .i64 w' a zs:=by
 rcases h with h|⟨b,off,e,hl,hc⟩
 ·exact .inl h
 ·have hk:=hb _ e hl;refine .inr ⟨b,off,e,by omega,fun i hi=>?_⟩;rw[World.cell?_of_block (a:=⟨b,off+i,none⟩) (w:=w) hk];exact hc i hi
theorem SAt.below {w w':World} {a:Option Addr} {zs:List Int} (h:SAt w a zs) (b:Below w.heap.size w w'):SAt w' a zs:=h.keep b.size (fun ad _ hl=>b.block _ hl)
structure S3 (lo:Nat) (w:World) (aD aU aT:Option Addr) (nD nU nT:Nat) (D U T:List Int):Prop where
 d:SAt w aD D
 u:SAt w aU U
 t:SAt w aT T
 nd:D.length=nD
 nu:U.length=nU
 nt:T.length=nT*2
 ld:Lies lo w aD
 lu:Lies lo w aU
 lt:Lies lo w aT
 du:Aprt aD aU
 dt:Aprt aD aT
 ut:Aprt aU aT
theorem S3.keep {lo:Nat} {w w':World} {aD aU aT:Option Addr} {nD nU nT:Nat} {D U T:List Int} (h:S3 lo w aD aU aT nD nU nT D U T) (hs:w.heap.size≤w'.heap.size) (hb:∀ k,lo≤k→k<w.heap.size→w'.heap[k]?=w.heap[k]?):S3 lo w' aD aU aT nD nU nT D U T:=
 ⟨h.d.keep hs (fun ad e hl=>hb _ (h.ld ad e).1 hl),h.u.keep hs (fun ad e hl=>hb _ (h.lu ad e).1 hl),h.t.keep hs (fun ad e hl=>hb _ (h.lt ad e).1 hl),h.nd,h.nu,h.nt,h.ld.mono (Nat.le_refl _) hs,h.lu.mono (Nat.le_refl _) hs,h.lt.mono (Nat.le_refl _) hs,h.du,h.dt,h.ut⟩
theorem S3.below {lo:Nat} {w w':World} {aD aU aT:Option Addr} {nD nU nT:Nat} {D U T:List Int} (h:S3 lo w aD aU aT nD nU nT D U T) (b:Below w.heap.size w w'):S3 lo w' aD aU aT nD nU nT D U T:=h.keep b.size (fun k _ hk=>b.block k hk)
theorem IO.mono {B B':Nat} {w:World} {v:Value} {xs:List Int} (h:IO B' w v xs) (hB:B≤B'):IO B w v xs:=by
 refine⟨h.1,?_⟩;rcases h.2 with h'|⟨g,c,cur,h1,h2,h3⟩
 ·exact .inl h'
 ·exact .inr ⟨g,c,cur,h1,by omega,h3⟩
theorem IO.fresh {w w':World} {v:Value} {xs:List Int} (h:IO w.heap.size w' v xs):Fresh w w' v:=fun k hk=>by
 rcases h.2 with⟨h',_⟩|⟨g,c,cur,h',hb,hh,_⟩
 ·rw[h'] at hk;simp[Value.ownBlock] at hk
 ·rw[h'] at hk;simp[Value.ownBlock] at hk;have:=(Array.getElem?_eq_some_iff.1 hh).1;omega
theorem IO.form {B:Nat} {w:World} {v:Value} {xs:List Int} (h:IO B w v xs):∃ a n c,v=.slice a n c:=by
 rcases h.2 with⟨h',_⟩|⟨g,c,cur,h',_⟩
 ·exact⟨_,_,_,h'⟩
 ·exact⟨_,_,_,h'⟩
theorem IO.keep {B:Nat} {w w':World} {v:Value} {xs:List Int} (h:IO B w v xs) (hb:∀ k,B≤k→k<w.heap.size→w'.heap[k]?=w.heap[k]?):IO B w' v xs:=by
 refine⟨h.1,?_⟩;rcases h.2 with h'|⟨g,c,cur,h1,h2,h3,h4⟩
 ·exact .inl h'
 ·exact .inr ⟨g,c,cur,h1,h2,by rw[hb g h2 (Array.getElem?_eq_some_iff.1 h3).1];exact h3,h4⟩
theorem IO.below {B:Nat} {w w':World} {v:Value} {xs:List Int} (h:IO B w v xs) (b:Below w.heap.size w w'):IO B w' v xs:=h.keep (fun k _ hk=>b.block k hk)
theorem IO.wr {B R:Nat} {w w':World} {v:Value} {xs:List Int} (h:IO B w v xs) (hw:Wr R w w') (hR:R<B):IO B w' v xs:=h.keep (fun k hk _=>hw.block k (by omega))
def StFin (lo:Nat) (k:Int) (aT:Option Addr) (nT cT:Nat) (X Y:List Int) (w:World) (cs:Array Value):Prop:=
 ∃ aD nD cD aU nU cU,cs=#[.slice aD nD cD,.slice aU nU cU,.int .i64 k,.slice aT nT cT]∧IO lo w (.slice aD nD cD) X∧IO lo w (.slice aU nU cU) Y∧ApV (.slice aD nD cD) (.slice aU nU cU)
theorem StFin.below {lo:Nat} {k:Int} {aT:Option Addr} {nT cT:Nat} {X Y:List Int} {w w':World} {cs:Array Value} (h:StFin lo k aT nT cT X Y w cs) (b:Below w.heap.size w w'):StFin lo k aT nT cT X Y w' cs:=by
 obtain⟨aD,nD,cD,aU,nU,cU,e,h1,h2,h3⟩:=h;exact⟨aD,nD,cD,aU,nU,cU,e,h1.below b,h2.below b,h3⟩
def StBd (lo:Nat) (k:Int) (aT:Option Addr) (nT cT:Nat) (X Y:List Int) (w:World) (v:Value):Prop:=∃ cs,v=.agg cs∧StFin lo k aT nT cT X Y w cs
theorem StBd.below {lo:Nat} {k:Int} {aT:Option Addr} {nT cT:Nat} {X Y:List Int} {w w':World} {v:Value} (h:StBd lo k aT nT cT X Y w v) (b:Below w.heap.size w w'):StBd lo k aT nT cT X Y w' v:=by
 obtain⟨cs,e,h⟩:=h;exact⟨cs,e,h.below b⟩
theorem StBd.wr {lo R:Nat} {k:Int} {aT:Option Addr} {nT cT:Nat} {X Y:List Int} {w w':World} {v:Value} (h:StBd lo k aT nT cT X Y w v) (hw:Wr R w w') (hR:R<lo):StBd lo k aT nT cT X Y w' v:=by
 obtain⟨cs,e,aD,nD,cD,aU,nU,cU,e2,h1,h2,h3⟩:=h;exact⟨cs,e,aD,nD,cD,aU,nU,cU,e2,h1.wr hw hR,h2.wr hw hR,h3⟩
set_option maxRecDepth 100000 in
set_option maxHeartbeats 4000000 in
theorem state_any {w:World} {g:Nat} {d u:List Int} {k:Int} (aT:Option Addr) (nT cT:Nat) (P Q:Nat→Bool) (hb:Bk w g d u k (.slice aT nT cT)) (hd:SetB d (fun v=>P v=true)) (hu:SetB u (fun v=>Q v=true)) :
  Calls Tryz.prog 26 #[.pointer (some ⟨g,0,none⟩)] w fun e w'=>∃ aD nD cD aU nU cU,e=.returned (.agg #[.slice aD nD cD,.slice aU nU cU,.int .i64 k,.slice aT nT cT])∧IO w.heap.size w' (.slice aD nD cD) (upTo P 256)∧IO w.heap.size w' (.slice aU nU cU) (upTo Q 256)∧ApV (.slice aD nD cD) (.slice aU nU cU)∧Below w.heap.size w w':=by
 have HBK:=hdI <| hb
 have HGL:=hdI <| hb.lt
 have HSD:=hdI <| hd
 have HSU:=hdI <| hu
 have HSZ:Hid ((Tryz.prog.info? 26).map (·.size)=some 4):=by show _=_;kernel_rfl
 have HW0:Hid (Below w.heap.size w (w.alloc (.cells #[.slice none 0 0,.slice none 0 0,.int .i64 0,.slice none 0 0] 26)).drew):=by
  have h1:Below w.heap.size w (w.alloc (.cells #[.slice none 0 0,.slice none 0 0,.int .i64 0,.slice none 0 0] 26)):=(Below.refl _ _).alloc (Nat.le_refl _) _;exact⟨h1.os,h1.tape,h1.output,h1.size,h1.block⟩
 have HR0:Hid ((w.alloc (.cells #[.slice none 0 0,.slice none 0 0,.int .i64 0,.slice none 0 0] 26)).drew.heap[w.heap.size]?=some (.cells #[.slice none 0 0,.slice none 0 0,.int .i64 0,.slice none 0 0] 26 (0,0))):=heap_alloc_new w _;clear hb hd hu;go_enter Tryz.func26,Tryz.ntmps26;go_wp2_with fail;refine wp_region_any (by kernel_rfl) ?_;refine wpAny_slotsU (fun i a b=>if i=17 then Wr (w.heap.size) a b else Below a.heap.size a b) (frame:=(fun (a b c:Value)=>fun (t:Nat→Value)=>({ tmps:=List.toArray [a,b,c,t 0,t 1,t 2,t 3,t 4,t 5,t 6,t 7,t 8,t 9,t 10,t 11,t 12,t 13,t 14,t 15,t 16],defers:=[] }:Act)) _ _ _)
  (Ext:=fun L u w'=>ApS w (w.heap.size) 17 26 #[.slice none 0 0,.slice none 0 0,.int .i64 0,.slice none 0 0] (StFin (w.heap.size+1) k aT nT cT (upTo P 256) (upTo Q 256)) [3,7] L u w') (Good:=fun i L w' v=>if i=0 then v=.pointer (some ⟨g,0,none⟩) else if i=1 then v=.pointer (some ⟨g,0,none⟩) else if i=2 then v=.pointer (some ⟨g,0,none⟩) else if i=3 then IO (w.heap.size+1) w' v (upTo P 256) else if i=4 then v=.pointer (some ⟨g,0,none⟩) else if i=5 then v=.pointer (some ⟨g,0,none⟩) else if i=6 then v=.pointer (some ⟨g,32,none⟩) else if i=7 then IO (w.heap.size+1) w' v (upTo Q 256) else if i=8 then v=.pointer (some ⟨g,0,none⟩) else if i=9 then v=.pointer (some ⟨g,0,none⟩) else if i=10 then v=.pointer (some ⟨g,64,none⟩) else if i=11 then v=.int .i64 k else if i=12 then v=.pointer (some ⟨g,0,none⟩) else if i=13 then v=.pointer (some ⟨g,0,none⟩) else if i=14 then v=.pointer (some ⟨g,65,none⟩) else if i=15 then v=.slice aT nT cT else if i=16 then StBd (w.heap.size+1) k aT nT cT (upTo P 256) (upTo Q 256) w' v else if i=17 then L 17=true else True) ?hstab (by kernel_rfl) ?hop ?hdone _ _ ((fun (x0 x1 x2 x3 x4 x5 x6 x7 x8 x9 x10 x11 x12 x13 x14 x15 x16:Value)=>fun (i:Nat)=>if i=0 then x0 else if i=1 then x1 else if i=2 then x2 else if i=3 then x3 else if i=4 then x4 else if i=5 then x5 else if i=6 then x6 else if i=7 then x7 else if i=8 then x8 else if i=9 then x9 else if i=10 then x10 else if i=11 then x11 else if i=12 then x12 else if i=13 then x13 else if i=14 then x14 else if i=15 then x15 else if i=16 then x16 else undef) _ _ _ _ _ _ _ _ _ _ _ _ _ _ _ _ _) _ (by simp) ?ext ?start (by simp)
 case start=>intro i hi h;exact absurd h (by rw[Array.getD_eq_getD_getElem?,Array.getElem?_replicate];split<;>simp)
 case ext=>exact ApS.start ⟨HW0.out,fun p _ hp=>absurd hp (by rw[Array.getD_eq_getD_getElem?,Array.getElem?_replicate];split<;>simp),fun p _ q _ _ hp=>absurd hp (by rw[Array.getD_eq_getD_getElem?,Array.getElem?_replicate];split<;>simp)⟩ (fun i=>by rw[Array.getD_eq_getD_getElem?,Array.getElem?_replicate];split<;>rfl) HR0.out
 case hstab=>
  intro j L w9 w' i v hM hij hLi h;by_cases h3:j=3
  ·subst h3;by_cases hl:i=17
   ·subst hl;simp at h hM ⊢;exact h.wr hM (by omega)
   ·rw[if_neg hl] at hM;simp at h ⊢;exact h.below hM
  by_cases h7:j=7
  ·subst h7;by_cases hl:i=17
   ·subst hl;simp at h hM ⊢;exact h.wr hM (by omega)
   ·rw[if_neg hl] at hM;simp at h ⊢;exact h.below hM
  by_cases h16:j=16
  ·subst h16;by_cases hl:i=17
   ·subst hl;simp at h hM ⊢;exact h.wr hM (by omega)
   ·rw[if_neg hl] at hM;simp at h ⊢;exact h.below hM
  by_cases hl:j=17
  ·subst hl;simp at h ⊢;unfold updK;simp[h]
  simp only[if_neg h3,if_neg h7,if_neg h16,if_neg hl] at h ⊢;exact h
 case hop=>
  intro i o L t w' ho hLi hx hdep K hK;have hi:i<18:=(Array.getElem?_eq_some_iff.1 ho).1;obtain rfl|rfl|rfl|rfl|rfl|rfl|rfl|rfl|rfl|rfl|rfl|rfl|rfl|rfl|rfl|rfl|rfl|rfl:i=0∨i=1∨i=2∨i=3∨i=4∨i=5∨i=6∨i=7∨i=8∨i=9∨i=10∨i=11∨i=12∨i=13∨i=14∨i=15∨i=16∨i=17:=by omega
  all_goals(simp at ho;subst ho)
  ·clear hdep;have hK':=hK w' (.pointer (some ⟨g,0,none⟩)) (by simp) (hx.step (fun _ _ _ b h=>h.below b) 0 (by decide) _ (Below.refl _ _) (fun h=>absurd h (by decide))) (by rw[if_neg (by decide)];exact(Below.refl _ _));clear hK;rw[if_pos (by rfl)];go_simp;simpa[upd] using hK'
  ·have d0:t 0=.pointer (some ⟨g,0,none⟩):=by simpa using(hdep ⟨0,.data⟩ (by simp) rfl).2
   clear hdep;have hK':=hK w' (.pointer (some ⟨g,0,none⟩)) (by simp) (hx.step (fun _ _ _ b h=>h.below b) 1 (by decide) _ (Below.refl _ _) (fun h=>absurd h (by decide))) (by rw[if_neg (by decide)];exact(Below.refl _ _));clear hK;rw[if_pos (by rfl)];go_simp;simpa[upd,d0] using hK'
  ·have d1:t 1=.pointer (some ⟨g,0,none⟩):=by simpa using(hdep ⟨1,.data⟩ (by simp) rfl).2
   clear hdep;have hK':=hK w' (.pointer (some ⟨g,0,none⟩)) (by simp) (hx.step (fun _ _ _ b h=>h.below b) 2 (by decide) _ (Below.refl _ _) (fun h=>absurd h (by decide))) (by rw[if_neg (by decide)];exact(Below.refl _ _));clear hK;rw[if_pos (by rfl)];go_simp;simpa[upd,d1] using hK'
  ·have d2:t 2=.pointer (some ⟨g,0,none⟩):=by simpa using(hdep ⟨2,.data⟩ (by simp) rfl).2
   clear hdep;have hsz:=hx.lt;have bw:=hx.ax.below;have A:=list_any g 0 d P w' (fun ww hb=>(HBK.out.below (bw.trans (hb.mono bw.size)) HGL.out).batd) HSD.out;have hK':∀ ww v,IO (w.heap.size+1) ww v (upTo P 256)→Fresh w' ww v→Below w'.heap.size w' ww→K _ ww:=fun ww v hv hf hb=>hK ww v (by simpa using hv) (hx.step (fun _ _ _ b h=>h.below b) 3 (by decide) v hb (fun _=>hf)) (by rw[if_neg (by decide)];exact hb)
   clear hK;rw[if_pos (by rfl)];go_simp;try simp only[d2]
   refine A.mono ?_;rintro e w9 ⟨v9,rfl,hv9,hb9⟩;have hK2:=hK' w9 v9 (hv9.mono hsz) hv9.fresh hb9;clear hK' A hv9 bw hb9;go_simp;simpa[upd,d2] using hK2
  ·clear hdep;have hK':=hK w' (.pointer (some ⟨g,0,none⟩)) (by simp) (hx.step (fun _ _ _ b h=>h.below b) 4 (by decide) _ (Below.refl _ _) (fun h=>absurd h (by decide))) (by rw[if_neg (by decide)];exact(Below.refl _ _));clear hK;rw[if_pos (by rfl)];go_simp;simpa[upd] using hK'
  ·have d4:t 4=.pointer (some ⟨g,0,none⟩):=by simpa using(hdep ⟨4,.data⟩ (by simp) rfl).2
   clear hdep;have hK':=hK w' (.pointer (some ⟨g,0,none⟩)) (by simp) (hx.step (fun _ _ _ b h=>h.below b) 5 (by decide) _ (Below.refl _ _) (fun h=>absurd h (by decide))) (by rw[if_neg (by decide)];exact(Below.refl _ _));clear hK;rw[if_pos (by rfl)];go_simp;simpa[upd,d4] using hK'
  ·have d5:t 5=.pointer (some ⟨g,0,none⟩):=by simpa using(hdep ⟨5,.data⟩ (by simp) rfl).2
   clear hdep;have hK':=hK w' (.pointer (some ⟨g,32,none⟩)) (by simp) (hx.step (fun _ _ _ b h=>h.below b) 6 (by decide) _ (Below.refl _ _) (fun h=>absurd h (by decide))) (by rw[if_neg (by decide)];exact(Below.refl _ _));clear hK;rw[if_pos (by rfl)];go_simp;simpa[upd,d5] using hK'
  ·have d6:t 6=.pointer (some ⟨g,32,none⟩):=by simpa using(hdep ⟨6,.data⟩ (by simp) rfl).2
   clear hdep;have hsz:=hx.lt;have bw:=hx.ax.below;have A:=list_any g 32 u Q w' (fun ww hb=>(HBK.out.below (bw.trans (hb.mono bw.size)) HGL.out).batu) HSU.out;have hK':∀ ww v,IO (w.heap.size+1) ww v (upTo Q 256)→Fresh w' ww v→Below w'.heap.size w' ww→K _ ww:=fun ww v hv hf hb=>hK ww v (by simpa using hv) (hx.step (fun _ _ _ b h=>h.below b) 7 (by decide) v hb (fun _=>hf)) (by rw[if_neg (by decide)];exact hb)
   clear hK;rw[if_pos (by rfl)];go_simp;try simp only[d6]
   refine A.mono ?_;rintro e w9 ⟨v9,rfl,hv9,hb9⟩;have hK2:=hK' w9 v9 (hv9.mono hsz) hv9.fresh hb9;clear hK' A hv9 bw hb9;go_simp;simpa[upd,d6] using hK2
  ·clear hdep;have hK':=hK w' (.pointer (some ⟨g,0,none⟩)) (by simp) (hx.step (fun _ _ _ b h=>h.below b) 8 (by decide) _ (Below.refl _ _) (fun h=>absurd h (by decide))) (by rw[if_neg (by decide)];exact(Below.refl _ _));clear hK;rw[if_pos (by rfl)];go_simp;simpa[upd] using hK'
  ·have d8:t 8=.pointer (some ⟨g,0,none⟩):=by simpa using(hdep ⟨8,.data⟩ (by simp) rfl).2
   clear hdep;have hK':=hK w' (.pointer (some ⟨g,0,none⟩)) (by simp) (hx.step (fun _ _ _ b h=>h.below b) 9 (by decide) _ (Below.refl _ _) (fun h=>absurd h (by decide))) (by rw[if_neg (by decide)];exact(Below.refl _ _));clear hK;rw[if_pos (by rfl)];go_simp;simpa[upd,d8] using hK'
  ·have d9:t 9=.pointer (some ⟨g,0,none⟩):=by simpa using(hdep ⟨9,.data⟩ (by simp) rfl).2
   clear hdep;have hK':=hK w' (.pointer (some ⟨g,64,none⟩)) (by simp) (hx.step (fun _ _ _ b h=>h.below b) 10 (by decide) _ (Below.refl _ _) (fun h=>absurd h (by decide))) (by rw[if_neg (by decide)];exact(Below.refl _ _));clear hK;rw[if_pos (by rfl)];go_simp;simpa[upd,d9] using hK'
  ·have d10:t 10=.pointer (some ⟨g,64,none⟩):=by simpa using(hdep ⟨10,.data⟩ (by simp) rfl).2
   clear hdep;have cc:=(HBK.out.below hx.ax.below HGL.out).ck;have hK':=hK w' (.int .i64 k) (by simp) (hx.step (fun _ _ _ b h=>h.below b) 11 (by decide) _ (Below.refl _ _) (fun h=>absurd h (by decide))) (by rw[if_neg (by decide)];exact(Below.refl _ _));clear hK;rw[if_pos (by rfl)];go_simp;simpa[upd,d10] using hK'
  ·clear hdep;have hK':=hK w' (.pointer (some ⟨g,0,none⟩)) (by simp) (hx.step (fun _ _ _ b h=>h.below b) 12 (by decide) _ (Below.refl _ _) (fun h=>absurd h (by decide))) (by rw[if_neg (by decide)];exact(Below.refl _ _));clear hK;rw[if_pos (by rfl)];go_simp;simpa[upd] using hK'
  ·have d12:t 12=.pointer (some ⟨g,0,none⟩):=by simpa using(hdep ⟨12,.data⟩ (by simp) rfl).2
   clear hdep;have hK':=hK w' (.pointer (some ⟨g,0,none⟩)) (by simp) (hx.step (fun _ _ _ b h=>h.below b) 13 (by decide) _ (Below.refl _ _) (fun h=>absurd h (by decide))) (by rw[if_neg (by decide)];exact(Below.refl _ _));clear hK;rw[if_pos (by rfl)];go_simp;simpa[upd,d12] using hK'
  ·have d13:t 13=.pointer (some ⟨g,0,none⟩):=by simpa using(hdep ⟨13,.data⟩ (by simp) rfl).2
   clear hdep;have hK':=hK w' (.pointer (some ⟨g,65,none⟩)) (by simp) (hx.step (fun _ _ _ b h=>h.below b) 14 (by decide) _ (Below.refl _ _) (fun h=>absurd h (by decide))) (by rw[if_neg (by decide)];exact(Below.refl _ _));clear hK;rw[if_pos (by rfl)];go_simp;simpa[upd,d13] using hK'
  ·have d14:t 14=.pointer (some ⟨g,65,none⟩):=by simpa using(hdep ⟨14,.data⟩ (by simp) rfl).2
   clear hdep;have cc:=(HBK.out.below hx.ax.below HGL.out).cv;have hK':=hK w' (.slice aT nT cT) (by simp) (hx.step (fun _ _ _ b h=>h.below b) 15 (by decide) _ (Below.refl _ _) (fun h=>absurd h (by decide))) (by rw[if_neg (by decide)];exact(Below.refl _ _));clear hK;rw[if_pos (by rfl)];go_simp;simpa[upd,d14] using hK'
  ·have l3:=(hdep ⟨3,.data⟩ (by simp) rfl).1;have f3:IO (w.heap.size+1) w' (t 3) (upTo P 256):=by simpa using(hdep ⟨3,.data⟩ (by simp) rfl).2
   have l7:L 7=true:=(hdep ⟨7,.data⟩ (by simp) rfl).1;have f7:IO (w.heap.size+1) w' (t 7) (upTo Q 256):=by simpa using(hdep ⟨7,.data⟩ (by simp) rfl).2
   have d11:t 11=.int .i64 k:=by simpa using(hdep ⟨11,.data⟩ (by simp) rfl).2
   have d15:t 15=.slice aT nT cT:=by simpa using(hdep ⟨15,.data⟩ (by simp) rfl).2
   clear hdep;obtain⟨aD,nD,cD,d3⟩:=f3.form;obtain⟨aU,nU,cU,d7⟩:=f7.form;have hap:=hx.ax.ap 3 (by decide) 7 (by decide) (by decide) l3 l7;rw[d3] at f3 hap;rw[d7] at f7 hap;have hK':=hK w' (.agg #[.slice aD nD cD,.slice aU nU cU,.int .i64 k,.slice aT nT cT]) (by simpa using⟨_,rfl,aD,nD,cD,aU,nU,cU,rfl,f3,f7,hap⟩) (hx.step (fun _ _ _ b h=>h.below b) 16 (by decide) _ (Below.refl _ _) (fun h=>absurd h (by decide))) (by rw[if_neg (by decide)];exact(Below.refl _ _));clear hK f3 f7 hap;rw[if_pos (by rfl)];go_simp;simpa[upd,d3,d7,d11,d15] using hK'
  ·have f16:StBd (w.heap.size+1) k aT nT cT (upTo P 256) (upTo Q 256) w' (t 16):=by simpa using(hdep ⟨16,.data⟩ (by simp) rfl).2
   clear hdep;obtain⟨cs,e9,aD,nD,cD,aU,nU,cU,rfl,f3,f7,hap⟩:=f16;have hrs:=hx.pre hLi;have hK':∀ ww,Wr w.heap.size w' ww→ww.heap[w.heap.size]?=some (.cells #[.slice aD nD cD,.slice aU nU cU,.int .i64 k,.slice aT nT cT] 26 (0,0))→K _ ww:=fun ww hw hr=>hK ww undef (by simp[updK]) (hx.put (Nat.le_refl _) (by decide) _ hw hr ⟨aD,nD,cD,aU,nU,cU,rfl,f3.wr hw (by omega),f7.wr hw (by omega),hap⟩) (by rw[if_pos rfl];exact hw)
   clear hK f3 f7 hap;rw[if_pos (by rfl)];refine wp_store_row 26 (.tmp 2) (.tmp 19) rfl w.heap.size _ rfl e9 26 _ hrs HSZ.out rfl (by simp[Value.oneCell']) ?_;have hK2:=hK' _ (Wr.setRow _ _ _) (setRow_heap _ _ _ _ _ _ hrs);clear hK';simpa[upd,Act.put] using hK2
 case hdone=>
  intro L t w' hx hg;have l17:L 17=true:=by simpa using hg 17 (by decide)
  clear hg;obtain⟨cs,hr,aD,nD,cD,aU,nU,cU,rfl,h1,h2,h3⟩:=hx.fin l17;have HR9:Hid (w'.heap[w.heap.size]?=some (.cells #[.slice aD nD cD,.slice aU nU cU,.int .i64 k,.slice aT nT cT] 26 (0,0))):=hr;have HF:Hid (IO w.heap.size w' (.slice aD nD cD) (upTo P 256)∧IO w.heap.size w' (.slice aU nU cU) (upTo Q 256)∧ApV (.slice aD nD cD) (.slice aU nU cU)∧Below w.heap.size w w'):=⟨h1.mono (by omega),h2.mono (by omega),h3,hx.ax.below⟩
  clear hx hr h1 h2 h3;go_wp2_with fail;exact bodyPost_ret (v:=.agg #[.slice aD nD cD,.slice aU nU cU,.int .i64 k,.slice aT nT cT]) (results_cell_row rfl _ _ w.heap.size 26 _ (0,0) _ rfl HR9.out Tryz.underlying26 rfl HSZ.out) rfl ⟨aD,nD,cD,aU,nU,cU,rfl,HF.out.1,HF.out.2.1,HF.out.2.2.1,HF.out.2.2.2⟩
theorem i64_or_nat (a b:Nat) (ha:a<4611686018427387904) (hb:b<4611686018427387904):bits .or .i64 (a:Int) (b:Int)=((a ||| b:Nat):Int):=by
 have hx:a ||| b<2^62:=Nat.or_lt_two_pow (by omega) (by omega);show IntKind.i64.wrap ((BitVec.ofInt 64 (a:Int) ||| BitVec.ofInt 64 (b:Int)).toNat:Int)=_
 rw[BitVec.toNat_or,ofInt_u64 a (by omega),ofInt_u64 b (by omega),IntKind.wrap_i64];omega
theorem i64_or_add (a b:Int) (k:Nat) (ha:0≤a) (ha':a<4611686018427387904) (hb:0≤b) (hb':b<2^k) (hb'':b<4611686018427387904) (q:Int) (hd:a=q*2^k):bits .or .i64 b a=b+a:=by
 have h:=u64_or_add a b k ha (by omega) hb hb' (by omega) q hd;obtain⟨a,rfl⟩:=Int.eq_ofNat_of_zero_le ha;obtain⟨b,rfl⟩:=Int.eq_ofNat_of_zero_le hb;rw[u64_or_nat a b (by omega) (by omega)] at h;rw[i64_or_nat b a (by omega) (by omega),Nat.or_comm];omega
theorem le_step (v x:Int) (j:Nat) (hj:j<7) (h0:0≤v) (h1:v<256^j) (x0:0≤x) (x1:x<256) :
  bits .or .i64 v (wrap64 (x*2^(8*j)))=v+x*256^j:=by
 have e:(2:Int)^(8*j)=256^j:=by rw[Int.pow_mul];rfl
 have hle:(256:Int)^j≤256^6:=by
  have:j=0∨j=1∨j=2∨j=3∨j=4∨j=5∨j=6:=by omega
  rcases this with h|h|h|h|h|h|h<;>rw[h]<;>decide
 have hP0:(0:Int)<256^j:=Int.pow_pos (by decide);have e7:(256:Int)^6=281474976710656:=by decide
 rw[e7] at hle;have m0:0≤x*256^j:=Int.mul_nonneg x0 (by omega);have m1:x*256^j≤255*256^j:=Int.mul_le_mul_of_nonneg_right (by omega) (by omega);rw[e];unfold wrap64;have e2:(x*256^j+9223372036854775808)%18446744073709551616-9223372036854775808=x*256^j:=by omega
 rw[e2];exact i64_or_add _ _ (8*j) m0 (by omega) h0 (by rw[e];exact h1) (by omega) x (by rw[e])
set_option maxHeartbeats 400000 in
theorem le_any (a:Option Addr) (n cap:Nat) (zs:List Int) (w:World) (hn:zs.length=n) (hm:n≤7) (ha:At .u8 w a zs) (hz:Byte zs) :
  Calls Tryz.prog 101 #[.slice a n cap] w fun e w'=>e=.returned (.int .i64 (val 256 zs))∧w'=w:=by
 go_enter Tryz.func101,Tryz.ntmps101;go_wp2
 go_loop [3,8] (fun c i=>∃ k:Nat,k≤n∧i=.int .i64 k∧c=.int .i64 (val 256 (zs.take k))) (fun _ i=>n-(intOf i).toNat)
 case atStart=>exact⟨0,Nat.zero_le _,rfl,rfl⟩
 case round=>
  obtain⟨k,hk,rfl,rfl⟩:=hrel;by_cases hlt:k<n
  ·obtain⟨b,off,rfl,hb,hc⟩:=ha.get (by omega);have hck:=hc k (by omega);have hx:=hz.get k;have ht0:0≤val 256 (zs.take k):=val_nonneg (by decide) (fun z hz'=>hz z (List.mem_of_mem_take hz'));have ht1:val 256 (zs.take k)<256^k:=by
    have:=val_lt (B:=256) (by decide) (xs:=zs.take k) (fun z hz'=>hz z (List.mem_of_mem_take hz'))
    rwa [List.length_take,Nat.min_eq_left (by omega)] at this
   have hs:=le_step _ _ k (by omega) ht0 ht1 hx.1 hx.2;rw[←val_take 256 zs k (by omega)] at hs;have HS:Hid (bits .or .i64 (val 256 (zs.take k)) (wrap64 (zs.getD k 0*2^(8*k)))=val 256 (zs.take (k+1))):=hs;clear hs hc ht0 ht1;generalize zs.getD k 0=x at *;generalize val 256 (zs.take k)=c at *;obtain⟨hx0,hx1⟩:=hx;go_wp2
   go_round
   case rel=>exact⟨k+1,by omega,by go_num,by rw[←HS.out]⟩
   case measure=>simp[intOf];omega
  ·have hk':k=n:=by omega
   subst hk';have HT:Hid (zs.take k=zs):=List.take_of_length_le (by omega);go_wp2
   go_ret
   exact⟨ret_int (by rw[HT.out]),rfl⟩
theorem Tryz.sizeNumR:(Tryz.prog.info? 146).map (·.size)=some 4:=by kernel_rfl
theorem sizeNumR {ns:List Int} (h:ns.length=4):(Tryz.prog.info? 146).map (·.size)=some ((ns.map (Value.int .u64)).toArray).size:=by rw[Tryz.sizeNumR];simp[h]
def lW:List Int:=[6346243789798364141,1503914060200516822,0,1152921504606846976]
theorem lW_val:val 18446744073709551616 lW=bigL:=by decide
theorem lW_wrd:Wrd lW:=by unfold Wrd lW;decide
set_option maxHeartbeats 400000 in
theorem gord_any (w:World) :
  Calls Tryz.prog 154 #[] w fun e w'=>e=.returned (.agg (lW.map (Value.int .u64)).toArray)∧Below w.heap.size w w':=by
 have HR:Hid (RowW (w.alloc (.cells #[.int .u64 0,.int .u64 0,.int .u64 0,.int .u64 0] 146)) w.heap.size 146 [0,0,0,0]):=heap_alloc_new w _;have HSZ:Hid ((Tryz.prog.info? 146).map (·.size)=some ((lW.map (Value.int .u64)).toArray).size):=sizeNumR rfl;go_enter Tryz.func154,Tryz.ntmps154;go_wp2_with (refine wpList_store_row rfl 146 (.tmp 0) (.tmp 1) rfl w.heap.size ((lW.map (Value.int .u64)).toArray) rfl rfl 146 _ HR.out HSZ.out rfl (all_oneCell_toArray (ints_oneCell _ _)) ?_);refine bodyPost_ret (v:=.agg (lW.map (Value.int .u64)).toArray) (results_cell_row rfl _ _ w.heap.size 146 _ (0,0) _ rfl (setRow_heap _ _ _ _ _ _ HR.out) Tryz.underlying146 rfl HSZ.out) rfl ⟨rfl,?_⟩;exact(below_new2 _ _).trans ((Wr.setRow _ _ _).below (Nat.le_refl _))
theorem index_num (cs:Array Value) (k:Nat) (v:Value) (w:World) (hk:(k:Int)<4) (h:cs[k]?=some v) :
  (Instr.index 146 (.agg cs) (.int .i64 k)).run Tryz.prog w=.ok v w:=by
 simp[Instr.index,asIntOf,run_underlying Tryz.underlying146,part,h,go_sem];omega
def oncePost (w:World) (g:Nat) (ns:List Int) (e:Ending) (w':World):Prop:=
 e=.returned (.tuple #[])∧∃ ms,ms.length=4∧RowW w' g 146 ms∧Wrd ms∧val 18446744073709551616 ms=(if bigL≤val 18446744073709551616 ns then val 18446744073709551616 ns-bigL else val 18446744073709551616 ns)∧WrH g w w'
structure OS (w:World) (g:Nat) (ns:List Int) (k:Nat) (b:Int) (wr:World):Prop where
 bd:0≤b∧b≤1
 row:RowW wr g 146 ns
 less:∃ ms,ms.length=4∧RowW wr w.heap.size 146 ms∧Wrd ms∧val 18446744073709551616 (ns.take k)-val 18446744073709551616 (lW.take k)=val 18446744073709551616 (ms.take k)-b*18446744073709551616^k
 below:Below w.heap.size w wr
set_option maxHeartbeats 1000000 in
theorem onceR_any (g:Nat) (ns:List Int) (w:World) (hl:ns.length=4) (hr:RowW w g 146 ns) (hw:Wrd ns) :
  Calls Tryz.prog 130 #[.pointer (some ⟨g,0,none⟩)] w (oncePost w g ns):=by
 have hg:=hr.lt;have HN:=hdI <| hr
 have HR:Hid (RowW (w.alloc (.cells #[.int .u64 0,.int .u64 0,.int .u64 0,.int .u64 0] 146)) w.heap.size 146 [0,0,0,0]):=heap_alloc_new w _;have HSZ:=hdI <| sizeNumR hl
 have HZ4:Hid ((#[Value.int .u64 0,.int .u64 0,.int .u64 0,.int .u64 0]:Array Value).size=((ns.map (Value.int .u64)).toArray).size):=by show _=_;simp[hl]
 have HB:Hid (Below w.heap.size w (w.alloc (.cells #[.int .u64 0,.int .u64 0,.int .u64 0,.int .u64 0] 146))):=below_new2 _ _;clear hr;go_enter Tryz.func130,Tryz.ntmps130;go_wp2_with (first
  |(refine wpList_load_row rfl 146 (.tmp 7) rfl g rfl 146 _ (0,0) _ HN.out Tryz.underlying146 rfl HSZ.out ?_)
  |(refine wpList_store_row rfl 146 (.tmp 2) (.tmp 8) rfl w.heap.size ((ns.map (Value.int .u64)).toArray) rfl rfl 146 _ HR.out HSZ.out HZ4.out (all_oneCell_toArray (ints_oneCell _ _)) ?_)
  |fail)
 have R1:=HR.out.setRow ns;have R2:RowW ((w.alloc (.cells #[.int .u64 0,.int .u64 0,.int .u64 0,.int .u64 0] 146)).setRow w.heap.size (ns.map (Value.int .u64)).toArray) g 146 ns:=(HN.out.below HB.out hg).setRow_other _ (by omega);have B1:Below w.heap.size w ((w.alloc (.cells #[.int .u64 0,.int .u64 0,.int .u64 0,.int .u64 0] 146)).setRow w.heap.size (ns.map (Value.int .u64)).toArray):=HB.out.trans ((Wr.setRow _ _ _).below (Nat.le_refl _));clear HR HZ4 HB HSZ;generalize (w.alloc (.cells #[.int .u64 0,.int .u64 0,.int .u64 0,.int .u64 0] 146)).setRow w.heap.size (ns.map (Value.int .u64)).toArray=w1 at *;refine(gord_any _).mono ?_;rintro e w2 ⟨rfl,B2⟩;have s1:=R1.lt;have R1':=R1.below B2 s1;have R2':=R2.below B2 R2.lt;have B12:=B1.trans (B2.mono (by omega));have HS:Hid (OS w g ns 0 0 w2):=⟨⟨by decide,by decide⟩,R2',⟨ns,hl,R1',hw,by simp[val]⟩,B12⟩
 clear R1 R2 B1 B2 R1' R2' B12 HN s1;go_wp2
 go_loopw [3,10] (fun c i wr=>∃(k:Nat) (b:Int),k≤4∧i=.int .i64 k∧c=.int .u64 b∧OS w g ns k b wr) (fun _ i _=>4-(intOf i).toNat)
 case atStart=>exact⟨0,0,Nat.zero_le _,rfl,rfl,HS.out⟩
 case round=>
  obtain⟨k,b,hk,rfl,rfl,⟨hb0,hb1⟩,hrow,⟨ms,hml,hmr,hmw,hv⟩,hbel⟩:=hrel;clear HS;by_cases hlt:k<4
  ·have cn:=hrow.cell k (by omega);have cm:=hmr.cell k (by omega);have fm:=hmr.frozen k;have hx:=hw.get k;have hy:=lW_wrd.get k;have hne:g≠w.heap.size:=by omega
   have hbe:=bor_eq _ _ _ hx.1 hx.2 hy.1 hy.2 hb0 hb1;have hbb:=bor_bd (ns.getD k 0) (lW.getD k 0) b;have hd0:0≤(ns.getD k 0-lW.getD k 0-b)%18446744073709551616:=by omega
   have hd1:(ns.getD k 0-lW.getD k 0-b)%18446744073709551616<18446744073709551616:=by omega
   have S1:=hmr.set k ((ns.getD k 0-lW.getD k 0-b)%18446744073709551616);have S2:=hmw.set k _ hd0 hd1;have S3:=sub_step _ _ _ _ _ _ _ _ _ _ hv hbe;rw[←val_take _ ns k (by omega),←val_take _ lW k (by simpa[lW] using hlt),←val_set_succ _ ms k _ (by omega),←Int.pow_succ] at S3;have R:RowW (wr.setCell ⟨w.heap.size,k,none⟩ (.int .u64 ((ns.getD k 0-lW.getD k 0-b)%18446744073709551616))) g 146 ns:=((Wr.refl _ _).setCell k _).rowW hrow hne;have HO:Hid (OS w g ns (k+1) (bor (ns.getD k 0) (lW.getD k 0) b) (wr.setCell ⟨w.heap.size,k,none⟩ (.int .u64 ((ns.getD k 0-lW.getD k 0-b)%18446744073709551616)))):=
    ⟨hbb,R,⟨_,by rw[List.length_set];exact hml,S1,S2,S3⟩,hbel.setCell (Nat.le_refl _) _⟩
   clear hbe hbb hd0 hd1 S1 S2 S3 R hrow hmr hmw hv hbel;obtain⟨hx0,hx1⟩:=hx;obtain⟨hy0,hy1⟩:=hy;generalize ns.getD k 0=x at *;have hlt':(k:Int)<4:=by omega
   have hix:(lW.map (Value.int .u64)).toArray[k]?=some (.int .u64 (lW.getD k 0)):=by
    have:k<lW.length:=by simpa[lW] using hlt
    simp[this]
   have hsz:(lW.map (Value.int .u64)).toArray.size=4:=rfl;generalize (lW.map (Value.int .u64)).toArray=la at *;generalize lW.getD k 0=y at *;go_wp2_with (first|simp only[index_num la k _ _ hlt' hix]|simp only[sub64 x y b hx0 hy0 hy1 hb0 hb1]);exact⟨⟨k+1,bor x y b,by omega,by go_num,rfl,HO.out⟩,by simp[intOf];omega⟩
  ·have hk4:k=4:=by omega
   subst hk4;rw[List.take_of_length_le (by omega),List.take_of_length_le (by simp[lW]),List.take_of_length_le (by omega),lW_val] at hv;have m0:0≤val 18446744073709551616 ms:=val_nonneg (by decide) hmw;have m1:val 18446744073709551616 ms<18446744073709551616^4:=by rw[←hml];exact val_lt (by decide) hmw
   have hne:g≠w.heap.size:=by omega
   have HSZ:Hid ((Tryz.prog.info? 146).map (·.size)=some ((ms.map (Value.int .u64)).toArray).size):=sizeNumR hml;have HSN:Hid ((ns.map (Value.int .u64)).toArray.size=(ms.map (Value.int .u64)).toArray.size):=by show _=_;simp[hl,hml]
   have HN:Hid (RowW wr g 146 ns):=hrow;have HM:Hid (RowW wr w.heap.size 146 ms):=hmr;rcases (show b=0∨b=1 by omega) with rfl|rfl
   ·have HP:Hid (oncePost w g ns (.returned (.tuple #[])) (wr.setRow g (ms.map (Value.int .u64)).toArray)):=by
     refine⟨rfl,ms,hml,hrow.setRow ms,hmw,?_,?_⟩
     ·rw[if_pos (by omega)];omega
     ·exact(WrH.of_below hbel).trans (Wr.setRow _ _ _).wrH
    clear hv m0 m1 hrow hmr hmw hbel;go_wp2_with (first
     |(refine wpList_load_row rfl 146 (.tmp 2) rfl w.heap.size rfl 146 _ (0,0) _ HM.out Tryz.underlying146 rfl HSZ.out ?_)
     |(refine wpList_store_row rfl 146 (.tmp 32) (.tmp 31) rfl g ((ms.map (Value.int .u64)).toArray) rfl rfl 146 _ HN.out HSZ.out HSN.out (all_oneCell_toArray (ints_oneCell _ _)) ?_)
     |fail)
    go_end0
    exact HP.out
   ·have HP:Hid (oncePost w g ns (.returned (.tuple #[])) wr):=by
     refine⟨rfl,ns,hl,hrow,hw,?_,WrH.of_below hbel⟩;rw[if_neg (by omega)]
    clear hv m0 m1 hrow hmr hmw hbel;go_wp2
    go_end0
    exact HP.out
def NumPostR (w:World) (v:Int) (e:Ending) (w':World):Prop:=
 ∃ ms:List Int,ms.length=4∧Wrd ms∧val 18446744073709551616 ms=v∧e=.returned (.agg (ms.map (Value.int .u64)).toArray)∧Below w.heap.size w w'
theorem u8_shr_and {x b:Int} {r:Nat} (h0:0≤x) (h1:x<256) (h:b=x/2^r%2):bits .and .u64 (IntKind.u64.wrap (x/2^r)) 1=b:=by
 have hp:(0:Int)<2^r:=Int.pow_pos (by decide);have a0:0≤x/2^r:=Int.ediv_nonneg h0 (by omega);have a1:x/2^r≤x:=Int.ediv_le_self _ h0;generalize x/2^r=y at *;rw[IntKind.wrap_u64,Int.emod_eq_of_lt a0 (by omega),u64_and_mask y 1 a0 (by omega) 1 (by decide) (by decide),h];rfl
structure RN (w:World) (V:Int) (j:Nat) (wr:World):Prop where
 res:RowW wr w.heap.size 146 [0,0,0,0]
 row:∃ ns,ns.length=4∧RowW wr (w.heap.size+1) 146 ns∧Wrd ns∧val 18446744073709551616 ns=restAt V j
 below:Below w.heap.size w wr
set_option maxHeartbeats 1000000 in
theorem rnum_any (a:Option Addr) (n cap:Nat) (zs:List Int) (w:World) (hn:zs.length=n) (hm:n≤1048576) (ha:At .u8 w a zs) (hz:Byte zs) :
  Calls Tryz.prog 107 #[.slice a n cap] w (NumPostR w (val 256 zs%bigL)):=by
 have hV0:=val_nonneg (by decide) hz;have hV1:val 256 zs<2^(8*n):=by rw[←pow256r,←hn];exact val_lt (by decide) hz
 have HT:=hdI <| restAt_top _ _ hV0 hV1
 have HS:Hid (RN w (val 256 zs) (8*n) ((w.alloc (.cells #[.int .u64 0,.int .u64 0,.int .u64 0,.int .u64 0] 146)).alloc (.cells #[.int .u64 0,.int .u64 0,.int .u64 0,.int .u64 0] 146))):=
  ⟨heap_alloc2_old _ _ _,⟨[0,0,0,0],rfl,heap_alloc2_new _ _ _,by unfold Wrd;decide,by rw[HT.out];decide⟩,((Below.refl _ _).alloc (Nat.le_refl _) _).alloc (by simp) _⟩
 clear hV0 hV1 HT;go_enter Tryz.func107,Tryz.ntmps107;go_wp2
 go_loopw [4] (fun i wr=>∃(j:Nat),j≤8*n∧i=.int .i64 ((j:Int)-1)∧RN w (val 256 zs) j wr) (fun i _=>(intOf i+1).toNat)
 case atStart=>exact⟨8*n,Nat.le_refl _,by go_num,HS.out⟩
 case round=>
  clear HS;obtain⟨j,hj,rfl,hres,⟨ns,hl,hrow,hw,hv⟩,hbel⟩:=hrel;by_cases hj0:0<j
  ·obtain⟨j,rfl⟩:∃ i,j=i+1:=⟨j-1,by omega⟩
   have ei:((j+1:Nat):Int)-1=(j:Int):=by omega
   rw[ei];clear ei;obtain⟨b0,off,rfl,hb0,hc⟩:=(ha.below hbel).get (by omega);have c0:=hc (j/8) (by omega);have hb:=bitAt_byte zs j hz;have hx:=hz.get (j/8);generalize zs.getD (j/8) 0=x at *;obtain⟨hx0,hx1⟩:=hx;clear hc;have hand:=u8_shr_and hx0 hx1 hb;have hbd:=bitAt_bd (val 256 zs) j;have hst:=restAt_step (val 256 zs) j;have hbL:=restAt_bd (val 256 zs) (j+1);rw[←hv] at hst hbL;generalize bitAt (val 256 zs) j=bj at *;have HAND:=hdI <| hand
   have HST:=hdI <| hst
   have HV:=hdI <| hbL
   have HBD:=hdI <| hbd
   clear hb hand hst hbL hv hbd;have HRS:=hdI <| hres
   have HRO:=hdI <| hrow
   have HBE:=hdI <| hbel
   clear hres hrow hbel;go_wp2_with fail;rw[HAND.out];refine(push_any _ ns bj _ hl HRO.out hw HBD.out).mono ?_;rintro e w1 ⟨rfl,ms,hml,hmr,hmw,⟨c,hc0,hcv⟩,hwr1⟩;have hc00:c=0:=by
    rcases Int.lt_or_le 0 c with h|h
    ·exfalso
     have:=HV.out;have:=HBD.out;unfold bigL at *;have m0:=val_nonneg (by decide) hmw;have h2:(18446744073709551616:Int)^4=115792089237316195423570985008687907853269984665640564039457584007913129639936:=by decide
     rw[h2] at hcv;omega
    ·omega
   subst hc00;have hmv:val 18446744073709551616 ms=2*val 18446744073709551616 ns+bj:=by omega
   have HMR:=hdI <| hmr
   have HMV:=hdI <| hmv
   have HRS1:=hdI <| hwr1.rowW HRS.out (by omega)
   have HBE1:=hdI <| HBE.out.trans (hwr1.below (by omega))
   clear hcv hmr hmv hwr1 HRS HBE HRO c0;go_wp2_with fail;refine(onceR_any _ ms _ hml HMR.out hmw).mono ?_;rintro e w2 ⟨rfl,ls,hll,hlr,hlw,hlv,hwr2⟩;rw[HMV.out,←HST.out] at hlv;have HP:Hid (RN w (val 256 zs) j w2):=⟨hwr2.rowW HRS1.out (by omega),⟨ls,hll,hlr,hlw,hlv⟩,HBE1.out.trans (hwr2.below _ (by omega) HBE1.out.size)⟩
   clear hlv hwr2 hlr hlw HRS1 HBE1 HMR HMV HST HV HAND;go_wp2;go_roundw
   case rel=>exact⟨j,by omega,rfl,HP.out⟩
   case measure=>first|(simp[intOf];done)|(simp[intOf];omega)
  ·obtain rfl:j=0:=by omega
   rw[restAt_zero] at hv;have HSZ:=hdI <| sizeNumR hl
   have HZ4:Hid (([0,0,0,0].map (Value.int .u64)).toArray.size=((ns.map (Value.int .u64)).toArray).size):=by show _=_;simp[hl]
   have HRS:=hdI <| hres
   have HRO:=hdI <| hrow
   have HBE:=hdI <| hbel
   have HV:=hdI <| hv
   clear hres hrow hbel hv;go_wp2_with (first
    |(refine wpList_load_row rfl 146 (.tmp 3) rfl (w.heap.size+1) rfl 146 _ (0,0) _ HRO.out Tryz.underlying146 rfl HSZ.out ?_)
    |(refine wpList_store_row rfl 146 (.tmp 2) (.tmp 25) rfl w.heap.size ((ns.map (Value.int .u64)).toArray) rfl rfl 146 _ HRS.out HSZ.out HZ4.out (all_oneCell_toArray (ints_oneCell _ _)) ?_))
   refine bodyPost_ret (v:=.agg (ns.map (Value.int .u64)).toArray) (results_cell_row rfl _ _ w.heap.size 146 _ (0,0) _ rfl (setRow_heap _ _ _ _ _ _ HRS.out) Tryz.underlying146 rfl HSZ.out) rfl ⟨ns,hl,hw,HV.out,rfl,?_⟩;exact HBE.out.trans ((Wr.setRow _ _ _).below (Nat.le_refl _))
end Go.Proofs.YtncomnkdlpoelaaGreatDoor
namespace Go.Proofs.YtncomnkdlpoelaaGreatDoor
open Go.ChangeShapes Go.WideShapes Go.ChangeAt Go.RowKit Go.Joins
set_option linter.unusedVariables false
set_option maxHeartbeats 400000 in
theorem iok2_any (a:Option Addr) (n cap:Nat) (zs:List Int) (w:World) (hn:zs.length=n) (ha:At .u8 w a zs) (hz:Byte zs) :
  Calls Tryz.prog 102 #[.slice a n cap] w fun e w'=>e=.returned (.bool (decide (n=32∧val 256 zs<bigL)))∧Below w.heap.size w w':=by
 by_cases h:n=32
 ·subst h;go_enter Tryz.func102,Tryz.ntmps102;go_wp2_with fail;refine(rnum_any a 32 cap zs _ hn (by omega) ha hz).mono ?_;rintro e w1 ⟨ms,hml,hmw,hmv,rfl,B1⟩;have A1:=ha.below B1;go_wp2_with fail;refine(nof_any a 32 cap zs _ hn (by omega) (by omega) A1 hz).mono ?_;rintro e w2 ⟨ns,hnl,hnw,hnv,rfl,B2⟩;have HQ:Hid (decide (ms=ns)=decide (val 256 zs<bigL)):=by
   show decide (ms=ns)=decide (val 256 zs<bigL)
   rw[List.take_of_length_le (by omega)] at hnv;have z0:0≤val 256 zs:=val_nonneg (by decide) hz;by_cases hlt:val 256 zs<bigL
   ·have e:ms=ns:=val_inj (B:=18446744073709551616) (by decide) hmw hnw (by omega) (by rw[hmv,hnv,Int.emod_eq_of_lt z0 hlt]);simp[e,hlt]
   ·have e:¬ ms=ns:=fun h=>by
     rw[h,hnv] at hmv;have:=Int.emod_lt_of_pos (val 256 zs) (show 0<bigL by decide);omega
    simp[e,hlt]
  have s1:=B1.size;have HB:Hid (Below w.heap.size w w2):=B1.trans (B2.mono s1);clear hmv hnv B1 B2 A1 ha;go_wp2_with (simp only[run_eqW _ 9998 4 146 Tryz.underlying146 ms ns hml hnl]);rw[HQ.out];obtain⟨q,hq⟩:∃ q,q=decide (val 256 zs<bigL):=⟨_,rfl⟩
  rw[←hq];have HQQ:Hid (q=decide (val 256 zs<bigL)):=hq;clear hq HQ;simp only[Result.andThen_ok];go_simp;go_wp2
  go_ret
  exact⟨by rw[HQQ.out];simp,HB.out⟩
 ·have e:decide (n=32∧val 256 zs<bigL)=false:=by simp[h]
  rw[e];have h':((n:Int) == 32)=false:=by simp;omega
  go_enter Tryz.func102,Tryz.ntmps102;go_wp2
  go_ret
  exact⟨rfl,Below.refl _ _⟩
end Go.Proofs.YtncomnkdlpoelaaGreatDoor
namespace Go.Proofs.YtncomnkdlpoelaaGreatDoor
open Go.ChangeShapes Go.WideShapes Go.ChangeAt Go.RowKit
set_option linter.unusedVariables false
set_option maxRecDepth 100000 in
set_option maxHeartbeats 2000000 in
theorem ivs_any (aD aU aT:Option Addr) (nD cD nU cU nT cT:Nat) (D U:List Int) (k:Int) (T:List Int) (w:World) (hD:D.length=nD) (hU:U.length=nU) (hT:T.length=nT*2) (mD:nD≤1048576) (mU:nU≤1048576) (mT:nT≤1048576)
  (haD:At .i64 w aD D) (haU:At .i64 w aU U) (haT:At .i64 w aT T) (hnil:aT=none→nT=0∧cT=0) (hk0:-9223372036854775808≤k) (hk1:k<9223372036854775808) :
  Calls Tryz.prog 12 #[.agg #[.slice aD nD cD,.slice aU nU cU,.int .i64 k,.slice aT nT cT]] w fun e w'=>e=.returned (.bool (stB D U k T nT))∧Below w.heap.size w w':=by
 have b0:Below w.heap.size w (w.alloc (.cells #[.slice aD nD cD,.slice aU nU cU,.int .i64 k,.slice aT nT cT] 26)):=(Below.refl _ _).alloc (Nat.le_refl _) _;have HC:=openBook_any aD aU aT nD cD nU cU nT cT D U k T _ hD hU hT mD mU mT (haD.below b0) (haU.below b0) (haT.below b0) hnil hk0 hk1;have HB0:Hid (Below w.heap.size w (w.alloc (.cells #[.slice aD nD cD,.slice aU nU cU,.int .i64 k,.slice aT nT cT] 26))):=b0;clear haD haU haT hnil hk0 hk1 hD hU hT b0;go_enter Tryz.func12,Tryz.ntmps12;go_wp2_with fail;refine HC.mono ?_;rintro e w1 ⟨bk,rfl,hs,ho,hb,_⟩;have HB1:Hid (Below w.heap.size w w1):=HB0.out.trans (hb.mono HB0.out.size);have HN:Hid ((w1.alloc (.cells Tryz.zeroCells61 61)).heap[w1.heap.size]?=some (.cells Tryz.zeroCells61 61 (0,0))):=heap_alloc_new w1 _;have HSZ:Hid ((Tryz.prog.info? 61).map (·.size)=some bk.size):=by show _=_;rw[hs];exact Tryz.sizeBook
 have HEQ:Hid ((Tryz.zeroCells61).size=bk.size):=by show _=_;rw[hs];exact zc_size
 have HOK:Hid (bk.all (fun x=>x.oneCell')=true):=ho;have HB2:Hid (∀ cs,Below w.heap.size w ((w1.alloc (.cells Tryz.zeroCells61 61)).setRow w1.heap.size cs)):=fun cs=>HB1.out.trans ((((Below.refl _ _).alloc (Nat.le_refl _) _).trans ((Wr.setRow _ _ _).below (Nat.le_refl _))).mono HB1.out.size)
 clear hs ho hb HC HB0;generalize hq:stB D U k T nT=q at *;have HQ:Hid (stB D U k T nT=q):=hq;clear hq;go_wp2_with (first
  |(refine wpList_store_row rfl 61 (.tmp 3) (.tmp 8) rfl w1.heap.size bk rfl rfl 61 _ HN.out HSZ.out HEQ.out HOK.out ?_)
  |fail)
 go_ret
 exact⟨by rw[HQ.out];rfl,HB2.out _⟩
end Go.Proofs.YtncomnkdlpoelaaGreatDoor
