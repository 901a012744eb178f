import Derived.Test.YtncomnkdlpoelaaGreatDoorMCatC
import Derived.Test.YtncomnkdlpoelaaGreatDoorMSvK
open Go.Proofs.Tryz renaming prog->tP
open Go.Proofs.Tryz
open Go.Value renaming slice->aM,int->aO,pointer->aY,bool->ae,agg->af
open Go.IntKind renaming i64->aZ
open Go.Obj renaming cells->aa
open Go.Ending renaming returned->aQ
open Option renaming some->aR,none->aS
open Go renaming World->aV,Value->aX
set_option maxHeartbeats 2000000
set_option maxRecDepth 100000
namespace Go.Proofs.YtncomnkdlpoelaaGreatDoor
set_option linter.unusedVariables false
abbrev Q4:Type:=Int×Int×Int×Int
theorem al (a b:Int):(a%fp+b)%fp=(a+b)%fp:=by rw[Int.add_emod,Int.emod_emod_of_dvd _ (Int.dvd_refl fp),<-Int.add_emod]
theorem ar (a b:Int):(a+b%fp)%fp=(a+b)%fp:=by rw[Int.add_emod,Int.emod_emod_of_dvd _ (Int.dvd_refl fp),<-Int.add_emod]
theorem sl (a b:Int):(a%fp-b)%fp=(a-b)%fp:=by rw[Int.sub_emod,Int.emod_emod_of_dvd _ (Int.dvd_refl fp),<-Int.sub_emod]
theorem Yz (a b:Int):(a-b%fp)%fp=(a-b)%fp:=by rw[Int.sub_emod,Int.emod_emod_of_dvd _ (Int.dvd_refl fp),<-Int.sub_emod]
def fX (A B C G:Int):Int:=(B-A)%fp*((G-C)%fp)%fp
def fY (A B C G:Int):Int:=(G+C)%fp*((B+A)%fp)%fp
def fZ (A B C G:Int):Int:=(G-C)%fp*((G+C)%fp)%fp
def fT (A B C G:Int):Int:=(B-A)%fp*((B+A)%fp)%fp
def F4 (P Q:Q4):Q4:=
 (fX (Lt P.1 P.2.1 Q.1 Q.2.1) (Lu P.1 P.2.1 Q.1 Q.2.1) (KZ Dl P.2.2.2 Q.2.2.2) (Kj P.2.2.1 Q.2.2.1),
  fY (Lt P.1 P.2.1 Q.1 Q.2.1) (Lu P.1 P.2.1 Q.1 Q.2.1) (KZ Dl P.2.2.2 Q.2.2.2) (Kj P.2.2.1 Q.2.2.1),
  fZ (Lt P.1 P.2.1 Q.1 Q.2.1) (Lu P.1 P.2.1 Q.1 Q.2.1) (KZ Dl P.2.2.2 Q.2.2.2) (Kj P.2.2.1 Q.2.2.1),
  fT (Lt P.1 P.2.1 Q.1 Q.2.1) (Lu P.1 P.2.1 Q.1 Q.2.1) (KZ Dl P.2.2.2 Q.2.2.2) (Kj P.2.2.1 Q.2.2.1))
def Mz (l:Int) (P:Q4):Q4:=(l*P.1%fp,l*P.2.1%fp,l*P.2.2.1%fp,l*P.2.2.2%fp)
theorem aG (l m X1 Y1 X2 Y2:Int):Lt (l*X1%fp) (l*Y1%fp) (m*X2%fp) (m*Y2%fp)=l*m*Lt X1 Y1 X2 Y2%fp:=by
 unfold Lt;simp only[ml,mr,sl,Yz]
 congr 1;grind
theorem aH (l m X1 Y1 X2 Y2:Int):Lu (l*X1%fp) (l*Y1%fp) (m*X2%fp) (m*Y2%fp)=l*m*Lu X1 Y1 X2 Y2%fp:=by
 unfold Lu;simp only[ml,mr,al,ar]
 congr 1;grind
theorem aI (l m D T1 T2:Int):KZ D (l*T1%fp) (m*T2%fp)=l*m*KZ D T1 T2%fp:=by
 unfold KZ;simp only[ml,mr]
 congr 1;grind
theorem aJ (l m Z1 Z2:Int):Kj (l*Z1%fp) (m*Z2%fp)=l*m*Kj Z1 Z2%fp:=by
 unfold Kj;simp only[ml,mr,al,ar]
 congr 1;grind
theorem Ze (k A B C G:Int):fX (k*A%fp) (k*B%fp) (k*C%fp) (k*G%fp)=k*k*fX A B C G%fp:=by
 unfold fX;simp only[ml,mr,sl,Yz]
 congr 1;grind
theorem Zf (k A B C G:Int):fY (k*A%fp) (k*B%fp) (k*C%fp) (k*G%fp)=k*k*fY A B C G%fp:=by
 unfold fY;simp only[ml,mr,al,ar]
 congr 1;grind
theorem Zg (k A B C G:Int):fZ (k*A%fp) (k*B%fp) (k*C%fp) (k*G%fp)=k*k*fZ A B C G%fp:=by
 unfold fZ;simp only[ml,mr,al,ar,sl,Yz]
 congr 1;grind
theorem Zh (k A B C G:Int):fT (k*A%fp) (k*B%fp) (k*C%fp) (k*G%fp)=k*k*fT A B C G%fp:=by
 unfold fT;simp only[ml,mr,al,ar,sl,Yz]
 congr 1;grind
theorem OI (l m:Int) (P Q:Q4):F4 (Mz l P) (Mz m Q)=Mz (l*m*(l*m)) (F4 P Q):=by
 obtain⟨x,y,z,t⟩:=P;obtain⟨x',y',z',t'⟩:=Q;simp only[F4,Mz,aG,aH,aI,aJ,Ze,Zf,Zg,Zh]
theorem Uy (l m:Int) (P:Q4):Mz l (Mz m P)=Mz (l*m) P:=by
 obtain⟨x,y,z,t⟩:=P;simp only[Mz,mr,Int.mul_assoc]
def Rd (P:Q4):Prop:=(0<=P.1/\P.1<fp)/\(0<=P.2.1/\P.2.1<fp)/\(0<=P.2.2.1/\P.2.2.1<fp)/\(0<=P.2.2.2/\P.2.2.2<fp)
theorem PU {P:Q4} (h:Rd P):Mz 1 P=P:=by
 obtain⟨x,y,z,t⟩:=P;obtain⟨h1,h2,h3,h4⟩:=h;simp only[Mz,Int.one_mul];simp only at h1 h2 h3 h4;rw[Int.emod_eq_of_lt h1.1 h1.2,Int.emod_eq_of_lt h2.1 h2.2,Int.emod_eq_of_lt h3.1 h3.2,Int.emod_eq_of_lt h4.1 h4.2]
theorem PV (a:Int):0<=a%fp/\a%fp<fp:=⟨Int.emod_nonneg _ AK,Int.emod_lt_of_pos _ AK⟩
theorem V3 (P Q:Q4):Rd (F4 P Q):=⟨PV _,PV _,PV _,PV _⟩
def NV:Q4:=(0,1,1,0)
theorem Uz:F4 NV NV=Mz 4 NV:=by
 have h:Lt 0 1 0 1=1/\Lu 0 1 0 1=1/\KZ Dl 0 0=0/\Kj 1 1=2:=by
  refine⟨AK,AK,?_,AK⟩;unfold KZ;rw[Int.mul_zero];decide
 unfold NV;simp only[F4,h.1,h.2.1,h.2.2.1,h.2.2.2];decide
def E5 (V:Int) (i:Nat):Bool:=V/2^i%2 == 1
def pS (V:Int) (P:Q4):Nat->Q4
 |0=>NV
 |n+1=>bif E5 V (255-n) then F4 (F4 (pS V P n) (pS V P n)) P else F4 (pS V P n) (pS V P n)
def mS (V:Int) (P:Q4):Nat->Q4×Bool
 |0=>(NV,false)
 |n+1=>
  let d:=bif (mS V P n).2 then F4 (mS V P n).1 (mS V P n).1 else(mS V P n).1
  bif E5 V (255-n) then(F4 d P,true) else(d,(mS V P n).2)
theorem Sr (V:Int) (P:Q4) (hP:Rd P) (n:Nat):(∃ k:Nat,pS V P n=Mz (2^k) (mS V P n).1)/\((mS V P n).2=false->(mS V P n).1=NV)/\Rd (mS V P n).1:=by
 induction n with
 |zero=>exact⟨⟨0,by show NV=Mz 1 NV;decide⟩,λ_=>rfl,by show Rd NV;unfold Rd NV;decide⟩
 |succ n ih=>
  obtain⟨⟨k,hk⟩,hi,hr⟩:=ih;have hd:∃ j:Nat,F4 (pS V P n) (pS V P n)=Mz (2^j) (bif (mS V P n).2 then F4 (mS V P n).1 (mS V P n).1 else(mS V P n).1):=by
   rw[hk,OI];cases hb:(mS V P n).2 with
   |true=>exact⟨k+k+(k+k),by rw[cond_true,Int.pow_add,Int.pow_add]⟩
   |false=>
    rw[hi hb,Uz,Uy,cond_false];exact⟨k+k+(k+k)+2,by rw[Int.pow_add,Int.pow_add,Int.pow_add];rfl⟩
  obtain⟨j,hj⟩:=hd;have hrd:Rd (bif (mS V P n).2 then F4 (mS V P n).1 (mS V P n).1 else(mS V P n).1):=by
   cases (mS V P n).2 with
   |true=>exact V3 _ _
   |false=>exact hr
  cases hv:E5 V (255-n) with
  |true=>
   refine⟨⟨j+j,?_⟩,?_,?_⟩
   {simp only[pS,mS,hv,cond_true];rw[hj];have e:=OI (2^j) 1 (bif (mS V P n).2 then F4 (mS V P n).1 (mS V P n).1 else(mS V P n).1) P;rw[PU hP,Int.mul_one] at e;rw[e,Int.pow_add]};{simp only[mS,hv,cond_true];intro h;cases h};{simp only[mS,hv,cond_true];exact V3 _ _}
  |false=>
   refine⟨⟨j,?_⟩,?_,?_⟩
   {simp only[pS,mS,hv,cond_false];exact hj};{simp only[mS,hv,cond_false];intro h;rw[h];exact hi h};{simp only[mS,hv,cond_false];exact hrd}
theorem PX (n k:Nat) (X Z:Int) (h:(2:Int)^(n+1)%fp=1):(2^k*X%fp)*((2^k*Z%fp)^n%fp)%fp=X*(Z^n%fp)%fp:=by
 rw[ml,mr,mr,<-mr,N7,mr,Int.mul_pow];have e:(2:Int)^k*X*((2^k)^n*Z^n)=(2^(n+1))^k*(X*Z^n):=by
  have e1:(2:Int)^k*(2^k)^n=(2^(n+1))^k:=by
   rw[<-Int.pow_mul,<-Int.pow_add,<-Int.pow_mul];congr 1;grind
  rw[<-e1];grind
 rw[e,<-ml,<-N7,h,Int.one_pow,show(1:Int)%fp=1 from by decide,Int.one_mul]
theorem U2 (k:Nat) (X Y Z:Int):OB (2^k*X%fp) (2^k*Y%fp) (2^k*Z%fp)=OB X Y Z:=by
 have h:(2:Int)^(GG-2+1)%fp=1:=by
  have:=Jj 2 AK AK
  rwa [show GG-2+1=GG-1 from by decide +kernel]
 unfold OB;rw[Ii,Ii,PX _ k X Z h,PX _ k Y Z h]
open Go.ChangeShapes Go.WideShapes Go.ChangeAt Go.RowKit
def D7 (zs:List Int):Q4:=(mX zs Dl,mY zs,1%fp,mX zs Dl*mY zs%fp)
theorem Jm {zs:List Int} (h:mB zs Dl=true):zs.length=32/\mY zs<fp:=by
 unfold mB at h;simp only[Bool.and_eq_true] at h;exact⟨by simpa using h.1.1.1,by simpa using h.1.1.2⟩
def bB:List Int:=[88,102,102,102,102,102,102,102,102,102,102,102,102,102,102,102,102,102,102,102,102,102,102,102,102,102,102,102,102,102,102,102]
theorem IP:bB.length=32:=rfl
theorem XA:val 256 bB=Ij:=by decide +kernel
theorem Ir:Cb bB:=by unfold Cb bB;decide
theorem PY:mB bB Dl=true:=by decide +kernel
theorem Ss {bs:List Int} (hb:Cb bs) (hl:bs.length=32) (hv:val 256 bs=Ij):bs=bB:=
 GQ (B:=256) AK hb Ir (by rw[hl,IP]) (by rw[hv,XA])
variable {w w':aV} {g:Nat} {d u:List Int} {k:Int} {v:aX}
def Jn (g:Nat) (v:aX):Prop:=∀ t,v.ownBlock=aR t->t≠g
def Dg (B:Nat) (w:aV) (v:aX) (T:List Int) (n:Nat):Prop:=
 T.length=n*2/\((v=aM aS 0 0/\n=0)\/
  ∃ t o c,v=aM (aR ⟨t,o,aS⟩) n c/\B<=t/\t<w.heap.size/\n<=c/\c<=9223372036854775807/\(∀ i,i<n*2->w.cell? ⟨t,o+i,aS⟩=aR (aO aZ (T.getD i 0))/\w.frozen? ⟨t,o+i,aS⟩=false)/\∃ cs,w.heap[t]?=aR (aa cs 70 (0,0))/\o+c*2<=cs.size)
theorem Cj.tapV {B:Nat} {T:List Int} {n:Nat} (h:Cj B w v T n):Dg B w v T n:=by
 have hT:T.length=n*2:=by simpa using h.1
 refine⟨hT,?_⟩;rcases h.2 with⟨h1,h2⟩|⟨t,c,cur,h1,h2,h3,h4,h5,h6,h7⟩
 ·exact .inl ⟨h1,h2⟩
 ·refine .inr ⟨t,0,c,h1,h2,(AR.1 h3).1,h4,by unfold maxLen at h5;omega,λi hi=>?_,cur,h3,AJ⟩;rw[Ar];refine⟨?_,An _ _ _ _ _ h3⟩;subst h1;rw[World.ownsRow.cellAt h i hi];simp[show i<T.length by omega]
theorem Dg.block {B:Nat} {T:List Int} {n:Nat} (h:Dg B w v T n) (hs:w.heap.size<=w'.heap.size) (hb:∀ t,v.ownBlock=aR t->t<w.heap.size->w'.heap[t]?=w.heap[t]?):Dg B w' v T n:=by
 obtain⟨h1,h2|⟨t,o,c,e,hB,ht,hc,hm,hx,cs,hcs,hsz⟩⟩:=h
 ·exact⟨h1,.inl h2⟩
 ·have hk:=hb t (by rw[e];rfl) ht;refine⟨h1,.inr ⟨t,o,c,e,hB,AJ,hc,hm,λi hi=>?_,cs,by rw[hk];exact hcs,hsz⟩⟩;rw[Af (a:=⟨t,o+i,aS⟩) (w:=w) hk,World.frozen?_of_block (a:=⟨t,o+i,aS⟩) (w:=w) hk];exact hx i hi
theorem Dg.drop {B t o c:Nat} {T:List Int} {n:Nat} (h:Dg B w (aM (aR ⟨t,o,aS⟩) n c) T n) (m:Nat) (hm:m<=n):Dg B w (OH t o n c m) (T.drop (m*2)) (n-m):=by
 obtain⟨h1,⟨h2,_⟩|⟨t',o',c',e,hB,ht,hc,hx,hy,cs,hcs,hsz⟩⟩:=h
 ·cases h2
 ·cases e;refine⟨by rw[BF];omega,.inr ?_⟩;unfold OH;by_cases he:c=m
  {rw[AP he];exact⟨t,o,c-m,rfl,hB,ht,AJ,AJ,λi hi=>AJ,cs,hcs,AJ⟩};{rw[AQ he];refine⟨t,o+m*2,c-m,rfl,hB,ht,AJ,AJ,λi hi=>?_,cs,hcs,AJ⟩;have:=hy (m*2+i) AJ;rw[<-A7] at this;rw[show(T.drop (m*2)).getD i 0=T.getD (m*2+i) 0 by simp[List.getD]];exact this}
def M0 (H B g:Nat) (w:aV) (ok:Bool) (D U:Nat->Prop) (k:Int) (T:List Int) (n:Nat) (e:Ending) (w':aV):Prop:=
 e=aQ (ae ok)/\Below H w w'/\(ok=true->∃ d u v,Bk w' g d u k v/\DM d D/\DM u U/\Dg B w' v T n/\Jn g v)
def DW (k a:Int):Nat:=(max a k-k).toNat
theorem St {B H:Nat} {T:List Int} {n m q:Nat} {v':aX} {k':Int} (hb:Bk w g d u k v) (hH:H<=g) (hgB:Jn g v') (hv:Dg B w v' T n) :
  Bk (((w.setCell ⟨g,65,aS⟩ v').drewN q).setCell ⟨g,64,aS⟩ (aO aZ k')) g d u k' v'/\Below H w (((w.setCell ⟨g,65,aS⟩ v').drewN q).setCell ⟨g,64,aS⟩ (aO aZ k'))/\
   Dg B (((w.setCell ⟨g,65,aS⟩ v').drewN q).setCell ⟨g,64,aS⟩ (aO aZ k')) v' T n:=by
 have hw:Wr g w (((w.setCell ⟨g,65,aS⟩ v').drewN q).setCell ⟨g,64,aS⟩ (aO aZ k')):=(((Wr.refl _ _).setCell _ _).drewN _).setCell _ _;refine⟨((hb.setV v').drew q).setK k',hw.below hH,hv.block (by rw[hw.size];exact Aa _) (λt ht _=>hw.block t (hgB t ht))⟩
variable {w w':aV} {g:Nat} {d u:List Int} {k:Int} {v:aX} {D U:Nat->Prop} {T:List Int} {n H B:Nat}
theorem PZ (m:Nat) (hb:Bk w g d u k v) (hv:Dg B w v T n) (h0:0<=k) (h1:k<=1048576) (hm:m<=n) (hn:n<=1048576) (hH:H<=g) (hgB:Jn g v) :
  Calls tP 79 #[aY (aR ⟨g,0,aS⟩),aO aZ (k+m)] w λe w'=>e=aQ (.tuple #[])/\Below H w w'/\∃ v',Bk w' g d u (k+m) v'/\Dg B w' v' (T.drop (m*2)) (n-m)/\Jn g v':=by
 have hv0:=hv;obtain⟨hl,⟨rfl,hn0⟩|⟨t,o,c,rfl,hB,ht,hc,hx,hy⟩⟩:=hv
 ·have hm0:m=0:=AJ
  subst hm0;rw[show k+((0:Nat):Int)=k by omega];refine(Sp hb h0 h1).mono ?_;rintro e w1 ⟨rfl,q,rfl⟩;obtain⟨r1,r2,r3⟩:=St (q:=q) (k':=k) (m:=0) hb hH hgB hv0;exact⟨rfl,r2,_,r1,by simpa using r3,hgB⟩
 ·refine(Sq t o n c m hb h0 h1 hm hc hn hx).mono ?_;rintro e w1 ⟨rfl,q,rfl⟩;have hne:Jn g (OH t o n c m):=λx hx=>hgB x (by unfold OH at hx;split at hx<;>exact hx)
  obtain⟨r1,r2,r3⟩:=St (q:=q) (k':=k+m) (m:=m) hb hH hne (hv0.drop m hm);exact⟨rfl,r2,_,r1,r3,hne⟩
theorem Dg.slice (h:Dg B w v T n):∃ a c,v=aM a n c:=by
 obtain⟨hl,⟨h1,h2⟩|⟨t,o,c,h1,_⟩⟩:=h
 ·exact⟨aS,0,by rw[h1,h2]⟩
 ·exact⟨_,c,h1⟩
theorem Dg.drew (h:Dg B w v T n) (q:Nat):Dg B (w.drewN q) v T n:=h.block Ch (λt _ _=>rfl)
variable {w w':aV} {g:Nat} {d u:List Int} {k:Int} {v:aX} {D U:Nat->Prop} {T:List Int} {n H B:Nat}
theorem Ht {s:Nat} (h:s<256):Fp (s:Int)=true:=Aj ⟨AJ,AJ⟩
theorem Su {s:Nat} (h:¬ s<256):Fp (s:Int)=false:=Ac (λh'=>h AJ)
theorem Fv {o:Nat} (s:Nat) (hb:Q2 w g o d) (hd:DM d D) (hin:s<256/\D s):Calls tP 71 #[aY (aR ⟨g,o,aS⟩),aO aZ s] w λe w'=>e=aQ (ae true)/\w'=w:=
 GK g o s d D true w hb hd (by
  rw[Bm];exact⟨λ_=>⟨AJ,AJ,hin.2⟩,λh=>rfl⟩)
theorem Ed {o:Nat} (s:Nat) (hb:Q2 w g o d) (hd:DM d D) (hin:¬ (s<256/\D s)):Calls tP 71 #[aY (aR ⟨g,o,aS⟩),aO aZ s] w λe w'=>e=aQ (ae false)/\w'=w:=
 GK g o s d D false w hb hd (by
  rw[Bm];exact⟨λh=>(by cases h),λh=>absurd ⟨AJ,h.2.2⟩ hin⟩)
theorem Dg.wr (h:Dg B w v T n) (hw:Wr g w w') (hg:Jn g v):Dg B w' v T n:=h.block (by rw[hw.size];exact Aa _) (λt ht _=>hw.block t (hg t ht))
variable {w w':aV} {g:Nat} {d u:List Int} {k:Int} {v:aX} {D U:Nat->Prop} {T:List Int} {n H B:Nat}
theorem Cj.ownBlock (h:Cj B w v T n):∀ k,v.ownBlock=aR k->B<=k:=λk hk=>by
 rcases h.2 with⟨h',_⟩|⟨g,c,cur,h',hb,_⟩
 ·rw[h'] at hk;simp[Value.ownBlock] at hk
 ·rw[h'] at hk;simp[Value.ownBlock] at hk;omega
theorem Cj.wrg (h:Cj B w v T n) (hne:Jn g v) (hw:Wr g w w'):Cj B w' v T n:=by
 refine⟨h.1,?_⟩;rcases h.2 with h'|⟨t,c,cur,h1,h2,h3,h4⟩
 ·exact .inl h'
 ·exact .inr ⟨t,c,cur,h1,h2,by rw[hw.block t (hne t (by rw[h1];rfl))];exact h3,h4⟩
theorem Cj.alloc (h:Cj B w v T n) (o:Obj):Cj B (w.alloc o) v T n:=World.ownsRow.alloc h _
theorem L1 (w:aV) {ops:Array Oper} {rest:List Oper} {o:Oper} {a:Act} {Q:Exit->Act->aV->Prop} (hg:o.guard=aS) (sx x:Operand)
  (hop:o.op=Op.call { callee:=Callee.builtin Builtin.append,args:=#[sx,x],argTypes:=#[24,24] }) (B:Nat) (v:aX) (T:List Int) (n:Nat) (hs:a.eval sx=v) (hown:Cj B w v T n)
  (wb:aV) (s nw:Int) (hw:w=wb.alloc (aa #[aO aZ s,aO aZ nw] 70)) (hx:a.eval x=aM (aR ⟨wb.heap.size,0,aS⟩) 1 1) (hm:n<=1048576) (hB:B<=w.heap.size)
  (hK:∀ v' w',Cj B w' v' (T++[s,nw]) (n+1)->v'.oneCell'=true->Below B w w'->w.grownBy w' v.ownBlock->(v'.ownBlock=v.ownBlock\/v'.ownBlock=aR w.heap.size)->wpList tP ops Q rest (a.put o.dst v') w') :
  wpList tP ops Q (o::rest) a w:=by
 obtain⟨i0,hi,hz0,hz1,hz2⟩:=BZ Tryz.infoTap;refine wpList_append_own_at w hg sx x 24 hop B 70 i0 (af #[aO aZ 0,aO aZ 0]) 2 16 underlying24 hi hz0 hz1 hz2 rfl AK v n _ hs hown ⟨wb.heap.size,0,aS⟩ 1 1 [aO aZ s,aO aZ nw] hx rfl ?_ (by simp[Value.oneCell']) (by unfold maxLen;omega) AJ hB ?_
 ·intro j z hz;have hj:j<2:=by have:=(Am.1 hz).1;simpa using this
  rw[A0,hw,AA (AS wb _) _,Ar];have:j=0\/j=1:=AJ
  rcases this with rfl|rfl<;>simpa using hz
 intro v' w' h1 h2 _ h5;refine hK v' w' ?_ ?_ (Cf.grown h2 hB hown.ownBlock) h2 h5
 ·unfold Cj;rw[BI];exact h1
 ·rcases h1.2 with⟨h,_⟩|⟨g,c,cur,h,_⟩
  {rw[h];rfl};{rw[h];rfl}
theorem Dg.alloc (h:Dg B w v T n) (o:Obj):Dg B (w.alloc o) v T n:=h.block AL (λt _ ht=>heap_alloc_old w o ht)
theorem Dg.ownBlock (h:Dg B w v T n):∀ k,v.ownBlock=aR k->B<=k:=λk hk=>by
 obtain⟨_,⟨h',_⟩|⟨t,o,c,h',hb,_⟩⟩:=h
 ·rw[h'] at hk;simp[Value.ownBlock] at hk
 ·rw[h'] at hk;simp[Value.ownBlock] at hk;omega
theorem LC {w:aV} {t o:Nat} {cs:Array aX} {T:TypeId} {fr:Nat×Nat} (h:w.heap[t]?=aR (aa cs T fr)) (v:aX):(w.setCell ⟨t,o,aS⟩ v).heap[t]?=aR (aa (cs.setIfInBounds o v) T fr):=by
 simp[World.setCell,Array.getElem?_modify,h]
theorem Sv (w:aV) (ty:TypeId) (B:Nat) (v:aX) (T:List Int) (n:Nat) (hown:Dg B w v T n) (wb:aV) (s nw:Int) (hw:w=wb.alloc (aa #[aO aZ s,aO aZ nw] 70)) (hm:n<=1048576) (hB:B<=w.heap.size) :
  ∃ v' w',(Builtin.append_ #[24,24] ty #[v,aM (aR ⟨wb.heap.size,0,aS⟩) 1 1]).run tP w=.ok v' w'/\Dg B w' v' (T++[s,nw]) (n+1)/\w.grownBy w' v.ownBlock/\(v'.ownBlock=v.ownBlock\/v'.ownBlock=aR w.heap.size):=by
 obtain⟨i0,hi,hz0,hz1,hz2⟩:=BZ Tryz.infoTap;have hnews:∀ j u,[aO aZ s,aO aZ nw][j]?=aR u->w.cell? ((⟨wb.heap.size,0,aS⟩:Addr).add j)=aR u:=by
  intro j z hz;have hj:j<2:=by have:=(Am.1 hz).1;simpa using this
  rw[A0,hw,AA (AS wb _) _,Ar];have:j=0\/j=1:=AJ
  rcases this with rfl|rfl<;>simpa using hz
 obtain⟨hl,⟨rfl,rfl⟩|⟨t,o,c,rfl,hB0,ht,hc,hmx,hx,cs,hcs,hsz⟩⟩:=hown
 ·have hT:=BU AJ;subst hT;obtain⟨v',w',h1,h2,h3,_,h5⟩:=run_append_own_at (P:=tP) w B 24 ty 70 i0 (af #[aO aZ 0,aO aZ 0]) 2 16 underlying24 hi hz0 hz1 hz2 rfl AK (aM aS 0 0) 0 [] ⟨rfl,.inl ⟨rfl,rfl⟩⟩ ⟨wb.heap.size,0,aS⟩ 1 1 [aO aZ s,aO aZ nw] rfl hnews (by simp[Value.oneCell']) AK AK hB;exact⟨v',w',h1,Cj.tapV (T:=[]++[s,nw]) h2,h3,h5⟩
 ·have hsrc:Src tP i0.size 24 (aM (aR ⟨wb.heap.size,0,aS⟩) 1 1) 1 [aO aZ s,aO aZ nw] w:=
   Src.ofSlice w underlying24 ⟨wb.heap.size,0,aS⟩ 1 1 _ (by rw[hz1];rfl) hnews (by simp[Value.oneCell'])
  have hTl:=hl;by_cases hr:n+1<=c
  ·have hcell:∀ j,w.cell? ⟨t,j,aS⟩=cs[j]?:=λj=>Bf w t j cs _ _ hcs
   have h1:=run_append_room_src (P:=tP) w 24 24 ty 70 i0 underlying24 hi t o n c _ 1 [aO aZ s,aO aZ nw] hsrc hr
    (λj hj=>by have hj':j<2:=hj;rw[hcell,hz1,Array.getElem?_eq_getElem AJ];rfl) (λj _=>An w t _ cs _ hcs)
   have e1:w.setCells t (o+n*i0.size) [aO aZ s,aO aZ nw]=(w.setCell ⟨t,o+n*2,aS⟩ (aO aZ s)).setCell ⟨t,o+n*2+1,aS⟩ (aO aZ nw):=by rw[hz1];rfl
   rw[e1] at h1;have hc2:((w.setCell ⟨t,o+n*2,aS⟩ (aO aZ s)).setCell ⟨t,o+n*2+1,aS⟩ (aO aZ nw)).heap[t]?=aR (aa ((cs.setIfInBounds (o+n*2) (aO aZ s)).setIfInBounds (o+n*2+1) (aO aZ nw)) 70 (0,0)):=LC (LC hcs _) _;have hsz2:((w.setCell ⟨t,o+n*2,aS⟩ (aO aZ s)).setCell ⟨t,o+n*2+1,aS⟩ (aO aZ nw)).heap.size=w.heap.size:=by simp[World.setCell]
   refine⟨_,_,h1,⟨by rw[Ae,hTl];simp;omega,.inr ⟨t,o,c,rfl,hB0,by rw[hsz2];exact ht,hr,hmx,λi hi'=>⟨?_,An _ t _ _ _ hc2⟩,_,hc2,by simpa using hsz⟩⟩,⟨rfl,rfl,rfl,by rw[hsz2];exact Aa _,λk hk hne=>?_⟩,.inl rfl⟩
   ·rw[AA hc2 _];have hb:o+n*2+1<cs.size:=AJ
    by_cases h1:i<n*2
    ·have hq:=(hx i h1).1;rw[hcell] at hq;rw[Bs AJ,Bs AJ,hq];simp[List.getD,List.getElem?_append_left (show i<T.length by omega)]
    ·by_cases h2:i=n*2
     ·subst h2;rw[Bs AJ,Array.getElem?_setIfInBounds_self_of_lt AJ];simp[List.getD,hTl]
     ·obtain rfl:i=n*2+1:=AJ
      rw[<-A7,Array.getElem?_setIfInBounds_self_of_lt (by simp;omega)];simp[List.getD,hTl]
   ·have hkt:k≠t:=λe=>hne (by simp[Value.ownBlock,e])
    rw[Bj _ _ _ _ (by show k≠t;exact hkt),Bj _ _ _ _ (by show k≠t;exact hkt)]
  ·obtain rfl:c=n:=AJ
   have hcell:∀ j,w.cell? ⟨t,j,aS⟩=cs[j]?:=λj=>Bf w t j cs _ _ hcs
   have hold:=run_firstCells_some (P:=tP) w.drew i0.size c ⟨t,o,aS⟩ c c (T.map (Value.int aZ)) (by rw[hz1];simpa using hTl) (λj u hu=>by
    have hj:j<T.length:=by have:=(Am.1 hu).1;simpa using this
    rw[A0];have:=(hx j AJ).1;rw[show w.drew.cell? ⟨t,o+j,aS⟩=w.cell? ⟨t,o+j,aS⟩ from rfl,this];simp[hj] at hu |-;exact hu)
   have hcap:=nextslicecap_le (need:=c+1) (old:=c) AJ;have h1:=run_append_grow_src (P:=tP) w 24 24 ty 70 i0 (af #[aO aZ 0,aO aZ 0]) underlying24 hi hz0 (aR ⟨t,o,aS⟩) c c (T.map (Value.int aZ)) hold _ 1 [aO aZ s,aO aZ nw] hsrc AJ AJ (by rw[hz2];omega);have hlen:(T.map (Value.int aZ)++[aO aZ s,aO aZ nw]).length=(c+1)*2:=by rw[Ae,Bh,hTl];simp;omega
   have hge:=grownCap_ge w (c+1) c 70;have hle:=grownCap_le_maxLen w (c+1) c 70 (by unfold maxLen;omega);refine⟨_,_,h1,Cj.tapV (T:=T++[s,nw]) ⟨by simp[hTl];omega,.inr ⟨_,_,_,rfl,hB,AS w.drew _,hge,hle,?_,?_⟩⟩,⟨rfl,rfl,rfl,AL,λk hk _=>heap_alloc_old w.drew _ hk⟩,.inr rfl⟩
   {rw[Array.size_append,size_zeroCells,List.size_toArray,hlen,show(af #[aO aZ 0,aO aZ 0]).cells.size=2 from rfl];omega};{rw[Array.toList_append,BI,List.take_append_of_le_length (by rw[hlen];exact Aa _),Ad (by rw[hlen];exact Aa _)];rfl}
theorem L2 (w:aV) {ops:Array Oper} {rest:List Oper} {o:Oper} {a:Act} {Q:Exit->Act->aV->Prop} (hg:o.guard=aS) (sx x:Operand)
  (hop:o.op=Op.call { callee:=Callee.builtin Builtin.append,args:=#[sx,x],argTypes:=#[24,24] }) (B:Nat) (v:aX) (T:List Int) (n:Nat) (hs:a.eval sx=v) (hown:Dg B w v T n)
  (wb:aV) (s nw:Int) (hw:w=wb.alloc (aa #[aO aZ s,aO aZ nw] 70)) (hx:a.eval x=aM (aR ⟨wb.heap.size,0,aS⟩) 1 1) (hm:n<=1048576) (hB:B<=w.heap.size)
  (hK:∀ v' w',Dg B w' v' (T++[s,nw]) (n+1)->v'.oneCell'=true->Below B w w'->w.grownBy w' v.ownBlock->(v'.ownBlock=v.ownBlock\/v'.ownBlock=aR w.heap.size)->wpList tP ops Q rest (a.put o.dst v') w') :
  wpList tP ops Q (o::rest) a w:=by
 obtain⟨v',w',hr,h1,h2,h5⟩:=Sv w o.type B v T n hown wb s nw hw hm hB;obtain⟨a',c',e'⟩:=h1.slice;have hk:=hK v' w' h1 (by rw[e'];rfl) (Cf.grown h2 hB hown.ownBlock) h2 h5;refine wpList_plain hg λK hK'=>?_
 unfold Oper.wp execOp;simp only[hop,resolve,invoke,builtin,Sem.run_bind,Sem.run_pure,Result.andThen_ok,List.map_toArray,List.map_cons,List.map_nil,hs,hx,hr];exact hK' _ _ hk
theorem LD (s:Nat) (nw:Int) (hs:s<256) (hb:Bk w g d u k v) (hd:DM d D) (hu:DM u U) (hv:Dg B w v T n) (hn:n<=1048576) (hH:H<=g) (hHB:H<=B) (hgB:Jn g v) (hBw:B<=w.heap.size) :
  Calls tP 76 #[aY (aR ⟨g,0,aS⟩),aO aZ s,aO aZ nw] w λe w'=>e=aQ (.tuple #[])/\Below H w w'/\∃ u' v',Bk w' g d u' k v'/\DM u' (λx=>U x\/x=s)/\Dg B w' v' (T++[(s:Int),nw]) (n+1)/\Jn g v':=by
 have HB:AO (Bk w g d u k v):=hb;have HN:∀ q,AO (Bk ((w.setCell ⟨g,32+s/8,aS⟩ (aO .u8 ((Do u s).getD (s/8) 0))).drewN q) g d (Do u s) k v/\Dg B ((w.setCell ⟨g,32+s/8,aS⟩ (aO .u8 ((Do u s).getD (s/8) 0))).drewN q) v T n/\Below H w ((w.setCell ⟨g,32+s/8,aS⟩ (aO .u8 ((Do u s).getD (s/8) 0))).drewN q)/\B<=((w.setCell ⟨g,32+s/8,aS⟩ (aO .u8 ((Do u s).getD (s/8) 0))).drewN q).heap.size):=λq=>by
  have hw:Wr g w ((w.setCell ⟨g,32+s/8,aS⟩ (aO .u8 ((Do u s).getD (s/8) 0))).drewN q):=((Wr.refl _ _).setCell _ _).drewN _;exact⟨(hb.addU s hs).drew q,hv.wr hw hgB,hw.below hH,by rw[hw.size];exact hBw⟩
 have HU:AO (DM (Do u s) (λx=>U x\/x=s)):=hu.add s hs;clear hb hd hu hv hBw;go_enter func76,ntmps76;go_wp2_with fail;refine(Ia g 32 s u _ hs HB.o.batu).mono ?_;rintro e w4 ⟨rfl,q,rfl⟩;have H2:=HN q;clear HN HB;generalize (w.setCell ⟨g,32+s/8,aS⟩ (aO .u8 ((Do u s).getD (s/8) 0))).drewN q=w4 at *;have c1:=H2.o.1.cv;have HA:AO (Dg B (w4.alloc (aa #[aO aZ (s:Int),aO aZ nw] 70)) v T n):=H2.o.2.1.alloc _;have HBW:AO (B<=(w4.alloc (aa #[aO aZ (s:Int),aO aZ nw] 70)).heap.size):=by
  show _<=_
  have:=H2.o.2.2.2;simp;omega
 go_wp2_with (first
  |(refine L2 _ rfl (.tmp 15) (.tmp 19) rfl B v T n rfl HA.o w4 s nw rfl rfl hn HBW.o ?_)
  |fail)
 intro v' w5 h1 ho h2 hgr how;obtain⟨a',c',rfl⟩:=h1.slice;have hg4:=H2.o.1.lt;have hb4:Bk (w4.alloc (aa #[aO aZ (s:Int),aO aZ nw] 70)) g d (Do u s) k v:=H2.o.1.below (Cf.alloc Ch _) hg4;have hb5:Bk w5 g d (Do u s) k v:=⟨by rw[hgr.block g hb4.lt (λe=>hgB g e.symm rfl)];exact hb4.row,hb4.ld,hb4.lu,hb4.bd,hb4.bu⟩
 have hne5:Jn g (aM a' (n+1:Nat) c'):=λx hx=>by
  rcases how with e|e
  {exact hgB x (e ▸ hx)};{rw[e] at hx;have hx':=Bt hx;have:=Ay w4 (aa #[aO aZ (s:Int),aO aZ nw] 70);omega}
 have f1:=hb5.fz 65;have c5:=hb5.cv;have HF:AO (Below H w (w5.setCell ⟨g,65,aS⟩ (aM a' (n+1:Nat) c'))/\∃ u' v'',Bk (w5.setCell ⟨g,65,aS⟩ (aM a' (n+1:Nat) c')) g d u' k v''/\DM u' (λx=>U x\/x=s)/\Dg B (w5.setCell ⟨g,65,aS⟩ (aM a' (n+1:Nat) c')) v'' (T++[(s:Int),nw]) (n+1)/\Jn g v''):=by
  have hw:Wr g w5 (w5.setCell ⟨g,65,aS⟩ (aM a' (n+1:Nat) c')):=(Wr.refl _ _).setCell _ _;refine⟨?_,Do u s,_,hb5.setV _,HU.o,h1.wr hw hne5,hne5⟩;have b1:Below H w4 (w4.alloc (aa #[aO aZ (s:Int),aO aZ nw] 70)):=Cf.alloc (AG H2.o.1.lt) _;exact((H2.o.2.2.1.trans b1).trans (h2.mono AJ)).trans (hw.below hH)
 clear h1 h2 hb4 hb5 hne5 hgr how HA HBW H2 HU c1;go_wp2
 go_end0
 exact⟨rfl,HF.o⟩
structure Xi where
 ok:Bool
 D:List Int
 U:List Int
 k:Int
 T:List Int
 n:Nat
def EE:Xi:=⟨false,[],[],0,[],0⟩
open Classical in
noncomputable def DF (xs:List Int) (a:Nat):List Int:=DT (λv=>decide ((v:Int)∈xs\/v=a)) 256
def Dq (xs:List Int) (a:Nat):List Int:=xs.filter (λz=>z != (a:Int))
open Classical in
noncomputable def Dy (D U:List Int) (k:Int) (T:List Int) (n:Nat) (kind:Int) (a b:Nat):Xi:=
 if kind=1 then(if a<256/\¬ (a:Int)∈U/\¬ (a:Int)∈D then ⟨true,D,DF U a,k,T++[(a:Int),(b:Int)],n+1⟩ else EE)
 else if kind=2 then(if b=1/\a<256/\¬ (a:Int)∈D/\¬ D.length=16 then ⟨true,DF D a,U,k,T,n⟩ else if b=0/\a<256/\(a:Int)∈D then ⟨true,Dq D a,U,k,T,n⟩ else EE)
 else if kind=3 then(if b=0/\(a:Int)<=k+n then ⟨true,D,U,max a k,T.drop (DW k a*2),n-DW k a⟩ else EE)
 else EE
theorem Fh {xs:List Int} {a v:Nat} (h:v<256):((v:Int)∈xs\/v=a)↔(v:Int)∈DF xs a:=by
 unfold DF;rw[In];constructor
 ·intro hv;exact⟨v,h,Aj hv,rfl⟩
 ·rintro⟨v',h1,h2,h3⟩;have:v=v':=AJ
  subst this;exact of_decide_eq_true h2
theorem LE {xs:List Int} {a v:Nat}:((v:Int)∈xs/\v≠a)↔(v:Int)∈Dq xs a:=by
 unfold Dq;rw[BS];constructor
 ·rintro⟨h1,h2⟩;exact⟨h1,by rw[bne_iff_ne];omega⟩
 ·rintro⟨h1,h2⟩;exact⟨h1,by rw[bne_iff_ne] at h2;omega⟩
def Dr (H B g:Nat) (w:aV) (r:Xi):Ending->aV->Prop:=M0 H B g w r.ok (λv=>(v:Int)∈r.D) (λv=>(v:Int)∈r.U) r.k r.T r.n
theorem M0.to {H B g:Nat} {w w1:aV} {D D' U U':Nat->Prop} {k:Int} {T:List Int} {n:Nat} {ok:Bool} {e:Ending} {w':aV} (h:M0 H B g w ok D U k T n e w') (hb:Below H w1 w) (hD:∀ v,v<256->(D v↔D' v)) (hU:∀ v,v<256->(U v↔U' v)):M0 H B g w1 ok D' U' k T n e w':=by
 obtain⟨h1,h2,h3⟩:=h;refine⟨h1,hb.trans h2,λho=>?_⟩;obtain⟨d,u,v,r1,r2,r3,r4,r5⟩:=h3 ho;exact⟨d,u,v,r1,r2.congr hD,r3.congr hU,r4,r5⟩
open Classical in
theorem Hc (ad:Option Addr) (n cap:Nat) (xs:List Int) (a:Nat) (w:aV) (hn:xs.length=n) (hm:n<=1048576) (ha:At aZ w ad xs) :
  Calls tP 32 #[aM ad n cap,aO aZ a] w λe w'=>∃ v,e=aQ v/\Iow w.heap.size w' v (DF xs a)/\Below w.heap.size w w':=by
 have HW:AO (DF xs a=DT (λv=>decide ((v:Int)∈xs\/v=a)) 256):=rfl;have HPD:AO (∀ v:Nat,(λv:Nat=>decide ((v:Int)∈xs\/v=a)) v=true↔((v:Int)∈xs\/v=a)):=λv=>AL
 generalize (λv:Nat=>decide ((v:Int)∈xs\/v=a))=P at HW HPD;have HA:=CY <| ha
 have HNX:=CY <| hn
 have H0:AO (Tv w P 0 (aM (aR ⟨w.heap.size,0,aS⟩) 0 0) (w.alloc (aa #[] 2))):=
  ⟨⟨by simp[DT],.inr ⟨w.heap.size,0,#[],rfl,Aa _,AS w _,Aa _,by simp[maxLen],rfl,rfl⟩⟩,Cf.alloc Ch _⟩
 clear ha hn;go_enter func32,ntmps32;go_wp2_with fail
 go_loopw [5,6] (λl i wr=>∃(k:Nat) (v:aX),k<=256/\i=aO aZ k/\v=l/\Tv w P k v wr) (λ_ i _=>256-(intOf i).toNat)
 case atStart=>exact⟨0,_,AJ,rfl,rfl,H0.o⟩
 case round=>
  clear H0;obtain⟨k,l,hk,rfl,rfl,hst⟩:=hrel;by_cases hlt:k<256
  ·have hlt':(k:Int)<256:=AJ
   have HST:AO (Tv w P k l wr):=hst;clear hst;by_cases hp:P k=true
   ·have HN:AO (DT P (k+1)=DT P k++[(k:Int)]):=by show _=_;rw[Du,AP hp]
    have HL:AO ((DT P k).length<=1048576):=Ai (Io P k) AJ;have HO:AO (Iow w.heap.size (wr.alloc (aa #[aO aZ (k:Int)] 2)) l (DT P k)):=HST.o.own.alloc _;have HZ:AO (w.heap.size<=(wr.alloc (aa #[aO aZ (k:Int)] 2)).heap.size):=by
     show _<=_
     have:=HST.o.below.size;simp;omega
    have HD:AO ((k:Int)∈xs\/k=a):=(HPD.o k).1 hp;clear hp;by_cases hka:k=a
    ·subst hka;go_wp2_with (first
      |(refine F7 _ rfl (.tmp 20) (.tmp 22) rfl w.heap.size _ (DT P k) rfl HO.o wr k rfl rfl HL.o HZ.o ?_)
      |fail)
     intro v' w3 h1 h2;have HF:AO (Tv w P (k+1) v' w3):=⟨by rw[HN.o];exact h1,(HST.o.below.alloc HST.o.below.size _).trans h2⟩
     clear h1 h2 HO HZ HL;go_wp2;go_roundw
     case rel=>exact⟨k+1,_,AJ,by go_num,rfl,HF.o⟩
     case measure=>simp[intOf];omega
    ·have hka':¬ ((k:Int)=(a:Int)):=AJ
     have HM:AO (Df (k:Int) xs=true):=EO (HD.o.resolve_right hka);clear hka;go_wp2_with fail;refine(C3 ad n cap xs k _ HNX.o hm (HA.o.below HST.o.below)).mono ?_;rintro e w2 ⟨rfl,rfl⟩;rw[HM.o];go_wp2_with (first
      |(refine F7 _ rfl (.tmp 20) (.tmp 22) rfl w.heap.size _ (DT P k) rfl HO.o _ k rfl rfl HL.o HZ.o ?_)
      |fail)
     intro v' w3 h1 h2;have HF:AO (Tv w P (k+1) v' w3):=⟨by rw[HN.o];exact h1,(HST.o.below.alloc HST.o.below.size _).trans h2⟩
     clear h1 h2 HO HZ HL;go_wp2;go_roundw
     case rel=>exact⟨k+1,_,AJ,by go_num,rfl,HF.o⟩
     case measure=>simp[intOf];omega
   ·have HF:AO (Tv w P (k+1) l wr):=⟨by rw[Du,AQ hp];exact HST.o.own,HST.o.below⟩
    have hka':¬ ((k:Int)=(a:Int)):=λh=>hp ((HPD.o k).2 (.inr AJ))
    have HM:=CY <| Fc (λh=>hp ((HPD.o k).2 (.inl h)))
    clear hp;go_wp2_with fail;refine(C3 ad n cap xs k _ HNX.o hm (HA.o.below HST.o.below)).mono ?_;rintro e w2 ⟨rfl,rfl⟩;rw[HM.o];go_wp2;go_roundw
    case rel=>exact⟨k+1,_,AJ,by go_num,rfl,HF.o⟩
    case measure=>simp[intOf];omega
  ·have hke:k=256:=AJ
   subst hke;have HF:AO (∃ v,aQ l=aQ v/\Iow w.heap.size wr v (DF xs a)/\Below w.heap.size w wr):=⟨l,rfl,by rw[HW.o];exact hst.own,hst.below⟩
   clear hst;go_wp2
   go_ret
   exact HF.o
open Go.Joins
theorem Sw (a:Option Addr) (n cap:Nat) (zs:List Int) (w:aV) (hn:zs.length=n) (ha:At .u8 w a zs) (hz:Cb zs) :
  Calls tP 102 #[aM a n cap] w λe w'=>e=aQ (ae (decide (n=32/\val 256 zs<DZ)))/\Below w.heap.size w w':=by
 by_cases h:n=32
 ·subst h;go_enter func102,ntmps102;go_wp2_with fail;refine(Mv a 32 cap zs _ hn AJ ha hz).mono ?_;rintro e w1 ⟨ms,hml,hmw,hmv,rfl,B1⟩;have A1:=ha.below B1;go_wp2_with fail;refine(LZ a 32 cap zs _ hn AJ AJ A1 hz).mono ?_;rintro e w2 ⟨ns,hnl,hnw,hnv,rfl,B2⟩;have HQ:AO (decide (ms=ns)=decide (val 256 zs<DZ)):=by
   show decide (ms=ns)=decide (val 256 zs<DZ)
   rw[Ad AJ] at hnv;have z0:0<=val 256 zs:=C0 AK hz;by_cases hlt:val 256 zs<DZ
   ·have e:ms=ns:=GQ (B:=18446744073709551616) AK hmw hnw AJ (by rw[hmv,hnv,Int.emod_eq_of_lt z0 hlt]);simp[e,hlt]
   ·have e:¬ ms=ns:=λh=>by
     rw[h,hnv] at hmv;have:=Int.emod_lt_of_pos (val 256 zs) (show 0<DZ by decide);omega
    simp[e,hlt]
  have s1:=B1.size;have HB:AO (Below w.heap.size w w2):=B1.trans (B2.mono s1);clear hmv hnv B1 B2 A1 ha;go_wp2_with (simp only[Id _ 9998 4 146 underlying146 ms ns hml hnl]);rw[HQ.o];obtain⟨q,hq⟩:∃ q,q=decide (val 256 zs<DZ):=⟨_,rfl⟩
  rw[<-hq];have HQQ:AO (q=decide (val 256 zs<DZ)):=hq;clear hq HQ;simp only[Result.andThen_ok];go_simp;go_wp2
  go_ret
  exact⟨by rw[HQQ.o];simp,HB.o⟩
 ·have e:decide (n=32/\val 256 zs<DZ)=false:=by simp[h]
  rw[e];have h':((n:Int) == 32)=false:=by simp;omega
  go_enter func102,ntmps102;go_wp2
  go_ret
  exact⟨rfl,A8 _ _⟩
theorem U3 (aD aU aT:Option Addr) (nD cD nU cU nT cT:Nat) (D U:List Int) (k:Int) (T:List Int) (w:aV) (hD:D.length=nD) (hU:U.length=nU) (hT:T.length=nT*2) (mD:nD<=1048576) (mU:nU<=1048576) (mT:nT<=1048576)
  (haD:At aZ w aD D) (haU:At aZ w aU U) (haT:At aZ w aT T) (hnil:aT=aS->nT=0/\cT=0) (hk0:-9223372036854775808<=k) (hk1:k<9223372036854775808) :
  Calls tP 12 #[af #[aM aD nD cD,aM aU nU cU,aO aZ k,aM aT nT cT]] w λe w'=>e=aQ (ae (Ep D U k T nT))/\Below w.heap.size w w':=by
 have b0:Below w.heap.size w (w.alloc (aa #[aM aD nD cD,aM aU nU cU,aO aZ k,aM aT nT cT] 26)):=Cf.alloc Ch _;have HC:=Gg aD aU aT nD cD nU cU nT cT D U k T _ hD hU hT mD mU mT (haD.below b0) (haU.below b0) (haT.below b0) hnil hk0 hk1;have HB0:AO (Below w.heap.size w (w.alloc (aa #[aM aD nD cD,aM aU nU cU,aO aZ k,aM aT nT cT] 26))):=b0;clear haD haU haT hnil hk0 hk1 hD hU hT b0;go_enter func12,ntmps12;go_wp2_with fail;refine HC.mono ?_;rintro e w1 ⟨bk,rfl,hs,ho,hb,_⟩;have HB1:AO (Below w.heap.size w w1):=HB0.o.trans (hb.mono HB0.o.size);have HN:AO ((w1.alloc (aa Tryz.zeroCells61 61)).heap[w1.heap.size]?=aR (aa Tryz.zeroCells61 61 (0,0))):=AS w1 _;have HSZ:AO ((tP.info? 61).map (·.size)=aR bk.size):=by show _=_;rw[hs];exact Tryz.sizeBook
 have HEQ:AO ((Tryz.zeroCells61).size=bk.size):=by show _=_;rw[hs];exact FA
 have HOK:AO (bk.all (λx=>x.oneCell')=true):=ho;have HB2:AO (∀ cs,Below w.heap.size w ((w1.alloc (aa Tryz.zeroCells61 61)).setRow w1.heap.size cs)):=λcs=>HB1.o.trans (((Cf.alloc Ch _).trans ((Wr.setRow _ _ _).below Ch)).mono HB1.o.size)
 clear hs ho hb HC HB0;generalize hq:Ep D U k T nT=q at *;have HQ:AO (Ep D U k T nT=q):=hq;clear hq;go_wp2_with (first
  |(refine AE 61 (.tmp 3) (.tmp 8) w1.heap.size bk 61 HN.o HSZ.o HEQ.o HOK.o ?_)
  |fail)
 go_ret
 exact⟨by rw[HQ.o];rfl,HB2.o _⟩
end Go.Proofs.YtncomnkdlpoelaaGreatDoor
