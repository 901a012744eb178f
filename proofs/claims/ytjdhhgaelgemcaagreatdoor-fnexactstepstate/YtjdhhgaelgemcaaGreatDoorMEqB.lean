import Derived.Test.YtjdhhgaelgemcaaGreatDoorMMkB
import Derived.Test.YtjdhhgaelgemcaaGreatDoorMSvF
open Go.Proofs.Tryz
open Go.Value renaming slice->Z7,int->Z8
open Go.Obj renaming cells->aJ
open Go renaming World->aC
set_option maxHeartbeats 4000000
set_option maxRecDepth 100000
namespace Go.Proofs.YtjdhhgaelgemcaaGreatDoor
open Go.ChangeShapes Go.WideShapes Go.ChangeAt Go.RowKit
set_option linter.unusedVariables false
theorem GL {p:Prop} (h:p):AO p:=h
structure BE (w:aC) (t:TypeId) (sa sb:Array Value) (wr:aC):Prop where
 below:Below w.heap.size w wr
 b0:wr.heap[w.heap.size]?=some (aJ sa t (0,0))
 b1:wr.heap[w.heap.size+1]?=some (aJ sb t (0,0))
theorem BE.start (w:aC) (t:TypeId) (sa sb:Array Value):BE w t sa sb ((w.alloc (aJ sa t)).alloc (aJ sb t)):=by
 refine⟨(Cg.alloc Cl _).alloc AL _,?_,?_⟩
 ·rw[A5 _ _ w.heap.size AL];exact AX w _
 ·have:=AX (w.alloc (aJ sa t)) (aJ sb t)
  rwa [show(w.alloc (aJ sa t)).heap.size=w.heap.size+1 by simp] at this
theorem BE.call {w wr w':aC} {t:TypeId} {sa sb:Array Value} (h:BE w t sa sb wr) (b:Below wr.heap.size wr w'):BE w t sa sb w':=by
 have:=(AR.1 h.b1).1;exact⟨h.below.trans (b.mono h.below.size),by rw[b.block _ AJ];exact h.b0,by rw[b.block _ AJ];exact h.b1⟩
structure OE (w:aC) (t:TypeId) (sa:Array Value) (wr:aC):Prop where
 below:Below w.heap.size w wr
 b0:wr.heap[w.heap.size]?=some (aJ sa t (0,0))
theorem OE.start (w:aC) (t:TypeId) (sa:Array Value):OE w t sa (w.alloc (aJ sa t)):=⟨Cg.alloc Cl _,AX w _⟩
open Classical in
theorem Mw (ad:Option Addr) (n cap:Nat) (xs:List Int) (a:Nat) (w:aC) (hn:xs.length=n) (hm:n<=1048576) (ha:At .i64 w ad xs) :
  Calls Tryz.prog 42 #[Z7 ad n cap,Z8 .i64 a] w λe w'=>∃ v,e=.returned v/\Iow w.heap.size w' v (Df xs a)/\Below w.heap.size w w':=by
 have HW:AO (Df xs a=De (λv=>decide ((v:Int)∈xs\/v=a)) 256):=rfl;have HPD:AO (∀ v:Nat,(λv:Nat=>decide ((v:Int)∈xs\/v=a)) v=true↔((v:Int)∈xs\/v=a)):=λv=>AL
 generalize (λv:Nat=>decide ((v:Int)∈xs\/v=a))=P at HW HPD;have HA:AO (At .i64 w ad xs):=ha;have HNX:AO (xs.length=n):=hn;have H0:AO (RG w P 0 (Z7 (some ⟨w.heap.size,0,none⟩) 0 0) (w.alloc (aJ #[] 2))):=
  ⟨⟨by simp[De],.inr ⟨w.heap.size,0,#[],rfl,Ac _,AX w _,Ac _,by simp[maxLen],rfl,rfl⟩⟩,Cg.alloc Cl _⟩
 clear ha hn;go_enter func42,ntmps42;go_wp2_with fail
 go_loopw [5,6] (λl i wr=>∃(k:Nat) (v:Value),k<=256/\i=Z8 .i64 k/\v=l/\RG w P k v wr) (λ_ i _=>256-(intOf i).toNat)
 case atStart=>exact⟨0,_,AJ,rfl,rfl,H0.o⟩
 case round=>
  clear H0;obtain⟨k,l,hk,rfl,rfl,hst⟩:=hrel;by_cases hlt:k<256
  ·have hlt':(k:Int)<256:=AJ
   have HST:AO (RG w P k l wr):=hst;clear hst;by_cases hp:P k=true
   ·have HN:AO (De P (k+1)=De P k++[(k:Int)]):=by show _=_;rw[FQ,AP hp]
    have HL:AO ((De P k).length<=1048576):=BG (JW P k) AJ;have HO:AO (Iow w.heap.size (wr.alloc (aJ #[Z8 .i64 (k:Int)] 2)) l (De P k)):=HST.o.own.alloc _;have HZ:AO (w.heap.size<=(wr.alloc (aJ #[Z8 .i64 (k:Int)] 2)).heap.size):=by
     show _<=_
     have:=HST.o.below.size;simp;omega
    have HD:AO ((k:Int)∈xs\/k=a):=(HPD.o k).1 hp;clear hp;by_cases hka:k=a
    ·subst hka;go_wp2_with (first
      |(refine Fk _ rfl (.tmp 20) (.tmp 22) rfl w.heap.size _ (De P k) rfl HO.o wr k rfl rfl HL.o HZ.o ?_)
      |fail)
     intro v' w3 h1 h2;have HF:AO (RG w P (k+1) v' w3):=⟨by rw[HN.o];exact h1,(HST.o.below.alloc HST.o.below.size _).trans h2⟩
     clear h1 h2 HO HZ HL;go_wp2;go_roundw
     case rel=>exact⟨k+1,_,AJ,by go_num,rfl,HF.o⟩
     case measure=>simp[intOf];omega
    ·have hka':¬ ((k:Int)=(a:Int)):=AJ
     have HM:AO (DO (k:Int) xs=true):=Fb (HD.o.resolve_right hka);clear hka;go_wp2_with fail;refine(Dd ad n cap xs k _ HNX.o hm (HA.o.below HST.o.below)).mono ?_;rintro e w2 ⟨rfl,rfl⟩;rw[HM.o];go_wp2_with (first
      |(refine Fk _ rfl (.tmp 20) (.tmp 22) rfl w.heap.size _ (De P k) rfl HO.o _ k rfl rfl HL.o HZ.o ?_)
      |fail)
     intro v' w3 h1 h2;have HF:AO (RG w P (k+1) v' w3):=⟨by rw[HN.o];exact h1,(HST.o.below.alloc HST.o.below.size _).trans h2⟩
     clear h1 h2 HO HZ HL;go_wp2;go_roundw
     case rel=>exact⟨k+1,_,AJ,by go_num,rfl,HF.o⟩
     case measure=>simp[intOf];omega
   ·have HF:AO (RG w P (k+1) l wr):=⟨by rw[FQ,AQ hp];exact HST.o.own,HST.o.below⟩
    have hka':¬ ((k:Int)=(a:Int)):=λh=>hp ((HPD.o k).2 (.inr AJ))
    have HM:AO (DO (k:Int) xs=false):=Hc (λh=>hp ((HPD.o k).2 (.inl h)));clear hp;go_wp2_with fail;refine(Dd ad n cap xs k _ HNX.o hm (HA.o.below HST.o.below)).mono ?_;rintro e w2 ⟨rfl,rfl⟩;rw[HM.o];go_wp2;go_roundw
    case rel=>exact⟨k+1,_,AJ,by go_num,rfl,HF.o⟩
    case measure=>simp[intOf];omega
  ·have hke:k=256:=AJ
   subst hke;have HF:AO (∃ v,Ending.returned l=.returned v/\Iow w.heap.size wr v (Df xs a)/\Below w.heap.size w wr):=⟨l,rfl,by rw[HW.o];exact hst.own,hst.below⟩
   clear hst;go_wp2
   go_ret
   exact HF.o
end Go.Proofs.YtjdhhgaelgemcaaGreatDoor
namespace Go.Proofs.YtjdhhgaelgemcaaGreatDoor
open Go.ChangeShapes Go.WideShapes Go.ChangeAt Go.RowKit Go.Joins
set_option linter.unusedVariables false
theorem Sk (a:Option Addr) (n cap:Nat) (zs:List Int) (w:aC) (hn:zs.length=n) (ha:At .u8 w a zs) (hz:Ci zs) :
  Calls Tryz.prog 101 #[Z7 a n cap] w λe w'=>e=.returned (.bool (decide (n=32/\val 256 zs<DQ)))/\Below w.heap.size w w':=by
 by_cases h:n=32
 ·subst h;go_enter func101,ntmps101;go_wp2_with fail;refine(Ml a 32 cap zs _ hn AJ ha hz).mono ?_;rintro e w1 ⟨ms,hml,hmw,hmv,rfl,B1⟩;have A1:=ha.below B1;go_wp2_with fail;refine(LA a 32 cap zs _ hn AJ AJ A1 hz).mono ?_;rintro e w2 ⟨ns,hnl,hnw,hnv,rfl,B2⟩;have HQ:AO (decide (ms=ns)=decide (val 256 zs<DQ)):=by
   show decide (ms=ns)=decide (val 256 zs<DQ)
   rw[Ad AJ] at hnv;have z0:0<=val 256 zs:=C0 AK hz;by_cases hlt:val 256 zs<DQ
   ·have e:ms=ns:=F6 (B:=18446744073709551616) AK hmw hnw AJ (by rw[hmv,hnv,Int.emod_eq_of_lt z0 hlt]);simp[e,hlt]
   ·have e:¬ ms=ns:=λh=>by
     rw[h,hnv] at hmv;have:=Int.emod_lt_of_pos (val 256 zs) (show 0<DQ by decide);omega
    simp[e,hlt]
  have s1:=B1.size;have HB:AO (Below w.heap.size w w2):=B1.trans (B2.mono s1);clear hmv hnv B1 B2 A1 ha;go_wp2_with (simp only[IF _ 9998 4 143 underlying143 ms ns hml hnl]);rw[HQ.o];obtain⟨q,hq⟩:∃ q,q=decide (val 256 zs<DQ):=⟨_,rfl⟩
  rw[<-hq];have HQQ:AO (q=decide (val 256 zs<DQ)):=hq;clear hq HQ;simp only[Result.andThen_ok];go_simp;go_wp2
  go_ret
  exact⟨by rw[HQQ.o];simp,HB.o⟩
 ·have e:decide (n=32/\val 256 zs<DQ)=false:=by simp[h]
  rw[e];have h':((n:Int) == 32)=false:=by simp;omega
  go_enter func101,ntmps101;go_wp2
  go_ret
  exact⟨rfl,A9 _ _⟩
end Go.Proofs.YtjdhhgaelgemcaaGreatDoor
namespace Go.Proofs.YtjdhhgaelgemcaaGreatDoor
open Go.ChangeShapes Go.WideShapes Go.ChangeAt Go.RowKit
set_option linter.unusedVariables false
theorem Sl (aD aU aT:Option Addr) (nD cD nU cU nT cT:Nat) (k:Int) (left:Int) (w:aC) (h0:0<=left) (h1:left<=1048576) (mD:nD<=9223372036854775807) (mU:nU<=9223372036854775807) (mT:nT<=9223372036854775807) :
  Calls Tryz.prog 4 #[.agg #[Z7 aD nD cD,Z7 aU nU cU,Z8 .i64 k,Z7 aT nT cT],Z8 .i64 left] w λe w'=>e=.returned (Z8 .i64 (Hd left (nD+nU+nT)))/\Below w.heap.size w w':=by
 have HZ:AO (∀ left n,Hd left n=if left<n then -1 else left-n):=λ_ _=>rfl
 have HE0:AO (OE w 25 #[Z7 aD nD cD,Z7 aU nU cU,Z8 .i64 k,Z7 aT nT cT] (w.alloc (aJ #[Z7 aD nD cD,Z7 aU nU cU,Z8 .i64 k,Z7 aT nT cT] 25))):=OE.start _ _ _;go_enter func4,ntmps4;go_wp2_with fail;generalize (w.alloc (aJ #[Z7 aD nD cD,Z7 aU nU cU,Z8 .i64 k,Z7 aT nT cT] 25))=w0 at *;refine(Ov _ _ _ _ _ h0 h1 mD).mono ?_;rintro e w1 ⟨rfl,rfl⟩;have HE1:AO (OE w 25 #[Z7 aD nD cD,Z7 aU nU cU,Z8 .i64 k,Z7 aT nT cT] w1):=HE0.o;clear HE0;by_cases k0:left<((nD:Nat):Int)
 ·have r:Hd (left) (nD)=-1:=by rw[HZ.o,AP k0]
  have HR:AO (Hd left (nD+nU+nT)=-1):=by show _=_;rw[HZ.o,AP AJ]
  have HF:AO (Below w.heap.size w w1):=HE1.o.below;rw[r];clear r k0 HE1;go_wp2
  go_ret
  exact⟨DS HR.o.symm,HF.o⟩
 have r:Hd (left) (nD)=left-((nD:Nat):Int):=by rw[HZ.o,AQ k0]
 rw[r];clear r;have q0:¬ (left-((nD:Nat):Int)<0):=AJ
 have z0:0<=left-((nD:Nat):Int):=AJ
 have zz0:left-((nD:Nat):Int)<=1048576:=AJ
 generalize el0:left-((nD:Nat):Int)=l0 at *;have HQ0:AO (left-((nD:Nat):Int)=l0):=el0;clear el0;have x1:w1.cell? ⟨w.heap.size,1,none⟩=some (Z7 aU nU cU):=by rw[AA HE1.o.b0 1];rfl
 go_wp2_with fail;clear x1 q0;refine(Ov _ _ _ _ _ z0 zz0 mU).mono ?_;rintro e w2 ⟨rfl,rfl⟩;have HE2:AO (OE w 25 #[Z7 aD nD cD,Z7 aU nU cU,Z8 .i64 k,Z7 aT nT cT] w2):=HE1.o;clear HE1;by_cases k1:l0<((nU:Nat):Int)
 ·have r:Hd (l0) (nU)=-1:=by rw[HZ.o,AP k1]
  have HR:AO (Hd left (nD+nU+nT)=-1):=by show _=_;have:=HQ0.o;rw[HZ.o,AP AJ]
  have HF:AO (Below w.heap.size w w2):=HE2.o.below;rw[r];clear r k1 HE2;go_wp2
  go_ret
  exact⟨DS HR.o.symm,HF.o⟩
 have r:Hd (l0) (nU)=l0-((nU:Nat):Int):=by rw[HZ.o,AQ k1]
 rw[r];clear r;have q1:¬ (l0-((nU:Nat):Int)<0):=AJ
 have z1:0<=l0-((nU:Nat):Int):=AJ
 have zz1:l0-((nU:Nat):Int)<=1048576:=AJ
 generalize el1:l0-((nU:Nat):Int)=l1 at *;have HQ1:AO (l0-((nU:Nat):Int)=l1):=el1;clear el1;have x3:w2.cell? ⟨w.heap.size,3,none⟩=some (Z7 aT nT cT):=by rw[AA HE2.o.b0 3];rfl
 go_wp2_with fail;clear x3 q1;refine(UZ _ _ _ _ _ z1 zz1 mT).mono ?_;rintro e w3 ⟨rfl,rfl⟩;have HE3:AO (OE w 25 #[Z7 aD nD cD,Z7 aU nU cU,Z8 .i64 k,Z7 aT nT cT] w3):=HE2.o;clear HE2;by_cases k2:l1<((nT:Nat):Int)
 ·have r:Hd (l1) (nT)=-1:=by rw[HZ.o,AP k2]
  have HR:AO (Hd left (nD+nU+nT)=-1):=by show _=_;have:=HQ0.o;have:=HQ1.o;rw[HZ.o,AP AJ]
  have HF:AO (Below w.heap.size w w3):=HE3.o.below;rw[r];clear r k2 HE3;go_wp2
  go_ret
  exact⟨DS HR.o.symm,HF.o⟩
 have r:Hd (l1) (nT)=l1-((nT:Nat):Int):=by rw[HZ.o,AQ k2]
 rw[r];clear r;have q2:¬ (l1-((nT:Nat):Int)<0):=AJ
 have z2:0<=l1-((nT:Nat):Int):=AJ
 have zz2:l1-((nT:Nat):Int)<=1048576:=AJ
 generalize el2:l1-((nT:Nat):Int)=l2 at *;have HQ2:AO (l1-((nT:Nat):Int)=l2):=el2;clear el2;have HR:AO (Hd left (nD+nU+nT)=l2):=by show _=_;rw[HZ.o];have:=HQ0.o;have:=HQ1.o;have:=HQ2.o;rw[AQ AJ];omega
 have HF:AO (Below w.heap.size w w3):=HE3.o.below;clear HE3;go_wp2
 go_ret
 exact⟨DS HR.o.symm,HF.o⟩
end Go.Proofs.YtjdhhgaelgemcaaGreatDoor
