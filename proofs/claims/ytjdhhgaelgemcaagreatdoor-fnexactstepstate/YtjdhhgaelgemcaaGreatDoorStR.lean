import Derived.Test.YtjdhhgaelgemcaaGreatDoorMStA
import Derived.Test.YtjdhhgaelgemcaaGreatDoorSwO
namespace Go.Proofs.YtjdhhgaelgemcaaGreatDoor
open Go.ChangeShapes Go.WideShapes Go.ChangeAt Go.RowKit
set_option linter.unusedVariables false
structure I9 where
 c:Int
 D:List Int
 U:List Int
 k:Int
 T:List Int
 n:Nat
noncomputable def FH (D U:List Int) (k:Int) (T:List Int) (n:Nat) (ks:List Int) (kind:Int) (tk:List Int) (now N:Int):I9:=
 if kind=1 then(if DX D U ks tk now=1 then ⟨1,D,Df U (Ej tk).toNat,k,T++[Ej tk,now],n+1⟩ else ⟨DX D U ks tk now,D,U,k,T,n⟩)
 else if kind=2 then(if 0<=N/\N<256 then(if DO N D=true then ⟨9,D,U,k,T,n⟩ else if D.length=16 then ⟨10,D,U,k,T,n⟩ else ⟨9,Df D N.toNat,U,k,T,n⟩) else ⟨10,D,U,k,T,n⟩)
 else if kind=3 then(if 0<=N/\N<256 then(if DO N D=true then ⟨9,Dl D N.toNat,U,k,T,n⟩ else ⟨9,D,U,k,T,n⟩) else ⟨10,D,U,k,T,n⟩)
 else if kind=4 then(if N<k then ⟨10,D,U,k,T,n⟩ else if k+(n:Int)<N then ⟨10,D,U,k,T,n⟩ else if N=k then ⟨9,D,U,k,T,n⟩ else ⟨9,D,U,N,T.drop ((N-k).toNat*2),n-(N-k).toNat⟩)
 else if kind=5 then ⟨9,D,U,k,T,n⟩ else ⟨10,D,U,k,T,n⟩
open Classical in
noncomputable def JP (D U:List Int) (k:Int) (T:List Int) (n:Nat) (ks:List Int) (kind:Int) (tk:List Int) (now N:Int):I9:=
 if FL D U k T n=true/\ks.length=32 then FH D U k T n ks kind tk now N else ⟨10,D,U,k,T,n⟩
section
variable {D U:List Int} {k:Int} {T:List Int} {n:Nat} {ks:List Int} {kind:Int} {tk:List Int} {now N:Int}
theorem JQ (h:DO N D=true):N∈D:=by unfold DO at h;simpa using h
theorem Gy (h:¬ DO N D=true):¬ N∈D:=λhm=>h (Fb hm)
theorem TK (h:DX D U ks tk now=1):¬ Ej tk∈D/\¬ Ej tk∈U:=by
 unfold DX at h;by_cases h0:now<0
 ·rw[AP h0] at h;omega
 rw[AQ h0] at h;by_cases h1:4294967295<now
 ·rw[AP h1] at h;omega
 rw[AQ h1] at h;by_cases h2:I1 tk=false
 ·rw[AP h2] at h;omega
 rw[AQ h2] at h;by_cases h3:256<=Ej tk
 ·rw[AP h3] at h;omega
 rw[AQ h3] at h;by_cases h4:Ez tk<now
 ·rw[AP h4] at h;omega
 rw[AQ h4] at h;by_cases h5:DO (Ej tk) D=true
 ·rw[AP h5] at h;omega
 rw[AQ h5] at h;by_cases h6:DO (Ej tk) U=true
 ·rw[AP h6] at h;omega
 exact⟨Gy h5,Gy h6⟩
theorem VB (h:k<=N):I4 k N=(N-k).toNat:=by unfold I4;rw[Int.max_eq_left h]
theorem YS (hst:FL D U k T n=true) (hz:Ci tk) (h0:0<=k) (h1:k<=1048576) (hn:n<=1048576) (hD:D.length<=16) (hk1:1<=kind) (hk5:kind<=5) :
  ((FP D U k n ks kind tk now N).fk=0->FH D U k T n ks kind tk now N=⟨(FP D U k n ks kind tk now N).c,D,U,k,T,n⟩)/\
  (¬ (FP D U k n ks kind tk now N).fk=0->∃ o:I9,FH D U k T n ks kind tk now N=o/\o.c=(FP D U k n ks kind tk now N).c/\I8 D U k T n (FP D U k n ks kind tk now N).fk (FP D U k n ks kind tk now N).a (FP D U k n ks kind tk now N).b=⟨true,o.D,o.U,o.k,o.T,o.n⟩/\(FP D U k n ks kind tk now N).a<4294967296/\(FP D U k n ks kind tk now N).b<4294967296):=by
 have hap:∀ kd a b,I8 D U k T n kd a b=Km D U k T n kd a b:=λkd a b=>by unfold I8;rw[AP hst]
 obtain rfl|rfl|rfl|rfl|rfl:kind=1\/kind=2\/kind=3\/kind=4\/kind=5:=AJ
 ·have e1:FP D U k n ks 1 tk now N=if DX D U ks tk now=1 then ⟨1,1,(Ej tk).toNat,now.toNat⟩ else ⟨DX D U ks tk now,0,0,0⟩:=by unfold FP;rw[AP rfl]
  have e2:FH D U k T n ks 1 tk now N=if DX D U ks tk now=1 then ⟨1,D,Df U (Ej tk).toNat,k,T++[Ej tk,now],n+1⟩ else ⟨DX D U ks tk now,D,U,k,T,n⟩:=by unfold FH;rw[AP rfl]
  rw[e1,e2];by_cases hc:DX D U ks tk now=1
  ·rw[AP hc,AP hc];obtain⟨s,m,hs,rfl,hs2,hm2,htb⟩:=Jx hz hc;obtain⟨hd,hu⟩:=TK hc;rw[hs] at hd hu |-;refine⟨λh=>absurd h AL,λ_=>⟨_,rfl,rfl,?_,by simp;omega,by simp;omega⟩⟩;dsimp only;rw[hap];exact PH ⟨by simpa using hs2,by simpa using hu,by simpa using hd⟩
  ·rw[AQ hc,AQ hc];exact⟨λ_=>rfl,λh=>absurd rfl h⟩
 ·have e1:FP D U k n ks 2 tk now N=if 0<=N/\N<256 then(if DO N D=true then ⟨9,0,0,0⟩ else if D.length=16 then ⟨10,0,0,0⟩ else ⟨9,2,N.toNat,1⟩) else ⟨10,0,0,0⟩:=by unfold FP;rw[AQ AK,AP rfl]
  have e2:FH D U k T n ks 2 tk now N=if 0<=N/\N<256 then(if DO N D=true then ⟨9,D,U,k,T,n⟩ else if D.length=16 then ⟨10,D,U,k,T,n⟩ else ⟨9,Df D N.toNat,U,k,T,n⟩) else ⟨10,D,U,k,T,n⟩:=by unfold FH;rw[AQ AK,AP rfl]
  rw[e1,e2];by_cases hs:0<=N/\N<256
  ·rw[AP hs,AP hs];by_cases hm:DO N D=true
   ·rw[AP hm,AP hm];exact⟨λ_=>rfl,λh=>absurd rfl h⟩
   ·rw[AQ hm,AQ hm];by_cases h16:D.length=16
    ·rw[AP h16,AP h16];exact⟨λ_=>rfl,λh=>absurd rfl h⟩
    ·rw[AQ h16,AQ h16];refine⟨λh=>absurd h AL,λ_=>⟨_,rfl,rfl,?_,by simp;omega,AL⟩⟩;dsimp only;rw[hap];exact PI ⟨AJ,by rw[Bw hs.1];exact Gy hm,h16⟩
  ·rw[AQ hs,AQ hs];exact⟨λ_=>rfl,λh=>absurd rfl h⟩
 ·have e1:FP D U k n ks 3 tk now N=if 0<=N/\N<256 then(if DO N D=true then ⟨9,2,N.toNat,0⟩ else ⟨9,0,0,0⟩) else ⟨10,0,0,0⟩:=by unfold FP;rw[AQ AK,AQ AK,AP rfl]
  have e2:FH D U k T n ks 3 tk now N=if 0<=N/\N<256 then(if DO N D=true then ⟨9,Dl D N.toNat,U,k,T,n⟩ else ⟨9,D,U,k,T,n⟩) else ⟨10,D,U,k,T,n⟩:=by unfold FH;rw[AQ AK,AQ AK,AP rfl]
  rw[e1,e2];by_cases hs:0<=N/\N<256
  ·rw[AP hs,AP hs];by_cases hm:DO N D=true
   ·rw[AP hm,AP hm];refine⟨λh=>absurd h AL,λ_=>⟨_,rfl,rfl,?_,by simp;omega,AL⟩⟩;dsimp only;rw[hap];exact PJ ⟨AJ,by rw[Bw hs.1];exact JQ hm⟩
   ·rw[AQ hm,AQ hm];exact⟨λ_=>rfl,λh=>absurd rfl h⟩
  ·rw[AQ hs,AQ hs];exact⟨λ_=>rfl,λh=>absurd rfl h⟩
 ·have e2:FH D U k T n ks 4 tk now N=if N<k then ⟨10,D,U,k,T,n⟩ else if k+(n:Int)<N then ⟨10,D,U,k,T,n⟩ else if N=k then ⟨9,D,U,k,T,n⟩ else ⟨9,D,U,N,T.drop ((N-k).toNat*2),n-(N-k).toNat⟩:=by unfold FH;rw[AQ AK,AQ AK,AQ AK,AP rfl]
  rw[M6,e2];by_cases hlo:N<k
  ·rw[AP hlo,AP hlo];exact⟨λ_=>rfl,λh=>absurd rfl h⟩
  rw[AQ hlo,AQ hlo];by_cases hhi:k+(n:Int)<N
  ·rw[AP hhi,AP hhi];exact⟨λ_=>rfl,λh=>absurd rfl h⟩
  rw[AQ hhi,AQ hhi];by_cases hne:N=k
  ·rw[AP hne,AP hne];exact⟨λ_=>rfl,λh=>absurd rfl h⟩
  rw[AQ hne,AQ hne];obtain⟨m,rfl⟩:∃ m:Nat,N=m:=⟨N.toNat,AJ⟩
  refine⟨λh=>absurd h AL,λ_=>⟨_,rfl,rfl,?_,by simp;omega,AL⟩⟩;dsimp only;rw[hap,Bq,PK AJ,VB AJ,Int.max_eq_left AJ]
 ·have e1:FP D U k n ks 5 tk now N=⟨9,0,0,0⟩:=by unfold FP;rw[AQ AK,AQ AK,AQ AK,AQ AK]
  have e2:FH D U k T n ks 5 tk now N=⟨9,D,U,k,T,n⟩:=by unfold FH;rw[AQ AK,AQ AK,AQ AK,AQ AK,AP rfl]
  rw[e1,e2];exact⟨λ_=>rfl,λh=>absurd rfl h⟩
end
def IE (lo:Nat) (w:World) (v:Value) (r:I9):Prop:=
 ∃ aD nD cD aU nU cU aT nT cT,v=.agg #[.int .i64 r.c,.slice aD nD cD,.slice aU nU cU,.int .i64 r.k,.slice aT nT cT]/\At .i64 w aD r.D/\At .i64 w aU r.U/\At .i64 w aT r.T/\r.D.length=nD/\r.U.length=nU/\r.T.length=nT*2/\EY lo w aD/\EY lo w aU/\EY lo w aT/\nT<=cT/\cT<=9223372036854775807
end Go.Proofs.YtjdhhgaelgemcaaGreatDoor
