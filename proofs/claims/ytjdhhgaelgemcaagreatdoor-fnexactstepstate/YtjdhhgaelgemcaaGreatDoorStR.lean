import Derived.Test.YtjdhhgaelgemcaaGreatDoorMStA
import Derived.Test.YtjdhhgaelgemcaaGreatDoorSwO
namespace Go.Proofs.YtjdhhgaelgemcaaGreatDoor
open Go.ChangeShapes Go.WideShapes Go.ChangeAt Go.RowKit
set_option linter.unusedVariables false
structure SpR where
 c:Int
 D:List Int
 U:List Int
 k:Int
 T:List Int
 n:Nat
noncomputable def opR (D U:List Int) (k:Int) (T:List Int) (n:Nat) (ks:List Int) (kind:Int) (tk:List Int) (now N:Int):SpR:=
 if kind=1 then(if tapC D U ks tk now=1 then ⟨1,D,withS U (tkS tk).toNat,k,T++[tkS tk,now],n+1⟩ else ⟨tapC D U ks tk now,D,U,k,T,n⟩)
 else if kind=2 then(if 0≤N∧N<256 then(if memB N D=true then ⟨9,D,U,k,T,n⟩ else if D.length=16 then ⟨10,D,U,k,T,n⟩ else ⟨9,withS D N.toNat,U,k,T,n⟩) else ⟨10,D,U,k,T,n⟩)
 else if kind=3 then(if 0≤N∧N<256 then(if memB N D=true then ⟨9,lessS D N.toNat,U,k,T,n⟩ else ⟨9,D,U,k,T,n⟩) else ⟨10,D,U,k,T,n⟩)
 else if kind=4 then(if N<k then ⟨10,D,U,k,T,n⟩ else if k+(n:Int)<N then ⟨10,D,U,k,T,n⟩ else if N=k then ⟨9,D,U,k,T,n⟩ else ⟨9,D,U,N,T.drop ((N-k).toNat*2),n-(N-k).toNat⟩)
 else if kind=5 then ⟨9,D,U,k,T,n⟩ else ⟨10,D,U,k,T,n⟩
open Classical in
noncomputable def stR (D U:List Int) (k:Int) (T:List Int) (n:Nat) (ks:List Int) (kind:Int) (tk:List Int) (now N:Int):SpR:=
 if stB D U k T n=true∧ks.length=32 then opR D U k T n ks kind tk now N else ⟨10,D,U,k,T,n⟩
section
variable {D U:List Int} {k:Int} {T:List Int} {n:Nat} {ks:List Int} {kind:Int} {tk:List Int} {now N:Int}
theorem memB_of (h:memB N D=true):N∈D:=by unfold memB at h;simpa using h
theorem memB_not (h:¬ memB N D=true):¬ N∈D:=fun hm=>h (memB_yes hm)
theorem tapC_mem (h:tapC D U ks tk now=1):¬ tkS tk∈D∧¬ tkS tk∈U:=by
 unfold tapC at h;by_cases h0:now<0
 ·rw[if_pos h0] at h;omega
 rw[if_neg h0] at h;by_cases h1:4294967295<now
 ·rw[if_pos h1] at h;omega
 rw[if_neg h1] at h;by_cases h2:tkB tk=false
 ·rw[if_pos h2] at h;omega
 rw[if_neg h2] at h;by_cases h3:256≤tkS tk
 ·rw[if_pos h3] at h;omega
 rw[if_neg h3] at h;by_cases h4:tkE tk<now
 ·rw[if_pos h4] at h;omega
 rw[if_neg h4] at h;by_cases h5:memB (tkS tk) D=true
 ·rw[if_pos h5] at h;omega
 rw[if_neg h5] at h;by_cases h6:memB (tkS tk) U=true
 ·rw[if_pos h6] at h;omega
 exact⟨memB_not h5,memB_not h6⟩
theorem ackM_of (h:k≤N):ackM k N=(N-k).toNat:=by unfold ackM;rw[Int.max_eq_left h]
theorem du_op (hst:stB D U k T n=true) (hz:Byte tk) (h0:0≤k) (h1:k≤1048576) (hn:n≤1048576) (hD:D.length≤16) (hk1:1≤kind) (hk5:kind≤5) :
  ((duR D U k n ks kind tk now N).fk=0→opR D U k T n ks kind tk now N=⟨(duR D U k n ks kind tk now N).c,D,U,k,T,n⟩)∧
  (¬ (duR D U k n ks kind tk now N).fk=0→∃ o:SpR,opR D U k T n ks kind tk now N=o∧o.c=(duR D U k n ks kind tk now N).c∧apF D U k T n (duR D U k n ks kind tk now N).fk (duR D U k n ks kind tk now N).a (duR D U k n ks kind tk now N).b=⟨true,o.D,o.U,o.k,o.T,o.n⟩∧(duR D U k n ks kind tk now N).a<4294967296∧(duR D U k n ks kind tk now N).b<4294967296):=by
 have hap:∀ kd a b,apF D U k T n kd a b=apR D U k T n kd a b:=fun kd a b=>by unfold apF;rw[if_pos hst]
 obtain rfl|rfl|rfl|rfl|rfl:kind=1∨kind=2∨kind=3∨kind=4∨kind=5:=by omega
 ·have e1:duR D U k n ks 1 tk now N=if tapC D U ks tk now=1 then ⟨1,1,(tkS tk).toNat,now.toNat⟩ else ⟨tapC D U ks tk now,0,0,0⟩:=by unfold duR;rw[if_pos rfl]
  have e2:opR D U k T n ks 1 tk now N=if tapC D U ks tk now=1 then ⟨1,D,withS U (tkS tk).toNat,k,T++[tkS tk,now],n+1⟩ else ⟨tapC D U ks tk now,D,U,k,T,n⟩:=by unfold opR;rw[if_pos rfl]
  rw[e1,e2];by_cases hc:tapC D U ks tk now=1
  ·rw[if_pos hc,if_pos hc];obtain⟨s,m,hs,rfl,hs2,hm2,htb⟩:=tapC_one hz hc;obtain⟨hd,hu⟩:=tapC_mem hc;rw[hs] at hd hu ⊢;refine⟨fun h=>absurd h (by simp),fun _=>⟨_,rfl,rfl,?_,by simp;omega,by simp;omega⟩⟩;dsimp only;rw[hap];exact apR_tap ⟨by simpa using hs2,by simpa using hu,by simpa using hd⟩
  ·rw[if_neg hc,if_neg hc];exact⟨fun _=>rfl,fun h=>absurd rfl h⟩
 ·have e1:duR D U k n ks 2 tk now N=if 0≤N∧N<256 then(if memB N D=true then ⟨9,0,0,0⟩ else if D.length=16 then ⟨10,0,0,0⟩ else ⟨9,2,N.toNat,1⟩) else ⟨10,0,0,0⟩:=by unfold duR;rw[if_neg (by decide),if_pos rfl]
  have e2:opR D U k T n ks 2 tk now N=if 0≤N∧N<256 then(if memB N D=true then ⟨9,D,U,k,T,n⟩ else if D.length=16 then ⟨10,D,U,k,T,n⟩ else ⟨9,withS D N.toNat,U,k,T,n⟩) else ⟨10,D,U,k,T,n⟩:=by unfold opR;rw[if_neg (by decide),if_pos rfl]
  rw[e1,e2];by_cases hs:0≤N∧N<256
  ·rw[if_pos hs,if_pos hs];by_cases hm:memB N D=true
   ·rw[if_pos hm,if_pos hm];exact⟨fun _=>rfl,fun h=>absurd rfl h⟩
   ·rw[if_neg hm,if_neg hm];by_cases h16:D.length=16
    ·rw[if_pos h16,if_pos h16];exact⟨fun _=>rfl,fun h=>absurd rfl h⟩
    ·rw[if_neg h16,if_neg h16];refine⟨fun h=>absurd h (by simp),fun _=>⟨_,rfl,rfl,?_,by simp;omega,by simp⟩⟩;dsimp only;rw[hap];exact apR_add ⟨by omega,by rw[Int.toNat_of_nonneg hs.1];exact memB_not hm,h16⟩
  ·rw[if_neg hs,if_neg hs];exact⟨fun _=>rfl,fun h=>absurd rfl h⟩
 ·have e1:duR D U k n ks 3 tk now N=if 0≤N∧N<256 then(if memB N D=true then ⟨9,2,N.toNat,0⟩ else ⟨9,0,0,0⟩) else ⟨10,0,0,0⟩:=by unfold duR;rw[if_neg (by decide),if_neg (by decide),if_pos rfl]
  have e2:opR D U k T n ks 3 tk now N=if 0≤N∧N<256 then(if memB N D=true then ⟨9,lessS D N.toNat,U,k,T,n⟩ else ⟨9,D,U,k,T,n⟩) else ⟨10,D,U,k,T,n⟩:=by unfold opR;rw[if_neg (by decide),if_neg (by decide),if_pos rfl]
  rw[e1,e2];by_cases hs:0≤N∧N<256
  ·rw[if_pos hs,if_pos hs];by_cases hm:memB N D=true
   ·rw[if_pos hm,if_pos hm];refine⟨fun h=>absurd h (by simp),fun _=>⟨_,rfl,rfl,?_,by simp;omega,by simp⟩⟩;dsimp only;rw[hap];exact apR_rem ⟨by omega,by rw[Int.toNat_of_nonneg hs.1];exact memB_of hm⟩
   ·rw[if_neg hm,if_neg hm];exact⟨fun _=>rfl,fun h=>absurd rfl h⟩
  ·rw[if_neg hs,if_neg hs];exact⟨fun _=>rfl,fun h=>absurd rfl h⟩
 ·have e2:opR D U k T n ks 4 tk now N=if N<k then ⟨10,D,U,k,T,n⟩ else if k+(n:Int)<N then ⟨10,D,U,k,T,n⟩ else if N=k then ⟨9,D,U,k,T,n⟩ else ⟨9,D,U,N,T.drop ((N-k).toNat*2),n-(N-k).toNat⟩:=by unfold opR;rw[if_neg (by decide),if_neg (by decide),if_neg (by decide),if_pos rfl]
  rw[duR_4,e2];by_cases hlo:N<k
  ·rw[if_pos hlo,if_pos hlo];exact⟨fun _=>rfl,fun h=>absurd rfl h⟩
  rw[if_neg hlo,if_neg hlo];by_cases hhi:k+(n:Int)<N
  ·rw[if_pos hhi,if_pos hhi];exact⟨fun _=>rfl,fun h=>absurd rfl h⟩
  rw[if_neg hhi,if_neg hhi];by_cases hne:N=k
  ·rw[if_pos hne,if_pos hne];exact⟨fun _=>rfl,fun h=>absurd rfl h⟩
  rw[if_neg hne,if_neg hne];obtain⟨m,rfl⟩:∃ m:Nat,N=m:=⟨N.toNat,by omega⟩
  refine⟨fun h=>absurd h (by simp),fun _=>⟨_,rfl,rfl,?_,by simp;omega,by simp⟩⟩;dsimp only;rw[hap,Int.toNat_natCast,apR_ack (by omega),ackM_of (by omega),Int.max_eq_left (by omega)]
 ·have e1:duR D U k n ks 5 tk now N=⟨9,0,0,0⟩:=by unfold duR;rw[if_neg (by decide),if_neg (by decide),if_neg (by decide),if_neg (by decide)]
  have e2:opR D U k T n ks 5 tk now N=⟨9,D,U,k,T,n⟩:=by unfold opR;rw[if_neg (by decide),if_neg (by decide),if_neg (by decide),if_neg (by decide),if_pos rfl]
  rw[e1,e2];exact⟨fun _=>rfl,fun h=>absurd rfl h⟩
end
def WSV (lo:Nat) (w:World) (v:Value) (r:SpR):Prop:=
 ∃ aD nD cD aU nU cU aT nT cT,v=.agg #[.int .i64 r.c,.slice aD nD cD,.slice aU nU cU,.int .i64 r.k,.slice aT nT cT]∧At .i64 w aD r.D∧At .i64 w aU r.U∧At .i64 w aT r.T∧r.D.length=nD∧r.U.length=nU∧r.T.length=nT*2∧Lies lo w aD∧Lies lo w aU∧Lies lo w aT∧nT≤cT∧cT≤9223372036854775807
end Go.Proofs.YtjdhhgaelgemcaaGreatDoor
