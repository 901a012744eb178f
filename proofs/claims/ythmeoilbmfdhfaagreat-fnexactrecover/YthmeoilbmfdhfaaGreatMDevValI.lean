import Derived.Test.YthmeoilbmfdhfaaGreatMDevEq
import Derived.Test.YthmeoilbmfdhfaaGreatMFrE
open Go.Value renaming slice->UD,int->UE,bool->UF
open Go.IntKind renaming i64->UO,u32->UG
open Go.Obj renaming cells->UP
open Option renaming some->UI,none->UJ
namespace Go.Proofs.YthmeoilbmfdhfaaGreat
set_option maxHeartbeats 2000000
set_option maxRecDepth 100000
open Go.ChangeShapes Go.WideShapes Go.ChangeAt Go.RowKit
set_option linter.unusedVariables false
def Gf (L:Nat) (s:Int):Bool:=decide (0<=s/\s<((L/64:Nat):Int))
theorem Jx (g:Nat) (a x:Option Addr) (L c m cx:Nat) (f s:Int) (d:Bool) (w:World) (h:w.heap[g]?=UI (UP #[UD a L c,UD x m cx,UE UO f,UF d] 40 (0,0))) (hL:L<=1048576) :
  Calls Tryz.prog 76 #[.pointer (UI ⟨g,0,UJ⟩),UE UO s] w λe w'=>e=.returned (UF (Gf L s))/\w'=w:=by
 have HD:AP (Gf L s=decide (0<=s/\s<((L/64:Nat):Int))):=rfl;have c0:=AA h 0;simp at c0;clear h;go_enter Tryz.func76,Tryz.ntmps76;go_wp2;all_goals(go_ret;refine⟨E7 ?_,rfl⟩;rw[HD.o];simp;try omega)
theorem Km (v:Value) (zs:List Int) (ps:List PD) (f:Int) (d:Bool) (w:World) (h:Ei w v zs ps f d) (hz:zs.length<=1048576) (hn:ps.length<=1048576) (hps:∀ i,(ps.getD i (0,[])).2.length<=1048576) :
  Calls Tryz.prog 34 #[v] w λe w'=>e=.returned (UF (C5 zs.length ps f))/\Below w.heap.size w w':=by
 obtain⟨a,c,x,cx,rfl,hA,hP,_⟩:=h;generalize zs.length=L at *;by_cases hb:EA L ps.length f
 ·obtain⟨b1,b2,b3,b4,b5,b6⟩:=hb;have HP:=hP;generalize hm:ps.length=m at *;have hB:=(Ad w.heap.size w).alloc Cw (UP #[UD a L c,UD x m cx,UE UO f,UF d] 40);have P2:=hP.below hB;have HB:AP _:=hB;have HP2:AP _:=P2;clear hB P2 hP HP hA;have t1:((L:Int)%64 != 0)=false:=by simp;omega
  have t2:¬ ((L:Int)<512):=AK
  have t3:¬ (16384<(L:Int)):=AK
  have t4:¬ (1000<(m:Int)):=AK
  have t5:¬ (f < -1):=AK
  have t6:¬ (1000000<f):=AK
  go_enter Tryz.func34,Tryz.ntmps34;go_wp2;have n0:(w.alloc (UP #[UD a L c,UD x m cx,UE UO f,UF d] 40)).heap[w.heap.size]?=UI (UP #[UD a L c,UD x m cx,UE UO f,UF d] 40 (0,0)):=AV w _;have hW:=HB.o;have hP2:=HP2.o;have hz0:w.heap.size<(w.alloc (UP #[UD a L c,UD x m cx,UE UO f,UF d] 40)).heap.size:=AM
  clear HB HP2;generalize (w.alloc (UP #[UD a L c,UD x m cx,UE UO f,UF d] 40))=W at *
  go_loopw [39] (λi wr=>∃ k:Nat,k<=m/\i=UE UO k/\(∀ i,i<k->OA (L/64) (ps.getD i (0,[])))/\Below W.heap.size W wr) (λi _=>m-(intOf i).toNat)
  case atStart=>exact⟨0,Aj _,rfl,λi hi=>AK,Ad _ _⟩
  case round=>
   obtain⟨k,hk,rfl,hall,hbel⟩:=hrel;by_cases hlt:k<m
   ·obtain⟨b,off,rfl,hbl,hc⟩:=FY.get (FY.below hP2 hbel) AK;obtain⟨y,cy,g1,g2,g3⟩:=hc k AK;have HG:AP _:=hall;clear hall hc;have hp:=hps k;have HQ:AP (∀ s z,(ps.getD k (0,[])).1=s->(ps.getD k (0,[])).2.length=z->(OA (L/64) (ps.getD k (0,[]))↔(0<=s/\s<((L/64:Nat):Int)/\z=64))):=by
     rintro _ _ rfl rfl;exact Iff.rfl
    have HQ':AP _:=HQ.o _ _ rfl rfl;clear HQ;generalize (ps.getD k (0,[])).1=s at *;generalize (ps.getD k (0,[])).2.length=z at *;have hb1:=(Ad wr.heap.size wr).alloc Cw (UP #[UE UO s,UD y z cy] 106);have n1:(wr.alloc (UP #[UE UO s,UD y z cy] 106)).heap[w.heap.size]?=UI (UP #[UD a L c,UD (UI ⟨b,off,UJ⟩) m cx,UE UO f,UF d] 40 (0,0)):=by
     rw[hb1.block _ (AG hbel.size),hbel.block _ hz0];exact n0
    have HN1:AP _:=n1;have HBL:AP (Below W.heap.size W (wr.alloc (UP #[UE UO s,UD y z cy] 106))):=hbel.trans (hb1.mono hbel.size);clear n1 hbel hb1;by_cases hs:Gf L s=true
    ·by_cases h64:z=64
     ·subst h64;go_wp2_with (go_at_call 76;refine(Jx w.heap.size _ _ _ _ _ _ _ _ _ _ HN1.o hz).mono ?_;rintro e w1 ⟨rfl,rfl⟩;rw[hs]);go_roundw
      case rel=>
       refine⟨k+1,AK,by go_num,λi hi=>?_,HBL.o⟩;by_cases e:i=k
       ·subst e;rw[HQ'.o];unfold Gf at hs;simp at hs;simp;omega
       ·exact HG.o i AK
      case measure=>simp[intOf];omega
     ·have h64':((z:Int) != 64)=true:=by rw[bne_iff_ne];omega
      go_wp2_with (go_at_call 76;refine(Jx w.heap.size _ _ _ _ _ _ _ _ _ _ HN1.o hz).mono ?_;rintro e w1 ⟨rfl,rfl⟩;rw[hs])
      go_ret
      refine⟨E7 (F8 (k:=k) AK ?_).symm,hW.trans (HBL.o.mono AK)⟩;rw[HQ'.o];omega
    ·have hs':Gf L s=false:=by simpa using hs
     clear hs;go_wp2_with (go_at_call 76;refine(Jx w.heap.size _ _ _ _ _ _ _ _ _ _ HN1.o hz).mono ?_;rintro e w1 ⟨rfl,rfl⟩;rw[hs'])
     go_ret
     refine⟨E7 (F8 (k:=k) AK ?_).symm,hW.trans (HBL.o.mono AK)⟩;rw[HQ'.o];unfold Gf at hs';simp at hs';omega
   ·have hkm:k=m:=AK
    subst hkm;go_wp2
    go_ret
    exact⟨E7 (F9 (by rw[hm];exact⟨b1,b2,b3,b4,b5,b6⟩) (by rw[hm];exact hall)).symm,hW.trans (hbel.mono AK)⟩
 ·have hv:=IL hb;generalize hm:ps.length=m at *;have HV:AP _:=hv;have HB:AP _:=hb;clear hv hb hP hA;go_enter Tryz.func34,Tryz.ntmps34;go_wp2;all_goals first
   |(go_ret;exact⟨E7 HV.o.symm,((Ad w.heap.size w).alloc Cw _)⟩)
   |(exfalso;apply HB.o;unfold EA;omega)
def Ev (ps:List PD) (s:Int):Nat->Option (List Int)
 |0=>UJ
 |k+1=>if(ps.getD k (0,[])).1=s then UI (ps.getD k (0,[])).2 else Ev ps s k
def Dw (zs:List Int) (ps:List PD) (s:Int):List Int:=(Ev ps s ps.length).getD ((zs.drop (s.toNat*64)).take 64)
def MS (zs:List Int) (ps:List PD) (f s:Int):List Int:=if C5 zs.length ps f=true/\Gf zs.length s=true then Dw zs ps s else []
theorem Lp {L:Nat} {ps:List PD} {f:Int} (h:C5 L ps f=true):EA L ps.length f/\∀ i,i<ps.length->OA (L/64) (ps.getD i (0,[])):=by
 unfold C5 at h;rw[CF] at h;refine⟨by simpa using h.1,λi hi=>?_⟩;have:=BM.1 h.2 ps[i] (Ba hi);simpa[hi] using this
def S0 (B:Nat) (w:World) (v:Value) (zs:List Int):Prop:=
 ∃ a c,v=UD a zs.length c/\At .u8 w a zs/\Df w a zs.length/\∀ ad,a=UI ad->B<=ad.block/\ad.block<w.heap.size
theorem DT.o {w:World} {B:Nat} {v:Value} {zs:List Int} (h:DT w B v zs):S0 B w v zs:=by
 obtain⟨g,c,rfl,hb,hg,hc⟩:=h.base;obtain⟨b,o,c',e,hl,hcell⟩:=h.part;cases e;refine⟨_,_,rfl,.inr ⟨g,0,rfl,hg,hcell⟩,.inr ⟨g,0,rfl,hg,λi hi=>?_⟩,λad e=>by cases e;exact⟨hb,hg⟩⟩;refine⟨by rw[hcell i hi];rfl,?_⟩;obtain⟨h1,⟨h2,_⟩|⟨g',cap,cur,hv,hb,hh,_⟩⟩:=h.1
 ·cases h2
 ·cases hv;exact Ag w g _ cur _ hh
theorem Qc (v:Value) (zs:List Int) (ps:List PD) (f s:Int) (d:Bool) (w:World) (h:Ei w v zs ps f d) (hz:zs.length<=1048576) (hn:ps.length<=1048576) (hps:∀ i,(ps.getD i (0,[])).2.length<=1048576) :
  Calls Tryz.prog 71 #[v,UE UO s] w λe w'=>∃ v',e=.returned v'/\S0 w.heap.size w' v' (MS zs ps f s)/\Below w.heap.size w w':=by
 obtain⟨a,c,x,cx,rfl,hA,hP,hcap⟩:=h;have HV:=Fv (.agg #[UD a zs.length c,UD x ps.length cx,UE UO f,UF d]) zs ps f d;have hD:∀ w',Below w.heap.size w w'->Ei w' (.agg #[UD a zs.length c,UD x ps.length cx,UE UO f,UF d]) zs ps f d:=λw' hb=>⟨a,c,x,cx,rfl,hA.below hb,hP.below hb,hcap⟩
 have HRZ:AP (MS zs ps f s=if C5 zs.length ps f=true/\Gf zs.length s=true then Dw zs ps s else []):=rfl;have HHS:AP (Gf zs.length s=decide (0<=s/\s<((zs.length/64:Nat):Int))):=rfl;generalize hL:zs.length=L at *;generalize hm:ps.length=m at *;have HVV:AP _:=HV;have HDD:AP _:=hD;clear HV hD;have hb0:=(Ad w.heap.size w).alloc Cw (UP #[UD a L c,UD x m cx,UE UO f,UF d] 40);have HB0:AP _:=hb0;clear hb0;go_enter Tryz.func71,Tryz.ntmps71;go_wp2_with fail;refine(HVV.o _ (HDD.o _ HB0.o) hz hn hps).mono ?_;rintro e w1 ⟨rfl,hb1⟩;have hB1:Below w.heap.size w w1:=HB0.o.trans (hb1.mono HB0.o.size);have n1:w1.heap[w.heap.size]?=UI (UP #[UD a L c,UD x m cx,UE UO f,UF d] 40 (0,0)):=by
  rw[hb1.block _ AM];exact AV w _
 have hs1:w.heap.size<w1.heap.size:=(AQ.1 n1).1;have c0:=AA n1 0;have c1:=AA n1 1;have c2:=AA n1 2;have c3:=AA n1 3;simp at c0 c1 c2 c3;have hA1:=hA.below hB1;have hP1:=hP.below hB1;have HB1:AP _:=hB1;have HA1:AP _:=hA1;have HP1:AP _:=hP1;clear HVV HDD HB0 hb1 hB1 hA1 hP1 hA hP n1;have hno:∀ w2 N,w2.heap.size=N->Below w1.heap.size w1 w2->MS zs ps f s=[]->S0 w.heap.size (w2.alloc (UP #[] 5)) (UD (UI ⟨N,0,UJ⟩) 0 0) (MS zs ps f s)/\Below w.heap.size w (w2.alloc (UP #[] 5)):=λw2 N hN hb e=>by
  subst hN;have hs:=hb.size;rw[e];exact⟨(DT.empty w2 w.heap.size AK).o,(HB1.o.trans (hb.mono AK)).alloc AK _⟩
 have HNO:AP _:=hno;clear hno;cases hv:C5 L ps f
 ·have e0:MS zs ps f s=[]:=by rw[HRZ.o,hv];simp
  have H1:AP _:=HNO.o w1 _ rfl Cs e0;clear HRZ e0 HNO HHS;go_wp2
  go_ret
  exact⟨_,rfl,H1.o⟩
 by_cases hs:s<0
 ·have e0:MS zs ps f s=[]:=by rw[HRZ.o,AS];rw[HHS.o];simp;omega
  have H1:AP _:=HNO.o w1 _ rfl Cs e0;clear HRZ e0 HNO HHS;go_wp2
  go_ret
  exact⟨_,rfl,H1.o⟩
 by_cases hs2:(L:Int)/64<=s
 ·have e0:MS zs ps f s=[]:=by rw[HRZ.o,AS];rw[HHS.o];simp;omega
  have H1:AP _:=HNO.o _ (w1.heap.size+1) AM ((Ad w1.heap.size w1).alloc Cw (UP #[UD a L c,UD x m cx,UE UO f,UF d] 40)) e0;clear HRZ e0 HNO HHS;go_wp2
  go_ret
  exact⟨_,rfl,H1.o⟩
 obtain⟨hvb,hvp⟩:=Lp hv;rw[hm] at hvb hvp;obtain⟨u1,u2,u3,u4,u5,u6⟩:=hvb;have hrz:MS zs ps f s=(Ev ps s m).getD ((zs.drop (s.toNat*64)).take 64):=by
  rw[HRZ.o,AR ⟨hv,by rw[HHS.o];simp;omega⟩];unfold Dw;rw[hm]
 have HRZ2:AP _:=hrz;have HVP:AP _:=hvp;have hz2:w1.heap.size+1=(w1.alloc (UP #[UD a L c,UD x m cx,UE UO f,UF d] 40)).heap.size:=AM
 have HZ2:AP _:=hz2;have hb2:=(Ad w1.heap.size w1).alloc Cw (UP #[UD a L c,UD x m cx,UE UO f,UF d] 40);have HB2:AP _:=hb2;clear HRZ HNO HHS hrz hvp hz2 hb2;go_wp2;have hb2:=HB2.o;have hB2:=HB1.o.trans (hb2.mono AK);have hA2:=At.below HA1.o hb2;have hP2:=FY.below HP1.o hb2;have hs2':w.heap.size<(w1.alloc (UP #[UD a L c,UD x m cx,UE UO f,UF d] 40)).heap.size:=by simp;omega
 have k0:(w1.alloc (UP #[UD a L c,UD x m cx,UE UO f,UF d] 40)).cell? ⟨w.heap.size,0,UJ⟩=UI (UD a L c):=by rw[hb2.cell (p:=⟨w.heap.size,0,UJ⟩) hs1];exact c0
 have k1:(w1.alloc (UP #[UD a L c,UD x m cx,UE UO f,UF d] 40)).cell? ⟨w.heap.size,1,UJ⟩=UI (UD x m cx):=by rw[hb2.cell (p:=⟨w.heap.size,1,UJ⟩) hs1];exact c1
 clear HB2 hb2 HA1 HP1 HB1 HZ2 c0 c1 c2 c3;generalize (w1.alloc (UP #[UD a L c,UD x m cx,UE UO f,UF d] 40))=w2 at *;have HB2:AP _:=hB2;have HA2:AP _:=hA2;have HP2:AP _:=hP2;clear hB2 hA2 hP2
 go_loop [5] (λi=>∃ k:Nat,k<=m/\i=UE UO ((k:Int)-1)/\Ev ps s m=Ev ps s k) (λi=>(intOf i+1).toNat)
 case atStart=>exact⟨m,AY _,rfl,rfl⟩
 case round=>
  obtain⟨k,hk,rfl,hf⟩:=hrel;cases k with
  |zero=>
   obtain⟨b,off,rfl,hbl,hc⟩:=At.get HA2.o AK;obtain⟨s,rfl⟩:=Ai (show 0<=s by omega);have hres:MS zs ps f s=(zs.drop (s*64)).take 64:=by rw[HRZ2.o,hf];simp[Ev]
   have HF:AP _:=hres;have HC:AP _:=hc;clear hf hc hres;have t1:(s:Int)*64<=(s+1)*64:=AK
   have t2:((s:Int)+1)*64<=c:=AK
   have hcs:¬ (c=s*64):=AK
   have hLN:((zs.drop (s*64)).take 64).length=(s+1)*64-s*64:=by simp;omega
   have hN:∀ j,j<(s+1)*64-s*64->(w2.alloc (UP #[] 5)).cell? ((⟨b,off+s*64,UJ⟩:Addr).add j)=UI (UE .u8 (((zs.drop (s*64)).take 64).getD j 0)):=by
    intro j hj;rw[Ay,((Ad w2.heap.size w2).alloc Cw _).cell (p:=⟨b,off+s*64+j,UJ⟩) hbl,Ap,HC.o (s*64+j) AK];simp[List.getD,show j<64 by omega]
   have HN:AP _:=hN;have HLN:AP _:=hLN;clear hN hLN;go_wp2_with (at_builtin;refine Dh _ rfl _ _ rfl w.heap.size _ _ rfl (DT.empty w2 w.heap.size AK) ⟨b,off+s*64,UJ⟩ ((s+1)*64-s*64) _ ((zs.drop (s*64)).take 64) rfl HLN.o HN.o ?c2 ?c3 ?_)
   (try(case c2=>first|omega|(simp;omega)))
   (try(case c3=>first|omega|(simp;omega)))
   intro v' w3 hown' hbel' _;have HO:AP (DT w3 w.heap.size v' (MS zs ps f s)):=by
    unfold AP;rw[HF.o];simpa using hown'
   have HB:AP (Below w.heap.size w w3):=(HB2.o.alloc AK _).trans hbel';clear hown' hbel';go_wp2
   go_ret
   exact⟨_,rfl,DT.o HO.o,HB.o⟩
  |succ k=>
   obtain⟨b,off,rfl,hbl,hc⟩:=FY.get HP2.o AK;obtain⟨y,cy,g1,g2,g3⟩:=hc k AK;have hok:=HVP.o k AK;have hfk:Ev ps s (k+1)=if(ps.getD k (0,[])).1=s then UI (ps.getD k (0,[])).2 else Ev ps s k:=rfl
   rw[<-hf] at hfk;have hlz:(ps.getD k (0,[])).2.length=64:=hok.2.2;clear hok;have ek:((k+1:Nat):Int)-1=k:=AK
   rw[ek];generalize (ps.getD k (0,[])).1=t at *;generalize (ps.getD k (0,[])).2=z at *;generalize hzl:z.length=zl at *;have HF:AP _:=hfk;have HG3:AP _:=g3;have HLZ:AP _:=hzl;have HL64:AP _:=hlz;clear hf hfk g3 hlz hc hzl;by_cases ht:t=s
   ·subst ht;have e1:(t == t)=true:=AM
    obtain⟨b2,o2,rfl,hb2,hc2⟩:=At.get HG3.o (AI HLZ.o HL64.o);have HC2:AP _:=hc2;clear hc2;have hN:∀ j,j<zl->(w2.alloc (UP #[] 5)).cell? ((⟨b2,o2,UJ⟩:Addr).add j)=UI (UE .u8 (z.getD j 0)):=by
     intro j hj;rw[Ay,((Ad w2.heap.size w2).alloc Cw _).cell (p:=⟨b2,o2+j,UJ⟩) hb2];exact HC2.o j (AG HLZ.o)
    have HN:AP _:=hN;clear hN;go_wp2_with (at_builtin;refine Dh _ rfl _ _ rfl w.heap.size _ _ rfl (DT.empty w2 w.heap.size AK) ⟨b2,o2,UJ⟩ zl cy z rfl HLZ.o HN.o ?c2 ?c3 ?_)
    (try(case c2=>have:=HL64.o;first|omega|(simp;omega)))
    (try(case c3=>first|omega|(simp;omega)))
    intro v' w3 hown' hbel' _;have HO:AP (DT w3 w.heap.size v' (MS zs ps f t)):=by
     have e:MS zs ps f t=z:=by rw[HRZ2.o,HF.o,AR trivial];rfl
     unfold AP;rw[e];simpa using hown'
    have HB:AP (Below w.heap.size w w3):=(HB2.o.alloc AK _).trans hbel';clear hown' hbel';go_wp2
    go_ret
    exact⟨_,rfl,DT.o HO.o,HB.o⟩
   ·have e1:(t == s)=false:=by simpa using ht
    have hfk:=HF.o;rw[AS ht] at hfk;have HF2:AP _:=hfk;clear hfk HF;go_wp2
    go_round
    case rel=>exact⟨k,AK,rfl,HF2.o⟩
    case measure=>simp[intOf]
def Dz (F:List Int) (nF:Nat) (ak nx:Int):Nat->Int->Int
 |0,_=>nx
 |r+1,n=>if F.getD ((nF-(r+1))*4+1) 0=1 then(if ak<=n then F.getD ((nF-(r+1))*4) 0 else Dz F nF ak nx r (n+1)) else Dz F nF ak nx r n
def JK (ok:Bool) (n:Nat) (F:List Int) (nF:Nat) (ak nx:Int):Int:=if ok=true then Dz F nF ak nx nF n else 0
theorem Qd (asD asU aF azD azU azT:Option Addr) (nsD csD nsU csU nF cF nzD czD nzU czU nzT czT:Nat) (sD sU F zD zU zT:List Int) (sgn stl zk nx:Int) (ok:Bool) (w:World) (hF:F.length=nF*4) (mF:nF<=1048576) (mU:nsU<=1048576) (aF':FC w aF F) :
  Calls Tryz.prog 115 #[.agg #[UF ok,UE UG sgn,UE UG stl,UD asD nsD csD,UD asU nsU csU,UD aF nF cF,UD azD nzD czD,UD azU nzU czU,UE UO zk,UD azT nzT czT,UE UG nx]] w λe w'=>e=.returned (UE UG (JK ok nsU F nF zk nx))/\Below w.heap.size w w':=by
 have HA:AP (FC w aF F):=aF';have HLT:AP (F.length=nF*4):=hF;have HE0:AP (OE w 36 #[UF ok,UE UG sgn,UE UG stl,UD asD nsD csD,UD asU nsU csU,UD aF nF cF,UD azD nzD czD,UD azU nzU czU,UE UO zk,UD azT nzT czT,UE UG nx] (w.alloc (UP #[UF ok,UE UG sgn,UE UG stl,UD asD nsD csD,UD asU nsU csU,UD aF nF cF,UD azD nzD czD,UD azU nzU czU,UE UO zk,UD azT nzT czT,UE UG nx] 36))):=OE.start _ _ _;have HCT:AP (∀ r n,Dz F nF zk nx (r+1) n=if F.getD ((nF-(r+1))*4+1) 0=1 then(if zk<=n then F.getD ((nF-(r+1))*4) 0 else Dz F nF zk nx r (n+1)) else Dz F nF zk nx r n):=λ_ _=>rfl
 have HC0:AP (∀ n,Dz F nF zk nx 0 n=nx):=λ_=>rfl
 clear aF' hF;cases ok with
 |false=>
  have HV:AP (JK false nsU F nF zk nx=0):=rfl;have HF:AP (Below w.heap.size w (w.alloc (UP #[UF false,UE UG sgn,UE UG stl,UD asD nsD csD,UD asU nsU csU,UD aF nF cF,UD azD nzD czD,UD azU nzU czU,UE UO zk,UD azT nzT czT,UE UG nx] 36))):=HE0.o.below;clear HE0;go_enter Tryz.func115,Tryz.ntmps115;go_wp2
  go_ret
  exact⟨DW HV.o.symm,HF.o⟩
 |true=>
  have HV:AP (JK true nsU F nF zk nx=Dz F nF zk nx nF nsU):=rfl;have HS:AP (∀ wr,OE w 36 #[UF true,UE UG sgn,UE UG stl,UD asD nsD csD,UD asU nsU csU,UD aF nF cF,UD azD nzD czD,UD azU nzU czU,UE UO zk,UD azT nzT czT,UE UG nx] wr->wr.cell? ⟨w.heap.size,4,UJ⟩=UI (UD asU nsU csU)/\wr.cell? ⟨w.heap.size,5,UJ⟩=UI (UD aF nF cF)/\wr.cell? ⟨w.heap.size,8,UJ⟩=UI (UE UO zk)/\wr.cell? ⟨w.heap.size,10,UJ⟩=UI (UE UG nx)):=λwr h=>
   ⟨by rw[AA h.b0 4];rfl,by rw[AA h.b0 5];rfl,by rw[AA h.b0 8];rfl,by rw[AA h.b0 10];rfl⟩
  go_enter Tryz.func115,Tryz.ntmps115;go_wp2_with fail;generalize w.alloc (UP #[UF true,UE UG sgn,UE UG stl,UD asD nsD csD,UD asU nsU csU,UD aF nF cF,UD azD nzD czD,UD azU nzU czU,UE UO zk,UD azT nzT czT,UE UG nx] 36)=w0 at *
  go_loopw [3,16] (λq i wr=>∃(k:Nat) (z:Int),k<=nF/\i=UE UO k/\q=UE UO z/\0<=z/\z<=nsU+k/\Dz F nF zk nx (nF-k) z=Dz F nF zk nx nF nsU/\OE w 36 #[UF true,UE UG sgn,UE UG stl,UD asD nsD csD,UD asU nsU csU,UD aF nF cF,UD azD nzD czD,UD azU nzU czU,UE UO zk,UD azT nzT czT,UE UG nx] wr) (λ_ i _=>nF-(intOf i).toNat)
  case atStart=>exact⟨0,nsU,Aj _,rfl,rfl,AK,AK,rfl,HE0.o⟩
  case round=>
   clear HE0;obtain⟨k,z,hk,rfl,rfl,z0,z1,hcut,hst⟩:=hrel;have HST:AP (OE w 36 #[UF true,UE UG sgn,UE UG stl,UD asD nsD csD,UD asU nsU csU,UD aF nF cF,UD azD nzD czD,UD azU nzU czU,UE UO zk,UD azT nzT czT,UE UG nx] wr):=hst;have HCU:AP (Dz F nF zk nx (nF-k) z=Dz F nF zk nx nF nsU):=hcut;obtain⟨x4,x5,x8,x10⟩:=HS.o wr hst;have hwl:=hst.lt;clear hcut;by_cases hlt:k<nF
   ·have hlt':(k:Int)<nF:=AK
    have HNE:AP (Dz F nF zk nx (nF-k) z=if F.getD (k*4+1) 0=1 then(if zk<=z then F.getD (k*4) 0 else Dz F nF zk nx (nF-(k+1)) (z+1)) else Dz F nF zk nx (nF-(k+1)) z):=by
     show _=_
     have e:=HCT.o (nF-(k+1)) z;rw[show nF-(k+1)+1=nF-k by omega,show nF-(nF-k)=k by omega] at e;exact e
    obtain⟨b,off,ea,hb,hc⟩:=(HA.o.below hst.below).get (AG HLT.o);obtain⟨t0,t1,t2,t3⟩:=FC.four hc k (AG HLT.o);subst ea;clear hc hst;generalize F.getD (k*4) 0=s at *;generalize F.getD (k*4+1) 0=m at *;generalize F.getD (k*4+2) 0=x at *;generalize F.getD (k*4+3) 0=y at *;have HN:AP (OE w 36 #[UF true,UE UG sgn,UE UG stl,UD asD nsD csD,UD asU nsU csU,UD (UI ⟨b,off,UJ⟩) nF cF,UD azD nzD czD,UD azU nzU czU,UE UO zk,UD azT nzT czT,UE UG nx] (wr.alloc (UP #[UE UG s,UE UO m,UE UG x,UE UG y] 112))):=HST.o.call (Cs.alloc Cw _);by_cases hm:m=1
    ·subst hm;by_cases hz:zk<=z
     ·have HR:AP (Dz F nF zk nx nF nsU=s):=by show _=_;rw[<-HCU.o,HNE.o,AR rfl,AR hz]
      have HF:AP (Below w.heap.size w (wr.alloc (UP #[UE UG s,UE UO 1,UE UG x,UE UG y] 112))):=HN.o.below;clear HN HST HNE;go_wp2
      go_ret
      exact⟨DW (by rw[HV.o,HR.o]),HF.o⟩
     ·have HR:AP (Dz F nF zk nx (nF-(k+1)) (z+1)=Dz F nF zk nx nF nsU):=by show _=_;rw[<-HCU.o,HNE.o,AR rfl,AS hz]
      clear HST HNE HCU;go_wp2;go_roundw
      case rel=>exact⟨k+1,z+1,AK,by go_num,by go_num,AK,AK,HR.o,HN.o⟩
      case measure=>simp[intOf];omega
    ·have HR:AP (Dz F nF zk nx (nF-(k+1)) z=Dz F nF zk nx nF nsU):=by show _=_;rw[<-HCU.o,HNE.o,AS hm]
     have hm':(m == 1)=false:=by simpa using hm
     clear HST HNE HCU hm;go_wp2;go_roundw
     case rel=>exact⟨k+1,z,AK,by go_num,rfl,AK,AK,HR.o,HN.o⟩
     case measure=>simp[intOf];omega
   ·have hke:k=nF:=AK
    have hlt':¬ ((k:Int)<nF):=AK
    have HR:AP (Dz F nF zk nx nF nsU=nx):=by show _=_;rw[<-HCU.o,show nF-k=0 by omega,HC0.o]
    have HF:AP (Below w.heap.size w wr):=HST.o.below;clear hke hst HST;go_wp2
    go_ret
    exact⟨DW (by rw[HV.o,HR.o]),HF.o⟩
theorem Qe (asD asU aF azD azU azT:Option Addr) (nsD csD nsU csU nF cF nzD czD nzU czU nzT czT:Nat) (sD sU F zD zU zT:List Int) (sgn stl zk nx:Int) (ok:Bool) (w:World) (hF:F.length=nF*4) (mF:nF<=1048576) (mU:nsU<=1048576) (aF':FC w aF F) :
  Calls Tryz.prog 113 #[.agg #[UF ok,UE UG sgn,UE UG stl,UD asD nsD csD,UD asU nsU csU,UD aF nF cF,UD azD nzD czD,UD azU nzU czU,UE UO zk,UD azT nzT czT,UE UG nx]] w λe w'=>e=.returned (UE UG (JK ok nsU F nF zk nx))/\Below w.heap.size w w':=by
 have HA:AP (FC w aF F):=aF';have HLT:AP (F.length=nF*4):=hF;have HE0:AP (OE w 36 #[UF ok,UE UG sgn,UE UG stl,UD asD nsD csD,UD asU nsU csU,UD aF nF cF,UD azD nzD czD,UD azU nzU czU,UE UO zk,UD azT nzT czT,UE UG nx] (w.alloc (UP #[UF ok,UE UG sgn,UE UG stl,UD asD nsD csD,UD asU nsU csU,UD aF nF cF,UD azD nzD czD,UD azU nzU czU,UE UO zk,UD azT nzT czT,UE UG nx] 36))):=OE.start _ _ _;have HCT:AP (∀ r n,Dz F nF zk nx (r+1) n=if F.getD ((nF-(r+1))*4+1) 0=1 then(if zk<=n then F.getD ((nF-(r+1))*4) 0 else Dz F nF zk nx r (n+1)) else Dz F nF zk nx r n):=λ_ _=>rfl
 have HC0:AP (∀ n,Dz F nF zk nx 0 n=nx):=λ_=>rfl
 clear aF' hF;cases ok with
 |false=>
  have HV:AP (JK false nsU F nF zk nx=0):=rfl;have HF:AP (Below w.heap.size w (w.alloc (UP #[UF false,UE UG sgn,UE UG stl,UD asD nsD csD,UD asU nsU csU,UD aF nF cF,UD azD nzD czD,UD azU nzU czU,UE UO zk,UD azT nzT czT,UE UG nx] 36))):=HE0.o.below;clear HE0;go_enter Tryz.func113,Tryz.ntmps113;go_wp2
  go_ret
  exact⟨DW HV.o.symm,HF.o⟩
 |true=>
  have HV:AP (JK true nsU F nF zk nx=Dz F nF zk nx nF nsU):=rfl;have HS:AP (∀ wr,OE w 36 #[UF true,UE UG sgn,UE UG stl,UD asD nsD csD,UD asU nsU csU,UD aF nF cF,UD azD nzD czD,UD azU nzU czU,UE UO zk,UD azT nzT czT,UE UG nx] wr->wr.cell? ⟨w.heap.size,4,UJ⟩=UI (UD asU nsU csU)/\wr.cell? ⟨w.heap.size,5,UJ⟩=UI (UD aF nF cF)/\wr.cell? ⟨w.heap.size,8,UJ⟩=UI (UE UO zk)/\wr.cell? ⟨w.heap.size,10,UJ⟩=UI (UE UG nx)):=λwr h=>
   ⟨by rw[AA h.b0 4];rfl,by rw[AA h.b0 5];rfl,by rw[AA h.b0 8];rfl,by rw[AA h.b0 10];rfl⟩
  go_enter Tryz.func113,Tryz.ntmps113;go_wp2_with fail;generalize w.alloc (UP #[UF true,UE UG sgn,UE UG stl,UD asD nsD csD,UD asU nsU csU,UD aF nF cF,UD azD nzD czD,UD azU nzU czU,UE UO zk,UD azT nzT czT,UE UG nx] 36)=w0 at *
  go_loopw [3,4] (λq i wr=>∃(k:Nat) (z:Int),k<=nF/\i=UE UO k/\q=UE UO z/\0<=z/\z<=nsU+k/\Dz F nF zk nx (nF-k) z=Dz F nF zk nx nF nsU/\OE w 36 #[UF true,UE UG sgn,UE UG stl,UD asD nsD csD,UD asU nsU csU,UD aF nF cF,UD azD nzD czD,UD azU nzU czU,UE UO zk,UD azT nzT czT,UE UG nx] wr) (λ_ i _=>nF-(intOf i).toNat)
  case atStart=>exact⟨0,nsU,Aj _,rfl,rfl,AK,AK,rfl,HE0.o⟩
  case round=>
   clear HE0;obtain⟨k,z,hk,rfl,rfl,z0,z1,hcut,hst⟩:=hrel;have HST:AP (OE w 36 #[UF true,UE UG sgn,UE UG stl,UD asD nsD csD,UD asU nsU csU,UD aF nF cF,UD azD nzD czD,UD azU nzU czU,UE UO zk,UD azT nzT czT,UE UG nx] wr):=hst;have HCU:AP (Dz F nF zk nx (nF-k) z=Dz F nF zk nx nF nsU):=hcut;obtain⟨x4,x5,x8,x10⟩:=HS.o wr hst;have hwl:=hst.lt;clear hcut;by_cases hlt:k<nF
   ·have hlt':(k:Int)<nF:=AK
    have HNE:AP (Dz F nF zk nx (nF-k) z=if F.getD (k*4+1) 0=1 then(if zk<=z then F.getD (k*4) 0 else Dz F nF zk nx (nF-(k+1)) (z+1)) else Dz F nF zk nx (nF-(k+1)) z):=by
     show _=_
     have e:=HCT.o (nF-(k+1)) z;rw[show nF-(k+1)+1=nF-k by omega,show nF-(nF-k)=k by omega] at e;exact e
    obtain⟨b,off,ea,hb,hc⟩:=(HA.o.below hst.below).get (AG HLT.o);obtain⟨t0,t1,t2,t3⟩:=FC.four hc k (AG HLT.o);subst ea;clear hc hst;generalize F.getD (k*4) 0=s at *;generalize F.getD (k*4+1) 0=m at *;generalize F.getD (k*4+2) 0=x at *;generalize F.getD (k*4+3) 0=y at *;have HN:AP (OE w 36 #[UF true,UE UG sgn,UE UG stl,UD asD nsD csD,UD asU nsU csU,UD (UI ⟨b,off,UJ⟩) nF cF,UD azD nzD czD,UD azU nzU czU,UE UO zk,UD azT nzT czT,UE UG nx] wr):=HST.o;by_cases hm:m=1
    ·subst hm;by_cases hz:zk<=z
     ·have HR:AP (Dz F nF zk nx nF nsU=s):=by show _=_;rw[<-HCU.o,HNE.o,AR rfl,AR hz]
      have HF:AP (Below w.heap.size w wr):=HN.o.below;clear HN HST HNE;go_wp2
      go_ret
      exact⟨DW (by rw[HV.o,HR.o]),HF.o⟩
     ·have HR:AP (Dz F nF zk nx (nF-(k+1)) (z+1)=Dz F nF zk nx nF nsU):=by show _=_;rw[<-HCU.o,HNE.o,AR rfl,AS hz]
      clear HST HNE HCU;go_wp2;go_roundw
      case rel=>exact⟨k+1,z+1,AK,by go_num,by go_num,AK,AK,HR.o,HN.o⟩
      case measure=>simp[intOf];omega
    ·have HR:AP (Dz F nF zk nx (nF-(k+1)) z=Dz F nF zk nx nF nsU):=by show _=_;rw[<-HCU.o,HNE.o,AS hm]
     have hm':(m == 1)=false:=by simpa using hm
     clear HST HNE HCU hm;go_wp2;go_roundw
     case rel=>exact⟨k+1,z,AK,by go_num,rfl,AK,AK,HR.o,HN.o⟩
     case measure=>simp[intOf];omega
   ·have hke:k=nF:=AK
    have hlt':¬ ((k:Int)<nF):=AK
    have HR:AP (Dz F nF zk nx nF nsU=nx):=by show _=_;rw[<-HCU.o,show nF-k=0 by omega,HC0.o]
    have HF:AP (Below w.heap.size w wr):=HST.o.below;clear hke hst HST;go_wp2
    go_ret
    exact⟨DW (by rw[HV.o,HR.o]),HF.o⟩
end Go.Proofs.YthmeoilbmfdhfaaGreat
