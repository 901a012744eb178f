import Derived.Test.YtjdhhgaelgemcaaGreatDoorMTxt
import Derived.Test.YtjdhhgaelgemcaaGreatDoorMFerm
import Derived.Test.YtjdhhgaelgemcaaGreatDoorMReg
open Go.Proofs.Tryz renaming prog->tP
open Go.Proofs.Tryz
open Go.Value renaming slice->Z7,int->Z8,pointer->aF,agg->aH
open Go.IntKind renaming i64->aI,u8->Z9
open Go.Ending renaming returned->aK
open Go.Ground renaming data->aL
open Option renaming some->aE,none->aA
open Go renaming World->aC,Value->aB
set_option maxHeartbeats 4000000
set_option maxRecDepth 100000
namespace Go.Proofs.YtjdhhgaelgemcaaGreatDoor
open Go.ChangeShapes Go.WideShapes Go.ChangeAt Go.RowKit
set_option linter.unusedVariables false
structure Nb (w:aC) (x:Int) (v:aB) (wr:aC):Prop where
 fe:∃ g c,v=Z7 (aE ⟨g,0,aA⟩) 16 c/\w.heap.size<=g/\g<wr.heap.size/\Cu wr (aE ⟨g,0,aA⟩) x
 below:Below w.heap.size w wr
theorem IQ (a:Option Addr) (cap:Nat) (x:Int) (w:aC) (ha:Cu w a x) :
  Calls tP 88 #[Z7 a 16 cap,Z8 aI 0] w (ND w (FC x 11 5 254 255)):=by
 have HA:AO (Cu w a x):=ha;clear ha;go_enter func88,ntmps88;go_wp2_with fail;refine(DK 1 _ AK AK).mono ?_;rintro e w1 ⟨g1,c1,rfl,hg1,hg1',hf1,hb1⟩;have HS:AO (Nb w (FC x 11 5 254 0) (Z7 (aE ⟨g1,0,aA⟩) 16 c1) w1):=⟨⟨g1,c1,rfl,hg1,hg1',hf1⟩,hb1⟩
 clear hf1 hb1;go_wp2
 go_loopw [8,9] (λv i wr=>∃ j:Nat,j<=255/\i=Z8 aI ((j:Int)-1)/\Nb w (FC x 11 5 254 (255-j)) v wr) (λ_ i _=>(intOf i+1).toNat)
 case atStart=>exact⟨255,Ac _,by go_num,HS.o⟩
 case round=>
  clear HS;obtain⟨j,hj,rfl,⟨⟨g,c,rfl,hg,hg',hf⟩,hbel⟩⟩:=hrel;by_cases hj0:0<j
  ·obtain⟨j,rfl⟩:∃ i,j=i+1:=⟨j-1,AJ⟩
   have ei:((j+1:Nat):Int)-1=(j:Int):=AJ
   rw[ei];clear ei;have hstep:FC x 11 5 254 (255-j)=Dp x (En 11 5 j) (FC x 11 5 254 (255-(j+1))):=by
    have e1:255-j=(255-(j+1))+1:=AJ
    rw[e1,FC];have e2:254-(255-(j+1))=j:=AJ
    rw[e2]
   have HST:AO (FC x 11 5 254 (255-j)=Dp x (En 11 5 j) (FC x 11 5 254 (255-(j+1)))):=hstep;clear hstep;generalize FC x 11 5 254 (255-(j+1))=s at *;have HF:AO (Cu wr (aE ⟨g,0,aA⟩) s):=hf;have HB:AO (Below w.heap.size w wr):=hbel;clear hf hbel;go_wp2_with fail;refine(Cw _ _ c c s s _ HF.o HF.o).mono ?_;rintro e w2 ⟨g2,c2,rfl,hg2,hg2',hf2,hb2⟩;have HB2:AO (Below w.heap.size w w2):=HB.o.trans (hb2.mono HB.o.size);have HF2:AO (Cu w2 (aE ⟨g2,0,aA⟩) (s*s%fp)):=hf2;have HA2:AO (Cu w2 a x):=(HA.o.below HB.o).below hb2;have hs:=HB.o.size;clear hf2 hb2 HF HB;by_cases hge:5<=j
   ·have hge':(5:Int)<=(j:Int):=AJ
    have hge2:decide ((5:Int)<=(j:Int))=true:=by simpa using hge'
    have HPS:AO (Dp x (En 11 5 j) s=s*s%fp*x%fp):=by show _=_;unfold En Dp;simp[hge]
    go_wp2_with fail;refine(Cw _ _ c2 cap (s*s%fp) x _ HF2.o HA2.o).mono ?_;rintro e w3 ⟨g3,c3,rfl,hg3,hg3',hf3,hb3⟩;have HP:AO (Nb w (FC x 11 5 254 (255-j)) (Z7 (aE ⟨g3,0,aA⟩) 16 c3) w3):=by
     rw[HST.o,HPS.o];exact⟨⟨g3,c3,rfl,AG HB2.o.size,hg3',hf3⟩,HB2.o.trans (hb3.mono HB2.o.size)⟩
    clear hf3 hb3 HST HPS HB2 HF2 HA2;go_wp2;go_roundw
    case rel=>exact⟨j,AJ,rfl,HP.o⟩
    case measure=>first|(simp[intOf];done)|(simp[intOf];omega)
   ·have hge':¬ (5:Int)<=(j:Int):=AJ
    have hge2:decide ((5:Int)<=(j:Int))=false:=by simpa using hge'
    by_cases hbit:11/2^j%2=1
    ·have HPS:AO (Dp x (En 11 5 j) s=s*s%fp*x%fp):=by show _=_;unfold En Dp;simp[hbit]
     have hb2:((11:Int)/2^j).tmod 2=1:=by
      rw[Am (Int.ediv_nonneg AK (Int.pow_nonneg AK))];have:(((11/2^j%2:Nat)):Int)=1:=by rw[hbit];rfl
      simpa using this
     have hb3:((11:Int)/2^j)%2=1:=by
      have:(((11/2^j%2:Nat)):Int)=1:=by rw[hbit];rfl
      simpa using this
     clear hbit;go_wp2_with fail;refine(Cw _ _ c2 cap (s*s%fp) x _ HF2.o HA2.o).mono ?_;rintro e w3 ⟨g3,c3,rfl,hg3,hg3',hf3,hb3'⟩;have HP:AO (Nb w (FC x 11 5 254 (255-j)) (Z7 (aE ⟨g3,0,aA⟩) 16 c3) w3):=by
      rw[HST.o,HPS.o];exact⟨⟨g3,c3,rfl,AG HB2.o.size,hg3',hf3⟩,HB2.o.trans (hb3'.mono HB2.o.size)⟩
     clear hf3 hb3' HST HPS HB2 HF2 HA2;go_wp2;go_roundw
     case rel=>exact⟨j,AJ,rfl,HP.o⟩
     case measure=>first|(simp[intOf];done)|(simp[intOf];omega)
    ·have HPS:AO (Dp x (En 11 5 j) s=s*s%fp):=by show _=_;unfold En Dp;simp[hge,hbit]
     have hbit0:11/2^j%2=0:=AJ
     have hb3:((11:Int)/2^j)%2=0:=by
      have:(((11/2^j%2:Nat)):Int)=0:=by rw[hbit0];rfl
      simpa using this
     have hb2:((11:Int)/2^j).tmod 2=0:=by
      rw[Am (Int.ediv_nonneg AK (Int.pow_nonneg AK))];exact hb3
     clear hbit hbit0;have HP:AO (Nb w (FC x 11 5 254 (255-j)) (Z7 (aE ⟨g2,0,aA⟩) 16 c2) w2):=by
      rw[HST.o,HPS.o];exact⟨⟨g2,c2,rfl,AJ,hg2',HF2.o⟩,HB2.o⟩
     clear HST HPS HB2 HF2 HA2;go_wp2;go_roundw
     case rel=>exact⟨j,AJ,rfl,HP.o⟩
     case measure=>first|(simp[intOf];done)|(simp[intOf];omega)
  ·obtain rfl:j=0:=AJ
   have HP:AO (ND w (FC x 11 5 254 255) (aK (Z7 (aE ⟨g,0,aA⟩) 16 c)) wr):=⟨g,c,rfl,hg,hg',hf,hbel⟩
   clear hf hbel;go_wp2
   go_ret
   exact HP.o
def DW (V:Int) (j:Nat):Int:=V/2^j%DQ
theorem Kb (V:Int) (j:Nat):0<=DW V j/\DW V j<DQ:=by
 unfold DW DQ;omega
theorem Iu (V:Int):DW V 0=V%DQ:=by simp[DW]
def Ee (V:Int) (j:Nat):Int:=V/2^j%2
theorem MN (V:Int) (j:Nat):Ee V j=0\/Ee V j=1:=by unfold Ee;omega
theorem Iv (V:Int) (j:Nat):DW V j=if DQ<=2*DW V (j+1)+Ee V j then 2*DW V (j+1)+Ee V j-DQ else 2*DW V (j+1)+Ee V j:=by
 unfold DW Ee DQ;have e:V/2^(j+1)=V/2^j/2:=by rw[Int.pow_succ,Bj (Int.pow_nonneg AK)]
 rw[e];generalize V/2^j=q;split<;>omega
theorem Jf (V:Int) (j:Nat) (h0:0<=V) (h:V<2^j):DW V j=0:=by
 unfold DW;rw[Int.ediv_eq_zero_of_lt h0 h];rfl
theorem Oo (n:Nat):(256:Int)^n=2^(8*n):=by rw[show(256:Int)=2^8 from rfl,<-Int.pow_mul]
theorem Jg (zs:List Int) (j:Nat) (hz:Ci zs):Ee (val 256 zs) j=zs.getD (j/8) 0/2^(j%8)%2:=by
 induction zs generalizing j with
 |nil=>simp[val,Ee]
 |cons z zs ih=>
  obtain⟨h0,h1⟩:=J2.head (B:=256) hz;by_cases hj:j<8
  ·have e1:j/8=0:=AJ
   have e2:j%8=j:=AJ
   rw[e1,e2];simp only[val,Ee,List.getD_cons_zero];have:j=0\/j=1\/j=2\/j=3\/j=4\/j=5\/j=6\/j=7:=AJ
   rcases this with rfl|rfl|rfl|rfl|rfl|rfl|rfl|rfl<;>simp only[Int.pow_succ,Int.pow_zero]<;>omega
  ·obtain⟨i,rfl⟩:∃ i,j=i+8:=⟨j-8,AJ⟩
   have e1:(i+8)/8=i/8+1:=AJ
   have e2:(i+8)%8=i%8:=AJ
   rw[e1,e2,List.getD_cons_succ,<-ih i (J2.tail (B:=256) hz)];simp only[val,Ee];have e3:(2:Int)^(i+8)=256*2^i:=by rw[Int.pow_add,Int.mul_comm];rfl
   rw[e3,<-Bj AK];have e4:(z+256*val 256 zs)/256=val 256 zs:=AJ
   rw[e4]
theorem Nc (p s P d c b t:Int) (h:s+c*P=2*p+b):(s+(2*d+c)%256*P)+(2*d+c)/256*(P*256)=2*(p+d*P)+b:=by
 have:=Pa 256 P (2*d) s (2*p+b) c (2*d*P) h rfl
 grind
theorem DM.grow2r {w w':aC} {B:Nat} {v:aB} {zs:List Int} (h:DM w B v zs) (hb:Below w.heap.size w w'):DM w' B v zs:=by
 refine⟨⟨h.1.1,?_⟩,h.2⟩;rcases h.1.2 with h'|⟨g,c,cur,h1,h2,h3,h4⟩
 ·exact .inl h'
 ·exact .inr ⟨g,c,cur,h1,h2,by rw[hb.block g (AR.1 h3).1];exact h3,h4⟩
theorem DM.lower2 {w:aC} {B B':Nat} {v:aB} {zs:List Int} (h:DM w B' v zs) (hB:B<=B'):DM w B v zs:=by
 obtain⟨⟨h1,h2⟩,h3⟩:=h;refine⟨⟨h1,?_⟩,h3⟩;rcases h2 with h|⟨g,c,cur,h4,h5,h6⟩
 ·exact .inl h
 ·exact .inr ⟨g,c,cur,h4,AJ,h6⟩
theorem DM.at_ {w:aC} {B:Nat} {v:aB} {zs:List Int} (h:DM w B v zs):∃ g c,v=Z7 (aE ⟨g,0,aA⟩) zs.length c/\B<=g/\g<w.heap.size/\At Z9 w (aE ⟨g,0,aA⟩) zs:=by
 obtain⟨g,c,rfl,hb,hg,hc⟩:=h.base;exact⟨g,c,rfl,hb,hg,.inr ⟨g,0,rfl,hg,λi hi=>by rw[Aq,h.1.cellAt i AJ];simp[hi]⟩⟩
theorem UP {x b:Int} {r:Nat} (h0:0<=x) (h1:x<256) (h:b=x/2^r%2):(wrap64 (x/2^r)).tmod 2=b:=by
 have hp:(0:Int)<2^r:=Int.pow_pos AK;have a0:0<=x/2^r:=Int.ediv_nonneg h0 AJ;have a1:x/2^r<=x:=Int.ediv_le_self _ h0;generalize x/2^r=y at *;have:wrap64 y=y:=by unfold wrap64;omega
 rw[this,Am a0,h]
theorem UQ {V m z:Int} {j:Nat} (hm:m=2*DW V (j+1)+Ee V j) (h:DQ<=m->z=m-DQ):(DQ<=m->z=DW V j)/\(¬ DQ<=m->m=DW V j):=by
 have:=Iv V j;rw[<-hm] at this;refine⟨λhh=>?_,λhh=>?_⟩
 ·rw[this,AP hh,h hh]
 ·rw[this,AQ hh]
theorem Rl (a:Option Addr) (n cap:Nat) (zs:List Int) (w:aC) (hn:zs.length=n) (hm:n<=64) (ha:At Z9 w a zs) (hz:Ci zs) :
  Calls tP 74 #[Z7 a n cap] w λe w'=>∃ v rs,e=aK v/\DM w' w.heap.size v rs/\Ci rs/\rs.length=32/\val 256 rs=val 256 zs%DQ/\Below w.heap.size w w':=by
 have hm':¬ ((64:Int)<(n:Int)):=AJ
 go_enter func74,ntmps74;go_wp2
 go_loopw [3,4] (λv i wr=>∃ k:Nat,k<=32/\i=Z8 aI k/\DM wr w.heap.size v (List.replicate k 0)/\Below w.heap.size w wr) (λ_ i _=>32-(intOf i).toNat)
 case atStart=>exact⟨0,Au _,rfl,DM.empty _ _ Cl,Cg.alloc Cl _⟩
 case round=>
  obtain⟨k,hk,rfl,hown,hbel⟩:=hrel;by_cases hlt:k<32
  ·have hsz:=hbel.size;go_wp2_with (at_builtin;refine DI _ rfl _ _ rfl w.heap.size _ _ rfl (hown.alloc _) ⟨wr.heap.size,0,aA⟩ 1 1 [0] rfl rfl ?c1 ?c2 ?c3 ?_);all_goals first|(intro j hj;obtain rfl:j=0:=AJ
                                                                                                                                                                               simp[Addr.add];done)|skip
   case c2=>simp;omega
   case c3=>first|omega|(rw[A7];omega)
   intro v' w1 hown' hbel' _;have HO:AO (DM w1 w.heap.size v' (List.replicate (k+1) 0)):=by rw[List.replicate_succ'];exact hown'
   have HB:AO (Below w.heap.size w w1):=(hbel.alloc AJ _).trans hbel';clear hown hown' hbel hbel';go_wp2;go_roundw
   case rel=>exact⟨k+1,AJ,by go_num,HO.o,HB.o⟩
   case measure=>simp[intOf];omega
  ·have hkn:k=32:=AJ
   subst hkn;rw[show((32:Nat):Int)=32 from rfl];have HO:AO (DM wr w.heap.size u3 (List.replicate 32 0)):=hown;have hV0:0<=val 256 zs:=C0 AK hz;have hV1:val 256 zs<2^(8*n):=by rw[<-Oo,<-hn];exact EZ AK hz
   have HT:AO (DW (val 256 zs) (8*n)=0):=Jf _ _ hV0 hV1;clear hown hV0 hV1;go_wp2
   go_loopw [3,5] (λv i wr=>∃(j:Nat) (rs:List Int),j<=8*n/\i=Z8 aI ((j:Int)-1)/\rs.length=32/\Ci rs/\val 256 rs=DW (val 256 zs) j/\DM wr w.heap.size v rs/\Below w.heap.size w wr) (λ_ i _=>(intOf i+1).toNat)
   case atStart=>
    refine⟨8*n,_,Ac _,by go_num,?_,?_,?_,HO.o,hbel⟩
    ·simp
    ·intro z hz;rw[List.mem_replicate] at hz;omega
    ·rw[HT.o];decide
   case round=>
    clear HT HO hbel;obtain⟨j,rs,hj,rfl,hrl,hrb,hrv,hown,hbel⟩:=hrel;by_cases hj0:0<j
    ·obtain⟨j,rfl⟩:∃ i,j=i+1:=⟨j-1,AJ⟩
     have hsz:=hbel.size;have ei:((j+1:Nat):Int)-1=(j:Int):=AJ
     rw[ei];clear ei;obtain⟨b0,off,rfl,hb0,hc⟩:=(ha.below hbel).get AJ;have c0:=hc (j/8) AJ;have hb:=Jg zs j hz;have hx:=hz.get (j/8);generalize zs.getD (j/8) 0=x at *;obtain⟨hx0,hx1⟩:=hx;go_wp2;rw[UP hx0 hx1 hb];generalize wrap64 (x/2^(j%8))=y41;generalize x/2^(j%8)=y40;have hbb:=MN (val 256 zs) j;have HR:AO (2*DW (val 256 zs) (j+1)+Ee (val 256 zs) j<256^32):=by
      have:=(Kb (val 256 zs) (j+1)).2;show 2*DW (val 256 zs) (j+1)+Ee (val 256 zs) j<256^32
      unfold DQ at this;omega
     have HBB:AO (Ee (val 256 zs) j=0\/Ee (val 256 zs) j=1):=hbb;have HRV:AO (val 256 rs=DW (val 256 zs) (j+1)):=hrv;obtain⟨g3,c3,rfl,hg3,hg3',A3⟩:=hown.at_;rw[hrl];clear hb hbb hc c0 hrv hown;generalize hbj:Ee (val 256 zs) j=bj at *;have HBJ:AO (Ee (val 256 zs) j=bj):=hbj;clear hbj;obtain⟨w5,hw5⟩:∃ x,x=wr:=⟨_,rfl⟩
     subst hw5
     go_loopw [6,7,8] (λc v i wq=>∃(k:Nat) (ts:List Int) (b:Int),k<=32/\i=Z8 aI k/\c=Z8 aI b/\(0<=b/\b<=1)/\ts.length=k/\Ci ts/\val 256 ts+b*256^k=2*val 256 (rs.take k)+bj/\DM wq w5.heap.size v ts/\Below w5.heap.size w5 wq) (λ_ _ i _=>32-(intOf i).toNat)
     case atStart=>exact⟨0,[],bj,Au _,rfl,rfl,by rcases HBB.o with h|h<;>omega,rfl,by simp[Ci],by simp[val],DM.empty _ _ Cl,Cg.alloc Cl _⟩
     case round=>
      obtain⟨k,ts,b,hk,rfl,rfl,⟨hb0',hb1'⟩,htl,htb,hv,hot,hbt⟩:=hrel;by_cases hlt:k<32
      ·have hst:=hbt.size;have vr:=DN 256 rs k AJ;obtain⟨b3,o3,he3,hb3,hc3⟩:=A3.get AJ;cases he3;have c1:wr.cell? ⟨g3,0+k,aA⟩=aE (Z8 Z9 (rs.getD k 0)):=by rw[hbt.cell (p:=⟨g3,0+k,aA⟩) hb3];exact hc3 k AJ
       rw[Aq] at c1;clear hc3;have hd:=hrb.get k;have hstep:=Nc _ _ _ (rs.getD k 0) _ _ 0 hv;rw[<-vr,show(256:Int)^k*256=256^(k+1) from(Int.pow_succ _ _).symm,<-htl,<-Fs,htl] at hstep;generalize rs.getD k 0=d at *;obtain⟨hd0,hd1⟩:=hd;have hq0:0<=(2*d+b)/256:=AJ
       have hq1:(2*d+b)/256<=1:=AJ
       have hr0:0<=(2*d+b)%256:=AJ
       have hr1:(2*d+b)%256<256:=AJ
       have HBy:AO (Ci (ts++[(2*d+b)%256])):=J2.snoc (B:=256) htb hr0 hr1;have HS:AO (val 256 (ts++[(2*d+b)%256])+(2*d+b)/256*256^(k+1)=2*val 256 (rs.take (k+1))+bj):=hstep;have HTL:AO (ts.length=k):=htl;clear hstep hv vr htb htl A3;have hcov:(2*d+b).tmod 256=(2*d+b)%256:=Am AJ;have hcod:(2*d+b).tdiv 256=(2*d+b)/256:=Int.tdiv_eq_ediv_of_nonneg AJ;go_wp2_with (at_builtin;refine DI _ rfl _ _ rfl w5.heap.size _ _ rfl (hot.alloc _) ⟨wr.heap.size,0,aA⟩ 1 1 [(2*d+b)%256] rfl rfl ?d1 ?d2 ?d3 ?_);all_goals first|(intro j hj;obtain rfl:j=0:=AJ
                                                                                                                                                                                                                                                                                                                                                                                                                                                                                                                               simp[Addr.add];done)|skip
       case d2=>rw[HTL.o];omega
       case d3=>first|omega|(rw[A7];omega)
       intro v' w3 hown' hbel' _;have HO:AO (DM w3 w5.heap.size v' (ts++[(2*d+b)%256])):=hown';have HB:AO (Below w5.heap.size w5 w3):=(hbt.alloc AJ _).trans hbel';clear hot hown' hbt hbel';go_wp2;go_roundw
       case rel=>exact⟨k+1,ts++[(2*d+b)%256],(2*d+b)/256,AJ,by go_num,rfl,⟨hq0,hq1⟩,by rw[Ak,HTL.o];rfl,HBy.o,HS.o,HO.o,HB.o⟩
       case measure=>simp[intOf];omega
      ·have hkn:k=32:=AJ
       subst hkn;rw[Ad AJ,HRV.o] at hv;have t0:0<=val 256 ts:=C0 AK htb;have hb00:b=0:=by
        have:=HR.o;have:(0:Int)<256^32:=AK
        rcases (show b=0\/b=1 by omega) with h|h
        ·exact h
        ·exfalso;subst h;omega
       subst hb00;have HV:AO (val 256 ts=2*DW (val 256 zs) (j+1)+bj):=by show val 256 ts=_;omega
       obtain⟨g4,c4,rfl,hg4,hg4',A4⟩:=hot.at_;rw[htl] at hot |-;have hst:=hbt.size;clear hv t0;go_wp2_with fail;refine(Om _).mono ?_;rintro e w6 ⟨v6,rfl,O6,B6⟩;obtain⟨g6,c6,rfl,hg6,hg6',A6⟩:=O6.at_;have A46:=A4.below B6;have O46:DM w6 w5.heap.size (Z7 (aE ⟨g4,0,aA⟩) 32 c4) ts:=hot.grow2r B6;have HO46:AO (DM w6 w5.heap.size (Z7 (aE ⟨g4,0,aA⟩) 32 c4) ts):=O46;clear O46 O6 hot A4;go_wp2_with fail;refine(KZ _ _ 32 _ _ ts lB _ htl rfl AK A46 A6 htb Ol).mono ?_;rintro e w7 ⟨v7,ds,rfl,O7,hdb,hdl,hdv,B7⟩;rw[Rb] at hdv |-;obtain⟨q1,q2⟩:=UQ (V:=val 256 zs) (j:=j) (show val 256 ts=_ by rw[HBJ.o];exact HV.o) hdv;have s6:=B6.size;have s7:=B7.size;have B57:Below w5.heap.size w5 w7:=hbt.trans ((B6.trans (B7.mono B6.size)).mono hst);have HB7:AO (Below w.heap.size w w7):=hbel.trans (B57.mono hsz);have HOT:AO (DM w7 w.heap.size (Z7 (aE ⟨g4,0,aA⟩) 32 c4) ts):=(HO46.o.grow2r B7).lower2 hsz;have HOD:AO (DM w7 w.heap.size v7 ds):=O7.lower2 AJ;clear HO46 O7 B57 B6 B7 hbt hbel A46 A6;by_cases hL:DQ<=val 256 ts
       ·have hL':decide (DQ<=val 256 ts)=true:=by simpa using hL
        rw[hL'];have HQ:AO (val 256 ds=DW (val 256 zs) j):=q1 hL;have HDL:AO (ds.length=32):=by rw[hdl];exact htl
        clear q1 q2 hdv hL' hL hdl;go_wp2;go_roundw
        case rel=>exact⟨j,ds,AJ,rfl,HDL.o,hdb,HQ.o,HOD.o,HB7.o⟩
        case measure=>first|(simp[intOf];done)|(simp[intOf];omega)
       ·have hL':decide (DQ<=val 256 ts)=false:=by simpa using hL
        rw[hL'];have HQ:AO (val 256 ts=DW (val 256 zs) j):=q2 hL;have HDL:AO (ts.length=32):=htl;clear q1 q2 hdv hL' hL hdl htl;go_wp2;go_roundw
        case rel=>exact⟨j,ts,AJ,rfl,HDL.o,htb,HQ.o,HOT.o,HB7.o⟩
        case measure=>first|(simp[intOf];done)|(simp[intOf];omega)
    ·obtain rfl:j=0:=AJ
     have HV:AO (val 256 rs=val 256 zs%DQ):=by rw[<-Iu];exact hrv
     have HO:AO (DM wr w.heap.size u3 rs):=hown;have HL:AO (rs.length=32):=hrl;clear hrv hown hrl;go_wp2
     go_ret
     exact⟨_,rs,rfl,HO.o,hrb,HL.o,HV.o,hbel⟩
theorem UR (a:Option Addr) (n cap:Nat) (zs:List Int) (w:aC) (hn:zs.length=n) (ha:At Z9 w a zs) (hz:Ci zs) :
  Calls tP 70 #[Z7 a n cap] w λe w'=>e=aK (.bool (decide (n=32/\val 256 zs<DQ)))/\Below w.heap.size w w':=by
 by_cases h:n=32
 ·subst h;go_enter func70,ntmps70;go_wp2_with fail;refine(Om _).mono ?_;rintro e w6 ⟨v6,rfl,O6,B6⟩;obtain⟨g6,c6,rfl,hg6,hg6',A6⟩:=O6.at_;have A1:=ha.below B6;clear O6;go_wp2_with fail;refine(KZ _ _ 32 _ _ zs lB _ hn rfl AK A1 A6 hz Ol).mono ?_;rintro e w7 ⟨v7,ds,rfl,O7,hdb,hdl,hdv,B7⟩;rw[Rb] at *;have B:Below w.heap.size w w7:=B6.trans (B7.mono B6.size);have HB:AO (Below w.heap.size w w7):=B;have e:(!decide (DQ<=val 256 zs))=decide (32=32/\val 256 zs<DQ):=by
   by_cases h:DQ<=val 256 zs
   ·have:¬ val 256 zs<DQ:=AJ
    simp[h,this]
   ·have:val 256 zs<DQ:=AJ
    simp[h,this]
  generalize decide (DQ<=val 256 zs)=q at *;have HE:AO ((!q)=decide (32=32/\val 256 zs<DQ)):=e;clear e;clear B O7 A1 A6 hdv B6 B7 ha;go_wp2
  go_ret
  refine⟨?_,HB.o⟩;show aK (.bool (!q))=_
  rw[HE.o]
 ·have e:decide (n=32/\val 256 zs<DQ)=false:=by simp[h]
  rw[e];have h':((n:Int) != 32)=true:=by simp;omega
  go_enter func70,ntmps70;go_wp2
  go_ret
  exact⟨rfl,A9 _ _⟩
def Y6 (e f q:Int):Int:=bits .xor .u64 (bits .and .u64 e f) (bits .and .u64 (bits .xor .u64 IntKind.u64.max e) q)
def Zf (a b c:Int):Int:=bits .xor .u64 (bits .xor .u64 (bits .and .u64 a b) (bits .and .u64 a c)) (bits .and .u64 b c)
def US (a b c d e f q z x:Int):Int:=IntKind.u64.wrap (IntKind.u64.wrap (IntKind.u64.wrap (z+Yp e)+Y6 e f q)+x)
def XY (a b c:Int):Int:=IntKind.u64.wrap (Xt a+Zf a b c)
theorem Tryz.sizeU64:(tP.info? 132).map (·.size)=aE 1:=AM
theorem Rm {w:aC} {o:Oper} {ac:Act} {K:Act->aC->Prop} {Q:Exit->Act->aC->Prop} (dd ss:Operand)
  (ho:o.op=.call { callee:=.builtin .copy,args:=#[dd,ss],argTypes:=#[131,131] }) (g:Nat) (ty:TypeId) (a b c d e f q z:Int)
  (hd:ac.eval dd=Z7 (aE ⟨g,1,aA⟩) 7 7) (hs:ac.eval ss=Z7 (aE ⟨g,0,aA⟩) 7 8) (hg:w.heap[g]?=aE (.cells #[Z8 .u64 a,Z8 .u64 b,Z8 .u64 c,Z8 .u64 d,Z8 .u64 e,Z8 .u64 f,Z8 .u64 q,Z8 .u64 z] ty (0,0)))
  (h:∀ w',w'.heap[g]?=aE (.cells #[Z8 .u64 a,Z8 .u64 a,Z8 .u64 b,Z8 .u64 c,Z8 .u64 d,Z8 .u64 e,Z8 .u64 f,Z8 .u64 q] ty (0,0))->Wr g w w'->K (ac.put o.dst (goInt 7)) w'):o.wp tP ac w K Q:=by
 have hrun:=run_copy_row (P:=tP) w 131 131 o.type 132 g 1 7 7 ⟨g,0,aA⟩ 7 8 #[Z8 .u64 a,Z8 .u64 b,Z8 .u64 c,Z8 .u64 d,Z8 .u64 e,Z8 .u64 f,Z8 .u64 q,Z8 .u64 z] ty [Z8 .u64 a,Z8 .u64 b,Z8 .u64 c,Z8 .u64 d,Z8 .u64 e,Z8 .u64 f,Z8 .u64 q] underlying131 Tryz.sizeU64 hg rfl (λj v hv=>by
  have hj:j<7:=by have:=(Ao.1 hv).1;simpa using this
  rw[Az,AA hg _,Aq];have:j=0\/j=1\/j=2\/j=3\/j=4\/j=5\/j=6:=AJ
  rcases this with rfl|rfl|rfl|rfl|rfl|rfl|rfl<;>simpa using hv) AL (by simp[Value.oneCell'])
 unfold Oper.wp;simp[execOp,ho,resolve,invoke,builtin,hd,hs,hrun,Result.andThen];exact h _ (by rw[AB hg]) (Wr.setRow _ _ _)
theorem Pz (g:Nat) (ty:TypeId) (a b c d e f q z x:Int) (w:aC) (hr:w.heap[g]?=aE (.cells #[Z8 .u64 a,Z8 .u64 b,Z8 .u64 c,Z8 .u64 d,Z8 .u64 e,Z8 .u64 f,Z8 .u64 q,Z8 .u64 z] ty (0,0)))
  (ha:EE a) (hb:EE b) (hc:EE c) (hd:EE d) (he:EE e) (hf:EE f) (hq:EE q) (hz:EE z) (hx:EE x) :
  Calls tP 158 #[aF (aE ⟨g,0,aA⟩),Z8 .u64 x] w λen w'=>en=aK (.tuple #[])/\w'.heap[g]?=aE (.cells #[Z8 .u64 (IntKind.u64.wrap (US a b c d e f q z x+XY a b c)),Z8 .u64 a,Z8 .u64 b,Z8 .u64 c,Z8 .u64 (IntKind.u64.wrap (d+US a b c d e f q z x)),Z8 .u64 e,Z8 .u64 f,Z8 .u64 q] ty (0,0))/\Wr g w w':=by
 have HE:=Cd he;have HA:=Cd ha;have HR:=Cd hr;have c0:w.cell? ⟨g,0,aA⟩=aE (Z8 .u64 a):=AA hr _;have c1:w.cell? ⟨g,1,aA⟩=aE (Z8 .u64 b):=AA hr _;have c2:w.cell? ⟨g,2,aA⟩=aE (Z8 .u64 c):=AA hr _;have c3:w.cell? ⟨g,3,aA⟩=aE (Z8 .u64 d):=AA hr _;have c4:w.cell? ⟨g,4,aA⟩=aE (Z8 .u64 e):=AA hr _;have c5:w.cell? ⟨g,5,aA⟩=aE (Z8 .u64 f):=AA hr _;have c6:w.cell? ⟨g,6,aA⟩=aE (Z8 .u64 q):=AA hr _;have c7:w.cell? ⟨g,7,aA⟩=aE (Z8 .u64 z):=AA hr _;obtain⟨a0,a1⟩:=ha;obtain⟨b0,b1⟩:=hb;obtain⟨c0,c1⟩:=hc;obtain⟨d0,d1⟩:=hd;obtain⟨e0,e1⟩:=he;obtain⟨f0,f1⟩:=hf;obtain⟨q0,q1⟩:=hq;obtain⟨z0,z1⟩:=hz;obtain⟨x0,x1⟩:=hx;clear hr;go_enter func158,ntmps158;go_wp2
 go_quiet (fail)
 go_wp2
 go_quiet (fail)
 go_wp2
 go_quiet (first|(refine(WW e _ HE.o).mono ?_;rintro _ _ ⟨h1,h2⟩;exact⟨h1,_,h2⟩))
 go_wp2_with fail;refine(WV a _ HA.o).mono ?_;rintro _ w9 ⟨rfl,hw9⟩;subst w9;obtain⟨t1,ht1⟩:∃ t1,US a b c d e f q z x=t1:=⟨_,rfl⟩
 have u1:EE t1:=by rw[<-ht1];exact D5 _
 have ht1':=ht1;unfold US Y6 at ht1';rw[ht1'];obtain⟨u10,u11⟩:=u1;have u2:=UO a;obtain⟨s0,hs0⟩:∃ s0,Xt a=s0:=⟨_,rfl⟩
 rw[hs0] at u2 |-;obtain⟨u20,u21⟩:=u2;obtain⟨t2,ht2⟩:∃ t2,XY a b c=t2:=⟨_,rfl⟩
 have u3:EE t2:=by rw[<-ht2];exact D5 _
 have ht2':=ht2;unfold XY Zf at ht2';rw[hs0] at ht2';obtain⟨u30,u31⟩:=u3;have HT1:=Cd ht1;have HT2:=Cd ht2;clear ht1 ht1' hs0 ht2
 go_upto_region 4 with fail
 try rw[ht2']
 clear ht2';have HWN:∀ k,AO (Wr g w (w.drewN k)):=λk=>(Wr.refl g w).drewN k
 refine Ag AM ?_;refine Cn (λ_ _ _=>True) (frame:=(λ(a b c d e f g h i j k l m n o p q r s u v w x y z A B C D E F G H I J K L M N O P Q R S T U V W X Y Z a0 a1 a2 a3 a4 a5 a6 a7 a8 a9 b0 b1 b2 b3 b4 b5 b6 b7 b8 b9 c0 c1 c2 c3 c4 c5 c6 c7 c8 c9 d0:aB)=>λ(t:Nat->aB)=>({ tmps:=List.toArray [a,b,c,d,e,f,g,h,i,j,k,l,m,n,o,p,q,r,s,u,v,w,x,y,z,A,B,C,D,E,F,G,H,I,J,K,L,M,N,O,P,Q,R,S,T,U,V,W,X,Y,Z,a0,a1,a2,a3,a4,a5,a6,a7,a8,a9,b0,b1,b2,b3,b4,b5,b6,t 0,t 1,t 2,t 3,t 4,t 5,t 6,b7,b8,b9,c0,c1,c2,c3,c4,c5,c6,c7,c8,c9,d0],defers:=[] }:Act)) _ _ _ _ _ _ _ _ _ _ _ _ _ _ _ _ _ _ _ _ _ _ _ _ _ _ _ _ _ _ _ _ _ _ _ _ _ _ _ _ _ _ _ _ _ _ _ _ _ _ _ _ _ _ _ _ _ _ _ _ _ _ _ _ _ _ _ _ _ _ _ _ _ _ _ _ _ _ _ _ _ _)
  (Ext:=λL u w'=>if L 6=true then w'.heap[g]?=aE (.cells #[Z8 .u64 a,Z8 .u64 a,Z8 .u64 b,Z8 .u64 c,Z8 .u64 d,Z8 .u64 e,Z8 .u64 f,Z8 .u64 q] ty (0,0))/\Wr g w w' else w'.heap[g]?=aE (.cells #[Z8 .u64 a,Z8 .u64 b,Z8 .u64 c,Z8 .u64 d,Z8 .u64 e,Z8 .u64 f,Z8 .u64 q,Z8 .u64 z] ty (0,0))/\Wr g w w') (Good:=λi L w' v=>if i=0 then v=aF (aE ⟨g,0,aA⟩) else if i=1 then v=aF (aE ⟨g,0,aA⟩) else if i=2 then v=Z7 (aE ⟨g,1,aA⟩) 7 7 else if i=3 then v=aF (aE ⟨g,0,aA⟩) else if i=4 then v=aF (aE ⟨g,0,aA⟩) else if i=5 then v=Z7 (aE ⟨g,0,aA⟩) 7 8 else if i=6 then L 6=true else True) ?hstab AM ?hop ?hdone _ _ ((λ(x0 x1 x2 x3 x4 x5 x6:aB)=>λ(i:Nat)=>if i=0 then x0 else if i=1 then x1 else if i=2 then x2 else if i=3 then x3 else if i=4 then x4 else if i=5 then x5 else if i=6 then x6 else undef) _ _ _ _ _ _ _) _ AL ?ext ?start AL
 case start=>intro i hi h;exact absurd h Et
 case ext=>
  rw[AQ (by show ¬ (Array.getD _ _ _=true);rw[By,Array.getElem?_replicate];split<;>simp)];exact⟨HR.o,((HWN _).o).drew⟩
 case hstab=>
  intro j L w9 w' i v hM hij hLi h;by_cases hl:j=6
  ·subst hl;simp at h |-;unfold Cf;simp[h]
  ·simp only[if_neg hl] at h |-;exact h
 case hop=>
  intro i o L t w' ho hLi hx hdep K hK;have hi:i<7:=(AR.1 ho).1;obtain rfl|rfl|rfl|rfl|rfl|rfl|rfl:i=0\/i=1\/i=2\/i=3\/i=4\/i=5\/i=6:=AJ
  all_goals(simp at ho;subst ho)
  ·clear hdep;have hK':=hK w' (aF (aE ⟨g,0,aA⟩)) AL (by simpa[Cf] using hx) trivial;clear hK;rw[AP AN];go_simp;simpa[Ce] using hK'
  ·have d0:t 0=aF (aE ⟨g,0,aA⟩):=by simpa using(hdep ⟨0,aL⟩ AL rfl).2
   clear hdep;have hK':=hK w' (aF (aE ⟨g,0,aA⟩)) AL (by simpa[Cf] using hx) trivial;clear hK;rw[AP AN];go_simp;simpa[Ce,d0] using hK'
  ·have d1:t 1=aF (aE ⟨g,0,aA⟩):=by simpa using(hdep ⟨1,aL⟩ AL rfl).2
   clear hdep;have hK':=hK w' (Z7 (aE ⟨g,1,aA⟩) 7 7) AL (by simpa[Cf] using hx) trivial;clear hK;rw[AP AN];go_simp;simpa[Ce,d1] using hK'
  ·clear hdep;have hK':=hK w' (aF (aE ⟨g,0,aA⟩)) AL (by simpa[Cf] using hx) trivial;clear hK;rw[AP AN];go_simp;simpa[Ce] using hK'
  ·have d3:t 3=aF (aE ⟨g,0,aA⟩):=by simpa using(hdep ⟨3,aL⟩ AL rfl).2
   clear hdep;have hK':=hK w' (aF (aE ⟨g,0,aA⟩)) AL (by simpa[Cf] using hx) trivial;clear hK;rw[AP AN];go_simp;simpa[Ce,d3] using hK'
  ·have d4:t 4=aF (aE ⟨g,0,aA⟩):=by simpa using(hdep ⟨4,aL⟩ AL rfl).2
   clear hdep;have hK':=hK w' (Z7 (aE ⟨g,0,aA⟩) 7 8) AL (by simpa[Cf] using hx) trivial;clear hK;rw[AP AN];go_simp;simpa[Ce,d4] using hK'
  ·have d2:t 2=Z7 (aE ⟨g,1,aA⟩) 7 7:=by simpa using(hdep ⟨2,aL⟩ AL rfl).2
   have d5:t 5=Z7 (aE ⟨g,0,aA⟩) 7 8:=by simpa using(hdep ⟨5,aL⟩ AL rfl).2
   clear hdep;rw[hLi,AQ AK] at hx;rw[AP AN];refine Rm (.tmp 70) (.tmp 73) rfl g ty a b c d e f q z d2 d5 hx.1 ?_;intro w2 h2 hw2;exact hK w2 _ (by simp[Cf]) (by rw[AP (by simp[Cf])];exact⟨h2,hx.2.trans hw2⟩) trivial
 case hdone=>
  intro L t w4 hx hg;have hlast:L 6=true:=by simpa using hg 6 AK
  rw[AP hlast] at hx;clear hg hlast;have c4':w4.cell? ⟨g,4,aA⟩=aE (Z8 .u64 d):=AA hx.1 _;have f4':w4.frozen? ⟨g,4,aA⟩=false:=Ar _ _ _ _ _ hx.1;have c0':w4.cell? ⟨g,0,aA⟩=aE (Z8 .u64 a):=AA hx.1 _;have f0':w4.frozen? ⟨g,0,aA⟩=false:=Ar _ _ _ _ _ hx.1;have HX:=Cd hx;clear hx;go_wp2
  go_region
  go_wp2
  go_end0
  obtain⟨hx1,hx2⟩:=HX.o;rw[HT1.o,HT2.o];refine⟨rfl,?_,((hx2.setCell 4 _).setCell 0 _).drew⟩;have h5:=A8 w4 g 4 _ _ (Z8 .u64 (IntKind.u64.wrap (d+t1))) hx1;have h6:=A8 _ g 0 _ _ (Z8 .u64 (IntKind.u64.wrap (t1+t2))) h5;exact h6
/-! Rows read whole and stored whole. -/
theorem FM {w:aC} {ops:Array Oper} {rest:List Oper} {o:Oper} {a:Act} {Q:Exit->Act->aC->Prop} {T e t':TypeId} {n:Nat} (hgd:o.guard=aA) (x:Operand) (ho:o.op=.load T x)
  (hu:tP.underlying T=aE (.array n e)) (hz:(tP.info? T).map (·.size)=aE n) (g:Nat) (es:List Int) (hx:a.eval x=aF (aE ⟨g,0,aA⟩)) (hl:es.length=n) (hr:Ch w g t' es)
  (hK:wpList tP ops Q rest (a.put o.dst (aH (es.map (Value.int .u64)).toArray)) w):wpList tP ops Q (o::rest) a w:=
 Ae hgd T x ho g hx t' _ (0,0) _ hr hu rfl (by rw[hz];simp[hl]) hK
theorem Ev {w:aC} {ops:Array Oper} {rest:List Oper} {o:Oper} {a:Act} {Q:Exit->Act->aC->Prop} {T t':TypeId} {n:Nat} (hgd:o.guard=aA) (x y:Operand) (ho:o.op=.store T x y)
  (hz:(tP.info? T).map (·.size)=aE n) (g:Nat) (es zs:List Int) (hx:a.eval x=aF (aE ⟨g,0,aA⟩)) (hy:a.eval y=aH (es.map (Value.int .u64)).toArray) (hl:es.length=n) (hl':zs.length=n) (hr:Ch w g t' zs)
  (hK:∀ w',Ch w' g t' es->Wr g w w'->wpList tP ops Q rest (a.put o.dst undef) w'):wpList tP ops Q (o::rest) a w:=
 CB hgd T x y ho g ((es.map (Value.int .u64)).toArray) hx hy t' _ hr (by rw[hz];simp[hl]) (by simp[hl,hl']) (all_oneCell_toArray (Aw _ _)) (hK _ (hr.setRow es) (Wr.setRow _ _ _))
theorem LC {w:aC} {ops:Array Oper} {rest:List Oper} {o:Oper} {a:Act} {Q:Exit->Act->aC->Prop} {T e t':TypeId} {n:Nat} (hgd:o.guard=aA) (x:Operand) (ho:o.op=.load T x)
  (hu:tP.underlying T=aE (.array n e)) (hz:(tP.info? T).map (·.size)=aE n) (g:Nat) (es:List Int) (hx:a.eval x=aF (aE ⟨g,0,aA⟩)) (hl:es.length=n) (hr:EF w g t' es)
  (hK:wpList tP ops Q rest (a.put o.dst (aH (es.map (Value.int Z9)).toArray)) w):wpList tP ops Q (o::rest) a w:=
 Ae hgd T x ho g hx t' _ (0,0) _ hr hu rfl (by rw[hz];simp[hl]) hK
theorem EJ {w:aC} {ops:Array Oper} {rest:List Oper} {o:Oper} {a:Act} {Q:Exit->Act->aC->Prop} {T t':TypeId} {n:Nat} (hgd:o.guard=aA) (x y:Operand) (ho:o.op=.store T x y)
  (hz:(tP.info? T).map (·.size)=aE n) (g:Nat) (es zs:List Int) (hx:a.eval x=aF (aE ⟨g,0,aA⟩)) (hy:a.eval y=aH (es.map (Value.int Z9)).toArray) (hl:es.length=n) (hl':zs.length=n) (hr:EF w g t' zs)
  (hK:∀ w',EF w' g t' es->Wr g w w'->wpList tP ops Q rest (a.put o.dst undef) w'):wpList tP ops Q (o::rest) a w:=
 CB hgd T x y ho g ((es.map (Value.int Z9)).toArray) hx hy t' _ hr (by rw[hz];simp[hl]) (by simp[hl,hl']) (all_oneCell_toArray (Aw _ _)) (hK _ (by unfold EF;rw[AB hr]) (Wr.setRow _ _ _))
theorem Ch.drew {w:aC} {g:Nat} {e:TypeId} {zs:List Int} (h:Ch w g e zs):Ch w.drew g e zs:=h
theorem EF.below {w w':aC} {g:Nat} {e:TypeId} {zs:List Int} {B:Nat} (h:EF w g e zs) (hb:Below B w w') (hg:g<B):EF w' g e zs:=by
 unfold EF;rw[hb.block g hg];exact h
theorem Tryz.sizeSch:(tP.info? 211).map (·.size)=aE 80:=AM
theorem Tryz.sizeWds:(tP.info? 173).map (·.size)=aE 8:=AM
theorem Tryz.sizeBlk:(tP.info? 176).map (·.size)=aE 128:=AM
def Nd:Array aB:=((List.replicate 80 (0:Int)).map (Value.int .u64)).toArray
theorem Vn:Nd=((List.replicate 80 (0:Int)).map (Value.int .u64)).toArray:=rfl
theorem Xu:∀ w,(zeroValue 211).run tP w=.ok (aH Nd) w:=(zero_of_info (n:=80) AM).1
theorem Vo:Nd.size=80:=by unfold Nd;simp
theorem Xv:¬ Nd=#[]:=by intro h;have:=Vo;rw[h] at this;simp at this
def Ii:Array aB:=((List.replicate 128 (0:Int)).map (Value.int Z9)).toArray
theorem MO:Ii=((List.replicate 128 (0:Int)).map (Value.int Z9)).toArray:=rfl
theorem Rn:∀ w,(zeroValue 176).run tP w=.ok (aH Ii) w:=(zero_of_info (n:=128) AM).1
theorem Oq:Ii.size=128:=by unfold Ii;simp
theorem Ro:¬ Ii=#[]:=by intro h;have:=Oq;rw[h] at this;simp at this
/-! The schedule. -/
def Xw (bs l:List Int) (t:Nat):Int:=
 if t<16 then Jd ((bs.drop (8*t)).take 8)
 else IntKind.u64.wrap (IntKind.u64.wrap (IntKind.u64.wrap (Ka (l.getD (t-2) 0)+l.getD (t-7) 0)+MK (l.getD (t-15) 0))+l.getD (t-16) 0)
def Fc (bs:List Int):Nat->List Int
 |0=>[]
 |n+1=>Fc bs n++[Xw bs (Fc bs n) n]
def wd (bs:List Int) (t:Nat):Int:=Xw bs (Fc bs t) t
theorem Fd (bs:List Int) (n:Nat):(Fc bs n).length=n:=by
 induction n with
 |zero=>rfl
 |succ n ih=>simp[Fc,ih]
theorem Fw (bs:List Int) (n t:Nat) (h:t<n):(Fc bs n).getD t 0=wd bs t:=by
 induction n with
 |zero=>omega
 |succ n ih=>
  have hl:=Fd bs n;unfold Fc;rcases Nat.lt_or_ge t n with h'|h'
  ·rw[AS,BQ AJ,<-AS];exact ih h'
  ·obtain rfl:t=n:=AJ
   rw[AS,BO AJ,hl];simp[wd]
theorem Rp (bs:List Int) (t:Nat) (h:t<16):wd bs t=Jd ((bs.drop (8*t)).take 8):=by unfold wd Xw;rw[AP h]
theorem Vp (bs:List Int) (j:Nat):wd bs (j+16)=IntKind.u64.wrap (IntKind.u64.wrap (IntKind.u64.wrap (Ka (wd bs (j+14))+wd bs (j+9))+MK (wd bs (j+1)))+wd bs j):=by
 have e:wd bs (j+16)=Xw bs (Fc bs (j+16)) (j+16):=rfl;rw[e,Xw,AQ AJ,Fw _ _ _ AJ,Fw _ _ _ AJ,Fw _ _ _ AJ,Fw _ _ _ AJ];rfl
theorem Rq (bs:List Int) (k:Nat) (h:16<=k):wd bs k=IntKind.u64.wrap (IntKind.u64.wrap (IntKind.u64.wrap (Ka (wd bs (k-2))+wd bs (k-7))+MK (wd bs (k-15)))+wd bs (k-16)):=by
 obtain⟨j,rfl⟩:∃ j,k=j+16:=⟨k-16,AJ⟩
 exact Vp bs j
theorem Nf {bs:List Int} (hz:Ci bs) (hl:bs.length=128) (t:Nat):EE (wd bs t):=by
 rcases Nat.lt_or_ge t 16 with h|h
 ·rw[Rp bs t h];have hz':Ci ((bs.drop (8*t)).take 8):=λz h=>hz z (Bf (Ay h))
  have hl':((bs.drop (8*t)).take 8).length=8:=by simp;omega
  have hb:=Ri hz' 8 AJ;rw[Ad AJ] at hb;exact⟨hb.1,by have:=hb.2;simpa using this⟩
 ·obtain⟨j,rfl⟩:∃ j,t=j+16:=⟨t-16,AJ⟩
  rw[Vp];exact D5 _
def Hm (bs:List Int) (m:Nat):List Int:=(List.range 80).map λj=>if j<m then wd bs j else 0
theorem Fx (bs:List Int) (m:Nat):(Hm bs m).length=80:=by simp[Hm]
theorem Jh (bs:List Int) (m j:Nat) (h:j<80):(Hm bs m).getD j 0=if j<m then wd bs j else 0:=by unfold Hm;simp[List.getD,h]
theorem P7 (bs:List Int):Hm bs 0=List.replicate 80 0:=by
 unfold Hm;simp only[Nat.not_lt_zero,if_false];rw[List.map_const'];simp
theorem Rr (bs:List Int) (m:Nat) (h:m<80):(Hm bs m).set m (wd bs m)=Hm bs (m+1):=by
 apply List.ext_getElem?;intro i;rw[List.getElem?_set];unfold Hm;by_cases h1:m=i
 ·subst h1;simp[h]
 ·rw[AQ h1];by_cases h2:i<80
  ·have e:(i<m+1)=(i<m):=by apply propext;omega
   simp[h2,e]
  ·simp[h2]
structure SC (w:aC) (bs:List Int) (m:Nat) (y:aC):Prop where
 res:Ch y w.heap.size 211 (List.replicate 80 0)
 row:Ch y (w.heap.size+1) 211 (Hm bs m)
 below:Below w.heap.size w y
theorem SC.drew {w:aC} {bs:List Int} {m:Nat} {y:aC} (h:SC w bs m y):SC w bs m y.drew:=⟨h.res.drew,h.row.drew,h.below.drew⟩
theorem SC.cellAt {w:aC} {bs:List Int} {m:Nat} {y:aC} (h:SC w bs m y) (j:Nat) (hj:j<m) (h8:j<80):y.cell? ⟨w.heap.size+1,j,aA⟩=aE (Z8 .u64 (wd bs j)):=by
 rw[h.row.cell j (by rw[Fx];exact h8),Jh _ _ _ h8,AP hj]
theorem SC.cell0 {w:aC} {bs:List Int} {m:Nat} {y:aC} (h:SC w bs m y) (j:Nat) (hj:m<=j) (h8:j<80):y.cell? ⟨w.heap.size+1,j,aA⟩=aE (Z8 .u64 0):=by
 rw[h.row.cell j (by rw[Fx];exact h8),Jh _ _ _ h8,AQ AJ]
theorem SC.set {w:aC} {bs:List Int} {m:Nat} {y:aC} (h:SC w bs m y) (hm:m<80):SC w bs (m+1) (y.setCell ⟨w.heap.size+1,m,aA⟩ (Z8 .u64 (wd bs m))):=
 ⟨((Wr.refl _ _).setCell m _).rowW h.res AJ,by rw[<-Rr bs m hm];exact h.row.set m _,h.below.setCell AL _⟩
theorem WX {w:aC} {bs:List Int} {m:Nat} {y:aC} {b:Bool} (h:if b=true then SC w bs (m+1) y else SC w bs m y) (j:Nat) (hj:j<m) (h8:j<80):y.cell? ⟨w.heap.size+1,j,aA⟩=aE (Z8 .u64 (wd bs j)):=by
 cases b
 ·exact SC.cellAt (by simpa using h) j hj h8
 ·exact SC.cellAt (m:=m+1) (by simpa using h) j AJ h8
theorem MP (g:Nat) (n:Int) (bs:List Int) (w:aC) (hr:EF w g 176 bs) (hl:bs.length=128) (hn:EE n) :
  Calls tP 159 #[aF (aE ⟨g,0,aA⟩),Z8 .u64 n] w λe w'=>e=aK (.tuple #[])/\EF w' g 176 (Py (Py bs 112 (n/2^61) 8) 120 (IntKind.u64.wrap (n*8)) 8)/\Wr g w w':=by
 obtain⟨n0,n1⟩:=hn;have A:=Cd (MM g 112 (n/2305843009213693952) bs w hr hl AJ ⟨AJ,AJ⟩);have B:=Cd (λw1 (h:EF w1 g 176 (Py bs 112 (n/2305843009213693952) 8))=>MM g 120 (IntKind.u64.wrap (n*8)) _ w1 h (by rw[He];exact hl) AJ (D5 _));have HD:=Cd (show n/2^61=n/2305843009213693952 from rfl);clear hr;go_enter func159,ntmps159;go_wp2_with fail;refine A.o.mono ?_;rintro e w1 ⟨rfl,r1,b1⟩;have B':=B.o w1 r1;clear A B r1;have HB1:=Cd b1;clear b1;have HB:=Cd B';clear B';go_wp2_with fail;refine HB.o.mono ?_;rintro e w2 ⟨rfl,r2,b2⟩;have H2:=Cd r2;have HB2:=Cd b2;clear r2 b2 HB;go_wp2
 go_end0
 rw[HD.o];exact⟨rfl,H2.o,HB1.o.trans HB2.o⟩
theorem P8 (g:Nat) (bs:List Int) (w:aC) (hr:EF w g 176 bs) (hl:bs.length=128) (hz:Ci bs) :
  Calls tP 157 #[aF (aE ⟨g,0,aA⟩)] w λe w'=>e=aK (aH ((Hm bs 80).map (Value.int .u64)).toArray)/\Below w.heap.size w w':=by
 have HR:=Cd hr;have HL:=Cd hl;have HZ:=Cd hz;have HU:=Cd (λt=>Nf hz hl t);have hlt:=hr.lt;clear hr hl hz;have HS:AO (SC w bs 0 ((w.alloc (.cells Nd 211)).alloc (.cells Nd 211))):=by
  refine⟨?_,?_,(Cg.alloc Cl _).alloc AL _⟩
  ·unfold Ch;rw[heap_alloc2_old,Vn]
  ·unfold Ch;rw[heap_alloc2_new,Vn,P7]
 have z1:=Xu;have z2:=Vo;have z3:=Xv;go_enter func157,ntmps157;go_wp2
 go_loopw [5] (λi wr=>∃ k:Nat,k<=80/\i=Z8 aI k/\SC w bs k wr) (λi _=>80-(intOf i).toNat)
 case atStart=>exact⟨0,AJ,rfl,HS.o⟩
 case round=>
  clear HS;obtain⟨k,hk,rfl,hst⟩:=hrel;by_cases h80:k<80
  ·have h80':(k:Int)<80:=AJ
   by_cases h16:k<16
   ·have h16':(k:Int)<16:=AJ
    have A:=Cd (Px g (8*k) bs wr (HR.o.below hst.below hlt) HL.o HZ.o AJ);have hc:=hst.cell0 k Cl h80;have hf:=hst.row.frozen k;have e8:=Cd (show((8*k:Nat):Int)=8*(k:Int) by omega);have HN:=hst.set h80;rw[Rp _ _ h16] at HN;have HX:=Cd HN;clear HN hst;go_wp2_with fail;rw[<-e8.o];refine A.o.mono ?_;rintro e w9 ⟨rfl,h9⟩;subst h9;clear A;generalize Jd ((bs.drop (8*k)).take 8)=v at *;go_wp2;go_roundw
    case rel=>exact⟨k+1,AJ,by go_num,HX.o⟩
    case measure=>simp[intOf];omega
   ·have h16':¬ ((k:Int)<16):=AJ
    have HS0:=Cd hst;have HWD:=Rq bs k AJ;have HST:AO (∀ y,SC w bs k y->SC w bs (k+1) (y.setCell ⟨w.heap.size+1,k,aA⟩ (Z8 .u64 (wd bs k)))):=λy h=>h.set h80
    have HCE:AO (∀ y (L:Nat->Bool),(if L 23=true then SC w bs (k+1) y else SC w bs k y)->∀ i,i<k->y.cell? ⟨w.heap.size+1,i,aA⟩=aE (Z8 .u64 (wd bs i))):=λy L h i hi=>WX h i hi AJ
    obtain⟨j0,hj0⟩:∃ i,i=k-16:=⟨_,rfl⟩
    obtain⟨j1,hj1⟩:∃ i,i=k-15:=⟨_,rfl⟩
    obtain⟨j9,hj9⟩:∃ i,i=k-7:=⟨_,rfl⟩
    obtain⟨j14,hj14⟩:∃ i,i=k-2:=⟨_,rfl⟩
    rw[<-hj0,<-hj1,<-hj9,<-hj14] at HWD;have hJ0:AO ((k:Int)-16=(j0:Int)/\j0<k):=⟨AJ,AJ⟩
    have hJ1:AO ((k:Int)-15=(j1:Int)/\j1<k):=⟨AJ,AJ⟩
    have hJ9:AO ((k:Int)-7=(j9:Int)/\j9<k):=⟨AJ,AJ⟩
    have hJ14:AO ((k:Int)-2=(j14:Int)/\j14<k):=⟨AJ,AJ⟩
    clear hj0 hj1 hj9 hj14;obtain⟨x0,hx0⟩:∃ x,x=wd bs j0:=⟨_,rfl⟩
    obtain⟨x1,hx1⟩:∃ x,x=wd bs j1:=⟨_,rfl⟩
    obtain⟨x9,hx9⟩:∃ x,x=wd bs j9:=⟨_,rfl⟩
    obtain⟨x14,hx14⟩:∃ x,x=wd bs j14:=⟨_,rfl⟩
    have U1:=Cd (HU.o j1);rw[<-hx1] at U1;have U14:=Cd (HU.o j14);rw[<-hx14] at U14;rw[<-hx0,<-hx1,<-hx9,<-hx14] at HWD;have hWD:=Cd HWD;have hX0:=Cd hx0;have hX1:=Cd hx1;have hX9:=Cd hx9;have hX14:=Cd hx14;clear HWD hx0 hx1 hx9 hx14 hst
    go_upto_region 7 with fail
    refine Ag AM ?_;refine Cn (λ_ _ _=>True) (frame:=(λ(a b c d e f g h i j k l m n o p q r:aB)=>λ(t:Nat->aB)=>({ tmps:=List.toArray [a,b,c,d,e,f,g,h,i,j,k,l,m,n,o,p,t 0,t 1,t 2,t 3,t 4,t 5,t 6,t 7,t 8,t 9,t 10,t 11,t 12,t 13,t 14,t 15,t 16,t 17,t 18,t 19,t 20,t 21,t 22,q,r],defers:=[] }:Act)) _ _ _ _ _ _ _ _ _ _ _ _ _ _ _ _ _ _)
     (Ext:=λL u w'=>if L 23=true then SC w bs (k+1) w' else SC w bs k w') (Good:=λi L w' v=>if i=0 then v=Z8 aI (k:Int) else if i=1 then v=Z8 aI (k:Int) else if i=2 then v=Z8 aI (j14:Int) else if i=3 then v=aF (aE ⟨w.heap.size+1,j14,aA⟩) else if i=4 then v=Z8 .u64 (x14) else if i=5 then v=Z8 .u64 (Ka x14) else if i=6 then v=Z8 aI (k:Int) else if i=7 then v=Z8 aI (j9:Int) else if i=8 then v=aF (aE ⟨w.heap.size+1,j9,aA⟩) else if i=9 then v=Z8 .u64 (x9) else if i=10 then v=Z8 .u64 (IntKind.u64.wrap (Ka x14+x9)) else if i=11 then v=Z8 aI (k:Int) else if i=12 then v=Z8 aI (j1:Int) else if i=13 then v=aF (aE ⟨w.heap.size+1,j1,aA⟩) else if i=14 then v=Z8 .u64 (x1) else if i=15 then v=Z8 .u64 (MK x1) else if i=16 then v=Z8 .u64 (IntKind.u64.wrap (IntKind.u64.wrap (Ka x14+x9)+MK x1)) else if i=17 then v=Z8 aI (k:Int) else if i=18 then v=Z8 aI (j0:Int) else if i=19 then v=aF (aE ⟨w.heap.size+1,j0,aA⟩) else if i=20 then v=Z8 .u64 (x0) else if i=21 then v=Z8 .u64 (IntKind.u64.wrap (IntKind.u64.wrap (IntKind.u64.wrap (Ka x14+x9)+MK x1)+x0)) else if i=22 then v=aF (aE ⟨w.heap.size+1,k,aA⟩) else if i=23 then L 23=true else True) ?hstab AM ?hop ?hdone _ _ ((λ(x0 x1 x2 x3 x4 x5 x6 x7 x8 x9 x10 x11 x12 x13 x14 x15 x16 x17 x18 x19 x20 x21 x22:aB)=>λ(i:Nat)=>if i=0 then x0 else if i=1 then x1 else if i=2 then x2 else if i=3 then x3 else if i=4 then x4 else if i=5 then x5 else if i=6 then x6 else if i=7 then x7 else if i=8 then x8 else if i=9 then x9 else if i=10 then x10 else if i=11 then x11 else if i=12 then x12 else if i=13 then x13 else if i=14 then x14 else if i=15 then x15 else if i=16 then x16 else if i=17 then x17 else if i=18 then x18 else if i=19 then x19 else if i=20 then x20 else if i=21 then x21 else if i=22 then x22 else undef) _ _ _ _ _ _ _ _ _ _ _ _ _ _ _ _ _ _ _ _ _ _ _) _ AL ?ext ?start AL
    case start=>intro i hi h;exact absurd h Et
    case ext=>
     rw[AQ (by show ¬ (Array.getD _ _ _=true);rw[By,Array.getElem?_replicate];split<;>simp)];exact HS0.o.drew
    case hstab=>
     intro j L w9 w' i v hM hij hLi h;by_cases hl:j=23
     ·subst hl;simp at h |-;unfold Cf;simp[h]
     ·simp only[if_neg hl] at h |-;exact h
    case hop=>
     intro i o L t w' ho hLi hx hdep K hK;have hi:i<24:=(AR.1 ho).1;obtain rfl|rfl|rfl|rfl|rfl|rfl|rfl|rfl|rfl|rfl|rfl|rfl|rfl|rfl|rfl|rfl|rfl|rfl|rfl|rfl|rfl|rfl|rfl|rfl:i=0\/i=1\/i=2\/i=3\/i=4\/i=5\/i=6\/i=7\/i=8\/i=9\/i=10\/i=11\/i=12\/i=13\/i=14\/i=15\/i=16\/i=17\/i=18\/i=19\/i=20\/i=21\/i=22\/i=23:=AJ
     all_goals(simp at ho;subst ho)
     ·clear hdep;have hK':=hK w' (Z8 aI (k:Int)) AL (by simpa[Cf] using hx) trivial;clear hK;rw[AP AN];go_simp;simpa[Ce] using hK'
     ·clear hdep;have hK':=hK w' (Z8 aI (k:Int)) AL (by simpa[Cf] using hx) trivial;clear hK;rw[AP AN];go_simp;simpa[Ce] using hK'
     ·have d1:t 1=Z8 aI (k:Int):=by simpa using(hdep ⟨1,aL⟩ AL rfl).2
      clear hdep;have e1:(k:Int)-2=(j14:Int):=hJ14.o.1;have e4:IntKind.i64.wrap (j14:Int)=(j14:Int):=by have:=hJ14.o.2;rw[An];omega
      have hK':=hK w' (Z8 aI (j14:Int)) AL (by simpa[Cf] using hx) trivial;clear hK;rw[AP AN];go_simp;simpa[Ce,d1,e1,e4] using hK'
     ·have d2:t 2=Z8 aI (j14:Int):=by simpa using(hdep ⟨2,aL⟩ AL rfl).2
      clear hdep;have e2:(j14:Int)<80:=AG hJ14.o.2
      have hK':=hK w' (aF (aE ⟨w.heap.size+1,j14,aA⟩)) AL (by simpa[Cf] using hx) trivial;clear hK;rw[AP AN];go_simp;simpa[Ce,d2] using hK'
     ·have d3:t 3=aF (aE ⟨w.heap.size+1,j14,aA⟩):=by simpa using(hdep ⟨3,aL⟩ AL rfl).2
      clear hdep;have hc:w'.cell? ⟨w.heap.size+1,j14,aA⟩=aE (Z8 .u64 (x14)):=by rw[hX14.o];exact HCE.o w' L hx j14 (hJ14.o.2)
      have hK':=hK w' (Z8 .u64 (x14)) AL (by simpa[Cf] using hx) trivial;clear hK;rw[AP AN];go_simp;simpa[Ce,d3] using hK'
     ·have d4:t 4=Z8 .u64 (x14):=by simpa using(hdep ⟨4,aL⟩ AL rfl).2
      clear hdep;have A:=WU x14 w' U14.o;have hK':=hK w' (Z8 .u64 (Ka x14)) AL (by simpa[Cf] using hx) trivial;clear hK hx;rw[AP AN];go_simp;try simp only[d4]
      refine A.mono ?_;rintro e w9 ⟨rfl,h9⟩;subst h9;clear A;go_simp;simpa[Ce,d4] using hK'
     ·clear hdep;have hK':=hK w' (Z8 aI (k:Int)) AL (by simpa[Cf] using hx) trivial;clear hK;rw[AP AN];go_simp;simpa[Ce] using hK'
     ·have d6:t 6=Z8 aI (k:Int):=by simpa using(hdep ⟨6,aL⟩ AL rfl).2
      clear hdep;have e1:(k:Int)-7=(j9:Int):=hJ9.o.1;have e4:IntKind.i64.wrap (j9:Int)=(j9:Int):=by have:=hJ9.o.2;rw[An];omega
      have hK':=hK w' (Z8 aI (j9:Int)) AL (by simpa[Cf] using hx) trivial;clear hK;rw[AP AN];go_simp;simpa[Ce,d6,e1,e4] using hK'
     ·have d7:t 7=Z8 aI (j9:Int):=by simpa using(hdep ⟨7,aL⟩ AL rfl).2
      clear hdep;have e2:(j9:Int)<80:=AG hJ9.o.2
      have hK':=hK w' (aF (aE ⟨w.heap.size+1,j9,aA⟩)) AL (by simpa[Cf] using hx) trivial;clear hK;rw[AP AN];go_simp;simpa[Ce,d7] using hK'
     ·have d8:t 8=aF (aE ⟨w.heap.size+1,j9,aA⟩):=by simpa using(hdep ⟨8,aL⟩ AL rfl).2
      clear hdep;have hc:w'.cell? ⟨w.heap.size+1,j9,aA⟩=aE (Z8 .u64 (x9)):=by rw[hX9.o];exact HCE.o w' L hx j9 (hJ9.o.2)
      have hK':=hK w' (Z8 .u64 (x9)) AL (by simpa[Cf] using hx) trivial;clear hK;rw[AP AN];go_simp;simpa[Ce,d8] using hK'
     ·have d5:t 5=Z8 .u64 (Ka x14):=by simpa using(hdep ⟨5,aL⟩ AL rfl).2
      have d9:t 9=Z8 .u64 (x9):=by simpa using(hdep ⟨9,aL⟩ AL rfl).2
      clear hdep;have hK':=hK w' (Z8 .u64 (IntKind.u64.wrap (Ka x14+x9))) AL (by simpa[Cf] using hx) trivial;clear hK;rw[AP AN];go_simp;simpa[Ce,d5,d9] using hK'
     ·clear hdep;have hK':=hK w' (Z8 aI (k:Int)) AL (by simpa[Cf] using hx) trivial;clear hK;rw[AP AN];go_simp;simpa[Ce] using hK'
     ·have d11:t 11=Z8 aI (k:Int):=by simpa using(hdep ⟨11,aL⟩ AL rfl).2
      clear hdep;have e1:(k:Int)-15=(j1:Int):=hJ1.o.1;have e4:IntKind.i64.wrap (j1:Int)=(j1:Int):=by have:=hJ1.o.2;rw[An];omega
      have hK':=hK w' (Z8 aI (j1:Int)) AL (by simpa[Cf] using hx) trivial;clear hK;rw[AP AN];go_simp;simpa[Ce,d11,e1,e4] using hK'
     ·have d12:t 12=Z8 aI (j1:Int):=by simpa using(hdep ⟨12,aL⟩ AL rfl).2
      clear hdep;have e2:(j1:Int)<80:=AG hJ1.o.2
      have hK':=hK w' (aF (aE ⟨w.heap.size+1,j1,aA⟩)) AL (by simpa[Cf] using hx) trivial;clear hK;rw[AP AN];go_simp;simpa[Ce,d12] using hK'
     ·have d13:t 13=aF (aE ⟨w.heap.size+1,j1,aA⟩):=by simpa using(hdep ⟨13,aL⟩ AL rfl).2
      clear hdep;have hc:w'.cell? ⟨w.heap.size+1,j1,aA⟩=aE (Z8 .u64 (x1)):=by rw[hX1.o];exact HCE.o w' L hx j1 (hJ1.o.2)
      have hK':=hK w' (Z8 .u64 (x1)) AL (by simpa[Cf] using hx) trivial;clear hK;rw[AP AN];go_simp;simpa[Ce,d13] using hK'
     ·have d14:t 14=Z8 .u64 (x1):=by simpa using(hdep ⟨14,aL⟩ AL rfl).2
      clear hdep;have A:=WT x1 w' U1.o;have hK':=hK w' (Z8 .u64 (MK x1)) AL (by simpa[Cf] using hx) trivial;clear hK hx;rw[AP AN];go_simp;try simp only[d14]
      refine A.mono ?_;rintro e w9 ⟨rfl,h9⟩;subst h9;clear A;go_simp;simpa[Ce,d14] using hK'
     ·have d10:t 10=Z8 .u64 (IntKind.u64.wrap (Ka x14+x9)):=by simpa using(hdep ⟨10,aL⟩ AL rfl).2
      have d15:t 15=Z8 .u64 (MK x1):=by simpa using(hdep ⟨15,aL⟩ AL rfl).2
      clear hdep;have hK':=hK w' (Z8 .u64 (IntKind.u64.wrap (IntKind.u64.wrap (Ka x14+x9)+MK x1))) AL (by simpa[Cf] using hx) trivial;clear hK;rw[AP AN];go_simp;simpa[Ce,d10,d15] using hK'
     ·clear hdep;have hK':=hK w' (Z8 aI (k:Int)) AL (by simpa[Cf] using hx) trivial;clear hK;rw[AP AN];go_simp;simpa[Ce] using hK'
     ·have d17:t 17=Z8 aI (k:Int):=by simpa using(hdep ⟨17,aL⟩ AL rfl).2
      clear hdep;have e1:(k:Int)-16=(j0:Int):=hJ0.o.1;have e4:IntKind.i64.wrap (j0:Int)=(j0:Int):=by have:=hJ0.o.2;rw[An];omega
      have hK':=hK w' (Z8 aI (j0:Int)) AL (by simpa[Cf] using hx) trivial;clear hK;rw[AP AN];go_simp;simpa[Ce,d17,e1,e4] using hK'
     ·have d18:t 18=Z8 aI (j0:Int):=by simpa using(hdep ⟨18,aL⟩ AL rfl).2
      clear hdep;have e2:(j0:Int)<80:=AG hJ0.o.2
      have hK':=hK w' (aF (aE ⟨w.heap.size+1,j0,aA⟩)) AL (by simpa[Cf] using hx) trivial;clear hK;rw[AP AN];go_simp;simpa[Ce,d18] using hK'
     ·have d19:t 19=aF (aE ⟨w.heap.size+1,j0,aA⟩):=by simpa using(hdep ⟨19,aL⟩ AL rfl).2
      clear hdep;have hc:w'.cell? ⟨w.heap.size+1,j0,aA⟩=aE (Z8 .u64 (x0)):=by rw[hX0.o];exact HCE.o w' L hx j0 (hJ0.o.2)
      have hK':=hK w' (Z8 .u64 (x0)) AL (by simpa[Cf] using hx) trivial;clear hK;rw[AP AN];go_simp;simpa[Ce,d19] using hK'
     ·have d16:t 16=Z8 .u64 (IntKind.u64.wrap (IntKind.u64.wrap (Ka x14+x9)+MK x1)):=by simpa using(hdep ⟨16,aL⟩ AL rfl).2
      have d20:t 20=Z8 .u64 (x0):=by simpa using(hdep ⟨20,aL⟩ AL rfl).2
      clear hdep;have hK':=hK w' (Z8 .u64 (IntKind.u64.wrap (IntKind.u64.wrap (IntKind.u64.wrap (Ka x14+x9)+MK x1)+x0))) AL (by simpa[Cf] using hx) trivial;clear hK;rw[AP AN];go_simp;simpa[Ce,d16,d20] using hK'
     ·have d0:t 0=Z8 aI (k:Int):=by simpa using(hdep ⟨0,aL⟩ AL rfl).2
      clear hdep;have hK':=hK w' (aF (aE ⟨w.heap.size+1,k,aA⟩)) AL (by simpa[Cf] using hx) trivial;clear hK;rw[AP AN];go_simp;simpa[Ce,d0] using hK'
     ·have d21:t 21=Z8 .u64 (IntKind.u64.wrap (IntKind.u64.wrap (IntKind.u64.wrap (Ka x14+x9)+MK x1)+x0)):=by simpa using(hdep ⟨21,aL⟩ AL rfl).2
      have d22:t 22=aF (aE ⟨w.heap.size+1,k,aA⟩):=by simpa using(hdep ⟨22,aL⟩ AL rfl).2
      clear hdep;rw[hLi,AQ AK] at hx;have hc:w'.cell? ⟨w.heap.size+1,k,aA⟩=aE (Z8 .u64 0):=hx.cell0 k Cl AJ;have hf:w'.frozen? ⟨w.heap.size+1,k,aA⟩=false:=hx.row.frozen _;have hn:=HST.o w' hx;rw[hWD.o] at hn;have hK':=hK _ undef (by simp[Cf]) (by rw[AP (by simp[Cf])];exact hn) trivial;clear hK hx hn;rw[AP AN];go_simp;simpa[Ce,d21,d22] using hK'
    case hdone=>
     intro L t w4 hx hg;have hlast:L 23=true:=by simpa using hg 23 AK
     rw[AP hlast] at hx;clear hg hlast;have HX:=Cd hx;clear hx;go_wp2;go_roundw
     case rel=>exact⟨k+1,AJ,by go_num,HX.o⟩
     case measure=>simp[intOf];omega
  ·obtain rfl:k=80:=AJ
   have H1:=Cd hst.row;have H2:=Cd hst.res;have H3:=Cd hst.below;clear hst;go_wp2_with (first
    |(refine FM rfl (.tmp 3) rfl underlying211 Tryz.sizeSch (w.heap.size+1) (Hm bs 80) rfl (Fx _ _) H1.o ?_)
    |(refine Ev rfl (.tmp 2) (.tmp 40) rfl Tryz.sizeSch w.heap.size (Hm bs 80) (List.replicate 80 0) rfl rfl (Fx _ _) AL H2.o ?_)
    |fail)
   intro w3 hr3 hw3;have HB3:AO (Below w.heap.size w w3):=H3.o.trans (hw3.below Cl);have HR3:=Cd hr3;clear hr3 hw3 H1 H2 H3;go_wp2;exact Ab (v:=aH ((Hm bs 80).map (Value.int .u64)).toArray) (Ah rfl _ _ w.heap.size 211 _ (0,0) _ rfl HR3.o underlying211 rfl (by rw[Tryz.sizeSch];simp[Fx])) rfl ⟨rfl,HB3.o⟩
def Rs:Array aB->Sem aB:=λargs=>do
 let (x, y, b) ← Extern.MathBitsCarry.three "Sub64" args
 pure (Extern.MathBitsCarry.pair ((x+Extern.MathBitsCarry.m64-y-b)%Extern.MathBitsCarry.m64) (if x<y+b then 1 else 0))
theorem Ng (x y b:Nat) (hb:b<=1) (w:aC) :
  (Rs #[Z8 .u64 x,Z8 .u64 y,Z8 .u64 b]).run tP w=
   .ok (.tuple #[Z8 .u64 (((x+18446744073709551616-y-b)%18446744073709551616:Nat):Int),Z8 .u64 ((if x<y+b then 1 else 0:Nat):Int)]) w:=by
 have:b=0\/b=1:=AJ
 rcases this with rfl|rfl<;>rfl
theorem Xx (x y b:Int) (hx:0<=x) (hy:0<=y) (hy':y<18446744073709551616) (hb0:0<=b) (hb:b<=1) (w:aC):(callFunc 156 #[Z8 .u64 x,Z8 .u64 y,Z8 .u64 b]).run tP w=
  .ok (.value (.tuple #[Z8 .u64 ((x-y-b)%18446744073709551616),Z8 .u64 (Td x y b)])) w:=by
 obtain⟨x,rfl⟩:=Aj hx;obtain⟨y,rfl⟩:=Aj hy;obtain⟨b,rfl⟩:=Aj hb0;have e1:(((x+18446744073709551616-y-b)%18446744073709551616:Nat):Int)=((x:Int)-y-b)%18446744073709551616:=AJ
 have e2:((if x<y+b then 1 else 0:Nat):Int)=Td x y b:=by unfold Td;split<;>split<;>omega
 rw[run_callFunc_extern func156 AM AM AM (e:=Rs) AM,Ng x y b AJ,e1,e2];rfl
theorem Rt (g:Nat) (ns:List Int) (bit:Int) (w:aC) (hl:ns.length=4) (hr:Ch w g 143 ns) (hw:G4 ns) (hb:bit=0\/bit=1) :
  Calls tP 130 #[aF (aE ⟨g,0,aA⟩),Z8 .u64 bit] w λe w'=>e=aK (.tuple #[])/\∃ ms,ms.length=4/\Ch w' g 143 ms/\G4 ms/\(∃ c,0<=c/\val 18446744073709551616 ms+c*18446744073709551616^4=2*val 18446744073709551616 ns+bit)/\Wr g w w':=by
 go_enter func130,ntmps130;go_wp2
 go_loopw [1,7] (λc i wr=>∃(k:Nat) (ms:List Int) (b:Int),k<=4/\i=Z8 aI k/\c=Z8 .u64 b/\(b=0\/b=1)/\ms.length=4/\Ch wr g 143 ms/\G4 ms/\ms.drop k=ns.drop k/\val 18446744073709551616 (ms.take k)+b*18446744073709551616^k=2*val 18446744073709551616 (ns.take k)+bit/\Wr g w wr) (λ_ i _=>4-(intOf i).toNat)
 case atStart=>exact⟨0,ns,bit,Au _,rfl,rfl,hb,hl,hr,hw,rfl,by simp[val],Wr.refl _ _⟩
 case round=>
  obtain⟨k,ms,b,hk,rfl,rfl,hb',hml,hmr,hmw,hmd,hv,hwr⟩:=hrel;by_cases hlt:k<4
  ·have ck:=hmr.cell k AJ;have fk:=hmr.frozen k;have hx:=hmw.get k;have hgd:=Kv hmd;have hx2:∀ c,0<=c->c<2->0<=2*ms.getD k 0%18446744073709551616+c/\2*ms.getD k 0%18446744073709551616+c<18446744073709551616:=λc h0 h1=>AJ
   have S1:Ch (wr.setCell ⟨g,k,aA⟩ (Z8 .u64 (2*ms.getD k 0%18446744073709551616+b))) g 143 (ms.set k (2*ms.getD k 0%18446744073709551616+b)):=hmr.set k _;have S2:G4 (ms.set k (2*ms.getD k 0%18446744073709551616+b)):=hmw.set k _ (hx2 b AJ AJ).1 (hx2 b AJ AJ).2;have S3:=(J8 ms k (2*ms.getD k 0%18446744073709551616+b)).trans (Kw hmd);have S4:val 18446744073709551616 ((ms.set k (2*ms.getD k 0%18446744073709551616+b)).take (k+1))+ms.getD k 0/9223372036854775808*18446744073709551616^(k+1)=2*val 18446744073709551616 (ns.take (k+1))+bit:=by
    rw[F7 _ _ _ _ AJ,DN _ ns k AJ,<-hgd,Int.pow_succ];have e:(2*ms.getD k 0%18446744073709551616)+ms.getD k 0/9223372036854775808*18446744073709551616=2*ms.getD k 0:=AJ
    generalize ms.getD k 0=x at *;generalize (18446744073709551616:Int)^k=P at *;have e':((2*x%18446744073709551616)+x/9223372036854775808*18446744073709551616)*P=2*x*P:=by rw[e]
    grind
   have HW:AO (Wr g w (wr.setCell ⟨g,k,aA⟩ (Z8 .u64 (2*ms.getD k 0%18446744073709551616+b)))):=hwr.setCell k _;have HL:AO ((ms.set k (2*ms.getD k 0%18446744073709551616+b)).length=4):=by rw[List.length_set];exact hml
   have HC:AO (bits .or .u64 (IntKind.u64.wrap (ms.getD k 0*2)) b=2*ms.getD k 0%18446744073709551616+b):=by
    show bits .or .u64 (IntKind.u64.wrap (ms.getD k 0*2)) b=_
    rw[IntKind.wrap_u64,Int.mul_comm];exact FX _ _ 1 AJ AJ AJ AJ AJ (2*ms.getD k 0%18446744073709551616/2) AJ
   have hbb:ms.getD k 0/9223372036854775808=0\/ms.getD k 0/9223372036854775808=1:=AJ
   have HBB:AO _:=hbb;have H1:AO _:=S1;have H2:AO _:=S2;have H3:AO _:=S3;have H4:AO _:=S4;clear hgd hx2 S1 S2 S3 S4 hmr hmw hmd hv hwr hbb hr hw;generalize ms.getD k 0=x at *;obtain⟨hx0,hx1⟩:=hx;have hlt':(k:Int)<4:=AJ
   go_wp2
   go_quiet (fail)
   go_wp2;rw[HC.o];refine⟨⟨k+1,ms.set k (2*x%18446744073709551616+b),x/9223372036854775808,AJ,by go_num,rfl,HBB.o,HL.o,H1.o,H2.o,H3.o,H4.o,?_⟩,by simp[intOf];omega⟩;exact⟨HW.o.os,HW.o.tape,HW.o.output,HW.o.size,HW.o.block⟩
  ·have hk4:k=4:=AJ
   subst hk4;rw[Ad AJ,Ad AJ] at hv;have H:AO (∃ ms,ms.length=4/\Ch wr g 143 ms/\G4 ms/\(∃ c,0<=c/\val 18446744073709551616 ms+c*18446744073709551616^4=2*val 18446744073709551616 ns+bit)/\Wr g w wr):=
    ⟨ms,hml,hmr,hmw,⟨b,AJ,hv⟩,hwr⟩
   clear hml hmr hmw hv hwr hmd hr hw hb hb';go_wp2
   go_end0
   exact⟨rfl,H.o⟩
end Go.Proofs.YtjdhhgaelgemcaaGreatDoor
