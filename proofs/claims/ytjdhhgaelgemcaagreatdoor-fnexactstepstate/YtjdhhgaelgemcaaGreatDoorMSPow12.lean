import Derived.Test.YtjdhhgaelgemcaaGreatDoorMSPow
import Derived.Test.YtjdhhgaelgemcaaGreatDoorMSvP
open Go.Proofs.Tryz renaming prog->tP
open Go.Proofs.Tryz
open Go.Value renaming slice->Z7,int->Z8,pointer->aF,agg->aH
open Go.IntKind renaming i64->aI,u8->Z9
open Go.Obj renaming cells->aJ
open Go.Ending renaming returned->aK
open Go.Ground renaming data->aL
open Option renaming some->aE,none->aA
open Go renaming World->aC,Value->aB
set_option maxHeartbeats 4000000
set_option maxRecDepth 100000
namespace Go.Proofs.YtjdhhgaelgemcaaGreatDoor
open Go.ChangeShapes Go.WideShapes Go.ChangeAt Go.RowKit
set_option linter.unusedVariables false
theorem Ru (a:Option Addr) (cap:Nat) (x:Int) (w:aC) (ha:Cu w a x) :
  Calls tP 88 #[Z7 a 16 cap,Z8 aI 1] w (ND w (FC x 5 3 251 252)):=by
 have HA:AO (Cu w a x):=ha;clear ha;go_enter func88,ntmps88;go_wp2_with fail;refine(DK 1 _ AK AK).mono ?_;rintro e w1 ⟨g1,c1,rfl,hg1,hg1',hf1,hb1⟩;have HS:AO (Nb w (FC x 5 3 251 0) (Z7 (aE ⟨g1,0,aA⟩) 16 c1) w1):=⟨⟨g1,c1,rfl,hg1,hg1',hf1⟩,hb1⟩
 clear hf1 hb1;go_wp2
 go_loopw [8,9] (λv i wr=>∃ j:Nat,j<=252/\i=Z8 aI ((j:Int)-1)/\Nb w (FC x 5 3 251 (252-j)) v wr) (λ_ i _=>(intOf i+1).toNat)
 case atStart=>exact⟨252,Ac _,by go_num,HS.o⟩
 case round=>
  clear HS;obtain⟨j,hj,rfl,⟨⟨g,c,rfl,hg,hg',hf⟩,hbel⟩⟩:=hrel;by_cases hj0:0<j
  ·obtain⟨j,rfl⟩:∃ i,j=i+1:=⟨j-1,AJ⟩
   have ei:((j+1:Nat):Int)-1=(j:Int):=AJ
   rw[ei];clear ei;have hstep:FC x 5 3 251 (252-j)=Dp x (En 5 3 j) (FC x 5 3 251 (252-(j+1))):=by
    have e1:252-j=(252-(j+1))+1:=AJ
    rw[e1,FC];have e2:251-(252-(j+1))=j:=AJ
    rw[e2]
   have HST:AO (FC x 5 3 251 (252-j)=Dp x (En 5 3 j) (FC x 5 3 251 (252-(j+1)))):=hstep;clear hstep;generalize FC x 5 3 251 (252-(j+1))=s at *;have HF:AO (Cu wr (aE ⟨g,0,aA⟩) s):=hf;have HB:AO (Below w.heap.size w wr):=hbel;clear hf hbel;go_wp2_with fail;refine(Cw _ _ c c s s _ HF.o HF.o).mono ?_;rintro e w2 ⟨g2,c2,rfl,hg2,hg2',hf2,hb2⟩;have HB2:AO (Below w.heap.size w w2):=HB.o.trans (hb2.mono HB.o.size);have HF2:AO (Cu w2 (aE ⟨g2,0,aA⟩) (s*s%fp)):=hf2;have HA2:AO (Cu w2 a x):=(HA.o.below HB.o).below hb2;have hs:=HB.o.size;clear hf2 hb2 HF HB;by_cases hge:3<=j
   ·have hge':(3:Int)<=(j:Int):=AJ
    have hge2:decide ((3:Int)<=(j:Int))=true:=by simpa using hge'
    have HPS:AO (Dp x (En 5 3 j) s=s*s%fp*x%fp):=by show _=_;unfold En Dp;simp[hge]
    go_wp2_with fail;refine(Cw _ _ c2 cap (s*s%fp) x _ HF2.o HA2.o).mono ?_;rintro e w3 ⟨g3,c3,rfl,hg3,hg3',hf3,hb3⟩;have HP:AO (Nb w (FC x 5 3 251 (252-j)) (Z7 (aE ⟨g3,0,aA⟩) 16 c3) w3):=by
     rw[HST.o,HPS.o];exact⟨⟨g3,c3,rfl,AG HB2.o.size,hg3',hf3⟩,HB2.o.trans (hb3.mono HB2.o.size)⟩
    clear hf3 hb3 HST HPS HB2 HF2 HA2;go_wp2;go_roundw
    case rel=>exact⟨j,AJ,rfl,HP.o⟩
    case measure=>first|(simp[intOf];done)|(simp[intOf];omega)
   ·have hge':¬ (3:Int)<=(j:Int):=AJ
    have hge2:decide ((3:Int)<=(j:Int))=false:=by simpa using hge'
    by_cases hbit:5/2^j%2=1
    ·have HPS:AO (Dp x (En 5 3 j) s=s*s%fp*x%fp):=by show _=_;unfold En Dp;simp[hbit]
     have hb2:((5:Int)/2^j).tmod 2=1:=by
      rw[Am (Int.ediv_nonneg AK (Int.pow_nonneg AK))];have:(((5/2^j%2:Nat)):Int)=1:=by rw[hbit];rfl
      simpa using this
     have hb3:((5:Int)/2^j)%2=1:=by
      have:(((5/2^j%2:Nat)):Int)=1:=by rw[hbit];rfl
      simpa using this
     clear hbit;go_wp2_with fail;refine(Cw _ _ c2 cap (s*s%fp) x _ HF2.o HA2.o).mono ?_;rintro e w3 ⟨g3,c3,rfl,hg3,hg3',hf3,hb3'⟩;have HP:AO (Nb w (FC x 5 3 251 (252-j)) (Z7 (aE ⟨g3,0,aA⟩) 16 c3) w3):=by
      rw[HST.o,HPS.o];exact⟨⟨g3,c3,rfl,AG HB2.o.size,hg3',hf3⟩,HB2.o.trans (hb3'.mono HB2.o.size)⟩
     clear hf3 hb3' HST HPS HB2 HF2 HA2;go_wp2;go_roundw
     case rel=>exact⟨j,AJ,rfl,HP.o⟩
     case measure=>first|(simp[intOf];done)|(simp[intOf];omega)
    ·have HPS:AO (Dp x (En 5 3 j) s=s*s%fp):=by show _=_;unfold En Dp;simp[hge,hbit]
     have hbit0:5/2^j%2=0:=AJ
     have hb3:((5:Int)/2^j)%2=0:=by
      have:(((5/2^j%2:Nat)):Int)=0:=by rw[hbit0];rfl
      simpa using this
     have hb2:((5:Int)/2^j).tmod 2=0:=by
      rw[Am (Int.ediv_nonneg AK (Int.pow_nonneg AK))];exact hb3
     clear hbit hbit0;have HP:AO (Nb w (FC x 5 3 251 (252-j)) (Z7 (aE ⟨g2,0,aA⟩) 16 c2) w2):=by
      rw[HST.o,HPS.o];exact⟨⟨g2,c2,rfl,AJ,hg2',HF2.o⟩,HB2.o⟩
     clear HST HPS HB2 HF2 HA2;go_wp2;go_roundw
     case rel=>exact⟨j,AJ,rfl,HP.o⟩
     case measure=>first|(simp[intOf];done)|(simp[intOf];omega)
  ·obtain rfl:j=0:=AJ
   have HP:AO (ND w (FC x 5 3 251 252) (aK (Z7 (aE ⟨g,0,aA⟩) 16 c)) wr):=⟨g,c,rfl,hg,hg',hf,hbel⟩
   clear hf hbel;go_wp2
   go_ret
   exact HP.o
theorem Rv (a:Option Addr) (cap:Nat) (x:Int) (w:aC) (ha:Cu w a x) :
  Calls tP 88 #[Z7 a 16 cap,Z8 aI 2] w (ND w (FC x 3 3 252 253)):=by
 have HA:AO (Cu w a x):=ha;clear ha;go_enter func88,ntmps88;go_wp2_with fail;refine(DK 1 _ AK AK).mono ?_;rintro e w1 ⟨g1,c1,rfl,hg1,hg1',hf1,hb1⟩;have HS:AO (Nb w (FC x 3 3 252 0) (Z7 (aE ⟨g1,0,aA⟩) 16 c1) w1):=⟨⟨g1,c1,rfl,hg1,hg1',hf1⟩,hb1⟩
 clear hf1 hb1;go_wp2
 go_loopw [8,9] (λv i wr=>∃ j:Nat,j<=253/\i=Z8 aI ((j:Int)-1)/\Nb w (FC x 3 3 252 (253-j)) v wr) (λ_ i _=>(intOf i+1).toNat)
 case atStart=>exact⟨253,Ac _,by go_num,HS.o⟩
 case round=>
  clear HS;obtain⟨j,hj,rfl,⟨⟨g,c,rfl,hg,hg',hf⟩,hbel⟩⟩:=hrel;by_cases hj0:0<j
  ·obtain⟨j,rfl⟩:∃ i,j=i+1:=⟨j-1,AJ⟩
   have ei:((j+1:Nat):Int)-1=(j:Int):=AJ
   rw[ei];clear ei;have hstep:FC x 3 3 252 (253-j)=Dp x (En 3 3 j) (FC x 3 3 252 (253-(j+1))):=by
    have e1:253-j=(253-(j+1))+1:=AJ
    rw[e1,FC];have e2:252-(253-(j+1))=j:=AJ
    rw[e2]
   have HST:AO (FC x 3 3 252 (253-j)=Dp x (En 3 3 j) (FC x 3 3 252 (253-(j+1)))):=hstep;clear hstep;generalize FC x 3 3 252 (253-(j+1))=s at *;have HF:AO (Cu wr (aE ⟨g,0,aA⟩) s):=hf;have HB:AO (Below w.heap.size w wr):=hbel;clear hf hbel;go_wp2_with fail;refine(Cw _ _ c c s s _ HF.o HF.o).mono ?_;rintro e w2 ⟨g2,c2,rfl,hg2,hg2',hf2,hb2⟩;have HB2:AO (Below w.heap.size w w2):=HB.o.trans (hb2.mono HB.o.size);have HF2:AO (Cu w2 (aE ⟨g2,0,aA⟩) (s*s%fp)):=hf2;have HA2:AO (Cu w2 a x):=(HA.o.below HB.o).below hb2;have hs:=HB.o.size;clear hf2 hb2 HF HB;by_cases hge:3<=j
   ·have hge':(3:Int)<=(j:Int):=AJ
    have hge2:decide ((3:Int)<=(j:Int))=true:=by simpa using hge'
    have HPS:AO (Dp x (En 3 3 j) s=s*s%fp*x%fp):=by show _=_;unfold En Dp;simp[hge]
    go_wp2_with fail;refine(Cw _ _ c2 cap (s*s%fp) x _ HF2.o HA2.o).mono ?_;rintro e w3 ⟨g3,c3,rfl,hg3,hg3',hf3,hb3⟩;have HP:AO (Nb w (FC x 3 3 252 (253-j)) (Z7 (aE ⟨g3,0,aA⟩) 16 c3) w3):=by
     rw[HST.o,HPS.o];exact⟨⟨g3,c3,rfl,AG HB2.o.size,hg3',hf3⟩,HB2.o.trans (hb3.mono HB2.o.size)⟩
    clear hf3 hb3 HST HPS HB2 HF2 HA2;go_wp2;go_roundw
    case rel=>exact⟨j,AJ,rfl,HP.o⟩
    case measure=>first|(simp[intOf];done)|(simp[intOf];omega)
   ·have hge':¬ (3:Int)<=(j:Int):=AJ
    have hge2:decide ((3:Int)<=(j:Int))=false:=by simpa using hge'
    by_cases hbit:3/2^j%2=1
    ·have HPS:AO (Dp x (En 3 3 j) s=s*s%fp*x%fp):=by show _=_;unfold En Dp;simp[hbit]
     have hb2:((3:Int)/2^j).tmod 2=1:=by
      rw[Am (Int.ediv_nonneg AK (Int.pow_nonneg AK))];have:(((3/2^j%2:Nat)):Int)=1:=by rw[hbit];rfl
      simpa using this
     have hb3:((3:Int)/2^j)%2=1:=by
      have:(((3/2^j%2:Nat)):Int)=1:=by rw[hbit];rfl
      simpa using this
     clear hbit;go_wp2_with fail;refine(Cw _ _ c2 cap (s*s%fp) x _ HF2.o HA2.o).mono ?_;rintro e w3 ⟨g3,c3,rfl,hg3,hg3',hf3,hb3'⟩;have HP:AO (Nb w (FC x 3 3 252 (253-j)) (Z7 (aE ⟨g3,0,aA⟩) 16 c3) w3):=by
      rw[HST.o,HPS.o];exact⟨⟨g3,c3,rfl,AG HB2.o.size,hg3',hf3⟩,HB2.o.trans (hb3'.mono HB2.o.size)⟩
     clear hf3 hb3' HST HPS HB2 HF2 HA2;go_wp2;go_roundw
     case rel=>exact⟨j,AJ,rfl,HP.o⟩
     case measure=>first|(simp[intOf];done)|(simp[intOf];omega)
    ·have HPS:AO (Dp x (En 3 3 j) s=s*s%fp):=by show _=_;unfold En Dp;simp[hge,hbit]
     have hbit0:3/2^j%2=0:=AJ
     have hb3:((3:Int)/2^j)%2=0:=by
      have:(((3/2^j%2:Nat)):Int)=0:=by rw[hbit0];rfl
      simpa using this
     have hb2:((3:Int)/2^j).tmod 2=0:=by
      rw[Am (Int.ediv_nonneg AK (Int.pow_nonneg AK))];exact hb3
     clear hbit hbit0;have HP:AO (Nb w (FC x 3 3 252 (253-j)) (Z7 (aE ⟨g2,0,aA⟩) 16 c2) w2):=by
      rw[HST.o,HPS.o];exact⟨⟨g2,c2,rfl,AJ,hg2',HF2.o⟩,HB2.o⟩
     clear HST HPS HB2 HF2 HA2;go_wp2;go_roundw
     case rel=>exact⟨j,AJ,rfl,HP.o⟩
     case measure=>first|(simp[intOf];done)|(simp[intOf];omega)
  ·obtain rfl:j=0:=AJ
   have HP:AO (ND w (FC x 3 3 252 253) (aK (Z7 (aE ⟨g,0,aA⟩) 16 c)) wr):=⟨g,c,rfl,hg,hg',hf,hbel⟩
   clear hf hbel;go_wp2
   go_ret
   exact HP.o
theorem Vq {xs ys:List Int} (hx:xs.length=16) (hy:ys.length=16) (dx:∀ i,0<=xs.getD i 0/\xs.getD i 0<65536) (dy:∀ i,0<=ys.getD i 0/\ys.getD i 0<65536):val 65536 xs=val 65536 ys↔∀ i,i<16->xs.getD i 0=ys.getD i 0:=by
 constructor
 ·intro h i _;rw[F6 (B:=65536) AK (D2 dx) (D2 dy) AJ h]
 ·intro h;rw[Ih hx hy h]
theorem Ij (a a':Option Addr) (cap cap':Nat) (x y:Int) (w:aC) (ha:Cu w a x) (ha':Cu w a' y) :
  Calls tP 92 #[Z7 a 16 cap,Z7 a' 16 cap'] w λe w'=>e=aK (.bool (decide (x=y)))/\Below w.heap.size w w':=by
 have HA':AO (Cu w a' y):=ha';go_enter func92,ntmps92;go_wp2_with fail;refine(ET a cap x _ ha).mono ?_;rintro e w1 ⟨g1,c1,rfl,hg1,hg1',hl1,hb1⟩;have HB1:AO (Below w.heap.size w w1):=hb1;have HL1:AO (Tf w1 (aE ⟨g1,0,aA⟩) x):=hl1;have ha2:=HA'.o.below hb1;clear ha ha' HA' hl1 hb1;go_wp2_with fail;refine(ET a' cap' y _ ha2).mono ?_;rintro e w2 ⟨g2,c2,rfl,hg2,hg2',hl2,hb2⟩;have HB2:AO (Below w.heap.size w w2):=HB1.o.trans (hb2.mono HB1.o.size);have hl1:=HL1.o.below hb2;obtain⟨xs,hA1,hx1,hx2,hx3⟩:=hl1;obtain⟨ys,hA2,hy1,hy2,hy3⟩:=hl2;have HEQ:AO (x=y↔∀ i,i<16->xs.getD i 0=ys.getD i 0):=by
  show _↔_
  rw[<-hx3,<-hy3];exact Vq hx1 hy1 hx2 hy2
 have HC1:AO (∀ i,i<16->w2.cell? ⟨g1,i,aA⟩=aE (Z8 aI (xs.getD i 0))):=λi hi=>by
  obtain⟨b,o,e,_,h⟩:=hA1.get AJ;cases e;have:=h i AJ
  rwa [Aq] at this
 have HC2:AO (∀ i,i<16->w2.cell? ⟨g2,i,aA⟩=aE (Z8 aI (ys.getD i 0))):=λi hi=>by
  obtain⟨b,o,e,_,h⟩:=hA2.get AJ;cases e;have:=h i AJ
  rwa [Aq] at this
 clear ha2 hb2 HB1 HL1 hA1 hA2 hx1 hx2 hx3 hy1 hy2 hy3;go_wp2
 go_loopw [7] (λi wr=>∃(k q:Nat),k<=16/\i=Z8 aI k/\wr=w2.drewN q/\∀ i,i<k->xs.getD i 0=ys.getD i 0) (λi _=>16-(intOf i).toNat)
 case atStart=>exact⟨0,0,AK,rfl,rfl,λi hi=>AJ⟩
 case round=>
  obtain⟨k,q,hk,rfl,rfl,hall⟩:=hrel;have HALL:AO (∀ i,i<k->xs.getD i 0=ys.getD i 0):=hall;clear hall;by_cases hlt:k<16
  ·have hlt':(k:Int)<16:=AJ
   have c1':=HC1.o k hlt;have c2':=HC2.o k hlt;have HXY:AO (∀ d e:Int,xs.getD k 0=d->ys.getD k 0=e->d=e->∀ i,i<k+1->xs.getD i 0=ys.getD i 0):=λd e h1 h2 h3 i hi=>by
    by_cases h:i=k
    ·subst h;rw[h1,h2,h3]
    ·exact HALL.o i AJ
   have HNE:AO (xs.getD k 0≠ys.getD k 0->decide (x=y)=false):=λh=>Af (λe=>h (HEQ.o.1 e k hlt))
   by_cases hxy:xs.getD k 0=ys.getD k 0
   ·have HS:AO (∀ i,i<k+1->xs.getD i 0=ys.getD i 0):=HXY.o _ _ rfl rfl hxy;rw[<-hxy] at c2';clear HXY HNE hxy;generalize xs.getD k 0=d at *;go_wp2
    go_quiet (fail)
    rw[KP];clear c1' c2';go_wp2;go_roundw
    case rel=>exact⟨k+1,q+nq,AJ,by go_num,rfl,HS.o⟩
    case measure=>simp[intOf];omega
   ·have HD:AO (decide (x=y)=false):=HNE.o hxy;clear HXY HNE;generalize xs.getD k 0=d at *;generalize ys.getD k 0=d' at *;have hdd:(d == d')=false:=by simpa using hxy
    have hdn:(d != d')=true:=by simpa using hxy
    clear hxy;go_wp2
    go_quiet (fail)
    rw[KP];clear c1' c2' hdd hdn;go_wp2
    go_ret
    exact⟨by rw[HD.o];rfl,⟨HB2.o.os,HB2.o.tape,HB2.o.output,HB2.o.size,HB2.o.block⟩⟩
  ·have hk16:k=16:=AJ
   have HD:AO (decide (x=y)=true):=Al (HEQ.o.2 (λi hi=>HALL.o i AJ));have hlt':¬ (k:Int)<16:=AJ
   clear hk16;go_wp2
   go_ret
   exact⟨by rw[HD.o];rfl,⟨HB2.o.os,HB2.o.tape,HB2.o.output,HB2.o.size,HB2.o.block⟩⟩
structure SR (w wr:aC) (L:List (Option Addr×Int)):Prop where
 below:Below w.heap.size w wr
 fe:∀ e∈L,Cu wr e.1 e.2
theorem SR.start (w:aC) (L:List (Option Addr×Int)) (h:∀ e∈L,Cu w e.1 e.2):SR w w L:=⟨A9 _ _,h⟩
theorem SR.at {w wr:aC} {L:List (Option Addr×Int)} (h:SR w wr L) (i:Nat) (a:Option Addr) (x:Int) (hi:L[i]?=aE (a,x)):Cu wr a x:=h.fe _ (List.mem_of_getElem? hi)
theorem SR.low {w wr w':aC} {L:List (Option Addr×Int)} (h:SR w wr L) (b:Below wr.heap.size wr w'):SR w w' L:=⟨h.below.trans (b.mono h.below.size),λe he=>(h.fe e he).below b⟩
theorem SR.add {w wr w':aC} {L:List (Option Addr×Int)} {a:Option Addr} {x:Int} (h:SR w wr L) (hf:Cu w' a x) (b:Below wr.heap.size wr w'):SR w w' ((a,x)::L):=
 ⟨(h.low b).below,λe he=>by
  rcases Aa.1 he with rfl|he
  ·exact hf
  ·exact(h.low b).fe e he⟩
def Dm (x:Int):Int:=FC x 11 5 254 255
def MJ (x:Int):Int:=FC x 5 3 251 252
def Nh (x:Int):Int:=FC x 3 3 252 253
def Dy:Int:=(-121665)%fp*Dm (121666%fp)%fp
def I5 (Y:Int):Int:=(Y*Y%fp-1%fp)%fp
def Hn (Y D:Int):Int:=(D*(Y*Y%fp)%fp+1%fp)%fp
def GY (Y D:Int):Int:=I5 Y*Dm (Hn Y D)%fp
def F5 (Y D:Int):Int:=GY Y D*MJ (GY Y D)%fp
def LD (Y D:Int):Int:=F5 Y D*Nh (2%fp)%fp
def LE (Y D:Int):Bool:=decide (F5 Y D*F5 Y D%fp=GY Y D) || decide (LD Y D*LD Y D%fp=GY Y D)
def Ef (Y D:Int):Int:=if F5 Y D*F5 Y D%fp=GY Y D then F5 Y D else LD Y D
def Zk (w:aC) (Y D:Int) (e:Ending) (w':aC):Prop:=
 ∃ g c,e=aK (.tuple #[.bool (LE Y D),Z7 (aE ⟨g,0,aA⟩) 16 c])/\w.heap.size<=g/\g<w'.heap.size/\Cu w' (aE ⟨g,0,aA⟩) (Ef Y D)/\Below w.heap.size w w'
theorem Xy (w:aC):Calls tP 71 #[] w (ND w Dy):=by
 have HS0:AO (SR w w []):=SR.start w [] AL;go_enter func71,ntmps71;go_wp2_with fail;refine(DK (-121665) _ AK AK).mono ?_;rintro e w1 ⟨g1,c1,rfl,k1,l1,hf,hb⟩;have HS1:AO (SR w w1 [(aE ⟨g1,0,aA⟩,(-121665)%fp)]):=HS0.o.add hf hb;have m1:=hb.size;clear hf hb HS0;go_wp2_with fail;refine(DK 121666 _ AK AK).mono ?_;rintro e w2 ⟨g2,c2,rfl,k2,l2,hf,hb⟩;have HS2:AO (SR w w2 [(aE ⟨g2,0,aA⟩,121666%fp),(aE ⟨g1,0,aA⟩,(-121665)%fp)]):=HS1.o.add hf hb;have m2:=hb.size;clear hf hb HS1;go_wp2_with fail;refine(IQ _ c2 (121666%fp) _ (HS2.o.at 0 _ _ rfl)).mono ?_;rintro e w3 ⟨g3,c3,rfl,k3,l3,hf,hb⟩;have HS3:AO (SR w w3 [(aE ⟨g3,0,aA⟩,Dm (121666%fp)),(aE ⟨g2,0,aA⟩,121666%fp),(aE ⟨g1,0,aA⟩,(-121665)%fp)]):=HS2.o.add hf hb;have m3:=hb.size;clear hf hb HS2;go_wp2_with fail;refine(Cw _ _ c1 c3 ((-121665)%fp) (Dm (121666%fp)) _ (HS3.o.at 2 _ _ rfl) (HS3.o.at 0 _ _ rfl)).mono ?_;rintro e w4 ⟨g4,c4,rfl,k4,l4,hf,hb⟩;have HS4:AO (SR w w4 [(aE ⟨g4,0,aA⟩,Dy),(aE ⟨g3,0,aA⟩,Dm (121666%fp)),(aE ⟨g2,0,aA⟩,121666%fp),(aE ⟨g1,0,aA⟩,(-121665)%fp)]):=HS3.o.add hf hb;have m4:=hb.size;clear hf hb HS3;have HP:AO (w.heap.size<=g4/\g4<w4.heap.size):=⟨AJ,AJ⟩
 go_wp2
 go_ret
 exact⟨g4,c4,rfl,HP.o.1,HP.o.2,HS4.o.at 0 _ _ rfl,HS4.o.below⟩
theorem Rw (a a':Option Addr) (cap cap':Nat) (Y D:Int) (w:aC) (ha:Cu w a Y) (ha':Cu w a' D) :
  Calls tP 91 #[Z7 a 16 cap,Z7 a' 16 cap'] w (Zk w Y D):=by
 have HS0:AO (SR w w [(a,Y),(a',D)]):=SR.start w _ (λe he=>by
  simp only[List.mem_cons,List.not_mem_nil,or_false] at he;rcases he with rfl|rfl
  ·exact ha
  ·exact ha')
 clear ha ha';go_enter func91,ntmps91;go_wp2_with fail;refine(Cw _ _ cap cap (Y) (Y) _ (HS0.o.at 0 _ _ rfl) (HS0.o.at 0 _ _ rfl)).mono ?_;rintro e w1 ⟨g1,c1,rfl,k1,l1,hf,hb⟩;have HS1:AO (SR w w1 [(aE ⟨g1,0,aA⟩,Y*Y%fp),(a,Y),(a',D)]):=HS0.o.add hf hb;have m1:=hb.size;clear hf hb HS0;go_wp2_with fail;refine(DK 1 _ AK AK).mono ?_;rintro e w2 ⟨g2,c2,rfl,k2,l2,hf,hb⟩;have HS2:AO (SR w w2 [(aE ⟨g2,0,aA⟩,1%fp),(aE ⟨g1,0,aA⟩,Y*Y%fp),(a,Y),(a',D)]):=HS1.o.add hf hb;have m2:=hb.size;clear hf hb HS1;go_wp2_with fail;refine(Fa _ _ c1 c2 (Y*Y%fp) (1%fp) _ (HS2.o.at 1 _ _ rfl) (HS2.o.at 0 _ _ rfl)).mono ?_;rintro e w3 ⟨g3,c3,rfl,k3,l3,hf,hb⟩;have HS3:AO (SR w w3 [(aE ⟨g3,0,aA⟩,I5 Y),(aE ⟨g2,0,aA⟩,1%fp),(aE ⟨g1,0,aA⟩,Y*Y%fp),(a,Y),(a',D)]):=HS2.o.add hf hb;have m3:=hb.size;clear hf hb HS2;go_wp2_with fail;refine(Cw _ _ cap' c1 (D) (Y*Y%fp) _ (HS3.o.at 4 _ _ rfl) (HS3.o.at 2 _ _ rfl)).mono ?_;rintro e w4 ⟨g4,c4,rfl,k4,l4,hf,hb⟩;have HS4:AO (SR w w4 [(aE ⟨g4,0,aA⟩,D*(Y*Y%fp)%fp),(aE ⟨g3,0,aA⟩,I5 Y),(aE ⟨g2,0,aA⟩,1%fp),(aE ⟨g1,0,aA⟩,Y*Y%fp),(a,Y),(a',D)]):=HS3.o.add hf hb;have m4:=hb.size;clear hf hb HS3;go_wp2_with fail;refine(DK 1 _ AK AK).mono ?_;rintro e w5 ⟨g5,c5,rfl,k5,l5,hf,hb⟩;have HS5:AO (SR w w5 [(aE ⟨g5,0,aA⟩,1%fp),(aE ⟨g4,0,aA⟩,D*(Y*Y%fp)%fp),(aE ⟨g3,0,aA⟩,I5 Y),(aE ⟨g2,0,aA⟩,1%fp),(aE ⟨g1,0,aA⟩,Y*Y%fp),(a,Y),(a',D)]):=HS4.o.add hf hb;have m5:=hb.size;clear hf hb HS4;go_wp2_with fail;refine(FZ _ _ c4 c5 (D*(Y*Y%fp)%fp) (1%fp) _ (HS5.o.at 1 _ _ rfl) (HS5.o.at 0 _ _ rfl)).mono ?_;rintro e w6 ⟨g6,c6,rfl,k6,l6,hf,hb⟩;have HS6:AO (SR w w6 [(aE ⟨g6,0,aA⟩,Hn Y D),(aE ⟨g5,0,aA⟩,1%fp),(aE ⟨g4,0,aA⟩,D*(Y*Y%fp)%fp),(aE ⟨g3,0,aA⟩,I5 Y),(aE ⟨g2,0,aA⟩,1%fp),(aE ⟨g1,0,aA⟩,Y*Y%fp),(a,Y),(a',D)]):=HS5.o.add hf hb;have m6:=hb.size;clear hf hb HS5;go_wp2_with fail;refine(IQ _ c6 (Hn Y D) _ (HS6.o.at 0 _ _ rfl)).mono ?_;rintro e w7 ⟨g7,c7,rfl,k7,l7,hf,hb⟩;have HS7:AO (SR w w7 [(aE ⟨g7,0,aA⟩,Dm (Hn Y D)),(aE ⟨g6,0,aA⟩,Hn Y D),(aE ⟨g5,0,aA⟩,1%fp),(aE ⟨g4,0,aA⟩,D*(Y*Y%fp)%fp),(aE ⟨g3,0,aA⟩,I5 Y),(aE ⟨g2,0,aA⟩,1%fp),(aE ⟨g1,0,aA⟩,Y*Y%fp),(a,Y),(a',D)]):=HS6.o.add hf hb;have m7:=hb.size;clear hf hb HS6;go_wp2_with fail;refine(Cw _ _ c3 c7 (I5 Y) (Dm (Hn Y D)) _ (HS7.o.at 4 _ _ rfl) (HS7.o.at 0 _ _ rfl)).mono ?_;rintro e w8 ⟨g8,c8,rfl,k8,l8,hf,hb⟩;have HS8:AO (SR w w8 [(aE ⟨g8,0,aA⟩,GY Y D),(aE ⟨g7,0,aA⟩,Dm (Hn Y D)),(aE ⟨g6,0,aA⟩,Hn Y D),(aE ⟨g5,0,aA⟩,1%fp),(aE ⟨g4,0,aA⟩,D*(Y*Y%fp)%fp),(aE ⟨g3,0,aA⟩,I5 Y),(aE ⟨g2,0,aA⟩,1%fp),(aE ⟨g1,0,aA⟩,Y*Y%fp),(a,Y),(a',D)]):=HS7.o.add hf hb;have m8:=hb.size;clear hf hb HS7;go_wp2_with fail;refine(Ru _ c8 (GY Y D) _ (HS8.o.at 0 _ _ rfl)).mono ?_;rintro e w9 ⟨g9,c9,rfl,k9,l9,hf,hb⟩;have HS9:AO (SR w w9 [(aE ⟨g9,0,aA⟩,MJ (GY Y D)),(aE ⟨g8,0,aA⟩,GY Y D),(aE ⟨g7,0,aA⟩,Dm (Hn Y D)),(aE ⟨g6,0,aA⟩,Hn Y D),(aE ⟨g5,0,aA⟩,1%fp),(aE ⟨g4,0,aA⟩,D*(Y*Y%fp)%fp),(aE ⟨g3,0,aA⟩,I5 Y),(aE ⟨g2,0,aA⟩,1%fp),(aE ⟨g1,0,aA⟩,Y*Y%fp),(a,Y),(a',D)]):=HS8.o.add hf hb;have m9:=hb.size;clear hf hb HS8;go_wp2_with fail;refine(Cw _ _ c8 c9 (GY Y D) (MJ (GY Y D)) _ (HS9.o.at 1 _ _ rfl) (HS9.o.at 0 _ _ rfl)).mono ?_;rintro e w10 ⟨g10,c10,rfl,k10,l10,hf,hb⟩;have HS10:AO (SR w w10 [(aE ⟨g10,0,aA⟩,F5 Y D),(aE ⟨g9,0,aA⟩,MJ (GY Y D)),(aE ⟨g8,0,aA⟩,GY Y D),(aE ⟨g7,0,aA⟩,Dm (Hn Y D)),(aE ⟨g6,0,aA⟩,Hn Y D),(aE ⟨g5,0,aA⟩,1%fp),(aE ⟨g4,0,aA⟩,D*(Y*Y%fp)%fp),(aE ⟨g3,0,aA⟩,I5 Y),(aE ⟨g2,0,aA⟩,1%fp),(aE ⟨g1,0,aA⟩,Y*Y%fp),(a,Y),(a',D)]):=HS9.o.add hf hb;have m10:=hb.size;clear hf hb HS9;go_wp2_with fail;refine(Cw _ _ c10 c10 (F5 Y D) (F5 Y D) _ (HS10.o.at 0 _ _ rfl) (HS10.o.at 0 _ _ rfl)).mono ?_;rintro e w11 ⟨g11,c11,rfl,k11,l11,hf,hb⟩;have HS11:AO (SR w w11 [(aE ⟨g11,0,aA⟩,F5 Y D*F5 Y D%fp),(aE ⟨g10,0,aA⟩,F5 Y D),(aE ⟨g9,0,aA⟩,MJ (GY Y D)),(aE ⟨g8,0,aA⟩,GY Y D),(aE ⟨g7,0,aA⟩,Dm (Hn Y D)),(aE ⟨g6,0,aA⟩,Hn Y D),(aE ⟨g5,0,aA⟩,1%fp),(aE ⟨g4,0,aA⟩,D*(Y*Y%fp)%fp),(aE ⟨g3,0,aA⟩,I5 Y),(aE ⟨g2,0,aA⟩,1%fp),(aE ⟨g1,0,aA⟩,Y*Y%fp),(a,Y),(a',D)]):=HS10.o.add hf hb;have m11:=hb.size;clear hf hb HS10;go_wp2_with fail;refine(Ij _ _ c11 c8 (F5 Y D*F5 Y D%fp) (GY Y D) _ (HS11.o.at 0 _ _ rfl) (HS11.o.at 3 _ _ rfl)).mono ?_;rintro e wq ⟨rfl,hb⟩;have HSq:AO (SR w wq [(aE ⟨g11,0,aA⟩,F5 Y D*F5 Y D%fp),(aE ⟨g10,0,aA⟩,F5 Y D),(aE ⟨g9,0,aA⟩,MJ (GY Y D)),(aE ⟨g8,0,aA⟩,GY Y D),(aE ⟨g7,0,aA⟩,Dm (Hn Y D)),(aE ⟨g6,0,aA⟩,Hn Y D),(aE ⟨g5,0,aA⟩,1%fp),(aE ⟨g4,0,aA⟩,D*(Y*Y%fp)%fp),(aE ⟨g3,0,aA⟩,I5 Y),(aE ⟨g2,0,aA⟩,1%fp),(aE ⟨g1,0,aA⟩,Y*Y%fp),(a,Y),(a',D)]):=HS11.o.low hb;have mq:=hb.size;clear hb HS11;by_cases hq:F5 Y D*F5 Y D%fp=GY Y D
 ·have HQ:AO (LE Y D=true/\Ef Y D=F5 Y D):=⟨by unfold LE;rw[Al hq];rfl,by unfold Ef;rw[AP hq]⟩
  rw[Al hq];clear hq;have HP:AO (w.heap.size<=g10/\g10<wq.heap.size):=⟨AJ,AJ⟩
  go_wp2
  go_ret2
  exact⟨g10,c10,by rw[HQ.o.1];rfl,HP.o.1,HP.o.2,by rw[HQ.o.2];exact HSq.o.at 1 _ _ rfl,HSq.o.below⟩
 ·have HQ:AO (¬ (F5 Y D*F5 Y D%fp=GY Y D)):=hq;rw[Af hq];clear hq;go_wp2_with fail;refine(DK 2 _ AK AK).mono ?_;rintro e w12 ⟨g12,c12,rfl,k12,l12,hf,hb⟩;have HS12:AO (SR w w12 [(aE ⟨g12,0,aA⟩,2%fp),(aE ⟨g11,0,aA⟩,F5 Y D*F5 Y D%fp),(aE ⟨g10,0,aA⟩,F5 Y D),(aE ⟨g9,0,aA⟩,MJ (GY Y D)),(aE ⟨g8,0,aA⟩,GY Y D),(aE ⟨g7,0,aA⟩,Dm (Hn Y D)),(aE ⟨g6,0,aA⟩,Hn Y D),(aE ⟨g5,0,aA⟩,1%fp),(aE ⟨g4,0,aA⟩,D*(Y*Y%fp)%fp),(aE ⟨g3,0,aA⟩,I5 Y),(aE ⟨g2,0,aA⟩,1%fp),(aE ⟨g1,0,aA⟩,Y*Y%fp),(a,Y),(a',D)]):=HSq.o.add hf hb;have m12:=hb.size;clear hf hb HSq;go_wp2_with fail;refine(Rv _ c12 (2%fp) _ (HS12.o.at 0 _ _ rfl)).mono ?_;rintro e w13 ⟨g13,c13,rfl,k13,l13,hf,hb⟩;have HS13:AO (SR w w13 [(aE ⟨g13,0,aA⟩,Nh (2%fp)),(aE ⟨g12,0,aA⟩,2%fp),(aE ⟨g11,0,aA⟩,F5 Y D*F5 Y D%fp),(aE ⟨g10,0,aA⟩,F5 Y D),(aE ⟨g9,0,aA⟩,MJ (GY Y D)),(aE ⟨g8,0,aA⟩,GY Y D),(aE ⟨g7,0,aA⟩,Dm (Hn Y D)),(aE ⟨g6,0,aA⟩,Hn Y D),(aE ⟨g5,0,aA⟩,1%fp),(aE ⟨g4,0,aA⟩,D*(Y*Y%fp)%fp),(aE ⟨g3,0,aA⟩,I5 Y),(aE ⟨g2,0,aA⟩,1%fp),(aE ⟨g1,0,aA⟩,Y*Y%fp),(a,Y),(a',D)]):=HS12.o.add hf hb;have m13:=hb.size;clear hf hb HS12;go_wp2_with fail;refine(Cw _ _ c10 c13 (F5 Y D) (Nh (2%fp)) _ (HS13.o.at 3 _ _ rfl) (HS13.o.at 0 _ _ rfl)).mono ?_;rintro e w14 ⟨g14,c14,rfl,k14,l14,hf,hb⟩;have HS14:AO (SR w w14 [(aE ⟨g14,0,aA⟩,LD Y D),(aE ⟨g13,0,aA⟩,Nh (2%fp)),(aE ⟨g12,0,aA⟩,2%fp),(aE ⟨g11,0,aA⟩,F5 Y D*F5 Y D%fp),(aE ⟨g10,0,aA⟩,F5 Y D),(aE ⟨g9,0,aA⟩,MJ (GY Y D)),(aE ⟨g8,0,aA⟩,GY Y D),(aE ⟨g7,0,aA⟩,Dm (Hn Y D)),(aE ⟨g6,0,aA⟩,Hn Y D),(aE ⟨g5,0,aA⟩,1%fp),(aE ⟨g4,0,aA⟩,D*(Y*Y%fp)%fp),(aE ⟨g3,0,aA⟩,I5 Y),(aE ⟨g2,0,aA⟩,1%fp),(aE ⟨g1,0,aA⟩,Y*Y%fp),(a,Y),(a',D)]):=HS13.o.add hf hb;have m14:=hb.size;clear hf hb HS13;go_wp2_with fail;refine(Cw _ _ c14 c14 (LD Y D) (LD Y D) _ (HS14.o.at 0 _ _ rfl) (HS14.o.at 0 _ _ rfl)).mono ?_;rintro e w15 ⟨g15,c15,rfl,k15,l15,hf,hb⟩;have HS15:AO (SR w w15 [(aE ⟨g15,0,aA⟩,LD Y D*LD Y D%fp),(aE ⟨g14,0,aA⟩,LD Y D),(aE ⟨g13,0,aA⟩,Nh (2%fp)),(aE ⟨g12,0,aA⟩,2%fp),(aE ⟨g11,0,aA⟩,F5 Y D*F5 Y D%fp),(aE ⟨g10,0,aA⟩,F5 Y D),(aE ⟨g9,0,aA⟩,MJ (GY Y D)),(aE ⟨g8,0,aA⟩,GY Y D),(aE ⟨g7,0,aA⟩,Dm (Hn Y D)),(aE ⟨g6,0,aA⟩,Hn Y D),(aE ⟨g5,0,aA⟩,1%fp),(aE ⟨g4,0,aA⟩,D*(Y*Y%fp)%fp),(aE ⟨g3,0,aA⟩,I5 Y),(aE ⟨g2,0,aA⟩,1%fp),(aE ⟨g1,0,aA⟩,Y*Y%fp),(a,Y),(a',D)]):=HS14.o.add hf hb;have m15:=hb.size;clear hf hb HS14;go_wp2_with fail;refine(Ij _ _ c15 c8 (LD Y D*LD Y D%fp) (GY Y D) _ (HS15.o.at 0 _ _ rfl) (HS15.o.at 7 _ _ rfl)).mono ?_;rintro e wz ⟨rfl,hb⟩;have HSz:AO (SR w wz [(aE ⟨g15,0,aA⟩,LD Y D*LD Y D%fp),(aE ⟨g14,0,aA⟩,LD Y D),(aE ⟨g13,0,aA⟩,Nh (2%fp)),(aE ⟨g12,0,aA⟩,2%fp),(aE ⟨g11,0,aA⟩,F5 Y D*F5 Y D%fp),(aE ⟨g10,0,aA⟩,F5 Y D),(aE ⟨g9,0,aA⟩,MJ (GY Y D)),(aE ⟨g8,0,aA⟩,GY Y D),(aE ⟨g7,0,aA⟩,Dm (Hn Y D)),(aE ⟨g6,0,aA⟩,Hn Y D),(aE ⟨g5,0,aA⟩,1%fp),(aE ⟨g4,0,aA⟩,D*(Y*Y%fp)%fp),(aE ⟨g3,0,aA⟩,I5 Y),(aE ⟨g2,0,aA⟩,1%fp),(aE ⟨g1,0,aA⟩,Y*Y%fp),(a,Y),(a',D)]):=HS15.o.low hb;have mz:=hb.size;clear hb HS15;have HD:AO (decide (LD Y D*LD Y D%fp=GY Y D)=LE Y D/\Ef Y D=LD Y D):=⟨by unfold LE;rw[Af HQ.o];simp,by unfold Ef;rw[AQ HQ.o]⟩
  rw[HD.o.1];have HP:AO (w.heap.size<=g14/\g14<wz.heap.size):=⟨AJ,AJ⟩
  go_wp2
  go_ret2
  exact⟨g14,c14,rfl,HP.o.1,HP.o.2,by rw[HD.o.2];exact HSz.o.at 1 _ _ rfl,HSz.o.below⟩
def Fr (bs:List Int):List Int:=(List.range 16).map λi=>bs.getD (2*i) 0+256*bs.getD (2*i+1) 0
theorem EC (bs:List Int):(Fr bs).length=16:=by simp[Fr]
theorem WY (bs:List Int) (n:Nat) (h:2*n<=bs.length):val 65536 ((List.range n).map λi=>bs.getD (2*i) 0+256*bs.getD (2*i+1) 0)=val 256 (bs.take (2*n)):=by
 induction n with
 |zero=>simp[val]
 |succ n ih=>
  rw[Do,ih AJ,show 2*(n+1)=2*n+1+1 by omega,DN 256 bs (2*n+1) AJ,DN 256 bs (2*n) AJ];have e:(65536:Int)^n=256^(2*n):=by rw[Int.pow_mul];rfl
  rw[e,Int.pow_succ];generalize (256:Int)^(2*n)=P;generalize bs.getD (2*n) 0=x;generalize bs.getD (2*n+1) 0=y;generalize val 256 (bs.take (2*n))=v
  grind
theorem WZ (V r d:Int) (hV:V=r+d*1766847064778384329583297500742918515827483896875618958121606201292619776) (h0:0<=r) (h1:r<1766847064778384329583297500742918515827483896875618958121606201292619776) (hd0:0<=d) (hd1:d<65536) :
  V+(d%32768-d)*1766847064778384329583297500742918515827483896875618958121606201292619776=V%57896044618658097711785492504343953926634992332820282019728792003956564819968:=AJ
theorem Wa (bs:List Int) (hl:bs.length=32) (hb:Ci bs):((Fr bs).set 15 ((Fr bs).getD 15 0%32768)).length=16/\(∀ i,0<=((Fr bs).set 15 ((Fr bs).getD 15 0%32768)).getD i 0/\((Fr bs).set 15 ((Fr bs).getD 15 0%32768)).getD i 0<65536)/\val 65536 ((Fr bs).set 15 ((Fr bs).getD 15 0%32768))=val 256 bs%(fp+19):=by
 have hd:∀ i,0<=(Fr bs).getD i 0/\(Fr bs).getD i 0<65536:=λi=>by
  by_cases h:i<16
  ·rw[show(Fr bs).getD i 0=_ from Ig _ i h];have:=hb.get (2*i);have:=hb.get (2*i+1);omega
  ·rw[DB (by rw[EC];omega)];omega
 refine⟨by rw[List.length_set,EC],λi=>?_,?_⟩
 ·rw[Cy _ _ _ _ (by rw[EC];decide)];have:=hd i;have:=hd 15;split<;>omega
 ·have e1:val 65536 (Fr bs)=val 256 bs:=by
   have:=WY bs 16 AJ;rw[Ad AJ] at this;exact this
  have e2:=DN 65536 (Fr bs) 15 (by rw[EC];decide);rw[Ad (by rw[EC];decide),e1] at e2;have dg:J2 65536 ((Fr bs).take 15):=λz hz=>D2 hd z (Ay hz)
  have b0:=C0 (B:=65536) AK dg;have b1:=EZ (B:=65536) AK dg;rw[Ap,EC,show min 15 16=15 from rfl] at b1;have e3:(65536:Int)^15=1766847064778384329583297500742918515827483896875618958121606201292619776:=AK
  have e4:fp+19=57896044618658097711785492504343953926634992332820282019728792003956564819968:=AK
  rw[FJ _ _ _ _ (by rw[EC];decide),e1,e3,e4];rw[e3] at e2 b1;exact WZ _ _ _ e2 b0 b1 (hd 15).1 (hd 15).2
def Yq (B:Nat) (u:aB) (b0 off n cap k:Nat) (x y:Int) (zs:List Int):Nat->(Nat->Bool)->aC->aB->Prop
 |0,_,_,v=>v=u
 |1,_,_,v=>v=(Z7 (aE ⟨b0,off,aA⟩) n cap)
 |2,_,_,v=>v=(Z8 aI k)
 |3,_,_,v=>v=(Z8 aI ((2*k:Nat):Int))
 |4,_,_,v=>v=(aF (aE ⟨b0,off+2*k,aA⟩))
 |5,_,_,v=>v=(Z8 Z9 x)
 |6,_,_,v=>v=(Z8 aI x)
 |7,_,_,v=>v=(Z7 (aE ⟨b0,off,aA⟩) n cap)
 |8,_,_,v=>v=(Z8 aI k)
 |9,_,_,v=>v=(Z8 aI ((2*k:Nat):Int))
 |10,_,_,v=>v=(Z8 aI ((2*k+1:Nat):Int))
 |11,_,_,v=>v=(aF (aE ⟨b0,off+(2*k+1),aA⟩))
 |12,_,_,v=>v=(Z8 Z9 y)
 |13,_,_,v=>v=(Z8 aI y)
 |14,_,_,v=>v=(Z8 aI (256*y))
 |15,_,_,v=>v=(Z8 aI (x+256*y))
 |16,L,w,v=>L 17=false->∃ g',v=Z7 (aE ⟨g',0,aA⟩) 1 1/\g'<w.heap.size/\w.cell? ⟨g',0,aA⟩=aE (Z8 aI (x+256*y))
 |17,_,w,v=>D3 w B v (zs++[x+256*y])
 |_,_,_,_=>True
theorem Rx (B:Nat) (u:aB) (b0 off n cap k:Nat) (x y:Int) (zs:List Int) (j:Nat) (L:Nat->Bool) (w w':aC) (i:Nat) (v:aB) (hm:i≠17->Below w.heap.size w w') (hij:i≠j) (hL:L i=false) (h:Yq B u b0 off n cap k x y zs j L w v) :
  Yq B u b0 off n cap k x y zs j (Cf L i) w' v:=by
 unfold Yq at *;split at h<;>try exact h
 ·intro h14;have hi:i≠17:=λe=>by subst e;simp[Cf] at h14
  have hL14:L 17=false:=by simpa[Cf,Ne.symm hi] using h14
  obtain⟨g',e,hg,c0⟩:=h hL14;have hb:=hm hi;exact⟨g',e,AG hb.size,by rw[hb.cell (p:=⟨g',0,aA⟩) hg];exact c0⟩
 ·exact h.grow (hm (λe=>hij e))
theorem KB (a:Option Addr) (n cap:Nat) (bs:List Int) (w:aC) (hn:bs.length=n) (h32:32<=n) (hmx:n<=32) (ha:At Z9 w a bs) (hb:Ci bs) :
  Calls tP 89 #[Z7 a n cap] w (Yw w (val 256 bs%(fp+19))):=by
 obtain⟨b0,off,rfl,hb0,hc⟩:=ha.get AJ;have HC:AO (∀ i,i<32->w.cell? ⟨b0,off+i,aA⟩=aE (Z8 Z9 (bs.getD i 0))):=λi hi=>hc i AJ
 have HBY:AO (Ci bs):=hb;have HALL:AO (((Fr bs).set 15 ((Fr bs).getD 15 0%32768)).length=16/\(∀ i,0<=((Fr bs).set 15 ((Fr bs).getD 15 0%32768)).getD i 0/\((Fr bs).set 15 ((Fr bs).getD 15 0%32768)).getD i 0<65536)/\val 65536 ((Fr bs).set 15 ((Fr bs).getD 15 0%32768))=val 256 bs%(fp+19)):=Wa bs AJ hb;have H15:AO (0<=(Fr bs).getD 15 0/\(Fr bs).getD 15 0<65536):=by
  show _/\_
  rw[show(Fr bs).getD 15 0=_ from Ig _ 15 AK];have:=hb.get (2*15);have:=hb.get (2*15+1);omega
 clear hc ha hb hn;go_enter func89,ntmps89;go_wp2
 go_loopw [3,4] (λv i wr=>∃ k:Nat,k<=16/\i=Z8 aI k/\D3 wr w.heap.size v ((Fr bs).take k)/\Below w.heap.size w wr) (λ_ i _=>16-(intOf i).toNat)
 case atStart=>exact⟨0,AK,rfl,DR.empty _ _ Cl,Cg.alloc Cl _⟩
 case round=>
  obtain⟨k,hk,rfl,hown,hbel⟩:=hrel;by_cases hlt:k<16
  ·have hlt':(k:Int)<16:=AJ
   have HO:AO (D3 wr w.heap.size u3 ((Fr bs).take k)):=hown;have HBE:AO (Below w.heap.size w wr):=hbel;obtain⟨x0,x1⟩:=HBY.o.get (2*k);obtain⟨y0,y1⟩:=HBY.o.get (2*k+1);have HTK:AO ((Fr bs).take (k+1)=(Fr bs).take k++[bs.getD (2*k) 0+256*bs.getD (2*k+1) 0]):=by
    show _=_
    have e:(Fr bs).getD k 0=bs.getD (2*k) 0+256*bs.getD (2*k+1) 0:=Ig _ k hlt;rw[<-e,A0 (by rw[EC];exact hlt),AS,Av (by rw[EC];exact hlt)];rfl
   have HTL:AO (((Fr bs).take k).length=k):=by show _=_;rw[Ap,EC];omega
   have HCX:AO (w.cell? ⟨b0,off+2*k,aA⟩=aE (Z8 Z9 (bs.getD (2*k) 0))):=HC.o _ AJ;have HCY:AO (w.cell? ⟨b0,off+(2*k+1),aA⟩=aE (Z8 Z9 (bs.getD (2*k+1) 0))):=HC.o _ AJ;have hsz:=hbel.size;clear hown hbel;generalize (Fr bs).take k=zs at *;generalize bs.getD (2*k) 0=x at *;generalize bs.getD (2*k+1) 0=y at *;have hm1:IntKind.i64.wrap x=x:=by rw[An];omega
   have hm2:IntKind.i64.wrap y=y:=by rw[An];omega
   have hm3:IntKind.i64.wrap (256*y)=256*y:=by rw[An];omega
   have hm4:IntKind.i64.wrap (x+256*y)=x+256*y:=by rw[An];omega
   have hm5:IntKind.i64.wrap (2*(k:Int))=2*(k:Int):=by rw[An];omega
   have hm6:IntKind.i64.wrap (2*(k:Int)+1)=2*(k:Int)+1:=by rw[An];omega
   have hp1:0<=2*(k:Int):=AJ
   have hp2:0<=2*(k:Int)+1:=AJ
   have ht1:(2*(k:Int)).toNat=2*k:=AJ
   have ht2:(2*(k:Int)+1).toNat=2*k+1:=AJ
   have hi1:2*(k:Int)<(n:Int):=AJ
   have hi2:2*(k:Int)+1<(n:Int):=AJ
   have hi3:((2*k:Nat):Int)<(n:Int):=AJ
   have hi4:((2*k+1:Nat):Int)<(n:Int):=AJ
   go_wp2;refine Ag AM ?_;refine Eb 18 (λi w w'=>i≠17->Below w.heap.size w w') (frame:=(λ(a b c d e f g h i j k l m n o p q:aB)=>λ(t:Nat->aB)=>({ tmps:=List.toArray [a,b,c,d,e,f,g,h,i,j,t 0,t 1,t 2,t 3,t 4,t 5,t 6,t 7,t 8,t 9,t 10,t 11,t 12,t 13,t 14,t 15,t 16,t 17,k,l,m,n,o,p,q],defers:=[] }:Act)) _ _ _ _ _ _ _ _ _ _ _ _ _ _ _ _ _)
    (Ext:=λL w'=>(L 17=false->Below wr.heap.size wr w')/\Below w.heap.size w w'/\wr.heap.size<=w'.heap.size)
    (Good:=Yq w.heap.size u3 b0 off n cap k x y zs) AN AM (Rx _ _ _ _ _ _ _ _ _ _) AM AM ?hop ?hend _ _ ((λ(x0 x1 x2 x3 x4 x5 x6 x7 x8 x9 x10 x11 x12 x13 x14 x15 x16 x17:aB)=>λ(i:Nat)=>if i=0 then x0 else if i=1 then x1 else if i=2 then x2 else if i=3 then x3 else if i=4 then x4 else if i=5 then x5 else if i=6 then x6 else if i=7 then x7 else if i=8 then x8 else if i=9 then x9 else if i=10 then x10 else if i=11 then x11 else if i=12 then x12 else if i=13 then x13 else if i=14 then x14 else if i=15 then x15 else if i=16 then x16 else if i=17 then x17 else undef) _ _ _ _ _ _ _ _ _ _ _ _ _ _ _ _ _ _) _ AL AL ?ext ?start AL
   case start=>intro i hi h;exact absurd h Et
   case ext=>exact⟨λ_=>Cg.drew,⟨HBE.o.os,HBE.o.tape,HBE.o.output,HBE.o.size,HBE.o.block⟩,Ac _⟩
   case hop=>
    intro i o L t w' hil ho hLi hx hdep K hK;obtain⟨hx14,hxB,hxS⟩:=hx;have cX:w'.cell? ⟨b0,off+2*k,aA⟩=aE (Z8 Z9 x):=by rw[hxB.cell (p:=⟨b0,off+2*k,aA⟩) hb0];exact HCX.o
    have cY:w'.cell? ⟨b0,off+(2*k+1),aA⟩=aE (Z8 Z9 y):=by rw[hxB.cell (p:=⟨b0,off+(2*k+1),aA⟩) hb0];exact HCY.o
    have RX:AO (∀ j,j≠17->∀ ww,Below w'.heap.size w' ww->((Cf L j 17=false->Below wr.heap.size wr ww)/\Below w.heap.size w ww/\wr.heap.size<=ww.heap.size)):=λj hj ww hb=>
     ⟨λhL=>(hx14 (by simpa[Cf,Ne.symm hj] using hL)).trans (hb.mono hxS),hxB.trans (hb.mono hxB.size),AG hb.size⟩
    have RR:AO (∀ j,j≠17->((Cf L j 17=false->Below wr.heap.size wr w')/\Below w.heap.size w w'/\wr.heap.size<=w'.heap.size)):=λj hj=>RX.o j hj w' Cg
    have RM:AO (∀ j:Nat,j≠17->Below w'.heap.size w' w'):=λ_ _=>A9 _ _
    have H14:AO (L 17=false->Below wr.heap.size wr w'):=hx14;have HXB:AO (Below w.heap.size w w'):=hxB;clear hx14 hxB;obtain rfl|rfl|rfl|rfl|rfl|rfl|rfl|rfl|rfl|rfl|rfl|rfl|rfl|rfl|rfl|rfl|rfl|rfl:i=0\/i=1\/i=2\/i=3\/i=4\/i=5\/i=6\/i=7\/i=8\/i=9\/i=10\/i=11\/i=12\/i=13\/i=14\/i=15\/i=16\/i=17:=AJ
    all_goals(simp at ho;subst ho)
    ·clear hdep;go_simp;exact hK w' u3 rfl (RR.o 0 AK) (RM.o 0)
    ·clear hdep;go_simp;exact hK w' (Z7 (aE ⟨b0,off,aA⟩) n cap) rfl (RR.o 1 AK) (RM.o 1)
    ·clear hdep;go_simp;exact hK w' (Z8 aI k) rfl (RR.o 2 AK) (RM.o 2)
    ·have d2:t 2=(Z8 aI k):=hdep ⟨2,aL⟩ AL rfl;clear hdep;have hK':=hK w' (Z8 aI ((2*k:Nat):Int)) rfl (RR.o 3 AK) (RM.o 3);clear hK;go_simp;simpa[Ce,d2,hm1,hm2,hm3,hm4,hm5,hm6,hp1,hp2,ht1,ht2] using hK'
    ·have d1:t 1=(Z7 (aE ⟨b0,off,aA⟩) n cap):=hdep ⟨1,aL⟩ AL rfl;have d3:t 3=(Z8 aI ((2*k:Nat):Int)):=hdep ⟨3,aL⟩ AL rfl;clear hdep;have hK':=hK w' (aF (aE ⟨b0,off+2*k,aA⟩)) rfl (RR.o 4 AK) (RM.o 4);clear hK;go_simp;simpa[Ce,d1,d3,hm1,hm2,hm3,hm4,hm5,hm6,hp1,hp2,ht1,ht2] using hK'
    ·have d4:t 4=(aF (aE ⟨b0,off+2*k,aA⟩)):=hdep ⟨4,aL⟩ AL rfl;clear hdep;have hK':=hK w' (Z8 Z9 x) rfl (RR.o 5 AK) (RM.o 5);clear hK;go_simp;simpa[Ce,d4,hm1,hm2,hm3,hm4,hm5,hm6,hp1,hp2,ht1,ht2] using hK'
    ·have d5:t 5=(Z8 Z9 x):=hdep ⟨5,aL⟩ AL rfl;clear hdep;have hK':=hK w' (Z8 aI x) rfl (RR.o 6 AK) (RM.o 6);clear hK;go_simp;simpa[Ce,d5,hm1,hm2,hm3,hm4,hm5,hm6,hp1,hp2,ht1,ht2] using hK'
    ·clear hdep;go_simp;exact hK w' (Z7 (aE ⟨b0,off,aA⟩) n cap) rfl (RR.o 7 AK) (RM.o 7)
    ·clear hdep;go_simp;exact hK w' (Z8 aI k) rfl (RR.o 8 AK) (RM.o 8)
    ·have d8:t 8=(Z8 aI k):=hdep ⟨8,aL⟩ AL rfl;clear hdep;have hK':=hK w' (Z8 aI ((2*k:Nat):Int)) rfl (RR.o 9 AK) (RM.o 9);clear hK;go_simp;simpa[Ce,d8,hm1,hm2,hm3,hm4,hm5,hm6,hp1,hp2,ht1,ht2] using hK'
    ·have d9:t 9=(Z8 aI ((2*k:Nat):Int)):=hdep ⟨9,aL⟩ AL rfl;clear hdep;have hK':=hK w' (Z8 aI ((2*k+1:Nat):Int)) rfl (RR.o 10 AK) (RM.o 10);clear hK;go_simp;simpa[Ce,d9,hm1,hm2,hm3,hm4,hm5,hm6,hp1,hp2,ht1,ht2] using hK'
    ·have d7:t 7=(Z7 (aE ⟨b0,off,aA⟩) n cap):=hdep ⟨7,aL⟩ AL rfl;have d10:t 10=(Z8 aI ((2*k+1:Nat):Int)):=hdep ⟨10,aL⟩ AL rfl;clear hdep;have hK':=hK w' (aF (aE ⟨b0,off+(2*k+1),aA⟩)) rfl (RR.o 11 AK) (RM.o 11);clear hK;go_simp;simpa[Ce,d7,d10,hm1,hm2,hm3,hm4,hm5,hm6,hp1,hp2,ht1,ht2] using hK'
    ·have d11:t 11=(aF (aE ⟨b0,off+(2*k+1),aA⟩)):=hdep ⟨11,aL⟩ AL rfl;clear hdep;have hK':=hK w' (Z8 Z9 y) rfl (RR.o 12 AK) (RM.o 12);clear hK;go_simp;simpa[Ce,d11,hm1,hm2,hm3,hm4,hm5,hm6,hp1,hp2,ht1,ht2] using hK'
    ·have d12:t 12=(Z8 Z9 y):=hdep ⟨12,aL⟩ AL rfl;clear hdep;have hK':=hK w' (Z8 aI y) rfl (RR.o 13 AK) (RM.o 13);clear hK;go_simp;simpa[Ce,d12,hm1,hm2,hm3,hm4,hm5,hm6,hp1,hp2,ht1,ht2] using hK'
    ·have d13:t 13=(Z8 aI y):=hdep ⟨13,aL⟩ AL rfl;clear hdep;have hK':=hK w' (Z8 aI (256*y)) rfl (RR.o 14 AK) (RM.o 14);clear hK;go_simp;simpa[Ce,d13,hm1,hm2,hm3,hm4,hm5,hm6,hp1,hp2,ht1,ht2] using hK'
    ·have d6:t 6=(Z8 aI x):=hdep ⟨6,aL⟩ AL rfl;have d14:t 14=(Z8 aI (256*y)):=hdep ⟨14,aL⟩ AL rfl;clear hdep;have hK':=hK w' (Z8 aI (x+256*y)) rfl (RR.o 15 AK) (RM.o 15);clear hK;go_simp;simpa[Ce,d6,d14,hm1,hm2,hm3,hm4,hm5,hm6,hp1,hp2,ht1,ht2] using hK'
    ·have d15:t 15=(Z8 aI (x+256*y)):=hdep ⟨15,aL⟩ AL rfl;clear hdep;have hK':=hK (w'.alloc (aJ #[Z8 aI (x+256*y)] 2)) (Z7 (aE ⟨w'.heap.size,0,aA⟩) 1 1) (λ_=>⟨w'.heap.size,rfl,AL,AA (AX _ _) _⟩) (RX.o 16 AK _ (Ck _ _)) (λ_=>Ck _ _);clear hK;go_simp;simpa[Ce,d15] using hK'
    ·have d0:t 0=_:=hdep ⟨0,aL⟩ AL rfl;have d10:=hdep ⟨16,aL⟩ AL rfl;obtain⟨g',e10,hg',cc0⟩:=d10 hLi;clear hdep d10;have hO:=HO.o.grow (H14.o hLi);refine K5 (a:=_) _ Vm _ _ rfl w.heap.size _ zs (by first|exact d0|(simp[d0];done)) hO ⟨g',0,aA⟩ 1 1 [x+256*y] (by first|exact e10|(simp[e10];done)) rfl ?_ ?_ ?_ ?_
     ·intro j hj;obtain rfl:j=0:=AJ
      rw[Az];exact cc0
     ·rw[HTL.o];omega
     ·exact HXB.o.size
     ·intro v' w9 hown' hbel';exact hK w9 v' hown' ⟨λh=>by simp[Cf] at h,HXB.o.trans hbel',AH hbel'.size HXB.o.size⟩ (λh=>absurd rfl h)
   case hend=>
    intro o L t w' ho hx hg K hK;simp at ho;subst ho;obtain⟨hx14,hxB,hxS⟩:=hx;have O14:D3 w' w.heap.size (t 17) (zs++[x+256*y]):=hg 17 AK;have HXB:AO (Below w.heap.size w w'):=hxB;have HO14:AO (D3 w' w.heap.size (t 17) ((Fr bs).take (k+1))):=by rw[HTK.o];exact O14
    clear hg O14 hx14 hxB hxS hm1 hm2 hm3 hm4 hm5 hm6 hp1 hp2 ht1 ht2 hi1 hi2 hi3 hi4;go_simp;refine hK _ _ ?_;go_wp2;go_roundw
    case rel=>exact⟨k+1,AJ,by go_num,HO14.o,HXB.o⟩
    case measure=>simp[intOf];omega
  ·have hk16:k=16:=AJ
   have ho:D3 wr w.heap.size u3 (Fr bs):=by rw[hk16,Ad (by rw[EC];decide)] at hown;exact hown
   obtain⟨g,c,rfl,hg,hg',hA⟩:=ho.at_;rw[EC] at ho |-;obtain⟨c15,f15,o15⟩:=ho.set (EC bs) 15 ((Fr bs).getD 15 0%32768) AK;have HOW:AO (D3 (wr.setCell ⟨g,15,aA⟩ (Z8 aI ((Fr bs).getD 15 0%32768))) w.heap.size (Z7 (aE ⟨g,0,aA⟩) 16 c) ((Fr bs).set 15 ((Fr bs).getD 15 0%32768))):=o15;have HBE:AO (Below w.heap.size w (wr.setCell ⟨g,15,aA⟩ (Z8 aI ((Fr bs).getD 15 0%32768)))):=hbel.setCell (by simpa using hg) _;obtain⟨q0,q1⟩:=H15.o;have hlt':¬ (k:Int)<16:=AJ
   clear ho hown o15 hA hk16 hbel;generalize hdd:(Fr bs).getD 15 0=d at *;clear hdd;have htm:d.tmod 32768=d%32768:=Am q0;go_wp2
   go_ret
   obtain⟨hA1,z1,z2⟩:=HOW.o.atS;exact⟨g,c,rfl,z1,z2,⟨_,hA1,HALL.o.1,HALL.o.2.1,HALL.o.2.2⟩,HBE.o⟩
def GZ:Int:=46316835694926478169428394003475163141307993866256225615783033603165251855960
theorem Ni:4*Yj 5 11 5 254 255%Ft=46316835694926478169428394003475163141307993866256225615783033603165251855960:=by decide +kernel
theorem P9:(4%fp)*FC (5%fp) 11 5 254 255%fp=GZ:=by
 have e:(5%fp:Int)=((5:Nat):Int):=AK
 have e4:(4%fp:Int)=((4:Nat):Int):=AK
 rw[e,e4,Xa,Kz,<-Int.natCast_mul,<-Int.natCast_emod,Ni];rfl
theorem QA (bs:List Int) (d:Int) (k:Nat) (h:bs.length=2*k):val 256 (bs++[d%256,d/256])=val 256 bs+d*65536^k:=by
 rw[Hs,h];have e:(256:Int)^(2*k)=65536^k:=by rw[Int.pow_mul,show(256:Int)^2=65536 from by decide]
 rw[e];simp only[val];have:d%256+256*(d/256)=d:=Int.emod_add_mul_ediv _ _;have e2:d%256+256*(d/256+256*0)=d:=AJ
 rw[e2,Int.mul_comm]
structure Wb (w w5:aC) (zs:List Int) (k:Nat) (v:aB) (wr:aC):Prop where
 st:∃ bs:List Int,DM wr w5.heap.size v bs/\bs.length=2*k/\Ci bs/\val 256 bs=val 65536 (zs.take k)
 below:Below w5.heap.size w5 wr
def LG (w:aC) (x:Int) (e:Ending) (w':aC):Prop:=
 ∃ v bs,e=aK v/\DM w' w.heap.size v bs/\Ci bs/\bs.length=32/\val 256 bs=x/\Below w.heap.size w w'
theorem DM.lower3b {w:aC} {B B':Nat} {v:aB} {zs:List Int} (h:DM w B' v zs) (hB:B<=B'):DM w B v zs:=by
 obtain⟨⟨h1,h2⟩,h3⟩:=h;refine⟨⟨h1,?_⟩,h3⟩;rcases h2 with h|⟨g,c,cur,h4,h5,h6⟩
 ·exact .inl h
 ·exact .inr ⟨g,c,cur,h4,AJ,h6⟩
theorem Ry (w:aC):Calls tP 73 #[] w (LG w GZ):=by
 go_enter func73,ntmps73;go_wp2_with fail;refine(DK 4 _ AK AK).mono ?_;rintro e w1 ⟨g1,c1,rfl,hg1,hg1',hf1,hb1⟩;have HF1:AO (Cu w1 (aE ⟨g1,0,aA⟩) (4%fp)):=hf1;clear hf1;go_wp2_with fail;refine(DK 5 _ AK AK).mono ?_;rintro e w2 ⟨g2,c2,rfl,hg2,hg2',hf2,hb2⟩;have HF2:AO (Cu w2 (aE ⟨g2,0,aA⟩) (5%fp)):=hf2;clear hf2;go_wp2_with fail;refine(IQ _ c2 (5%fp) _ HF2.o).mono ?_;rintro e w3 ⟨g3,c3,rfl,hg3,hg3',hf3,hb3⟩;have HF3:AO (Cu w3 (aE ⟨g3,0,aA⟩) (FC (5%fp) 11 5 254 255)):=hf3;have HF13:AO (Cu w3 (aE ⟨g1,0,aA⟩) (4%fp)):=(HF1.o.below hb2).below hb3;clear hf3 HF1 HF2;go_wp2_with fail;refine(Cw _ _ c1 c3 (4%fp) (FC (5%fp) 11 5 254 255) _ HF13.o HF3.o).mono ?_;rintro e w4 ⟨g4,c4,rfl,hg4,hg4',hf4,hb4⟩;rw[P9] at hf4;have HF4:AO (Cu w4 (aE ⟨g4,0,aA⟩) GZ):=hf4;clear hf4 HF3 HF13;go_wp2_with fail;refine(ET _ c4 GZ _ HF4.o).mono ?_;rintro e w5 ⟨gy,cyy,rfl,hgy,hgy',⟨zs,hzA,hzl,hzd,hzv⟩,hb5⟩;have HB5:AO (Below w.heap.size w w5):=hb1.trans ((hb2.trans ((hb3.trans ((hb4.trans (hb5.mono hb4.size)).mono hb3.size)).mono hb2.size)).mono hb1.size);have HYC:AO (∀ i,i<16->w5.cell? ⟨gy,i,aA⟩=aE (Z8 aI (zs.getD i 0))):=λi hi=>by
  obtain⟨_,_,e,_,hc⟩:=hzA.get AJ;cases e;have:=hc i AJ
  rwa [Aq] at this
 have HZL:AO (zs.length=16):=hzl;have HZD:AO (∀ i,0<=zs.getD i 0/\zs.getD i 0<65536):=hzd;have HZV:AO (val 65536 zs=GZ):=hzv;have HS:AO (Wb w w5 zs 0 (Z7 (aE ⟨w5.heap.size,0,aA⟩) 0 0) (w5.alloc (aJ #[] 5))):=⟨⟨[],DM.empty _ _ Cl,rfl,by simp[Ci],by simp[val]⟩,Ck _ _⟩
 clear HF4 hb1 hb2 hb3 hb4 hb5 hzA hzl hzd hzv;go_wp2
 go_loopw [2,3] (λv i wr=>∃ k:Nat,k<=16/\i=Z8 aI k/\Wb w w5 zs k v wr) (λ_ i _=>16-(intOf i).toNat)
 case atStart=>exact⟨0,AK,rfl,HS.o⟩
 case round=>
  clear HS;obtain⟨k,hk,rfl,⟨bs,hO,hbl,hbb,hbv⟩,hbel⟩:=hrel;by_cases hlt:k<16
  ·have hlt':(k:Int)<16:=AJ
   have hd:=HZD.o k;have vt:=DN 65536 zs k (AG HZL.o);have c0:wr.cell? ⟨gy,k,aA⟩=aE (Z8 aI (zs.getD k 0)):=by
    rw[hbel.cell (p:=⟨gy,k,aA⟩) hgy'];exact HYC.o k hlt
   generalize hdd:zs.getD k 0=d at *;clear hdd;have HGN:AO (¬ aE gy=u2.ownBlock):=by
    obtain⟨g,c,rfl,hg,_,_⟩:=hO.base;intro h;simp[Value.ownBlock] at h;omega
   have HBL:AO (bs.length<=32):=by show _<=_;omega
   have HN:AO (val 256 (bs++[d%256,d/256])=val 65536 (zs.take (k+1))/\(bs++[d%256,d/256]).length=2*(k+1)/\Ci (bs++[d%256,d/256])):=by
    refine⟨by rw[QA bs d k hbl,hbv,vt],by simp[hbl];omega,?_⟩;intro z hz;simp at hz;rcases hz with h|h|h
    ·exact hbb z h
    ·omega
    ·omega
   have HO:AO (DM wr w5.heap.size u2 bs):=hO;have HBE:AO (Below w5.heap.size w5 wr):=hbel;have hwr:=hbel.size;obtain⟨hd0,hd1⟩:=hd;clear hO hbel vt hbv hbb hbl HYC HZV HZD;go_wp2_with fail;have hm1:d.tmod 256=d%256:=Am hd0;have hm2:d.tdiv 256=d/256:=Int.tdiv_eq_ediv_of_nonneg hd0;have hm3:IntKind.u8.wrap (d/256)=d/256:=by rw[IntKind.wrap_u8];omega
   have hm4:IntKind.u8.wrap (d%256)=d%256:=by rw[IntKind.wrap_u8];omega
   have hm5:IntKind.i64.wrap (d/256)=d/256:=by rw[An];omega
   refine Ag AM ?_;refine Eb 15 (λi w w'=>i≠14->Below w.heap.size w w') (frame:=(λ(a b c d e f g h i j k l m n o:aB)=>λ(t:Nat->aB)=>({ tmps:=List.toArray [a,b,c,d,e,f,g,h,i,j,k,l,m,n,t 0,t 1,t 2,t 3,t 4,t 5,t 6,t 7,t 8,t 9,t 10,t 11,t 12,t 13,t 14,o],defers:=[] }:Act)) _ _ _ _ _ _ _ _ _ _ _ _ _ _ _)
    (Ext:=λL w'=>(L 14=false->Below wr.heap.size wr w')/\Below w5.heap.size w5 w'/\(∀ i,i<16->w'.cell? ⟨gy,i,aA⟩=wr.cell? ⟨gy,i,aA⟩)/\wr.heap.size<=w'.heap.size)
    (Good:=Xb w5.heap.size u2 gy cyy k d bs) AN AM (Lq _ _ _ _ _ _ _) AM AM ?hop ?hend _ _ ((λ(x0 x1 x2 x3 x4 x5 x6 x7 x8 x9 x10 x11 x12 x13 x14:aB)=>λ(i:Nat)=>if i=0 then x0 else if i=1 then x1 else if i=2 then x2 else if i=3 then x3 else if i=4 then x4 else if i=5 then x5 else if i=6 then x6 else if i=7 then x7 else if i=8 then x8 else if i=9 then x9 else if i=10 then x10 else if i=11 then x11 else if i=12 then x12 else if i=13 then x13 else if i=14 then x14 else undef) _ _ _ _ _ _ _ _ _ _ _ _ _ _ _) _ AL AL ?ext ?start AL
   case start=>intro i hi h;exact absurd h Et
   case ext=>exact⟨λ_=>Cg.drew,⟨HBE.o.os,HBE.o.tape,HBE.o.output,HBE.o.size,HBE.o.block⟩,λ_ _=>rfl,Ac _⟩
   case hop=>
    intro i o L t w' hil ho hLi hx hdep K hK;obtain⟨hx14,hxB,hxY,hxS⟩:=hx;have cY:w'.cell? ⟨gy,k,aA⟩=aE (Z8 aI d):=by rw[hxY k AJ];exact c0
    have RX:AO (∀ j,j≠14->∀ ww,Below w'.heap.size w' ww->((Cf L j 14=false->Below wr.heap.size wr ww)/\Below w5.heap.size w5 ww/\(∀ i,i<16->ww.cell? ⟨gy,i,aA⟩=wr.cell? ⟨gy,i,aA⟩)/\wr.heap.size<=ww.heap.size)):=λj hj ww hb=>
     ⟨λhL=>(hx14 (by simpa[Cf,Ne.symm hj] using hL)).trans (hb.mono hxS),hxB.trans (hb.mono hxB.size),λi hi=>by rw[hb.cell (p:=⟨gy,i,aA⟩) (by show gy<w'.heap.size;omega)];exact hxY i hi,AG hb.size⟩
    have RR:AO (∀ j,j≠14->((Cf L j 14=false->Below wr.heap.size wr w')/\Below w5.heap.size w5 w'/\(∀ i,i<16->w'.cell? ⟨gy,i,aA⟩=wr.cell? ⟨gy,i,aA⟩)/\wr.heap.size<=w'.heap.size)):=λj hj=>RX.o j hj w' Cg
    have RM:AO (∀ j:Nat,j≠14->Below w'.heap.size w' w'):=λ_ _=>A9 _ _
    have H14:AO (L 14=false->Below wr.heap.size wr w'):=hx14;have HXB:AO (Below w5.heap.size w5 w'):=hxB;have HXY:AO (∀ i,i<16->w'.cell? ⟨gy,i,aA⟩=wr.cell? ⟨gy,i,aA⟩):=hxY;clear hx14 hxB hxY;obtain rfl|rfl|rfl|rfl|rfl|rfl|rfl|rfl|rfl|rfl|rfl|rfl|rfl|rfl|rfl:i=0\/i=1\/i=2\/i=3\/i=4\/i=5\/i=6\/i=7\/i=8\/i=9\/i=10\/i=11\/i=12\/i=13\/i=14:=AJ
    all_goals(simp at ho;subst ho)
    ·clear hdep;go_simp;exact hK w' u2 rfl (RR.o 0 AK) (RM.o 0)
    ·clear hdep;go_simp;exact hK w' (Z7 (aE ⟨gy,0,aA⟩) 16 cyy) rfl (RR.o 1 AK) (RM.o 1)
    ·clear hdep;go_simp;exact hK w' (Z8 aI k) rfl (RR.o 2 AK) (RM.o 2)
    ·have d1:t 1=_:=hdep ⟨1,aL⟩ AL rfl;have d2:t 2=_:=hdep ⟨2,aL⟩ AL rfl;clear hdep;go_simp;simpa[Ce,d1,d2] using hK w' (aF (aE ⟨gy,k,aA⟩)) rfl (RR.o 3 AK) (RM.o 3)
    ·have d3:t 3=_:=hdep ⟨3,aL⟩ AL rfl;clear hdep;go_simp;simpa[Ce,d3] using hK w' (Z8 aI d) rfl (RR.o 4 AK) (RM.o 4)
    ·have d4:t 4=_:=hdep ⟨4,aL⟩ AL rfl;clear hdep;go_simp;simpa[Ce,d4,hm1,hm2,hm3,hm4,hm5] using hK w' (Z8 aI (d%256)) rfl (RR.o 5 AK) (RM.o 5)
    ·have d5:t 5=_:=hdep ⟨5,aL⟩ AL rfl;clear hdep;go_simp;simpa[Ce,d5,hm1,hm2,hm3,hm4,hm5] using hK w' (Z8 Z9 (d%256)) rfl (RR.o 6 AK) (RM.o 6)
    ·clear hdep;go_simp;exact hK w' (Z7 (aE ⟨gy,0,aA⟩) 16 cyy) rfl (RR.o 7 AK) (RM.o 7)
    ·clear hdep;go_simp;exact hK w' (Z8 aI k) rfl (RR.o 8 AK) (RM.o 8)
    ·have d7:t 7=_:=hdep ⟨7,aL⟩ AL rfl;have d8:t 8=_:=hdep ⟨8,aL⟩ AL rfl;clear hdep;go_simp;simpa[Ce,d7,d8] using hK w' (aF (aE ⟨gy,k,aA⟩)) rfl (RR.o 9 AK) (RM.o 9)
    ·have d9:t 9=_:=hdep ⟨9,aL⟩ AL rfl;clear hdep;go_simp;simpa[Ce,d9] using hK w' (Z8 aI d) rfl (RR.o 10 AK) (RM.o 10)
    ·have d10:t 10=_:=hdep ⟨10,aL⟩ AL rfl;clear hdep;go_simp;simpa[Ce,d10,hm1,hm2,hm3,hm4,hm5] using hK w' (Z8 aI (d/256)) rfl (RR.o 11 AK) (RM.o 11)
    ·have d11:t 11=_:=hdep ⟨11,aL⟩ AL rfl;clear hdep;go_simp;simpa[Ce,d11,hm1,hm2,hm3,hm4,hm5] using hK w' (Z8 Z9 (d/256)) rfl (RR.o 12 AK) (RM.o 12)
    ·have d6:t 6=_:=hdep ⟨6,aL⟩ AL rfl;have d12:t 12=_:=hdep ⟨12,aL⟩ AL rfl;clear hdep;have hK':=hK (w'.alloc (aJ #[Z8 Z9 (d%256),Z8 Z9 (d/256)] 5)) (Z7 (aE ⟨w'.heap.size,0,aA⟩) 2 2) (λ_=>⟨w'.heap.size,rfl,AL,AA (AX _ _) _,AA (AX _ _) _⟩) (RX.o 13 AK _ (Ck _ _)) (λ_=>Ck _ _);clear hK;go_simp;simpa[Ce,d6,d12] using hK'
    ·have d0:t 0=_:=hdep ⟨0,aL⟩ AL rfl;have d13:=hdep ⟨13,aL⟩ AL rfl;obtain⟨g',e13,hg',cc0,cc1⟩:=d13 hLi;clear hdep d13;have hO:=HO.o.grow2 (H14.o hLi);refine Q1 (a:=_) _ _ _ rfl w5.heap.size _ bs (by first|exact d0|(simp[d0];done)) hO ⟨g',0,aA⟩ 2 2 [d%256,d/256] (by first|exact e13|(simp[e13];done)) rfl ?_ ?_ ?_ ?_
     ·intro j hj;rcases (show j=0\/j=1 by omega) with rfl|rfl
      ·rw[Az];exact cc0
      ·rw[Az];exact cc1
     ·have:=HBL.o;omega
     ·exact HXB.o.size
     ·intro v' w9 hown' hbel' hgr;have hs9:=hgr.size;have hyY:∀ i,i<16->w9.cell? ⟨gy,i,aA⟩=wr.cell? ⟨gy,i,aA⟩:=λi hi=>by
       rw[Ai (a:=⟨gy,i,aA⟩) (w:=w') (hgr.block gy AJ HGN.o)];exact HXY.o i hi
      exact hK w9 v' hown' ⟨λh=>by simp[Cf] at h,HXB.o.trans hbel',hyY,AJ⟩ (λh=>absurd rfl h)
   case hend=>
    intro o L t w' ho hx hg K hK;simp at ho;subst ho;obtain⟨hx14,hxB,hxY,hxS⟩:=hx;have O14:DM w' w5.heap.size (t 14) (bs++[d%256,d/256]):=hg 14 AK;have HXB:AO (Below w5.heap.size w5 w'):=hxB;have HXY:AO (∀ i,i<16->w'.cell? ⟨gy,i,aA⟩=wr.cell? ⟨gy,i,aA⟩):=hxY;have HSZ:AO (wr.heap.size<=w'.heap.size):=hxS;have HO14:AO (DM w' w5.heap.size (t 14) (bs++[d%256,d/256])):=O14;clear hg O14 hx14 hxB hxY hxS;go_simp;refine hK _ _ ?_;have hHB:Below w5.heap.size w5 w':=HXB.o;have HP:AO (Wb w w5 zs (k+1) (t 14) w'):=⟨⟨_,HO14.o,HN.o.2.1,HN.o.2.2,HN.o.1⟩,hHB⟩
    clear hHB HXB HXY HO14 HSZ HN HO HBE HGN hK c0;generalize t 14=v14 at *;go_wp2;go_roundw
    case rel=>exact⟨k+1,AJ,by go_num,HP.o⟩
    case measure=>simp[intOf];omega
  ·have hk16:k=16:=AJ
   rw[hk16,Ad (AG HZL.o),HZV.o] at hbv;have HP:AO (LG w GZ (aK u2) wr):=⟨u2,bs,rfl,hO.lower3b HB5.o.size,hbb,AJ,hbv,HB5.o.trans (hbel.mono HB5.o.size)⟩
   clear hbv hO hbb hbl hbel hk16 HZV HZD HYC;go_wp2
   go_ret
   exact HP.o
structure MQ (g:Nat) (w w':aC):Prop where
 os:w'.os=w.os
 tape:w'.tape=w.tape
 output:w'.output=w.output
 size:w.heap.size<=w'.heap.size
 block:∀ k,k<w.heap.size->k≠g->w'.heap[k]?=w.heap[k]?
theorem MQ.trans {g:Nat} {a b c:aC} (h:MQ g a b) (k:MQ g b c):MQ g a c:=
 ⟨k.os.trans h.os,k.tape.trans h.tape,k.output.trans h.output,BG h.size k.size,λi hi hg=>(k.block i (As hi h.size) hg).trans (h.block i hi hg)⟩
theorem Wr.frg {g:Nat} {w w':aC} (h:Wr g w w'):MQ g w w':=⟨h.os,h.tape,h.output,by rw[h.size];exact Ac _,λk _ hg=>h.block k hg⟩
theorem QB {g:Nat} {w w':aC} (h:Below w.heap.size w w'):MQ g w w':=⟨h.os,h.tape,h.output,h.size,λk hk _=>h.block k hk⟩
theorem MQ.below {g B:Nat} {w w':aC} (h:MQ g w w') (hB:B<=g) (hw:B<=w.heap.size):Below B w w':=⟨h.os,h.tape,h.output,h.size,λk hk=>h.block k AJ AJ⟩
theorem MQ.row {g q:Nat} {w w':aC} {e:TypeId} {zs:List Int} (h:MQ g w w') (hr:EF w q e zs) (hq:q≠g):EF w' q e zs:=by unfold EF;rw[h.block q hr.lt hq];exact hr
def XZ (v:List Int) (x:Int):List Int:=
 [IntKind.u64.wrap (US (v.getD 0 0) (v.getD 1 0) (v.getD 2 0) (v.getD 3 0) (v.getD 4 0) (v.getD 5 0) (v.getD 6 0) (v.getD 7 0) x+XY (v.getD 0 0) (v.getD 1 0) (v.getD 2 0)),v.getD 0 0,v.getD 1 0,v.getD 2 0,
  IntKind.u64.wrap (v.getD 3 0+US (v.getD 0 0) (v.getD 1 0) (v.getD 2 0) (v.getD 3 0) (v.getD 4 0) (v.getD 5 0) (v.getD 6 0) (v.getD 7 0) x),v.getD 4 0,v.getD 5 0,v.getD 6 0]
def W8 (v:List Int):Prop:=v.length=8/\∀ i,EE (v.getD i 0)
theorem W8.eight {v:List Int} (h:W8 v):v=[v.getD 0 0,v.getD 1 0,v.getD 2 0,v.getD 3 0,v.getD 4 0,v.getD 5 0,v.getD 6 0,v.getD 7 0]:=by
 obtain⟨hl,_⟩:=h
 match v,hl with
 |[a,b,c,d,e,f,q,z],_=>rfl
theorem Ji:EE 0:=⟨AK,AK⟩
theorem Xz {a b c d e f q z:Int} (ha:EE a) (hb:EE b) (hc:EE c) (hd:EE d) (he:EE e) (hf:EE f) (hq:EE q) (hz:EE z):W8 [a,b,c,d,e,f,q,z]:=
 ⟨rfl,λi=>by
  match i with
  |0=>exact ha
  |1=>exact hb
  |2=>exact hc
  |3=>exact hd
  |4=>exact he
  |5=>exact hf
  |6=>exact hq
  |7=>exact hz
  |n+8=>exact Ji⟩
theorem Wc {v:List Int} (h:W8 v) (x:Int):W8 (XZ v x):=Xz (D5 _) (h.2 0) (h.2 1) (h.2 2) (D5 _) (h.2 4) (h.2 5) (h.2 6)
theorem Nj (g:Nat) (ty:TypeId) (v:List Int) (x:Int) (w:aC) (hr:Ch w g ty v) (hv:W8 v) (hx:EE x) :
  Calls tP 158 #[aF (aE ⟨g,0,aA⟩),Z8 .u64 x] w λen w'=>en=aK (.tuple #[])/\Ch w' g ty (XZ v x)/\Wr g w w':=by
 have e:=hv.eight;refine Pz g ty (v.getD 0 0) (v.getD 1 0) (v.getD 2 0) (v.getD 3 0) (v.getD 4 0) (v.getD 5 0) (v.getD 6 0) (v.getD 7 0) x w ?_ (hv.2 0) (hv.2 1) (hv.2 2) (hv.2 3) (hv.2 4) (hv.2 5) (hv.2 6) (hv.2 7) hx;have h2:=hr;unfold Ch at h2;rw[e] at h2;exact h2
def kt (t:Nat):Int:=((tab.getD t 0:Nat):Int)
theorem Nk (t:Nat):EE (kt t):=by
 unfold kt;rw[K6];have:=Nat.mod_lt (Tg.getD t 0) (show 0<18446744073709551616 by decide);exact⟨AJ,AJ⟩
def Ep (hs bs:List Int):Nat->List Int
 |0=>hs
 |t+1=>XZ (Ep hs bs t) (IntKind.u64.wrap (kt t+wd bs t))
theorem JF {hs:List Int} (h:W8 hs) (bs:List Int) (t:Nat):W8 (Ep hs bs t):=by
 induction t with
 |zero=>exact h
 |succ t ih=>exact Wc ih _
def I6 (hs vs:List Int) (k:Nat):List Int:=(List.range 8).map λi=>if i<k then IntKind.u64.wrap (hs.getD i 0+vs.getD i 0) else hs.getD i 0
theorem Jj (hs vs:List Int) (k:Nat):(I6 hs vs k).length=8:=by simp[I6]
theorem Jk (hs vs:List Int) (k i:Nat) (h:i<8):(I6 hs vs k).getD i 0=if i<k then IntKind.u64.wrap (hs.getD i 0+vs.getD i 0) else hs.getD i 0:=by unfold I6;simp[List.getD,h]
theorem QC {hs:List Int} (h:W8 hs) (vs:List Int):I6 hs vs 0=hs:=by
 rw[h.eight];rfl
theorem Rz (hs vs:List Int) (k:Nat) (h:k<8):(I6 hs vs k).set k (IntKind.u64.wrap (hs.getD k 0+vs.getD k 0))=I6 hs vs (k+1):=by
 apply List.ext_getElem?;intro i;rw[List.getElem?_set];unfold I6;by_cases h1:k=i
 ·subst h1;simp[h]
 ·rw[AQ h1];by_cases h2:i<8
  ·have e:(i<k+1)=(i<k):=by apply propext;omega
   simp[h2,e]
  ·simp[h2]
def D6 (hs bs:List Int):List Int:=I6 hs (Ep hs bs 80) 8
theorem Fl (hs bs:List Int):W8 (D6 hs bs):=⟨Jj _ _ _,λi=>by
 unfold D6;by_cases h:i<8
 ·rw[Jk _ _ _ _ h,AP h];exact D5 _
 ·rw[AS,BX (by rw[Jj];omega)];exact Ji⟩
theorem X9 (w:aC) (vs:List Int) (hl:vs.length=80) (k:Nat) (hk:k<80):(Instr.index 211 (aH (vs.map (Value.int .u64)).toArray) (Z8 aI (k:Int))).run tP w=.ok (Z8 .u64 (vs.getD k 0)) w:=by
 have h2:k<vs.length:=AJ
 simp[Instr.index,run_underlying underlying211,asIntOf,part,go_sem,h2];omega
theorem Y7 (w:aC) (vs:List Int) (hl:vs.length=8) (k:Nat) (hk:k<8):(Instr.index 173 (aH (vs.map (Value.int .u64)).toArray) (Z8 aI (k:Int))).run tP w=.ok (Z8 .u64 (vs.getD k 0)) w:=by
 have h2:k<vs.length:=AJ
 simp[Instr.index,run_underlying underlying173,asIntOf,part,go_sem,h2];omega
theorem D4.frg {w w':aC} (h:D4 w) (hw:∀ k,k<w.heap.size->k=1->w'.heap[k]?=w.heap[k]?):D4 w':=λi hi=>by
 have hc:=h i hi;have hz:1<w.heap.size:=block_lt_of_cell (a:=⟨1,0,aA⟩) (h 0 AK);rw[<-hc];exact Ai (hw 1 hz rfl)
structure MX (w:aC) (g gB:Nat) (hs vs bs:List Int) (y:aC):Prop where
 tur:Ch y w.heap.size 173 vs
 wds:Ch y g 173 hs
 tab:D4 y
 fr:MQ g w y
theorem MX.call {w:aC} {g gB:Nat} {hs vs vs' bs:List Int} {y y':aC} (h:MX w g gB hs vs bs y) (hg:g<w.heap.size) (h0:1<w.heap.size) (hr:Ch y' w.heap.size 173 vs') (hw:Wr w.heap.size y y'):MX w g gB hs vs' bs y':=
 ⟨hr,hw.rowW h.wds AJ,h.tab.frg (λk _ e=>hw.block k AJ),⟨hw.os.trans h.fr.os,hw.tape.trans h.fr.tape,hw.output.trans h.fr.output,by rw[hw.size];exact h.fr.size,λk hk hkg=>(hw.block k AJ).trans (h.fr.block k hk hkg)⟩⟩
theorem MX.set {w:aC} {g gB:Nat} {hs vs bs:List Int} {y:aC} (h:MX w g gB hs vs bs y) (hg:g<w.heap.size) (h0:g≠1) (k:Nat) (x:Int):MX w g gB (hs.set k x) vs bs ((y.setCell ⟨g,k,aA⟩ (Z8 .u64 x)).drew):=by
 have hw:Wr g y ((y.setCell ⟨g,k,aA⟩ (Z8 .u64 x)).drew):=((Wr.refl _ _).setCell k _).drew;exact⟨hw.rowW h.tur AJ,h.wds.set k x,h.tab.frg (λk _ e=>hw.block k AJ),h.fr.trans hw.frg⟩
theorem JG (g gB:Nat) (hs bs:List Int) (w:aC) (hr:Ch w g 173 hs) (hw8:W8 hs) (hb:EF w gB 176 bs) (hl:bs.length=128) (hz:Ci bs) (hT:D4 w) (hg0:g≠1) :
  Calls tP 134 #[aF (aE ⟨g,0,aA⟩),aF (aE ⟨gB,0,aA⟩)] w λe w'=>e=aK (.tuple #[])/\Ch w' g 173 (D6 hs bs)/\MQ g w w':=by
 have hgl:=hr.lt;have hbl:=hb.lt;have h0:1<w.heap.size:=block_lt_of_cell (a:=⟨1,0,aA⟩) (hT 0 AK);have H8:=Cd hw8;have HU:=Cd (λt=>Nf hz hl t);have HR:=Cd hr;have HZN:AO (Ch (w.alloc (aJ Cb 173)) w.heap.size 173 [0,0,0,0,0,0,0,0]):=AX w _;have HAL:AO (Below w.heap.size w (w.alloc (aJ Cb 173))):=Cg.alloc Cl _;have HB:=Cd (BC hb (BC hl hz));have HT:=Cd hT;clear hr hw8 hb hl hz hT;go_enter func134,ntmps134;go_wp2_with (first
  |(refine FM rfl (.tmp 10) rfl underlying173 Tryz.sizeWds g hs rfl H8.o.1 HR.o ?_)
  |(refine Ev rfl (.tmp 4) (.tmp 11) rfl Tryz.sizeWds w.heap.size hs [0,0,0,0,0,0,0,0] rfl rfl H8.o.1 rfl HZN.o ?_)
  |fail)
 intro w1 hr1 hw1;have FR1:MQ g w w1:=⟨hw1.os.trans HAL.o.os,hw1.tape.trans HAL.o.tape,hw1.output.trans HAL.o.output,by rw[hw1.size];exact HAL.o.size,λk hk _=>(hw1.block k AJ).trans (HAL.o.block k hk)⟩
 have HM:MX w g gB hs hs bs w1:=⟨hr1,hw1.rowW (HR.o.below HAL.o hgl) AJ,(HT.o.frg (λk hk _=>HAL.o.block k hk)).frg (λk _ e=>hw1.block k AJ),FR1⟩
 have A:=Cd (P8 gB bs w1 (by unfold EF;rw[hw1.block gB AJ,HAL.o.block gB hbl];exact HB.o.1) HB.o.2.1 HB.o.2.2);have HM1:=Cd HM;clear HM FR1 hr1 hw1 HZN HAL HR HT HB;go_wp2_with fail;refine A.o.mono ?_;rintro e w2 ⟨rfl,b2⟩;have HM2:AO (MX w g gB hs (Ep hs bs 0) bs w2):=⟨HM1.o.tur.below b2 HM1.o.tur.lt,HM1.o.wds.below b2 HM1.o.wds.lt,HM1.o.tab.frg (λk hk _=>b2.block k hk),HM1.o.fr.trans (QB b2)⟩
 clear b2 HM1 A;have hix:=Cd (λw k hk=>X9 w (Hm bs 80) (Fx _ _) k hk);obtain⟨AV,hAV⟩:∃ AV,AV=((Hm bs 80).map (Value.int .u64)).toArray:=⟨_,rfl⟩
 rw[<-hAV] at hix |-;clear hAV;go_wp2
 go_loopw [14] (λi wr=>∃ k:Nat,k<=80/\i=Z8 aI k/\MX w g gB hs (Ep hs bs k) bs wr) (λi _=>80-(intOf i).toNat)
 case atStart=>exact⟨0,AJ,rfl,HM2.o⟩
 case round=>
  clear HM2;obtain⟨k,hk,rfl,hm⟩:=hrel;by_cases hlt:k<80
  ·have hlt':(k:Int)<80:=AJ
   have hx:=λw=>hix.o w k hlt
   rw[Jh _ _ _ hlt,AP hlt] at hx;have hu:=HU.o k;have hc:=hm.tab k AJ;have hku:=Nk k;have HMk:=Cd hm;have hkt:kt k=((tab.getD k 0:Nat):Int):=rfl;rw[<-hkt] at hc;have A:=Cd (Nj w.heap.size 173 (Ep hs bs k) (IntKind.u64.wrap (kt k+wd bs k)) wr hm.tur (JF H8.o bs k) (D5 _));have HN:AO (Ep hs bs (k+1)=XZ (Ep hs bs k) (IntKind.u64.wrap (kt k+wd bs k))):=rfl;clear hm hkt;obtain⟨v,hv⟩:∃ v,v=wd bs k:=⟨_,rfl⟩
   obtain⟨c,hcc⟩:∃ c,c=kt k:=⟨_,rfl⟩
   rw[<-hv] at hx hu A HN;rw[<-hcc] at hc hku A HN;clear hv hcc;obtain⟨hu0,hu1⟩:=hu;obtain⟨hk0,hk1⟩:=hku;go_wp2_with fail;refine A.o.mono ?_;rintro e w3 ⟨rfl,r3,b3⟩;have HM3:AO (MX w g gB hs (Ep hs bs (k+1)) bs w3):=by rw[HN.o];exact HMk.o.call hgl h0 r3 b3
   clear r3 b3 A HMk HN hc hx;go_wp2;go_roundw
   case rel=>exact⟨k+1,AJ,by go_num,HM3.o⟩
   case measure=>simp[intOf];omega
  ·obtain rfl:k=80:=AJ
   have hVS:=JF H8.o bs 80;have HVL:=Cd hVS;have HMF:AO (D6 hs bs=I6 hs (Ep hs bs 80) 8):=rfl;obtain⟨vs,hvs⟩:∃ vs,vs=Ep hs bs 80:=⟨_,rfl⟩
   rw[<-hvs] at hm HVL HMF;clear hVS hvs;have HM3:=Cd hm;have HMZ:AO (MX w g gB (I6 hs vs 0) vs bs wr):=by rw[QC H8.o];exact hm
   clear hm hix;go_wp2_with (first
    |(refine FM rfl (.tmp 4) rfl underlying173 Tryz.sizeWds w.heap.size vs rfl HVL.o.1 HM3.o.tur ?_)
    |fail)
   have hix:=Cd (λw k hk=>Y7 w vs HVL.o.1 k hk);obtain⟨BV,hBV⟩:∃ BV,BV=(vs.map (Value.int .u64)).toArray:=⟨_,rfl⟩
   rw[<-hBV] at hix |-;clear hBV HM3;go_wp2
   go_loopw [26] (λi wr=>∃ k:Nat,k<=8/\i=Z8 aI k/\MX w g gB (I6 hs vs k) vs bs wr) (λi _=>8-(intOf i).toNat)
   case atStart=>exact⟨0,AJ,rfl,HMZ.o⟩
   case round=>
    rename_i wq _
    obtain⟨k,hk,rfl,hm⟩:=hrel;by_cases hlt:k<8
    ·have hlt':(k:Int)<8:=AJ
     have hx:=λw=>hix.o w k hlt
     have hu:=HVL.o.2 k;have hh:=H8.o.2 k;have hc:=hm.wds.cell k (by rw[Jj];exact hlt);rw[Jk _ _ _ _ hlt,AQ AJ] at hc;have hf:=hm.wds.frozen k;have hn:=hm.set hgl hg0 k (IntKind.u64.wrap (hs.getD k 0+vs.getD k 0));rw[Rz _ _ _ hlt] at hn;have HN:=Cd hn;clear hn hm;obtain⟨v,hv⟩:∃ v,v=vs.getD k 0:=⟨_,rfl⟩
     obtain⟨c,hcc⟩:∃ c,c=hs.getD k 0:=⟨_,rfl⟩
     rw[<-hv] at hx hu HN;rw[<-hcc] at hc hh HN;clear hv hcc;obtain⟨hu0,hu1⟩:=hu;obtain⟨hh0,hh1⟩:=hh;go_wp2
     go_region
     go_wp2;go_roundw
     case rel=>exact⟨k+1,AJ,by go_num,HN.o⟩
     case measure=>simp[intOf];omega
    ·obtain rfl:k=8:=AJ
     have HN:=Cd hm;clear hm;go_wp2
     go_end0
     rw[HMF.o];exact⟨rfl,HN.o.wds,HN.o.fr⟩
def D7 (zs:List Int):List Int:=zs.take 128++List.replicate (128-zs.length) 0
theorem ED (zs:List Int):(D7 zs).length=128:=by unfold D7;simp;omega
theorem Jl {zs:List Int} (h:Ci zs):Ci (D7 zs):=λz hz=>by
 unfold D7 at hz;rcases CI.1 hz with h'|h'
 ·exact h z (Ay h')
 ·rw[(List.mem_replicate.1 h').2];exact⟨AK,AK⟩
theorem Tryz.sizeU8:(tP.info? 5).map (·.size)=aE 1:=AM
theorem Nl (zs:List Int):splice ((List.replicate 128 (0:Int)).map (Value.int Z9)) 0 ((zs.take 128).map (Value.int Z9))=(D7 zs).map (Value.int Z9):=by
 unfold splice D7;rw[List.take_zero,List.nil_append,BS,<-List.map_drop,List.drop_replicate,Aq,Bn,Ap,show 128-min 128 zs.length=128-zs.length by omega]
theorem LH (w:aC) (g:Nat):(Instr.sliceAt 176 (aF (aE ⟨g,0,aA⟩)) aA aA aA).run tP w=.ok (Z7 (aE ⟨g,0,aA⟩) 128 128) w:=by
 unfold Instr.sliceAt;simp[run_underlying underlying176,go_sem,Instr.sliceBounds,Addr.add]
theorem Or (a:Option Addr) (n cap:Nat) (zs:List Int) (w:aC) (hn:zs.length=n) (ha:At Z9 w a zs) (hm:n<=2097152) :
  Calls tP 133 #[Z7 a n cap] w λe w'=>e=aK (aH ((D7 zs).map (Value.int Z9)).toArray)/\Below w.heap.size w w':=by
 have z1:=Rn;have z2:=Oq;have z3:=Ro;have hsl:=λw=>LH w
 obtain⟨w2,hw2⟩:∃ w2,w2=(w.alloc (aJ Ii 176)).alloc (aJ Ii 176):=⟨_,rfl⟩
 have HB:AO (Below w.heap.size w w2):=by rw[hw2];exact(Cg.alloc Cl _).alloc AL _
 have HR0:AO (EF w2 w.heap.size 176 (List.replicate 128 0)):=by show _=_;rw[hw2,heap_alloc2_old,MO]
 have HR1:AO (EF w2 (w.heap.size+1) 176 (List.replicate 128 0)):=by show _=_;rw[hw2,heap_alloc2_new,MO]
 have HA:=Cd ha;have HN:=Cd hn;have HW:=Cd hw2;obtain⟨zz,hzz⟩:∃ zz,zz=(List.replicate 128 (0:Int)).map (Value.int Z9):=⟨_,rfl⟩
 have HSP:AO (splice zz 0 ((zs.take 128).map (Value.int Z9))=(D7 zs).map (Value.int Z9)):=by show _=_;rw[hzz];exact Nl zs
 have HR1:AO (w2.heap[w.heap.size+1]?=aE (aJ zz.toArray 176 (0,0))):=by rw[hzz];exact HR1
 have HLn:AO (((zs.take 128).map (Value.int Z9)).length=Nat.min n 128):=by show _=_;rw[Bn,Ap,hn];exact Nat.min_comm _ _
 have HLm:AO (0+((zs.take 128).map (Value.int Z9)).length<=zz.length):=by show _<=_;rw[hzz,Bn,Ap,Bn,List.length_replicate];omega
 clear hzz;have HP:AO (0<((zs.take 128).map (Value.int Z9)).length->aE (⟨w.heap.size+1,0,aA⟩:Addr)=aE ⟨w.heap.size+1,0,aA⟩/\∃ ad,a=aE ad/\∀ j v,((zs.take 128).map (Value.int Z9))[j]?=aE v->w2.cell? (ad.add j)=aE v):=by
  intro hp;refine⟨rfl,?_⟩;rw[Bn,Ap] at hp;obtain⟨b,o,rfl,hb,hc⟩:=(HA.o.below HB.o).get AJ;refine⟨_,rfl,λj v hv=>?_⟩;have hj:j<128/\j<zs.length:=by have:=(Ao.1 hv).1;rw[Bn,Ap] at this;omega
  rw[Az,hc j hj.2];rw[CJ,List.getElem?_take_of_lt hj.1] at hv;simp[hj.2] at hv |-;exact hv
 clear ha hn hw2;go_enter func133,ntmps133
 go_upto_region 2 with fail
 rw[<-HW.o];go_wp2_with (first
  |(refine wpList_copy_splice rfl (.tmp 4) (.tmp 5) 26 26 rfl 5 underlying26 Tryz.sizeU8 (aE ⟨w.heap.size+1,0,aA⟩) a 128 128 n cap rfl rfl (w.heap.size+1) 0 zz 176 HR1.o ((zs.take 128).map (Value.int Z9)) HLn.o HP.o HLm.o (Aw _ _) (w.heap.size+1) w2 Cg Cl ?_)
  |fail)
 rw[<-List.map_take,HSP.o];intro w3 hr3 hb3;have HR3:AO (EF w3 (w.heap.size+1) 176 (D7 zs)):=hr3;have HR03:AO (EF w3 w.heap.size 176 (List.replicate 128 0)):=HR0.o.below hb3 AJ;have HB3:AO (Below w.heap.size w w3):=HB.o.trans (hb3.mono AJ);have HL:=Cd (ED zs);clear hr3 hb3 HR0 HR1 HB HA HN HW z1 z2 z3 hsl;go_wp2_with (first
  |(refine LC rfl (.tmp 3) rfl underlying176 Tryz.sizeBlk (w.heap.size+1) (D7 zs) rfl HL.o HR3.o ?_)
  |(refine EJ rfl (.tmp 2) (.tmp 7) rfl Tryz.sizeBlk w.heap.size (D7 zs) (List.replicate 128 0) rfl rfl HL.o AL HR03.o ?_)
  |fail)
 intro w4 hr4 hw4;have HB4:AO (Below w.heap.size w w4):=HB3.o.trans (hw4.below Cl);have HR4:=Cd hr4;clear hr4 hw4;go_wp2;exact Ab (v:=aH ((D7 zs).map (Value.int Z9)).toArray) (Ah rfl _ _ w.heap.size 176 _ (0,0) _ rfl HR4.o underlying176 rfl (by rw[Tryz.sizeBlk];simp[HL.o])) rfl ⟨rfl,HB4.o⟩
def Nm:List Int:=(List.range 8).map λi=>kt (80+i)
theorem Ot (i:Nat) (h:i<8):Nm.getD i 0=kt (80+i):=by unfold Nm;simp[List.getD,h]
theorem LI:W8 Nm:=⟨by simp[Nm],λi=>by
 by_cases h:i<8
 ·rw[Ot i h];exact Nk _
 ·rw[AS,BX (by unfold Nm;simp;omega)];exact Ji⟩
def Vr (k:Nat):List Int:=(List.range 8).map λi=>if i<k then kt (80+i) else 0
theorem UT (k:Nat):(Vr k).length=8:=by simp[Vr]
theorem UU (k:Nat) (h:k<8):(Vr k).set k (kt (80+k))=Vr (k+1):=by
 apply List.ext_getElem?;intro i;rw[List.getElem?_set];unfold Vr;by_cases h1:k=i
 ·subst h1;simp[h]
 ·rw[AQ h1];by_cases h2:i<8
  ·have e:(i<k+1)=(i<k):=by apply propext;omega
   simp[h2,e]
  ·simp[h2]
theorem YA:Vr 8=Nm:=by
 unfold Vr Nm;apply List.map_congr_left;intro i hi;rw[AP (BF.1 hi)]
structure IV (w:aC) (k:Nat) (y:aC):Prop where
 res:Ch y w.heap.size 173 [0,0,0,0,0,0,0,0]
 row:Ch y (w.heap.size+1) 173 (Vr k)
 below:Below w.heap.size w y
theorem QD (w:aC) (hT:D4 w) (hz:1<w.heap.size) :
  Calls tP 132 #[] w λe w'=>e=aK (aH (Nm.map (Value.int .u64)).toArray)/\Below w.heap.size w w':=by
 have HT:=Cd hT;have HS:AO (IV w 0 ((w.alloc (aJ Cb 173)).alloc (aJ Cb 173))):=
  ⟨heap_alloc2_old _ _ _,heap_alloc2_new _ _ _,(Cg.alloc Cl _).alloc AL _⟩
 clear hT;go_enter func132,ntmps132;go_wp2
 go_loopw [3] (λi wr=>∃ k:Nat,k<=8/\i=Z8 aI k/\IV w k wr) (λi _=>8-(intOf i).toNat)
 case atStart=>exact⟨0,AJ,rfl,HS.o⟩
 case round=>
  clear HS;obtain⟨k,hk,rfl,hs⟩:=hrel;by_cases hlt:k<8
  ·have hlt':(k:Int)<8:=AJ
   have hc:wr.cell? ⟨1,80+k,aA⟩=aE (Z8 .u64 (kt (80+k))):=by
    rw[Ai (w:=w) (hs.below.block 1 hz)];exact HT.o (80+k) AJ
   have hc2:=hs.row.cell k (by rw[UT];exact hlt);have hf:=hs.row.frozen k;have hN:AO (IV w (k+1) (wr.setCell ⟨w.heap.size+1,k,aA⟩ (Z8 .u64 (kt (80+k))))):=
    ⟨((Wr.refl _ _).setCell k _).rowW hs.res AJ,by rw[<-UU k hlt];exact hs.row.set k _,hs.below.setCell AL _⟩
   have he:((80:Int)+(k:Int)).toNat=80+k:=AJ
   clear hs;generalize kt (80+k)=c at *;go_wp2;go_roundw
   case rel=>exact⟨k+1,AJ,by go_num,hN.o⟩
   case measure=>simp[intOf];omega
  ·obtain rfl:k=8:=AJ
   have H1:=Cd hs.row;rw[YA] at H1;have H2:=Cd hs.res;have H3:=Cd hs.below;have HL:=Cd LI.1;clear hs;go_wp2_with (first
    |(refine FM rfl (.tmp 1) rfl underlying173 Tryz.sizeWds (w.heap.size+1) Nm rfl HL.o H1.o ?_)
    |(refine Ev rfl (.tmp 0) (.tmp 13) rfl Tryz.sizeWds w.heap.size Nm [0,0,0,0,0,0,0,0] rfl rfl HL.o rfl H2.o ?_)
    |fail)
   intro w3 hr3 hw3;have HB3:AO (Below w.heap.size w w3):=H3.o.trans (hw3.below Cl);have HR3:=Cd hr3;clear hr3 hw3 H1 H2 H3;go_wp2;exact Ab (v:=aH (Nm.map (Value.int .u64)).toArray) (Ah rfl _ _ w.heap.size 173 _ (0,0) _ rfl HR3.o underlying173 rfl (by rw[Tryz.sizeWds];simp[HL.o])) rfl ⟨rfl,HB3.o⟩
end Go.Proofs.YtjdhhgaelgemcaaGreatDoor
