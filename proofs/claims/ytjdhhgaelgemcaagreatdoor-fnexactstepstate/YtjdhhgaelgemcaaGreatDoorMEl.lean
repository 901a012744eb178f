import Derived.Test.YtjdhhgaelgemcaaGreatDoorMU8i
import Derived.Test.YtjdhhgaelgemcaaGreatDoorMRowB
import Derived.Test.YtjdhhgaelgemcaaGreatDoorMReg
open Go.Proofs.Tryz renaming prog->tP
open Go.Proofs.Tryz
open Go.Value renaming int->Z8,pointer->aF,agg->aH
open Go.IntKind renaming i64->aI
open Go.Obj renaming cells->aJ
open Go.Ending renaming returned->aK
open Go.Ground renaming data->aL
open Go.Operand renaming tmp->aM
open Option renaming some->aE,none->aA
open Go renaming World->aC,Value->aB
set_option maxHeartbeats 2000000
set_option maxRecDepth 100000
namespace Go.Proofs.YtjdhhgaelgemcaaGreatDoor
set_option linter.unusedVariables false
/-! Elements of five limbs of 51 bits. -/
def Dr (B:Int) (xs:List Int):Nat->Int
 |0=>0
 |i+1=>(xs.getD i 0+Dr B xs i)/B
theorem Nq (B:Int) (xs:List Int) (n:Nat):val B ((List.range n).map λi=>(xs.getD i 0+Dr B xs i)%B)+Dr B xs n*B^n=val B ((List.range n).map λi=>xs.getD i 0):=by
 induction n with
 |zero=>simp[val,Dr]
 |succ n ih=>
  rw[Do,Do,<-ih,Int.pow_succ];simp only[Dr];have e:(xs.getD n 0+Dr B xs n)%B+B*((xs.getD n 0+Dr B xs n)/B)=xs.getD n 0+Dr B xs n:=Int.emod_add_mul_ediv _ _;have e2:((xs.getD n 0+Dr B xs n)%B+B*((xs.getD n 0+Dr B xs n)/B))*B^n=(xs.getD n 0+Dr B xs n)*B^n:=by rw[e]
  generalize B^n=P at *;generalize (xs.getD n 0+Dr B xs n)/B=q at *;generalize (xs.getD n 0+Dr B xs n)%B=r at *;generalize val B (List.map (λi=>(xs.getD i 0+Dr B xs i)%B) (List.range n))=v at *
  grind
def C3:Int:=2251799813685248
def Mh (xs:List Int) (k i:Nat):Int:=if i<k then(xs.getD i 0+Dr C3 xs i)%C3 else xs.getD i 0
def GS (xs:List Int) (k:Nat):List Int:=(List.range 5).map (Mh xs k)
theorem Dn (xs:List Int) (k:Nat):(GS xs k).length=5:=by simp[GS]
theorem O9 (f:Nat->Int) (i:Nat) (h:i<5):((List.range 5).map f).getD i 0=f i:=by simp[h]
theorem GJ (xs:List Int) (k i:Nat) (h:i<5):(GS xs k).getD i 0=Mh xs k i:=O9 _ i h
theorem Kg {a b:List Int} (ha:a.length=5) (hb:b.length=5) (h:∀ i,i<5->a.getD i 0=b.getD i 0):a=b:=by
 apply List.ext_getElem AJ;intro i h1 h2;have:=h i AJ;simpa[h1,h2] using this
theorem SE (xs:List Int) (h:xs.length=5):GS xs 0=xs:=by
 apply Kg (Dn _ _) h;intro i hi;rw[GJ _ _ _ hi];simp[Mh]
theorem SG (xs:List Int) (k:Nat) (h:k<5):(GS xs k).set k ((xs.getD k 0+Dr C3 xs k)%C3)=GS xs (k+1):=by
 apply Kg (by simp[Dn]) (Dn _ _);intro i hi;rw[Cy _ _ _ _ (by simp[Dn];omega),GJ _ _ _ hi,GJ _ _ _ hi];unfold Mh;by_cases h2:i=k
 ·subst h2;simp
 ·have h3:(i<k)↔(i<k+1):=AJ
  simp[h2,h3]
theorem LO (xs:List Int) (h:xs.length=5):val C3 (GS xs 5)+Dr C3 xs 5*(fp+19)=val C3 xs:=by
 have e:=Nq C3 xs 5;rw[<-DD C3 xs 5 h] at e;have e1:GS xs 5=(List.range 5).map λi=>(xs.getD i 0+Dr C3 xs i)%C3:=by
  apply Kg (Dn _ _) AL;intro i hi;rw[GJ _ _ _ hi,O9 _ _ hi];simp[Mh,hi]
 have e2:(C3:Int)^5=fp+19:=AK
 rw[e1,<-e2];exact e
def Cq (xs:List Int):List Int:=(GS xs 5).set 0 ((GS xs 5).getD 0 0+19*Dr C3 xs 5)
theorem Hx (xs:List Int):(Cq xs).length=5:=by simp[Cq,Dn]
theorem Nr (xs:List Int) (h:xs.length=5):val C3 (Cq xs)=val C3 xs-Dr C3 xs 5*fp:=by
 unfold Cq;rw[FJ _ _ _ _ (by simp[Dn]),<-LO xs h];simp only[Int.pow_zero];generalize (GS xs 5).getD 0 0=y;generalize Dr C3 xs 5=c;generalize val C3 (GS xs 5)=v
 grind
def ev (xs:List Int):Int:=val C3 xs%fp
theorem Hg (xs:List Int) (h:xs.length=5):ev (Cq xs)=ev xs:=by
 unfold ev;rw[Nr xs h];have:val C3 xs-Dr C3 xs 5*fp=val C3 xs+fp*(-(Dr C3 xs 5)):=by grind
 rw[this,Int.add_mul_emod_self_left]
def Cs (xs:List Int):Prop:=xs.length=5/\(∀ i,0<=xs.getD i 0)/\(∀ i,1<=i->xs.getD i 0<2251799813685248)/\xs.getD 0 0<2251799813685504
theorem FF (xs:List Int) (i:Nat):0<=(GS xs 5).getD i 0/\(GS xs 5).getD i 0<2251799813685248:=by
 by_cases h:i<5
 ·rw[GJ _ _ _ h];unfold Mh C3;rw[AP h];omega
 ·rw[DB (by rw[Dn];omega)];omega
theorem Im {xs:List Int} (h0:0<=Dr C3 xs 5) (h1:Dr C3 xs 5<=13):Cs (Cq xs):=by
 have hl:0<(GS xs 5).length:=by rw[Dn];decide
 have hb0:=FF xs 0;refine⟨Hx _,λi=>?_,λi hi=>?_,?_⟩
 ·unfold Cq;rw[Cy _ _ _ _ hl];have:=FF xs i;split<;>omega
 ·unfold Cq;rw[Cy _ _ _ _ hl,AQ AJ];exact(FF xs i).2
 ·unfold Cq;rw[Cy _ _ _ _ hl,AP rfl];omega
theorem Ns {xs:List Int} (h:∀ i,0<=xs.getD i 0) (i:Nat):0<=Dr C3 xs i:=by
 induction i with
 |zero=>simp[Dr]
 |succ i ih=>have:=h i;simp only[Dr];unfold C3 at *;omega
theorem Jn {xs:List Int} {M C:Int} (h:∀ i,0<=xs.getD i 0/\xs.getD i 0<M) (hC:0<=C) (hM:M+C<=2251799813685248*(C+1)) (i:Nat):0<=Dr C3 xs i/\Dr C3 xs i<=C:=by
 induction i with
 |zero=>simp[Dr];omega
 |succ i ih=>have:=h i;simp only[Dr];unfold C3 at *;omega
end Go.Proofs.YtjdhhgaelgemcaaGreatDoor
namespace Go.Proofs.YtjdhhgaelgemcaaGreatDoor
open Go.ChangeShapes Go.WideShapes Go.ChangeAt Go.RowKit
set_option linter.unusedVariables false
def Tj (xs:List Int):Prop:=∀ i,0<=xs.getD i 0/\xs.getD i 0<9223372036854775808
structure PA (w:aC) (g:Nat) (zs:List Int) (wr:aC):Prop where
 row:Ch wr g 138 zs
 wr:Wr g w wr
theorem PA.set {w:aC} {g:Nat} {zs:List Int} {wr:aC} (h:PA w g zs wr) (k:Nat) (x:Int):PA w g (zs.set k x) ((wr.setCell ⟨g,k,aA⟩ (Z8 .u64 x)).drew):=
 ⟨h.row.set k x,(h.wr.setCell k _).drew⟩
theorem Hy (g:Nat) (xs:List Int) (w:aC) (hl:xs.length=5) (hr:Ch w g 138 xs) (hx:Tj xs) :
  Calls tP 149 #[aF (aE ⟨g,0,aA⟩)] w λe w'=>e=aK (Z8 .u64 (Dr C3 xs 5))/\PA w g (GS xs 5) w':=by
 have HC:AO (∀ i,0<=Dr C3 xs i/\Dr C3 xs i<=4096):=λi=>Jn (M:=9223372036854775808) hx AK AK i
 have HX:AO (Tj xs):=hx;have HS:AO (PA w g (GS xs 0) w):=⟨by rw[SE xs hl];exact hr,Wr.refl _ _⟩
 clear hx hr;go_enter func149,ntmps149;go_wp2
 go_loopw [3,5] (λc i wr=>∃ k:Nat,k<=5/\i=Z8 aI k/\c=Z8 .u64 (Dr C3 xs k)/\PA w g (GS xs k) wr) (λ_ i _=>5-(intOf i).toNat)
 case atStart=>exact⟨0,AK,rfl,rfl,HS.o⟩
 case round=>
  clear HS;obtain⟨k,hk,rfl,rfl,hst⟩:=hrel;by_cases hlt:k<5
  ·have hlt':(k:Int)<5:=AJ
   obtain⟨hc0,hc1⟩:=HC.o k;obtain⟨hx0,hx1⟩:=HX.o k;have hget:(GS xs k).getD k 0=xs.getD k 0:=by rw[GJ _ _ _ hlt];simp[Mh]
   have hlen:=Dn xs k;have c0:=hst.row.cell k AJ;have f0:=hst.row.frozen k;rw[hget] at c0;have s1:=hst.set k (xs.getD k 0+Dr C3 xs k);have c1:=s1.row.cell k (by rw[List.length_set];omega);have f1:=s1.row.frozen k;rw[Cy _ _ _ _ AJ,AP rfl] at c1;have s2:=s1.set k ((xs.getD k 0+Dr C3 xs k)%C3);rw[List.set_set,SG xs k hlt] at s2;have HS2:AO (PA w g (GS xs (k+1)) ((((wr.setCell ⟨g,k,aA⟩ (Z8 .u64 (xs.getD k 0+Dr C3 xs k))).drew).setCell ⟨g,k,aA⟩ (Z8 .u64 ((xs.getD k 0+Dr C3 xs k)%C3))).drew)):=s2;have HCS:AO (Dr C3 xs (k+1)=(xs.getD k 0+Dr C3 xs k)/2251799813685248):=rfl;have HAND:AO (bits .and .u64 (xs.getD k 0+Dr C3 xs k) 2251799813685247=(xs.getD k 0+Dr C3 xs k)%C3):=DH _ 51 AJ AJ _ AK AK;clear hget hlen s1 s2 hst;generalize Dr C3 xs k=cc at *;generalize xs.getD k 0=x at *;go_wp2
   go_region
   clear c0 f0;generalize (wr.setCell ⟨g,k,aA⟩ (Z8 .u64 (x+cc))).drew=w1 at *;go_wp2
   go_region
   rw[HAND.o];clear c1 f1;generalize (w1.setCell ⟨g,k,aA⟩ (Z8 .u64 ((x+cc)%C3))).drew=w2 at *;go_wp2;go_roundw
   case rel=>exact⟨k+1,AJ,by go_num,by rw[HCS.o],HS2.o⟩
   case measure=>simp[intOf];omega
  ·obtain rfl:k=5:=AJ
   have HP:AO (PA w g (GS xs 5) wr):=hst;clear hst;go_wp2
   go_ret
   exact⟨rfl,HP.o⟩
theorem Hz (g:Nat) (xs:List Int) (w:aC) (hl:xs.length=5) (hr:Ch w g 138 xs) (hx:Tj xs) :
  Calls tP 154 #[aF (aE ⟨g,0,aA⟩)] w λe w'=>e=aK (.tuple #[])/\PA w g (Cq xs) w':=by
 have hc:=Jn (M:=9223372036854775808) (C:=4096) hx AK AK 5;go_enter func154,ntmps154;go_wp2_with fail;refine(Hy g xs _ hl hr hx).mono ?_;rintro e w1 ⟨rfl,st⟩;have hb:=FF xs 0;have c0:=st.row.cell 0 (by rw[Dn];decide);have f0:=st.row.frozen 0;have HS:AO (PA w g (Cq xs) ((w1.setCell ⟨g,0,aA⟩ (Z8 .u64 ((GS xs 5).getD 0 0+19*Dr C3 xs 5))).drew)):=st.set 0 _;clear st hr hx;generalize (GS xs 5).getD 0 0=y at *;generalize Dr C3 xs 5=c at *;obtain⟨hc0,hc1⟩:=hc;obtain⟨hb0,hb1⟩:=hb;go_wp2
 go_region
 clear c0 f0;generalize (w1.setCell ⟨g,0,aA⟩ (Z8 .u64 (y+19*c))).drew=w2 at *;go_wp2
 go_end0
 exact⟨rfl,HS.o⟩
def Dj (w:aC) (g o:Nat) (es:List Int):Prop:=g<w.heap.size/\Cs es/\∀ i,i<5->w.cell? ⟨g,o+i,aA⟩=aE (Z8 .u64 (es.getD i 0))
theorem Dj.below {w w':aC} {g o:Nat} {es:List Int} (h:Dj w g o es) (hb:Below w.heap.size w w'):Dj w' g o es:=
 ⟨AH hb.size h.1,h.2.1,λi hi=>by rw[hb.cell (p:=⟨g,o+i,aA⟩) h.1];exact h.2.2 i hi⟩
def EP (w:aC) (x:Int) (e:Ending) (w':aC):Prop:=
 ∃ es:List Int,Cs es/\ev es=x/\e=aK (aH (es.map (Value.int .u64)).toArray)/\Below w.heap.size w w'
theorem Tryz.sizeEl:(tP.info? 138).map (·.size)=aE 5:=AM
theorem sizeEl {ns:List Int} (h:ns.length=5):(tP.info? 138).map (·.size)=aE ((ns.map (Value.int .u64)).toArray).size:=by rw[Tryz.sizeEl];simp[h]
def Dv (f:Nat->Int) (zs:List Int) (k:Nat):List Int:=(List.range 5).map λi=>if i<k then f i else zs.getD i 0
theorem Dh (f:Nat->Int) (zs:List Int) (k:Nat):(Dv f zs k).length=5:=by simp[Dv]
theorem Fg (f:Nat->Int) (zs:List Int) (k i:Nat) (h:i<5):(Dv f zs k).getD i 0=if i<k then f i else zs.getD i 0:=O9 _ i h
theorem In (f:Nat->Int) (zs:List Int) (h:zs.length=5):Dv f zs 0=zs:=by
 apply Kg (Dh _ _ _) h;intro i hi;rw[Fg _ _ _ _ hi];simp
theorem Io (f:Nat->Int) (zs:List Int) (k:Nat) (h:k<5):(Dv f zs k).set k (f k)=Dv f zs (k+1):=by
 apply Kg (by simp[Dh]) (Dh _ _ _);intro i hi;rw[Cy _ _ _ _ (by simp[Dh];omega),Fg _ _ _ _ hi,Fg _ _ _ _ hi];by_cases h2:i=k
 ·subst h2;simp
 ·have h3:(i<k)↔(i<k+1):=AJ
  simp[h2,h3]
theorem YD (B:Int) (f:Nat->Int) (zs:List Int):val B (Dv f zs 5)=val B ((List.range 5).map f):=by
 congr 1
theorem SH (B:Int) (f g:Nat->Int) (n:Nat):val B ((List.range n).map λi=>f i-g i)=val B ((List.range n).map f)-val B ((List.range n).map g):=by
 have:=F8 B f g n (-1);rw[show(λi=>f i-g i)=λi=>f i+-1*g i from by funext i;omega,this];omega
structure LQ (w:aC) (zs:List Int) (wr:aC):Prop where
 res:Ch wr w.heap.size 138 [0,0,0,0,0]
 row:Ch wr (w.heap.size+1) 138 zs
 below:Below w.heap.size w wr
theorem LQ.set {w:aC} {zs:List Int} {wr:aC} (h:LQ w zs wr) (k:Nat) (x:Int):LQ w (zs.set k x) ((wr.setCell ⟨w.heap.size+1,k,aA⟩ (Z8 .u64 x)).drew):=
 ⟨((Wr.refl _ _).setCell k _).rowW h.res AJ,h.row.set k x,(h.below.setCell AL _).drew⟩
theorem LQ.carry {w:aC} {zs ys:List Int} {wr w':aC} (h:LQ w zs wr) (hs:PA wr (w.heap.size+1) ys w'):LQ w ys w':=
 ⟨hs.wr.rowW h.res AJ,hs.row,h.below.trans (hs.wr.below AJ)⟩
def Gh (xs ys:List Int):List Int:=Dv (λi=>xs.getD i 0+ys.getD i 0) [0,0,0,0,0] 5
theorem Ud {xs ys:List Int} (hx:Cs xs) (hy:Cs ys):Tj (Gh xs ys)/\Cs (Cq (Gh xs ys))/\ev (Cq (Gh xs ys))=(ev xs+ev ys)%fp:=by
 have hb:∀ i,0<=(Gh xs ys).getD i 0/\(Gh xs ys).getD i 0<4503599627371008:=λi=>by
  by_cases h:i<5
  ·unfold Gh;rw[Fg _ _ _ _ h,AP h];have a0:=hx.2.1 i;have b0:=hy.2.1 i;rcases Nat.eq_zero_or_pos i with rfl|hi
   ·have:=hx.2.2.2;have:=hy.2.2.2;omega
   ·have:=hx.2.2.1 i hi;have:=hy.2.2.1 i hi;omega
  ·rw[DB (by unfold Gh;rw[Dh];omega)];omega
 have hc:=Jn (C:=2) hb AK AK 5;refine⟨λi=>AG (hb i),Im hc.1 AJ,?_⟩;rw[Hg (Gh xs ys) (Dh _ _ _)];unfold ev Gh;rw[YD,DD C3 xs 5 hx.1,DD C3 ys 5 hy.1,<-Int.add_emod]
 congr 1
 have:=F8 C3 (λi=>xs.getD i 0) (λi=>ys.getD i 0) 5 1;rw[show(λi=>xs.getD i 0+ys.getD i 0)=λi=>xs.getD i 0+1*ys.getD i 0 from by funext i;omega,this];omega
def EX:List Int:=[4503599627370458,4503599627370494,4503599627370494,4503599627370494,4503599627370494]
theorem SI:val C3 EX=2*fp:=AK
def Gi (xs ys:List Int):List Int:=Dv (λi=>EX.getD i 0+xs.getD i 0-ys.getD i 0) EX 5
theorem Mi (i:Nat) (h:i<5):4503599627370458<=EX.getD i 0/\EX.getD i 0<=4503599627370494:=by
 have:i=0\/i=1\/i=2\/i=3\/i=4:=AJ
 rcases this with rfl|rfl|rfl|rfl|rfl<;>decide
theorem Ue {xs ys:List Int} (hx:Cs xs) (hy:Cs ys):Tj (Gi xs ys)/\Cs (Cq (Gi xs ys))/\ev (Cq (Gi xs ys))=(ev xs-ev ys)%fp:=by
 have hb:∀ i,0<=(Gi xs ys).getD i 0/\(Gi xs ys).getD i 0<6755399441056000:=λi=>by
  by_cases h:i<5
  ·unfold Gi;rw[Fg _ _ _ _ h,AP h];have a0:=hx.2.1 i;have b0:=hy.2.1 i;have t:=Mi i h;rcases Nat.eq_zero_or_pos i with rfl|hi
   ·have:=hx.2.2.2;have:=hy.2.2.2;omega
   ·have:=hx.2.2.1 i hi;have:=hy.2.2.1 i hi;omega
  ·rw[DB (by unfold Gi;rw[Dh];omega)];omega
 have hc:=Jn (C:=3) hb AK AK 5;refine⟨λi=>AG (hb i),Im hc.1 AJ,?_⟩;rw[Hg (Gi xs ys) (Dh _ _ _)];unfold ev Gi;have e0:=SI;rw[DD C3 EX 5 rfl] at e0;rw[YD,SH C3 (λi=>EX.getD i 0+xs.getD i 0) (λi=>ys.getD i 0) 5];have:=F8 C3 (λi=>EX.getD i 0) (λi=>xs.getD i 0) 5 1;rw[show(λi=>EX.getD i 0+xs.getD i 0)=λi=>EX.getD i 0+1*xs.getD i 0 from by funext i;omega,this,e0,<-DD C3 xs 5 hx.1,<-DD C3 ys 5 hy.1,<-Int.sub_emod];rw[show 2*fp+1*val C3 xs-val C3 ys=(val C3 xs-val C3 ys)+fp*2 by omega,Int.add_mul_emod_self_left]
theorem F0 (g1 o1 g2 o2:Nat) (xs ys:List Int) (w:aC) (h1:Dj w g1 o1 xs) (h2:Dj w g2 o2 ys) :
  Calls tP 140 #[aF (aE ⟨g1,o1,aA⟩),aF (aE ⟨g2,o2,aA⟩)] w (EP w ((ev xs+ev ys)%fp)):=by
 obtain⟨q1,q2,q3⟩:=Ud h1.2.1 h2.2.1;have HQ:AO (Tj (Gh xs ys)/\Cs (Cq (Gh xs ys))/\ev (Cq (Gh xs ys))=(ev xs+ev ys)%fp):=⟨q1,q2,q3⟩
 have HS:AO (LQ w (Dv (λi=>xs.getD i 0+ys.getD i 0) [0,0,0,0,0] 0) ((w.alloc (aJ CQ 138)).alloc (aJ CQ 138))):=by
  rw[In _ _ rfl];exact⟨heap_alloc2_old _ _ _,heap_alloc2_new _ _ _,(Cg.alloc Cl _).alloc AL _⟩
 have H1:AO (Dj w g1 o1 xs):=h1;have H2:AO (Dj w g2 o2 ys):=h2;clear q1 q2 q3 h1 h2;go_enter func140,ntmps140;go_wp2
 go_loopw [7] (λi wr=>∃ k:Nat,k<=5/\i=Z8 aI k/\LQ w (Dv (λi=>xs.getD i 0+ys.getD i 0) [0,0,0,0,0] k) wr) (λi _=>5-(intOf i).toNat)
 case atStart=>exact⟨0,AK,rfl,HS.o⟩
 case round=>
  clear HS;obtain⟨k,hk,rfl,hst⟩:=hrel;by_cases hlt:k<5
  ·have hlt':(k:Int)<5:=AJ
   have c1:=(H1.o.below hst.below).2.2 k hlt;have c2:=(H2.o.below hst.below).2.2 k hlt;have a0:=H1.o.2.1.2.1 k;have b0:=H2.o.2.1.2.1 k;have ab:xs.getD k 0<2251799813685504:=by
    rcases Nat.eq_zero_or_pos k with rfl|hi
    ·exact H1.o.2.1.2.2.2
    ·have:=H1.o.2.1.2.2.1 k hi;omega
   have bb:ys.getD k 0<2251799813685504:=by
    rcases Nat.eq_zero_or_pos k with rfl|hi
    ·exact H2.o.2.1.2.2.2
    ·have:=H2.o.2.1.2.2.1 k hi;omega
   have c3:=hst.row.cell k (by rw[Dh];exact hlt);have f3:=hst.row.frozen k;have s1:=hst.set k (xs.getD k 0+ys.getD k 0);rw[Io (λi=>xs.getD i 0+ys.getD i 0) _ k hlt] at s1;have HS1:AO (LQ w (Dv (λi=>xs.getD i 0+ys.getD i 0) [0,0,0,0,0] (k+1)) ((wr.setCell ⟨w.heap.size+1,k,aA⟩ (Z8 .u64 (xs.getD k 0+ys.getD k 0))).drew)):=s1;clear s1 hst;generalize (Dv (λi=>xs.getD i 0+ys.getD i 0) [0,0,0,0,0] k).getD k 0=z at *;generalize xs.getD k 0=x at *;generalize ys.getD k 0=y at *;go_wp2
   go_region
   clear c1 c2 c3 f3;generalize (wr.setCell ⟨w.heap.size+1,k,aA⟩ (Z8 .u64 (x+y))).drew=w1 at *;go_wp2;go_roundw
   case rel=>exact⟨k+1,AJ,by go_num,HS1.o⟩
   case measure=>simp[intOf];omega
  ·obtain rfl:k=5:=AJ
   go_wp2_with fail;refine(Hz _ (Gh xs ys) _ (Dh _ _ _) hst.row HQ.o.1).mono ?_;rintro e w1 ⟨rfl,hs⟩;have s1:=hst.carry hs;have hl:=HQ.o.2.1.1;have HSZ:AO ((tP.info? 138).map (·.size)=aE (((Cq (Gh xs ys)).map (Value.int .u64)).toArray).size):=sizeEl hl;have HZ4:AO (([0,0,0,0,0].map (Value.int .u64)).toArray.size=(((Cq (Gh xs ys)).map (Value.int .u64)).toArray).size):=by show _=_;simp[hl]
   have HRS:AO (Ch w1 w.heap.size 138 [0,0,0,0,0]):=s1.res;have HRO:AO (Ch w1 (w.heap.size+1) 138 (Cq (Gh xs ys))):=s1.row;have HBE:AO (Below w.heap.size w w1):=s1.below;clear s1 hs hst hl;generalize Cq (Gh xs ys)=es at *;go_wp2_with (first
    |(refine Ae rfl 138 (aM 5) rfl (w.heap.size+1) rfl 138 _ (0,0) _ HRO.o underlying138 rfl HSZ.o ?_)
    |(refine AE 138 (aM 4) (aM 25) w.heap.size ((es.map (Value.int .u64)).toArray) 138 HRS.o HSZ.o HZ4.o (all_oneCell_toArray (Aw _ _)) ?_))
   refine Ab (v:=aH (es.map (Value.int .u64)).toArray) (Ah rfl _ _ w.heap.size 138 _ (0,0) _ rfl (AB HRS.o) underlying138 rfl HSZ.o) rfl ⟨es,HQ.o.2.1,HQ.o.2.2,rfl,?_⟩;exact HBE.o.trans ((Wr.setRow _ _ _).below Cl)
theorem FR (g1 o1 g2 o2:Nat) (xs ys:List Int) (w:aC) (h1:Dj w g1 o1 xs) (h2:Dj w g2 o2 ys) :
  Calls tP 139 #[aF (aE ⟨g1,o1,aA⟩),aF (aE ⟨g2,o2,aA⟩)] w (EP w ((ev xs-ev ys)%fp)):=by
 obtain⟨q1,q2,q3⟩:=Ue h1.2.1 h2.2.1;have HQ:AO (Tj (Gi xs ys)/\Cs (Cq (Gi xs ys))/\ev (Cq (Gi xs ys))=(ev xs-ev ys)%fp):=⟨q1,q2,q3⟩
 have H1:AO (Dj w g1 o1 xs):=h1;have H2:AO (Dj w g2 o2 ys):=h2;clear q1 q2 q3 h1 h2;go_enter func139,ntmps139;have HR0:AO (Ch ((w.alloc (aJ CQ 138)).alloc (aJ CQ 138)) w.heap.size 138 [0,0,0,0,0]):=heap_alloc2_old _ _ _;have HBB:AO (Below w.heap.size w ((w.alloc (aJ CQ 138)).alloc (aJ CQ 138))):=(Cg.alloc Cl _).alloc AL _;have HR1:AO (Ch ((w.alloc (aJ CQ 138)).alloc (aJ CQ 138)) (w.heap.size+1) 138 [0,0,0,0,0]):=heap_alloc2_new _ _ _;have HSZ:AO ((tP.info? 138).map (·.size)=aE ((EX.map (Value.int .u64)).toArray).size):=sizeEl rfl;go_wp2_with (first
  |(refine AE 138 (aM 5) (aM 7) (w.heap.size+1) ((EX.map (Value.int .u64)).toArray) 138 HR1.o HSZ.o rfl (all_oneCell_toArray (Aw _ _)) ?_)
  |fail)
 have HS:AO (LQ w (Dv (λi=>EX.getD i 0+xs.getD i 0-ys.getD i 0) EX 0) (((w.alloc (aJ CQ 138)).alloc (aJ CQ 138)).setRow (w.heap.size+1) (EX.map (Value.int .u64)).toArray)):=by
  rw[In _ _ rfl];have r0:=HR0.o;have r1:=HR1.o;have bb:=HBB.o;generalize (w.alloc (aJ CQ 138)).alloc (aJ CQ 138)=wz at *;exact⟨r0.setRow_other _ AJ,r1.setRow EX,bb.trans ((Wr.setRow _ _ _).below AJ)⟩
 clear HR0 HR1 HSZ HBB;generalize ((w.alloc (aJ CQ 138)).alloc (aJ CQ 138)).setRow (w.heap.size+1) (EX.map (Value.int .u64)).toArray=w0 at *
 go_loopw [8] (λi wr=>∃ k:Nat,k<=5/\i=Z8 aI k/\LQ w (Dv (λi=>EX.getD i 0+xs.getD i 0-ys.getD i 0) EX k) wr) (λi _=>5-(intOf i).toNat)
 case atStart=>exact⟨0,AK,rfl,HS.o⟩
 case round=>
  clear HS;obtain⟨k,hk,rfl,hst⟩:=hrel;by_cases hlt:k<5
  ·have hlt':(k:Int)<5:=AJ
   have c1:=(H1.o.below hst.below).2.2 k hlt;have c2:=(H2.o.below hst.below).2.2 k hlt;have a0:=H1.o.2.1.2.1 k;have b0:=H2.o.2.1.2.1 k;have ab:xs.getD k 0<2251799813685504:=by
    rcases Nat.eq_zero_or_pos k with rfl|hi
    ·exact H1.o.2.1.2.2.2
    ·have:=H1.o.2.1.2.2.1 k hi;omega
   have bb:ys.getD k 0<2251799813685504:=by
    rcases Nat.eq_zero_or_pos k with rfl|hi
    ·exact H2.o.2.1.2.2.2
    ·have:=H2.o.2.1.2.2.1 k hi;omega
   have c3:=hst.row.cell k (by rw[Dh];exact hlt);have f3:=hst.row.frozen k;have ht:=Mi k hlt;have hz:(Dv (λi=>EX.getD i 0+xs.getD i 0-ys.getD i 0) EX k).getD k 0=EX.getD k 0:=by rw[Fg _ _ _ _ hlt];simp
   rw[hz] at c3;have s1:=hst.set k (EX.getD k 0+xs.getD k 0-ys.getD k 0);rw[Io (λi=>EX.getD i 0+xs.getD i 0-ys.getD i 0) _ k hlt] at s1;have HS1:AO (LQ w (Dv (λi=>EX.getD i 0+xs.getD i 0-ys.getD i 0) EX (k+1)) ((wr.setCell ⟨w.heap.size+1,k,aA⟩ (Z8 .u64 (EX.getD k 0+xs.getD k 0-ys.getD k 0))).drew)):=s1;have HW:AO (IntKind.u64.wrap (EX.getD k 0+IntKind.u64.wrap (xs.getD k 0-ys.getD k 0))=EX.getD k 0+xs.getD k 0-ys.getD k 0):=by
    show _=_
    rw[IntKind.wrap_u64,IntKind.wrap_u64];omega
   clear s1 hst hz;obtain⟨ht0,ht1⟩:=ht;generalize EX.getD k 0=z at *;generalize xs.getD k 0=x at *;generalize ys.getD k 0=y at *;go_wp2
   go_region
   rw[HW.o];clear c1 c2 c3 f3;generalize (wr.setCell ⟨w.heap.size+1,k,aA⟩ (Z8 .u64 (z+x-y))).drew=w1 at *;go_wp2;go_roundw
   case rel=>exact⟨k+1,AJ,by go_num,HS1.o⟩
   case measure=>simp[intOf];omega
  ·obtain rfl:k=5:=AJ
   go_wp2_with fail;refine(Hz _ (Gi xs ys) _ (Dh _ _ _) hst.row HQ.o.1).mono ?_;rintro e w1 ⟨rfl,hs⟩;have s1:=hst.carry hs;have hl:=HQ.o.2.1.1;have HSZ:AO ((tP.info? 138).map (·.size)=aE (((Cq (Gi xs ys)).map (Value.int .u64)).toArray).size):=sizeEl hl;have HZ4:AO (([0,0,0,0,0].map (Value.int .u64)).toArray.size=(((Cq (Gi xs ys)).map (Value.int .u64)).toArray).size):=by show _=_;simp[hl]
   have HRS:AO (Ch w1 w.heap.size 138 [0,0,0,0,0]):=s1.res;have HRO:AO (Ch w1 (w.heap.size+1) 138 (Cq (Gi xs ys))):=s1.row;have HBE:AO (Below w.heap.size w w1):=s1.below;clear s1 hs hst hl;generalize Cq (Gi xs ys)=es at *;go_wp2_with (first
    |(refine Ae rfl 138 (aM 5) rfl (w.heap.size+1) rfl 138 _ (0,0) _ HRO.o underlying138 rfl HSZ.o ?_)
    |(refine AE 138 (aM 4) (aM 29) w.heap.size ((es.map (Value.int .u64)).toArray) 138 HRS.o HSZ.o HZ4.o (all_oneCell_toArray (Aw _ _)) ?_))
   refine Ab (v:=aH (es.map (Value.int .u64)).toArray) (Ah rfl _ _ w.heap.size 138 _ (0,0) _ rfl (AB HRS.o) underlying138 rfl HSZ.o) rfl ⟨es,HQ.o.2.1,HQ.o.2.2,rfl,?_⟩;exact HBE.o.trans ((Wr.setRow _ _ _).below Cl)
end Go.Proofs.YtjdhhgaelgemcaaGreatDoor
namespace Go.Proofs.YtjdhhgaelgemcaaGreatDoor
open Go.ChangeShapes Go.WideShapes Go.ChangeAt Go.RowKit Go.Shelf Go.Lib
set_option linter.unusedVariables false
theorem QH (x y:Nat) (hx:x<18446744073709551616) (hy:y<18446744073709551616) (w:aC) :
  Calls tP 165 #[Z8 .u64 x,Z8 .u64 y] w λe w'=>e=aK (.tuple #[Z8 .u64 ((x*y/18446744073709551616:Nat):Int),Z8 .u64 ((x*y%18446744073709551616:Nat):Int)])/\w'=w:=by
 obtain⟨b1,b2,b3,hhi⟩:=Lib.mul64_hi x y hx hy;have p1:=Lib.half_mul_le (a:=x/4294967296) (b:=y/4294967296) AJ AJ;have p2:=Lib.half_mul_le (a:=x/4294967296) (b:=y%4294967296) AJ AJ;have p3:=Lib.half_mul_le (a:=x%4294967296) (b:=y/4294967296) AJ AJ;have q1:x/4294967296*(y/4294967296)<18446744073709551616:=AJ
 have q2:x/4294967296*(y%4294967296)<18446744073709551616:=AJ
 have q3:x%4294967296*(y/4294967296)<18446744073709551616:=AJ
 have q4:x/4294967296*(y/4294967296)+(x/4294967296*(y%4294967296)+x%4294967296*(y%4294967296)/4294967296)/4294967296<18446744073709551616:=AJ
 have q5:x/4294967296*(y/4294967296)+(x/4294967296*(y%4294967296)+x%4294967296*(y%4294967296)/4294967296)/4294967296+((x/4294967296*(y%4294967296)+x%4294967296*(y%4294967296)/4294967296)%4294967296+x%4294967296*(y/4294967296))/4294967296<18446744073709551616:=AJ
 go_enter func165,ntmps165;go_wp2;simp only[Mul64.maskN x hx,Mul64.maskN y hy,Mul64.divN,Mul64.mulN,Mul64.addN,Mul64.wrapN _ b1,Mul64.wrapN _ q2,Mul64.wrapN _ b2,Mul64.maskN _ b2,Mul64.wrapN _ q3,Mul64.wrapN _ b3,Mul64.wrapN _ q1,Mul64.wrapN _ q4,Mul64.wrapN _ q5,Mul64.wrapM (x*y)];rw[hhi]
 go_ret2
 exact⟨rfl,rfl⟩
theorem QI (x y:Int) (hx:0<=x) (hx':x<18446744073709551616) (hy:0<=y) (hy':y<18446744073709551616) (w:aC) :
  Calls tP 165 #[Z8 .u64 x,Z8 .u64 y] w λe w'=>e=aK (.tuple #[Z8 .u64 (x*y/18446744073709551616),Z8 .u64 (x*y%18446744073709551616)])/\w'=w:=by
 obtain⟨x,rfl⟩:=Aj hx;obtain⟨y,rfl⟩:=Aj hy;refine(QH x y AJ AJ w).mono ?_;rintro e w' ⟨rfl,rfl⟩;refine⟨?_,rfl⟩;rw[Int.natCast_ediv,Int.natCast_emod,Int.natCast_mul];rfl
def SJ:Array aB->Sem aB:=λargs=>do
 let (x, y, c) ← Extern.MathBitsCarry.three "Add64" args
 pure (Extern.MathBitsCarry.pair ((x+y+c)%Extern.MathBitsCarry.m64) ((x+y+c)/Extern.MathBitsCarry.m64))
theorem Nt (x y:Nat) (w:aC) :
  (SJ #[Z8 .u64 x,Z8 .u64 y,Z8 .u64 0]).run tP w=
   .ok (.tuple #[Z8 .u64 (((x+y)%18446744073709551616:Nat):Int),Z8 .u64 (((x+y)/18446744073709551616:Nat):Int)]) w:=rfl
theorem Uf (x y:Int) (hx:0<=x) (hy:0<=y) (w:aC):(callFunc 166 #[Z8 .u64 x,Z8 .u64 y,Z8 .u64 0]).run tP w=
  .ok (.value (.tuple #[Z8 .u64 ((x+y)%18446744073709551616),Z8 .u64 ((x+y)/18446744073709551616)])) w:=by
 obtain⟨x,rfl⟩:=Aj hx;obtain⟨y,rfl⟩:=Aj hy;have e1:(((x+y)%18446744073709551616:Nat):Int)=((x:Int)+y)%18446744073709551616:=AJ
 have e2:(((x+y)/18446744073709551616:Nat):Int)=((x:Int)+y)/18446744073709551616:=AJ
 rw[run_callFunc_extern func166 AM AM AM (e:=SJ) AM,Nt x y,e1,e2];rfl
structure YE (w:aC) (g:Nat) (S:Int) (wr:aC):Prop where
 row:wr.heap[g]?=aE (aJ #[Z8 .u64 (S/18446744073709551616),Z8 .u64 (S%18446744073709551616)] 204 (0,0))
 wr:Wr g w wr
theorem Mj (g:Nat) (S a b:Int) (w:aC) (hS:0<=S) (hr:w.heap[g]?=aE (aJ #[Z8 .u64 (S/18446744073709551616),Z8 .u64 (S%18446744073709551616)] 204 (0,0))) (ha:0<=a) (ha':a<18446744073709551616) (hb:0<=b) (hb':b<18446744073709551616) (hT:S+a*b<340282366920938463463374607431768211456) :
  Calls tP 153 #[aF (aE ⟨g,0,aA⟩),Z8 .u64 a,Z8 .u64 b] w λe w'=>e=aK (.tuple #[])/\YE w g (S+a*b) w':=by
 obtain⟨p,hp⟩:∃ p,p=a*b:=⟨_,rfl⟩
 have hp0:0<=p:=by rw[hp];exact Int.mul_nonneg ha hb
 have M:=QI a b ha ha' hb hb';rw[<-hp] at M hT |-;clear hp;have c0:w.cell? ⟨g,0,aA⟩=aE (Z8 .u64 (S/18446744073709551616)):=AA hr _;have c1:w.cell? ⟨g,1,aA⟩=aE (Z8 .u64 (S%18446744073709551616)):=AA hr _;have f0:=Ar w g 0 _ _ hr;have f1:=Ar w g 1 _ _ hr;have r1:=A8 w g 1 _ 204 (Z8 .u64 ((S%18446744073709551616+p%18446744073709551616)%18446744073709551616)) hr;have r2:=A8 _ g 0 _ 204 (Z8 .u64 (S/18446744073709551616+(p/18446744073709551616+(S%18446744073709551616+p%18446744073709551616)/18446744073709551616))) r1;have HP:AO (YE w g (S+p) ((w.setCell ⟨g,1,aA⟩ (Z8 .u64 ((S%18446744073709551616+p%18446744073709551616)%18446744073709551616))).setCell ⟨g,0,aA⟩ (Z8 .u64 (S/18446744073709551616+(p/18446744073709551616+(S%18446744073709551616+p%18446744073709551616)/18446744073709551616))))):=by
  refine⟨?_,((Wr.refl _ _).setCell 1 _).setCell 0 _⟩;rw[r2];have e1:(S+p)/18446744073709551616=S/18446744073709551616+(p/18446744073709551616+(S%18446744073709551616+p%18446744073709551616)/18446744073709551616):=AJ
  have e2:(S+p)%18446744073709551616=(S%18446744073709551616+p%18446744073709551616)%18446744073709551616:=AJ
  rw[e1,e2];rfl
 have b0:0<=S/18446744073709551616:=AJ
 have b1:0<=S%18446744073709551616:=AJ
 have b2:0<=p/18446744073709551616:=AJ
 have b3:0<=p%18446744073709551616:=AJ
 have b4:S/18446744073709551616+(p/18446744073709551616+(S%18446744073709551616+p%18446744073709551616)/18446744073709551616)<18446744073709551616:=AJ
 have b5:S%18446744073709551616<18446744073709551616:=AJ
 have b6:p%18446744073709551616<18446744073709551616:=AJ
 clear r1 r2 hr hT;generalize S/18446744073709551616=hi at *;generalize S%18446744073709551616=lo at *;generalize p/18446744073709551616=ph at *;generalize p%18446744073709551616=pl at *;go_enter func153,ntmps153;go_wp2_with fail;refine(M _).mono ?_;rintro e w1 ⟨rfl,rfl⟩;clear M;go_wp2_with (simp only[Uf lo pl b1 b3])
 go_end0
 exact⟨rfl,HP.o⟩
end Go.Proofs.YtjdhhgaelgemcaaGreatDoor
namespace Go.Proofs.YtjdhhgaelgemcaaGreatDoor
open Go.ChangeShapes Go.WideShapes Go.ChangeAt Go.RowKit
set_option linter.unusedVariables false
section
variable {P:Program} {ops:Array Oper} {Q:Exit->Act->aC->Prop} {md:Region.Mode}
theorem Ic (M:Nat->aC->aC->Prop) (frame:(Nat->aB)->Act) (Ext:(Nat->Bool)->aC->Prop) (Good:Nat->(Nat->Bool)->aC->aB->Prop)
  (hstab:∀ j L w w' i v,M i w w'->i≠j->L i=false->Good j L w v->Good j (Cf L i) w' v)
  (hguard:ops.all (λo=>o.guard.isNone)=true)
  (hback:(List.range ops.size).all (λi=>((ops[i]?).map (λo=>o.after.all (λe=>decide (e.on<i)))).getD false)=true)
  (hop:∀(i:Nat) (o:Oper) (L:Nat->Bool) (u:Nat->aB) (w:aC),ops[i]?=aE o->L i=false->Ext L w->(∀ e∈o.after,Region.binds md e=true->Good e.on L w (u e.on))->
   ∀ K:Act->aC->Prop,(∀ w' v,Good i (Cf L i) w' v->Ext (Cf L i) w'->M i w w'->K (frame (Ce u i v)) w')->Oper.wp P o (frame u) w K Q)
  (hdone:∀ L u w,Ext L w->(∀ i,i<ops.size->Good i L w (u i))->Q .normal (frame u) w) :
  ∀(fuel:Nat) (listed:Array Bool) (u:Nat->aB) (w:aC),listed.size=ops.size->Ext (λn=>listed.getD n false) w->(∀ i,i<ops.size->listed.getD i false=true->Good i (λn=>listed.getD n false) w (u i))->
   (listed.toList.filter (!·)).length<=fuel->wpAny P md ops Q fuel listed (frame u) w:=by
 have hb:∀(i:Nat) (o:Oper),ops[i]?=aE o->∀ e∈o.after,e.on<i:=λi o ho e he=>by
  have hi:i<ops.size:=(AR.1 ho).1;have:=BI.1 hback i (BF.2 hi);rw[ho] at this;simp at this;obtain⟨k,hk,rfl⟩:=BZ.1 he;exact this k hk
 have hg:∀(i:Nat) (o:Oper),ops[i]?=aE o->o.guard=none:=λi o ho=>by
  have:=Array.all_eq_true_iff_forall_mem.1 hguard o (Array.mem_of_getElem? ho);simpa using this
 have hfin:∀(listed:Array Bool) (u:Nat->aB) (w:aC),listed.size=ops.size->Ext (λn=>listed.getD n false) w->(∀ i,i<ops.size->listed.getD i false=true->Good i (λn=>listed.getD n false) w (u i))->Region.ready md ops listed=[]->Q .normal (frame u) w:=by
  intro listed u w hs he hgd hr;refine hdone _ u w he λi hi=>hgd i hi ?_
  have hall:∀ n i,i<n->i<ops.size->listed.getD i false=true:=by
   intro n
   induction n with
   |zero=>intro i h;omega
   |succ n ih=>
    intro i hin hi;by_cases hlt:i<n
    ·exact ih i hlt hi
    ·cases hl:listed.getD i false with
     |true=>rfl
     |false=>
      exfalso
      have hl':listed.getD i true=false:=by
       have hil:i<listed.size:=AJ
       simp[hil] at hl |-;exact hl
      have:i∈Region.ready md ops listed:=Cz.2 ⟨hi,hl',ops[i],by simp[hi],λe hee _=>ih e.on (by have:=hb i ops[i] (by simp[hi]) e hee;omega) (by have:=hb i ops[i] (by simp[hi]) e hee;omega)⟩;rw[hr] at this;cases this
  exact hall (i+1) i AJ hi
 intro fuel
 induction fuel with
 |zero=>
  intro listed u w hs he hgd hc;have hr:Region.ready md ops listed=[]:=by
   apply BN.2;intro i hi;obtain⟨h1,h2,_⟩:=Cz.1 hi;have hil:i<listed.size:=AJ
   have h3:listed[i]=false:=by simpa[hil] using h2
   have:listed[i]∈listed.toList.filter (!·):=by
    rw[Be];exact⟨AL,by rw[h3];rfl⟩
   have:=Bm this;omega
  exact⟨hr,hfin listed u w hs he hgd hr⟩
 |succ fuel ih=>
  intro listed u w hs he hgd hc;refine⟨λhr=>hfin listed u w hs he hgd hr,λi hi=>?_⟩;obtain⟨h1,h2,o,ho,h3⟩:=Cz.1 hi;refine wpOp_step ho λK hK=>?_
  have hw:Region.wanted o (yielded ops (frame u).tmps)=true:=by simp[Region.wanted,hg i o ho]
  rw[AP hw];have hil:i<listed.size:=AJ
  have hnl:listed.getD i false=false:=by simp[hil] at h2 |-;exact h2
  have hupd:(λn=>(listed.setIfInBounds i true).getD n false)=Cf (λn=>listed.getD n false) i:=by
   funext n;rw[DV listed i n hil];rfl
  refine hop i o (λn=>listed.getD n false) u w ho hnl he (λe hee hbd=>hgd e.on (AG (hb i o ho e hee)) (h3 e hee hbd)) K λw' v hgv hext hm=>hK _ _ ?_
  refine ih _ _ w' (by simpa using hs) (by rw[hupd];exact hext) (λj hj hlj=>?_) ?_
  ·rw[DV listed i j hil] at hlj;unfold Ce;by_cases hji:j=i
   ·subst hji;rw[hupd];simpa using hgv
   ·rw[AQ hji] at hlj;rw[AQ hji,hupd];exact hstab j _ w w' i _ hm (BA hji) hnl (hgd j hj hlj)
  ·have:listed.toList[i]?=aE false:=by simp[hil] at h2;simp[hil,h2]
   have:=Eo listed.toList i this;rw[Bc];omega
end
end Go.Proofs.YtjdhhgaelgemcaaGreatDoor
namespace Go.Proofs.YtjdhhgaelgemcaaGreatDoor
set_option linter.unusedVariables false
def YF (xs:List Int):Prop:=∀ i,0<=xs.getD i 0/\xs.getD i 0<9223372036854775808
/-! Products of elements. -/
def Vu (a b:List Int) (i:Nat):Int:=cs a b i (i+1)
def Vv (a b:List Int) (i:Nat):Int:=cs a b (5+i) 5
def tl (a b:List Int):List Int:=(List.range 5).map λi=>Vu a b i+19*Vv a b i
theorem SK (a b:List Int):(tl a b).length=5:=by simp[tl]
theorem Nu (a b:List Int) (i:Nat) (h:i<5):(tl a b).getD i 0=Vu a b i+19*Vv a b i:=O9 _ i h
theorem SL {a b:List Int} (ha:a.length=5) (s:Nat) (d:Nat):cs a b s (5+d)=cs a b s 5:=by
 induction d with
 |zero=>rfl
 |succ d ih=>rw[<-Ax,cs,ih,DB (xs:=a) AJ];omega
theorem Mk {b:List Int} (a:List Int) (hb:b.length=5) (i n:Nat) (h:n<=i+1):cs a b (5+i) n=0:=by
 induction n with
 |zero=>rfl
 |succ n ih=>rw[cs,ih AJ,DB (xs:=b) AJ];omega
theorem We (a b:List Int) (ha:a.length=5) (hb:b.length=5):∃ H,val C3 (tl a b)=val C3 a*val C3 b-H*fp:=by
 have e1:=OO C3 (E0 a b) (5+5) (AG (Lp a b));rw[KI,Lo] at e1;refine⟨val C3 ((List.range 5).map λi=>(E0 a b).getD (5+i) 0),?_⟩;have e2:tl a b=(List.range 5).map λi=>(E0 a b).getD i 0+19*(E0 a b).getD (5+i) 0:=by
  unfold tl Vu Vv
  congr 1;funext i
  rw[IG,IG,show 5+i+1=5+(1+i) by omega,SL ha]
 rw[e2,F8 C3 (λi=>(E0 a b).getD i 0) (λi=>(E0 a b).getD (5+i) 0) 5 19,<-e1];have:(C3:Int)^5=fp+19:=AK
 rw[this];generalize val C3 (List.map (λi=>(E0 a b).getD i 0) (List.range 5))=p;generalize val C3 (List.map (λi=>(E0 a b).getD (5+i) 0) (List.range 5))=q
 grind
theorem YG (a b:List Int) (ha:a.length=5) (hb:b.length=5):ev (tl a b)=ev a*ev b%fp:=by
 obtain⟨H,e⟩:=We a b ha hb;unfold ev;rw[e,<-Int.mul_emod];have:val C3 a*val C3 b-H*fp=val C3 a*val C3 b+fp*(-H):=by grind
 rw[this,Int.add_mul_emod_self_left]
theorem Cs.bd {a:List Int} (h:Cs a):Bd 2251799813685504 a/\∀ i,0<=a.getD i 0:=by
 refine⟨λi=>?_,h.2.1⟩;have h0:=h.2.1 i;rcases Nat.eq_zero_or_pos i with rfl|hi
 ·have:=h.2.2.2;omega
 ·have:=h.2.2.1 i hi;omega
theorem QJ {a b:List Int} (ha:∀ i,0<=a.getD i 0) (hb:∀ i,0<=b.getD i 0) (s n:Nat):0<=cs a b s n:=by
 induction n with
 |zero=>exact Int.le_refl 0
 |succ n ih=>rw[cs];have:=Int.mul_nonneg (ha n) (hb (s-n));omega
theorem Vw {a b:List Int} (ha:Cs a) (hb:Cs b):(∀ s n,n<=5->0<=cs a b s n/\cs a b s n<=40564819207303340847894502572032)/\(∀ i,0<=(tl a b).getD i 0/\(tl a b).getD i 0<=811296384146066816957890051440640)/\(∀ i,0<=Dr C3 (tl a b) i/\Dr C3 (tl a b) i<=1152921504606846976)/\Dr C3 (tl a b) 5<=36028797018963968:=by
 have h1:∀ s n,n<=5->0<=cs a b s n/\cs a b s n<=40564819207303340847894502572032:=λs n hn=>by
  have h:=(OP ha.bd.1 hb.bd.1 AK s n).2;have h0:=QJ ha.2.1 hb.2.1 s n;refine⟨h0,?_⟩;have hn':(n:Int)<=5:=AJ
  have:=Int.mul_le_mul_of_nonneg_right hn' (show(0:Int)<=2251799813685504*2251799813685504 by decide);have e:(5:Int)*(2251799813685504*2251799813685504)<=40564819207303340847894502572032:=AK
  omega
 have h2:∀ i,0<=(tl a b).getD i 0/\(tl a b).getD i 0<=811296384146066816957890051440640:=λi=>by
  by_cases h:i<5
  ·rw[Nu _ _ _ h];unfold Vu Vv;have p:=h1 i (i+1) AJ;have q:=h1 (5+i) 5 AJ;omega
  ·rw[DB (by rw[SK];omega)];omega
 have h3:∀ i,0<=Dr C3 (tl a b) i/\Dr C3 (tl a b) i<=1152921504606846976:=λi=>Jn (M:=811296384146066816957890051440641) (C:=1152921504606846976) (λi=>AG (h2 i)) AK AK i
 refine⟨h1,h2,h3,?_⟩;have h4:(tl a b).getD 4 0<=40564819207303340847894502572032:=by
  rw[Nu _ _ _ AK];have:Vv a b 4=0:=Mk a hb.1 4 5 AK;rw[this];unfold Vu;have:=h1 4 (4+1) AK;omega
 have h5:=h3 4;show((tl a b).getD 4 0+Dr C3 (tl a b) 4)/C3<=_
 unfold C3 at *;omega
theorem SM {a b:List Int} (ha:Cs a) (hb:Cs b):YF (Cq (tl a b))/\Cs (Cq (Cq (tl a b)))/\ev (Cq (Cq (tl a b)))=ev a*ev b%fp:=by
 obtain⟨h1,h2,h3,h4⟩:=Vw ha hb;have g5:=h3 5;have hb1:∀ i,0<=(Cq (tl a b)).getD i 0/\(Cq (tl a b)).getD i 0<1152921504606846976/\(1<=i->(Cq (tl a b)).getD i 0<2251799813685248):=λi=>by
  unfold Cq;have s:=FF (tl a b) i;have s0:=FF (tl a b) 0;rw[Cy _ _ _ _ (by rw[Dn];decide)];split<;>omega
 refine⟨λi=>AG (hb1 i),Im ?_ ?_,?_⟩
 ·exact Ns (λi=>(hb1 i).1) 5
 ·have c1:=(hb1 0);have c2:=(hb1 1);have c3:=hb1 2;have c4:=hb1 3;have c5:=hb1 4;simp only[Dr];unfold C3;omega
 ·rw[Hg _ (Hx _),Hg _ (SK _ _),YG _ _ ha.1 hb.1]
end Go.Proofs.YtjdhhgaelgemcaaGreatDoor
namespace Go.Proofs.YtjdhhgaelgemcaaGreatDoor
open Go.ChangeShapes Go.WideShapes Go.ChangeAt Go.RowKit
set_option linter.unusedVariables false
def Dz (xs ys:List Int) (i:Nat):Int:=((tl xs ys).getD i 0+Dr C3 (tl xs ys) i)%C3
theorem SN (xs ys:List Int):Dv (Dz xs ys) [0,0,0,0,0] 5=GS (tl xs ys) 5:=by
 apply Kg (Dh _ _ _) (Dn _ _);intro i hi;rw[Fg _ _ _ _ hi,AP hi,GJ _ _ _ hi];unfold Mh Dz;rw[AP hi]
structure J4 (w:aC) (zs:List Int) (G:Nat) (S:Int) (wr:aC):Prop where
 pl:LQ w zs wr
 sum:wr.heap[G]?=aE (aJ #[Z8 .u64 (S/18446744073709551616),Z8 .u64 (S%18446744073709551616)] 204 (0,0))
 hG:w.heap.size+1<G
theorem J4.drew {w:aC} {zs:List Int} {G:Nat} {S:Int} {wr:aC} (h:J4 w zs G S wr):J4 w zs G S wr.drew:=
 ⟨⟨h.pl.res,h.pl.row,h.pl.below.drew⟩,h.sum,h.hG⟩
theorem J4.add {w:aC} {zs:List Int} {G:Nat} {S S':Int} {wr w':aC} (h:J4 w zs G S wr) (hs:YE wr G S' w'):J4 w zs G S' w':=
 ⟨⟨hs.wr.rowW h.pl.res (AG h.hG),hs.wr.rowW h.pl.row (AG h.hG),h.pl.below.trans (hs.wr.below (AG h.hG))⟩,hs.row,h.hG⟩
theorem Ct (g1 o1 g2 o2:Nat) (xs ys:List Int) (w:aC) (h1:Dj w g1 o1 xs) (h2:Dj w g2 o2 ys) :
  Calls tP 128 #[aF (aE ⟨g1,o1,aA⟩),aF (aE ⟨g2,o2,aA⟩)] w (EP w (ev xs*ev ys%fp)):=by
 obtain⟨q1,q2,q3⟩:=SM h1.2.1 h2.2.1;obtain⟨t1,t2,t3,t4⟩:=Vw h1.2.1 h2.2.1;have HQ:AO (YF (Cq (tl xs ys))/\Cs (Cq (Cq (tl xs ys)))/\ev (Cq (Cq (tl xs ys)))=ev xs*ev ys%fp):=⟨q1,q2,q3⟩
 have HT1:AO (∀ s n,n<=5->0<=cs xs ys s n/\cs xs ys s n<=40564819207303340847894502572032):=t1;have HT3:AO (∀ i,0<=Dr C3 (tl xs ys) i/\Dr C3 (tl xs ys) i<=1152921504606846976):=t3;have HT4:AO (Dr C3 (tl xs ys) 5<=36028797018963968):=t4;have HS:AO (LQ w (Dv (Dz xs ys) [0,0,0,0,0] 0) ((w.alloc (aJ CQ 138)).alloc (aJ CQ 138))):=by
  rw[In _ _ rfl];exact⟨heap_alloc2_old _ _ _,heap_alloc2_new _ _ _,(Cg.alloc Cl _).alloc AL _⟩
 have HL:AO (w.heap.size+1<((w.alloc (aJ CQ 138)).alloc (aJ CQ 138)).heap.size):=by show _<_;simp
 have H1:AO (Dj w g1 o1 xs):=h1;have H2:AO (Dj w g2 o2 ys):=h2;have hy5:=h2.2.1.1;have HY5:AO (ys.length=5):=hy5;clear q1 q2 q3 t1 t2 t3 t4 h1 h2 hy5;go_enter func128,ntmps128;go_wp2
 go_loopw [6,11] (λv i wr=>∃ k:Nat,k<=5/\i=Z8 aI k/\v=Z8 .u64 (Dr C3 (tl xs ys) k)/\LQ w (Dv (Dz xs ys) [0,0,0,0,0] k) wr/\w.heap.size+1<wr.heap.size) (λ_ i _=>5-(intOf i).toNat)
 case atStart=>exact⟨0,AK,rfl,rfl,HS.o,HL.o⟩
 case round=>
  clear HS HL;obtain⟨k,hk,rfl,rfl,hst,hlz⟩:=hrel;by_cases hlt:k<5
  ·have hlt':(k:Int)<5:=AJ
   obtain⟨hc0,hc1⟩:=HT3.o k;have hst2:J4 w (Dv (Dz xs ys) [0,0,0,0,0] k) wr.heap.size (Dr C3 (tl xs ys) k) (wr.alloc (aJ #[Z8 .u64 0,Z8 .u64 (Dr C3 (tl xs ys) k)] 204)):=by
    have b0:Below wr.heap.size wr (wr.alloc (aJ #[Z8 .u64 0,Z8 .u64 (Dr C3 (tl xs ys) k)] 204)):=Cx _ _;refine⟨⟨hst.res.below b0 AJ,hst.row.below b0 AJ,hst.below.trans (b0.mono hst.below.size)⟩,?_,hlz⟩;rw[AX];have e1:Dr C3 (tl xs ys) k/18446744073709551616=0:=AJ
    have e2:Dr C3 (tl xs ys) k%18446744073709551616=Dr C3 (tl xs ys) k:=AJ
    rw[e1,e2]
   have HST:AO (J4 w (Dv (Dz xs ys) [0,0,0,0,0] k) wr.heap.size (Dr C3 (tl xs ys) k+cs xs ys k 0) (wr.alloc (aJ #[Z8 .u64 0,Z8 .u64 (Dr C3 (tl xs ys) k)] 204))):=by
    rw[show cs xs ys k 0=0 from rfl,Int.add_zero];exact hst2
   clear hst hst2;generalize hgk:Dr C3 (tl xs ys) k=ov at *;have HGK:AO (Dr C3 (tl xs ys) k=ov):=hgk;clear hgk;go_wp2;generalize hG:wr.heap.size=G at *;clear hG;generalize wr.alloc (aJ #[Z8 .u64 0,Z8 .u64 ov] 204)=w3 at *
   go_loopw [18] (λi wq=>∃ n:Nat,n<=k+1/\i=Z8 aI n/\J4 w (Dv (Dz xs ys) [0,0,0,0,0] k) G (ov+cs xs ys k n) wq) (λi _=>k+1-(intOf i).toNat)
   case atStart=>exact⟨0,Au _,rfl,HST.o⟩
   case round=>
    clear HST;obtain⟨n,hn,rfl,hts⟩:=hrel;by_cases hnk:n<k+1
    ·have hnk':(n:Int)<(k:Int)+1:=AJ
     have HCX:AO (∀ w',Below w.heap.size w w'->w'.cell? ⟨g1,o1+n,aA⟩=aE (Z8 .u64 (xs.getD n 0))):=λw' hb=>(H1.o.below hb).2.2 n AJ
     have HCY:AO (∀ w',Below w.heap.size w w'->w'.cell? ⟨g2,o2+(k-n),aA⟩=aE (Z8 .u64 (ys.getD (k-n) 0))):=λw' hb=>(H2.o.below hb).2.2 (k-n) AJ
     have bx:=H1.o.2.1.bd;have by_:=H2.o.2.1.bd;have hx0:=bx.2 n;have hx1:=(bx.1 n).2;have hy0:=by_.2 (k-n);have hy1:=(by_.1 (k-n)).2;have hcs:cs xs ys k (n+1)=cs xs ys k n+xs.getD n 0*ys.getD (k-n) 0:=rfl;have hsn:=HT1.o k n AJ;have hsn1:=HT1.o k (n+1) AJ;rw[hcs] at hsn1;have HTS:AO (J4 w (Dv (Dz xs ys) [0,0,0,0,0] k) G (ov+cs xs ys k n) wr.drew):=hts.drew;have HCS:AO (cs xs ys k (n+1)=cs xs ys k n+xs.getD n 0*ys.getD (k-n) 0):=hcs;have hsub:((k:Int)-(n:Int))=((k-n:Nat):Int):=AJ
     have hwsub:IntKind.i64.wrap ((k:Int)-(n:Int))=((k-n:Nat):Int):=by rw[An];omega
     have hwsub2:IntKind.i64.wrap ((k-n:Nat):Int)=((k-n:Nat):Int):=by rw[An];omega
     have hn5:(n:Int)<5:=AJ
     have hkn5:((k-n:Nat):Int)<5:=AJ
     clear hts hcs bx by_;generalize xs.getD n 0=x at *;generalize ys.getD (k-n) 0=y at *;generalize cs xs ys k n=C at *;obtain⟨s0,s1⟩:=hsn;obtain⟨s2,s3⟩:=hsn1;obtain⟨C',hC'⟩:∃ C',C'=C+x*y:=⟨_,rfl⟩
     have HEQ:AO (ov+C+x*y=ov+C'):=by show _=_;omega
     have HCE:AO (cs xs ys k (n+1)=C'):=by show _=_;rw[HCS.o,hC']
     have hSz:0<=ov+C:=AJ
     have hTT:(ov+C)+x*y<340282366920938463463374607431768211456:=AJ
     clear hC' s2 s3;go_wp2_with fail;refine Ag AM ?_;refine Ic (λ_ _ _=>True) (frame:=(λ(a b c d e f g h i j k l m n o p q r s u v w x y z A B C D E F G H I J K L M N O P Q R S T U V W X Y Z a0 a1 a2 a3 a4 a5 a6 a7 a8 a9 b0 b1 b2:aB)=>λ(t:Nat->aB)=>({ tmps:=List.toArray [a,b,c,d,e,f,g,h,i,j,k,l,m,n,o,p,q,r,s,u,v,t 0,t 1,t 2,t 3,t 4,t 5,t 6,t 7,t 8,t 9,t 10,t 11,t 12,w,x,y,z,A,B,C,D,E,F,G,H,I,J,K,L,M,N,O,P,Q,R,S,T,U,V,W,X,Y,Z,a0,a1,a2,a3,a4,a5,a6,a7,a8,a9,b0,b1,b2],defers:=[] }:Act)) _ _ _ _ _ _ _ _ _ _ _ _ _ _ _ _ _ _ _ _ _ _ _ _ _ _ _ _ _ _ _ _ _ _ _ _ _ _ _ _ _ _ _ _ _ _ _ _ _ _ _ _ _ _ _ _ _ _ _ _ _ _ _ _)
      (Ext:=λL w'=>J4 w (Dv (Dz xs ys) [0,0,0,0,0] k) G (if L 12=true then(ov+C') else(ov+C)) w') (Good:=λi L _ v=>if i=0 then v=(aF (aE ⟨g1,o1,aA⟩)) else if i=1 then v=(Z8 aI (n:Int)) else if i=2 then v=(aF (aE ⟨g1,o1,aA⟩)) else if i=3 then v=(aF (aE ⟨g1,o1+n,aA⟩)) else if i=4 then v=(Z8 .u64 x) else if i=5 then v=(aF (aE ⟨g2,o2,aA⟩)) else if i=6 then v=(Z8 aI (k:Int)) else if i=7 then v=(Z8 aI (n:Int)) else if i=8 then v=(Z8 aI ((k-n:Nat):Int)) else if i=9 then v=(aF (aE ⟨g2,o2,aA⟩)) else if i=10 then v=(aF (aE ⟨g2,o2+(k-n),aA⟩)) else if i=11 then v=(Z8 .u64 y) else(v=.tuple #[]/\L 12=true)) ?hstab AM AM ?hop ?hdone _ _ ((λ(x0 x1 x2 x3 x4 x5 x6 x7 x8 x9 x10 x11 x12:aB)=>λ(i:Nat)=>if i=0 then x0 else if i=1 then x1 else if i=2 then x2 else if i=3 then x3 else if i=4 then x4 else if i=5 then x5 else if i=6 then x6 else if i=7 then x7 else if i=8 then x8 else if i=9 then x9 else if i=10 then x10 else if i=11 then x11 else if i=12 then x12 else undef) _ _ _ _ _ _ _ _ _ _ _ _ _) _ AL ?ext ?start AL
     case start=>intro i hi h;exact absurd h Et
     case hstab=>
      intro j L w w' i v _ hij hL h;by_cases hj:j<12
      ·obtain rfl|rfl|rfl|rfl|rfl|rfl|rfl|rfl|rfl|rfl|rfl|rfl:j=0\/j=1\/j=2\/j=3\/j=4\/j=5\/j=6\/j=7\/j=8\/j=9\/j=10\/j=11:=AJ
       all_goals exact h
      ·have hj':¬ j<12:=hj;have e:(Cf L i 12)=true\/L 12=false:=by unfold Cf;by_cases h9:12=i<;>simp[h9]
       revert h;simp only[if_neg (show ¬ j=0 by omega),if_neg (show ¬ j=1 by omega),if_neg (show ¬ j=2 by omega),if_neg (show ¬ j=3 by omega),if_neg (show ¬ j=4 by omega),if_neg (show ¬ j=5 by omega),if_neg (show ¬ j=6 by omega),if_neg (show ¬ j=7 by omega),if_neg (show ¬ j=8 by omega),if_neg (show ¬ j=9 by omega),if_neg (show ¬ j=10 by omega),if_neg (show ¬ j=11 by omega)];rintro⟨h1,h2⟩;exact⟨h1,by rcases e with e|e;exact e;rw[h2] at e;cases e⟩
     case ext=>exact HTS.o
     case hop=>
      intro i o L t w' ho hLi hx hdep K hK;have hi:i<13:=(AR.1 ho).1;have cA:w'.cell? ⟨g1,o1+n,aA⟩=aE (Z8 .u64 x):=HCX.o _ hx.pl.below;have cB:w'.cell? ⟨g2,o2+(k-n),aA⟩=aE (Z8 .u64 y):=HCY.o _ hx.pl.below;have REF:AO (∀ j,j≠12->J4 w (Dv (Dz xs ys) [0,0,0,0,0] k) G (if Cf L j 12=true then(ov+C') else(ov+C)) w'):=λj hj=>by
       have:Cf L j 12=L 12:=by unfold Cf;rw[AQ (BA hj)]
       rw[this];exact hx
      have HX:AO (J4 w (Dv (Dz xs ys) [0,0,0,0,0] k) G (if L 12=true then(ov+C') else(ov+C)) w'):=hx;clear hx;obtain rfl|rfl|rfl|rfl|rfl|rfl|rfl|rfl|rfl|rfl|rfl|rfl|rfl:i=0\/i=1\/i=2\/i=3\/i=4\/i=5\/i=6\/i=7\/i=8\/i=9\/i=10\/i=11\/i=12:=AJ
      all_goals(simp at ho;subst ho)
      ·clear hdep;have hK':=hK w' (aF (aE ⟨g1,o1,aA⟩)) AL (REF.o 0 AK) trivial;clear hK;go_simp;simpa[Ce,hsub,hwsub,hwsub2] using hK'
      ·clear hdep;have hK':=hK w' (Z8 aI (n:Int)) AL (REF.o 1 AK) trivial;clear hK;go_simp;simpa[Ce,hsub,hwsub,hwsub2] using hK'
      ·have d0:t 0=(aF (aE ⟨g1,o1,aA⟩)):=by simpa using hdep ⟨0,aL⟩ AL rfl
       clear hdep;have hK':=hK w' (aF (aE ⟨g1,o1,aA⟩)) AL (REF.o 2 AK) trivial;clear hK;go_simp;simpa[Ce,d0,hsub,hwsub,hwsub2] using hK'
      ·have d2:t 2=(aF (aE ⟨g1,o1,aA⟩)):=by simpa using hdep ⟨2,aL⟩ AL rfl
       have d1:t 1=(Z8 aI (n:Int)):=by simpa using hdep ⟨1,aL⟩ AL rfl
       clear hdep;have hK':=hK w' (aF (aE ⟨g1,o1+n,aA⟩)) AL (REF.o 3 AK) trivial;clear hK;go_simp;simpa[Ce,d2,d1,hsub,hwsub,hwsub2] using hK'
      ·have d3:t 3=(aF (aE ⟨g1,o1+n,aA⟩)):=by simpa using hdep ⟨3,aL⟩ AL rfl
       clear hdep;have hK':=hK w' (Z8 .u64 x) AL (REF.o 4 AK) trivial;clear hK;go_simp;simpa[Ce,d3,hsub,hwsub,hwsub2] using hK'
      ·clear hdep;have hK':=hK w' (aF (aE ⟨g2,o2,aA⟩)) AL (REF.o 5 AK) trivial;clear hK;go_simp;simpa[Ce,hsub,hwsub,hwsub2] using hK'
      ·clear hdep;have hK':=hK w' (Z8 aI (k:Int)) AL (REF.o 6 AK) trivial;clear hK;go_simp;simpa[Ce,hsub,hwsub,hwsub2] using hK'
      ·clear hdep;have hK':=hK w' (Z8 aI (n:Int)) AL (REF.o 7 AK) trivial;clear hK;go_simp;simpa[Ce,hsub,hwsub,hwsub2] using hK'
      ·have d6:t 6=(Z8 aI (k:Int)):=by simpa using hdep ⟨6,aL⟩ AL rfl
       have d7:t 7=(Z8 aI (n:Int)):=by simpa using hdep ⟨7,aL⟩ AL rfl
       clear hdep;have hK':=hK w' (Z8 aI ((k-n:Nat):Int)) AL (REF.o 8 AK) trivial;clear hK;go_simp;simpa[Ce,d6,d7,hsub,hwsub,hwsub2] using hK'
      ·have d5:t 5=(aF (aE ⟨g2,o2,aA⟩)):=by simpa using hdep ⟨5,aL⟩ AL rfl
       clear hdep;have hK':=hK w' (aF (aE ⟨g2,o2,aA⟩)) AL (REF.o 9 AK) trivial;clear hK;go_simp;simpa[Ce,d5,hsub,hwsub,hwsub2] using hK'
      ·have d9:t 9=(aF (aE ⟨g2,o2,aA⟩)):=by simpa using hdep ⟨9,aL⟩ AL rfl
       have d8:t 8=(Z8 aI ((k-n:Nat):Int)):=by simpa using hdep ⟨8,aL⟩ AL rfl
       clear hdep;have hK':=hK w' (aF (aE ⟨g2,o2+(k-n),aA⟩)) AL (REF.o 10 AK) trivial;clear hK;go_simp;simpa[Ce,d9,d8,hsub,hwsub,hwsub2] using hK'
      ·have d10:t 10=(aF (aE ⟨g2,o2+(k-n),aA⟩)):=by simpa using hdep ⟨10,aL⟩ AL rfl
       clear hdep;have hK':=hK w' (Z8 .u64 y) AL (REF.o 11 AK) trivial;clear hK;go_simp;simpa[Ce,d10,hsub,hwsub,hwsub2] using hK'
      ·have d4:t 4=(Z8 .u64 x):=by simpa using hdep ⟨4,aL⟩ AL rfl
       have d11:t 11=(Z8 .u64 y):=by simpa using hdep ⟨11,aL⟩ AL rfl
       clear hdep;have hts:=HX.o;rw[AQ (by rw[hLi];decide)] at hts;have A:=Mj G ((ov+C)) x y w' hSz hts.sum hx0 AJ AJ AJ hTT;have hK':∀ ww,YE w' G ((ov+C)+x*y) ww->K _ ww:=λww hs=>hK ww (.tuple #[]) (by simp[Cf]) (by rw[AP (by simp[Cf])];have:=hts.add hs;rw[HEQ.o] at this;exact this) trivial
       clear hK;go_simp;refine A.mono ?_;rintro e w9 ⟨rfl,hs⟩;have hK2:=hK' w9 hs;clear hK' A hs;go_simp;simpa[Ce,d4,d11] using hK2
     case hdone=>
      intro L t w' hx hg;have d0:t 0=(aF (aE ⟨g1,o1,aA⟩)):=by simpa using hg 0 AK
      have d1:t 1=(Z8 aI (n:Int)):=by simpa using hg 1 AK
      have d2:t 2=(aF (aE ⟨g1,o1,aA⟩)):=by simpa using hg 2 AK
      have d3:t 3=(aF (aE ⟨g1,o1+n,aA⟩)):=by simpa using hg 3 AK
      have d4:t 4=(Z8 .u64 x):=by simpa using hg 4 AK
      have d5:t 5=(aF (aE ⟨g2,o2,aA⟩)):=by simpa using hg 5 AK
      have d6:t 6=(Z8 aI (k:Int)):=by simpa using hg 6 AK
      have d7:t 7=(Z8 aI (n:Int)):=by simpa using hg 7 AK
      have d8:t 8=(Z8 aI ((k-n:Nat):Int)):=by simpa using hg 8 AK
      have d9:t 9=(aF (aE ⟨g2,o2,aA⟩)):=by simpa using hg 9 AK
      have d10:t 10=(aF (aE ⟨g2,o2+(k-n),aA⟩)):=by simpa using hg 10 AK
      have d11:t 11=(Z8 .u64 y):=by simpa using hg 11 AK
      have d12:t 12=.tuple #[]/\L 12=true:=by simpa using hg 12 AK
      clear hg;rw[AP d12.2] at hx;have HP:AO (J4 w (Dv (Dz xs ys) [0,0,0,0,0] k) G (ov+cs xs ys k (n+1)) w'):=by rw[HCE.o];exact hx
      clear hx HTS HCX HCY HEQ HCE;dsimp only;rw[d0,d1,d2,d3,d4,d5,d6,d7,d8,d9,d10,d11,d12.1];clear d0 d1 d2 d3 d4 d5 d6 d7 d8 d9 d10 d11 d12;go_wp2;go_roundw
      case rel=>exact⟨n+1,AJ,by go_num,HP.o⟩
      case measure=>simp[intOf];omega
    ·obtain rfl:n=k+1:=AJ
     have HLO:AO (cs xs ys k (k+1)=Vu xs ys k):=rfl;have hlo:=HT1.o k (k+1) AJ;rw[HLO.o] at hts hlo;have HTL:AO ((tl xs ys).getD k 0=Vu xs ys k+19*Vv xs ys k):=Nu _ _ _ hlt;generalize Vu xs ys k=lo at *;have HTS0:AO (J4 w (Dv (Dz xs ys) [0,0,0,0,0] k) G (ov+lo+19*cs xs ys (5+k) (k+1)) wr):=by
      show J4 w _ G _ wr
      rw[Mk xs HY5.o k (k+1) Cl];simpa using hts
     obtain⟨l0,l1⟩:=hlo;obtain⟨L0,hL0⟩:∃ L0,L0=ov+lo:=⟨_,rfl⟩
     rw[<-hL0] at HTS0;have hLz:0<=L0:=AJ
     have hLm:L0<=40564819207304493769399109419008:=AJ
     have HL0:AO (L0=ov+lo):=hL0;clear hts hL0;have hk1:((k+1:Nat):Int)=(k:Int)+1:=AJ
     rw[hk1];clear hk1;go_wp2
     go_loopw [10] (λi wq=>∃ n:Nat,k+1<=n/\n<=5/\i=Z8 aI n/\J4 w (Dv (Dz xs ys) [0,0,0,0,0] k) G (L0+19*cs xs ys (5+k) n) wq) (λi _=>5-(intOf i).toNat)
     case atStart=>exact⟨k+1,Ac _,AJ,by go_num,HTS0.o⟩
     case round=>
      clear HTS0;obtain⟨n,hnl,hnh,rfl,hts⟩:=hrel;by_cases hn5:n<5
      ·have hn5':(n:Int)<5:=AJ
       have HCX:AO (∀ w',Below w.heap.size w w'->w'.cell? ⟨g1,o1+n,aA⟩=aE (Z8 .u64 (xs.getD n 0))):=λw' hb=>(H1.o.below hb).2.2 n AJ
       have HCY:AO (∀ w',Below w.heap.size w w'->w'.cell? ⟨g2,o2+(k+5-n),aA⟩=aE (Z8 .u64 (ys.getD (k+5-n) 0))):=λw' hb=>(H2.o.below hb).2.2 (k+5-n) AJ
       have bx:=H1.o.2.1.bd;have by_:=H2.o.2.1.bd;have hx0:=bx.2 n;have hx1:=(bx.1 n).2;have hy0:=by_.2 (k+5-n);have hy1:=(by_.1 (k+5-n)).2;have hcs:cs xs ys (5+k) (n+1)=cs xs ys (5+k) n+xs.getD n 0*ys.getD (k+5-n) 0:=by rw[cs,show 5+k-n=k+5-n by omega]
       have hsn:=HT1.o (5+k) n AJ;have hsn1:=HT1.o (5+k) (n+1) AJ;rw[hcs] at hsn1;have HTS:AO (J4 w (Dv (Dz xs ys) [0,0,0,0,0] k) G (L0+19*cs xs ys (5+k) n) wr.drew):=hts.drew;have HCS:AO (cs xs ys (5+k) (n+1)=cs xs ys (5+k) n+xs.getD n 0*ys.getD (k+5-n) 0):=hcs;have hsub:((k:Int)+5-(n:Int))=((k+5-n:Nat):Int):=AJ
       have hwsub:IntKind.i64.wrap ((k:Int)+5-(n:Int))=((k+5-n:Nat):Int):=by rw[An];omega
       have hwsub2:IntKind.i64.wrap ((k+5-n:Nat):Int)=((k+5-n:Nat):Int):=by rw[An];omega
       have hw5:IntKind.i64.wrap ((k:Int)+5)=(k:Int)+5:=by rw[An];omega
       have hkn5:((k+5-n:Nat):Int)<5:=AJ
       clear hts hcs bx by_;generalize xs.getD n 0=x at *;generalize ys.getD (k+5-n) 0=y at *;generalize cs xs ys (5+k) n=C at *;obtain⟨s0,s1⟩:=hsn;obtain⟨s2,s3⟩:=hsn1;have hm19:IntKind.u64.wrap (19*y)=19*y:=by rw[IntKind.wrap_u64];omega
       have e19:x*(19*y)=19*(x*y):=by grind
       obtain⟨C',hC'⟩:∃ C',C'=C+x*y:=⟨_,rfl⟩
       have HEQ:AO (L0+19*C+x*(19*y)=L0+19*C'):=by show _=_;rw[e19];omega
       have HCE:AO (cs xs ys (5+k) (n+1)=C'):=by show _=_;rw[HCS.o,hC']
       have hSz:0<=L0+19*C:=AJ
       have hTT:(L0+19*C)+x*(19*y)<340282366920938463463374607431768211456:=by rw[e19];omega
       clear hC' s2 s3 e19;go_wp2_with fail;refine Ag AM ?_;refine Ic (λ_ _ _=>True) (frame:=(λ(a b c d e f g h i j k l m n o p q r s u v w x y z A B C D E F G H I J K L M N O P Q R S T U V W X Y Z a0 a1 a2 a3 a4 a5 a6 a7 a8 a9 b0:aB)=>λ(t:Nat->aB)=>({ tmps:=List.toArray [a,b,c,d,e,f,g,h,i,j,k,l,m,n,o,p,q,r,s,u,v,w,x,y,z,A,B,C,D,E,F,G,H,I,J,K,L,M,N,O,P,t 0,t 1,t 2,t 3,t 4,t 5,t 6,t 7,t 8,t 9,t 10,t 11,t 12,t 13,t 14,Q,R,S,T,U,V,W,X,Y,Z,a0,a1,a2,a3,a4,a5,a6,a7,a8,a9,b0],defers:=[] }:Act)) _ _ _ _ _ _ _ _ _ _ _ _ _ _ _ _ _ _ _ _ _ _ _ _ _ _ _ _ _ _ _ _ _ _ _ _ _ _ _ _ _ _ _ _ _ _ _ _ _ _ _ _ _ _ _ _ _ _ _ _ _ _)
        (Ext:=λL w'=>J4 w (Dv (Dz xs ys) [0,0,0,0,0] k) G (if L 14=true then(L0+19*C') else(L0+19*C)) w') (Good:=λi L _ v=>if i=0 then v=(aF (aE ⟨g1,o1,aA⟩)) else if i=1 then v=(Z8 aI (n:Int)) else if i=2 then v=(aF (aE ⟨g1,o1,aA⟩)) else if i=3 then v=(aF (aE ⟨g1,o1+n,aA⟩)) else if i=4 then v=(Z8 .u64 x) else if i=5 then v=(aF (aE ⟨g2,o2,aA⟩)) else if i=6 then v=(Z8 aI (k:Int)) else if i=7 then v=(Z8 aI ((k:Int)+5)) else if i=8 then v=(Z8 aI (n:Int)) else if i=9 then v=(Z8 aI ((k+5-n:Nat):Int)) else if i=10 then v=(aF (aE ⟨g2,o2,aA⟩)) else if i=11 then v=(aF (aE ⟨g2,o2+(k+5-n),aA⟩)) else if i=12 then v=(Z8 .u64 y) else if i=13 then v=(Z8 .u64 (19*y)) else(v=.tuple #[]/\L 14=true)) ?hstab AM AM ?hop ?hdone _ _ ((λ(x0 x1 x2 x3 x4 x5 x6 x7 x8 x9 x10 x11 x12 x13 x14:aB)=>λ(i:Nat)=>if i=0 then x0 else if i=1 then x1 else if i=2 then x2 else if i=3 then x3 else if i=4 then x4 else if i=5 then x5 else if i=6 then x6 else if i=7 then x7 else if i=8 then x8 else if i=9 then x9 else if i=10 then x10 else if i=11 then x11 else if i=12 then x12 else if i=13 then x13 else if i=14 then x14 else undef) _ _ _ _ _ _ _ _ _ _ _ _ _ _ _) _ AL ?ext ?start AL
       case start=>intro i hi h;exact absurd h Et
       case hstab=>
        intro j L w w' i v _ hij hL h;by_cases hj:j<14
        ·obtain rfl|rfl|rfl|rfl|rfl|rfl|rfl|rfl|rfl|rfl|rfl|rfl|rfl|rfl:j=0\/j=1\/j=2\/j=3\/j=4\/j=5\/j=6\/j=7\/j=8\/j=9\/j=10\/j=11\/j=12\/j=13:=AJ
         all_goals exact h
        ·have hj':¬ j<14:=hj;have e:(Cf L i 14)=true\/L 14=false:=by unfold Cf;by_cases h9:14=i<;>simp[h9]
         revert h;simp only[if_neg (show ¬ j=0 by omega),if_neg (show ¬ j=1 by omega),if_neg (show ¬ j=2 by omega),if_neg (show ¬ j=3 by omega),if_neg (show ¬ j=4 by omega),if_neg (show ¬ j=5 by omega),if_neg (show ¬ j=6 by omega),if_neg (show ¬ j=7 by omega),if_neg (show ¬ j=8 by omega),if_neg (show ¬ j=9 by omega),if_neg (show ¬ j=10 by omega),if_neg (show ¬ j=11 by omega),if_neg (show ¬ j=12 by omega),if_neg (show ¬ j=13 by omega)];rintro⟨h1,h2⟩;exact⟨h1,by rcases e with e|e;exact e;rw[h2] at e;cases e⟩
       case ext=>exact HTS.o
       case hop=>
        intro i o L t w' ho hLi hx hdep K hK;have hi:i<15:=(AR.1 ho).1;have cA:w'.cell? ⟨g1,o1+n,aA⟩=aE (Z8 .u64 x):=HCX.o _ hx.pl.below;have cB:w'.cell? ⟨g2,o2+(k+5-n),aA⟩=aE (Z8 .u64 y):=HCY.o _ hx.pl.below;have REF:AO (∀ j,j≠14->J4 w (Dv (Dz xs ys) [0,0,0,0,0] k) G (if Cf L j 14=true then(L0+19*C') else(L0+19*C)) w'):=λj hj=>by
         have:Cf L j 14=L 14:=by unfold Cf;rw[AQ (BA hj)]
         rw[this];exact hx
        have HX:AO (J4 w (Dv (Dz xs ys) [0,0,0,0,0] k) G (if L 14=true then(L0+19*C') else(L0+19*C)) w'):=hx;clear hx;obtain rfl|rfl|rfl|rfl|rfl|rfl|rfl|rfl|rfl|rfl|rfl|rfl|rfl|rfl|rfl:i=0\/i=1\/i=2\/i=3\/i=4\/i=5\/i=6\/i=7\/i=8\/i=9\/i=10\/i=11\/i=12\/i=13\/i=14:=AJ
        all_goals(simp at ho;subst ho)
        ·clear hdep;have hK':=hK w' (aF (aE ⟨g1,o1,aA⟩)) AL (REF.o 0 AK) trivial;clear hK;go_simp;simpa[Ce,hsub,hwsub,hwsub2,hm19,hw5] using hK'
        ·clear hdep;have hK':=hK w' (Z8 aI (n:Int)) AL (REF.o 1 AK) trivial;clear hK;go_simp;simpa[Ce,hsub,hwsub,hwsub2,hm19,hw5] using hK'
        ·have d0:t 0=(aF (aE ⟨g1,o1,aA⟩)):=by simpa using hdep ⟨0,aL⟩ AL rfl
         clear hdep;have hK':=hK w' (aF (aE ⟨g1,o1,aA⟩)) AL (REF.o 2 AK) trivial;clear hK;go_simp;simpa[Ce,d0,hsub,hwsub,hwsub2,hm19,hw5] using hK'
        ·have d2:t 2=(aF (aE ⟨g1,o1,aA⟩)):=by simpa using hdep ⟨2,aL⟩ AL rfl
         have d1:t 1=(Z8 aI (n:Int)):=by simpa using hdep ⟨1,aL⟩ AL rfl
         clear hdep;have hK':=hK w' (aF (aE ⟨g1,o1+n,aA⟩)) AL (REF.o 3 AK) trivial;clear hK;go_simp;simpa[Ce,d2,d1,hsub,hwsub,hwsub2,hm19,hw5] using hK'
        ·have d3:t 3=(aF (aE ⟨g1,o1+n,aA⟩)):=by simpa using hdep ⟨3,aL⟩ AL rfl
         clear hdep;have hK':=hK w' (Z8 .u64 x) AL (REF.o 4 AK) trivial;clear hK;go_simp;simpa[Ce,d3,hsub,hwsub,hwsub2,hm19,hw5] using hK'
        ·clear hdep;have hK':=hK w' (aF (aE ⟨g2,o2,aA⟩)) AL (REF.o 5 AK) trivial;clear hK;go_simp;simpa[Ce,hsub,hwsub,hwsub2,hm19,hw5] using hK'
        ·clear hdep;have hK':=hK w' (Z8 aI (k:Int)) AL (REF.o 6 AK) trivial;clear hK;go_simp;simpa[Ce,hsub,hwsub,hwsub2,hm19,hw5] using hK'
        ·have d6:t 6=(Z8 aI (k:Int)):=by simpa using hdep ⟨6,aL⟩ AL rfl
         clear hdep;have hK':=hK w' (Z8 aI ((k:Int)+5)) AL (REF.o 7 AK) trivial;clear hK;go_simp;simpa[Ce,d6,hsub,hwsub,hwsub2,hm19,hw5] using hK'
        ·clear hdep;have hK':=hK w' (Z8 aI (n:Int)) AL (REF.o 8 AK) trivial;clear hK;go_simp;simpa[Ce,hsub,hwsub,hwsub2,hm19,hw5] using hK'
        ·have d7:t 7=(Z8 aI ((k:Int)+5)):=by simpa using hdep ⟨7,aL⟩ AL rfl
         have d8:t 8=(Z8 aI (n:Int)):=by simpa using hdep ⟨8,aL⟩ AL rfl
         clear hdep;have hK':=hK w' (Z8 aI ((k+5-n:Nat):Int)) AL (REF.o 9 AK) trivial;clear hK;go_simp;simpa[Ce,d7,d8,hsub,hwsub,hwsub2,hm19,hw5] using hK'
        ·have d5:t 5=(aF (aE ⟨g2,o2,aA⟩)):=by simpa using hdep ⟨5,aL⟩ AL rfl
         clear hdep;have hK':=hK w' (aF (aE ⟨g2,o2,aA⟩)) AL (REF.o 10 AK) trivial;clear hK;go_simp;simpa[Ce,d5,hsub,hwsub,hwsub2,hm19,hw5] using hK'
        ·have d10:t 10=(aF (aE ⟨g2,o2,aA⟩)):=by simpa using hdep ⟨10,aL⟩ AL rfl
         have d9:t 9=(Z8 aI ((k+5-n:Nat):Int)):=by simpa using hdep ⟨9,aL⟩ AL rfl
         clear hdep;have hK':=hK w' (aF (aE ⟨g2,o2+(k+5-n),aA⟩)) AL (REF.o 11 AK) trivial;clear hK;go_simp;simpa[Ce,d10,d9,hsub,hwsub,hwsub2,hm19,hw5] using hK'
        ·have d11:t 11=(aF (aE ⟨g2,o2+(k+5-n),aA⟩)):=by simpa using hdep ⟨11,aL⟩ AL rfl
         clear hdep;have hK':=hK w' (Z8 .u64 y) AL (REF.o 12 AK) trivial;clear hK;go_simp;simpa[Ce,d11,hsub,hwsub,hwsub2,hm19,hw5] using hK'
        ·have d12:t 12=(Z8 .u64 y):=by simpa using hdep ⟨12,aL⟩ AL rfl
         clear hdep;have hK':=hK w' (Z8 .u64 (19*y)) AL (REF.o 13 AK) trivial;clear hK;go_simp;simpa[Ce,d12,hsub,hwsub,hwsub2,hm19,hw5] using hK'
        ·have d4:t 4=(Z8 .u64 x):=by simpa using hdep ⟨4,aL⟩ AL rfl
         have d13:t 13=(Z8 .u64 (19*y)):=by simpa using hdep ⟨13,aL⟩ AL rfl
         clear hdep;have hts:=HX.o;rw[AQ (by rw[hLi];decide)] at hts;have A:=Mj G ((L0+19*C)) x (19*y) w' hSz hts.sum hx0 AJ AJ AJ hTT;have hK':∀ ww,YE w' G ((L0+19*C)+x*(19*y)) ww->K _ ww:=λww hs=>hK ww (.tuple #[]) (by simp[Cf]) (by rw[AP (by simp[Cf])];have:=hts.add hs;rw[HEQ.o] at this;exact this) trivial
         clear hK;go_simp;refine A.mono ?_;rintro e w9 ⟨rfl,hs⟩;have hK2:=hK' w9 hs;clear hK' A hs;go_simp;simpa[Ce,d4,d13] using hK2
       case hdone=>
        intro L t w' hx hg;have d0:t 0=(aF (aE ⟨g1,o1,aA⟩)):=by simpa using hg 0 AK
        have d1:t 1=(Z8 aI (n:Int)):=by simpa using hg 1 AK
        have d2:t 2=(aF (aE ⟨g1,o1,aA⟩)):=by simpa using hg 2 AK
        have d3:t 3=(aF (aE ⟨g1,o1+n,aA⟩)):=by simpa using hg 3 AK
        have d4:t 4=(Z8 .u64 x):=by simpa using hg 4 AK
        have d5:t 5=(aF (aE ⟨g2,o2,aA⟩)):=by simpa using hg 5 AK
        have d6:t 6=(Z8 aI (k:Int)):=by simpa using hg 6 AK
        have d7:t 7=(Z8 aI ((k:Int)+5)):=by simpa using hg 7 AK
        have d8:t 8=(Z8 aI (n:Int)):=by simpa using hg 8 AK
        have d9:t 9=(Z8 aI ((k+5-n:Nat):Int)):=by simpa using hg 9 AK
        have d10:t 10=(aF (aE ⟨g2,o2,aA⟩)):=by simpa using hg 10 AK
        have d11:t 11=(aF (aE ⟨g2,o2+(k+5-n),aA⟩)):=by simpa using hg 11 AK
        have d12:t 12=(Z8 .u64 y):=by simpa using hg 12 AK
        have d13:t 13=(Z8 .u64 (19*y)):=by simpa using hg 13 AK
        have d14:t 14=.tuple #[]/\L 14=true:=by simpa using hg 14 AK
        clear hg;rw[AP d14.2] at hx;have HP:AO (J4 w (Dv (Dz xs ys) [0,0,0,0,0] k) G (L0+19*cs xs ys (5+k) (n+1)) w'):=by rw[HCE.o];exact hx
        clear hx HTS HCX HCY HEQ HCE;dsimp only;rw[d0,d1,d2,d3,d4,d5,d6,d7,d8,d9,d10,d11,d12,d13,d14.1];clear d0 d1 d2 d3 d4 d5 d6 d7 d8 d9 d10 d11 d12 d13 d14;go_wp2;go_roundw
        case rel=>exact⟨n+1,AJ,AJ,by go_num,HP.o⟩
        case measure=>simp[intOf];omega
      ·obtain rfl:n=5:=AJ
       rw[show((5:Nat):Int)=5 from rfl];have hhi:=HT1.o (5+k) 5 AJ;have HHI:AO (cs xs ys (5+k) 5=Vv xs ys k):=rfl;rw[HHI.o] at hts hhi;obtain⟨S,hS⟩:∃ S,S=L0+19*Vv xs ys k:=⟨_,rfl⟩
       rw[<-hS] at hts;have hSt:S=(tl xs ys).getD k 0+ov:=by rw[hS,HL0.o,HTL.o];omega
       have hS0:0<=S:=AJ
       have hS1:S<41538374868278621028243970633760768:=AJ
       have hov:=HT3.o (k+1);have hgk1:Dr C3 (tl xs ys) (k+1)=S/2251799813685248:=by
        show((tl xs ys).getD k 0+Dr C3 (tl xs ys) k)/C3=_
        rw[HGK.o,<-hSt];rfl
       have hpr:Dz xs ys k=S%2251799813685248:=by unfold Dz;rw[HGK.o,<-hSt];rfl
       have c0:wr.cell? ⟨G,0,aA⟩=aE (Z8 .u64 (S/18446744073709551616)):=AA hts.sum _;have c1:wr.cell? ⟨G,1,aA⟩=aE (Z8 .u64 (S%18446744073709551616)):=AA hts.sum _;have c3:=hts.pl.row.cell k (by rw[Dh];exact hlt);have f3:=hts.pl.row.frozen k;have s1:LQ w (Dv (Dz xs ys) [0,0,0,0,0] (k+1)) (wr.setCell ⟨w.heap.size+1,k,aA⟩ (Z8 .u64 (S%2251799813685248))):=by
        rw[<-Io _ _ _ hlt,hpr];exact⟨((Wr.refl _ _).setCell k _).rowW hts.pl.res AJ,hts.pl.row.set k _,hts.pl.below.setCell AL _⟩
       have hGne:G≠w.heap.size+1:=AG hts.hG
       have hsz:w.heap.size+1<(wr.setCell ⟨w.heap.size+1,k,aA⟩ (Z8 .u64 (S%2251799813685248))).heap.size:=by
        have:=(AR.1 hts.sum).1;have:=hts.hG;simp[World.setCell];omega
       have c0':(wr.setCell ⟨w.heap.size+1,k,aA⟩ (Z8 .u64 (S%2251799813685248))).cell? ⟨G,0,aA⟩=aE (Z8 .u64 (S/18446744073709551616)):=by
        rw[Bo _ _ _ _ (by first|(simp;done)|(simp;omega))];exact c0
       have c1':(wr.setCell ⟨w.heap.size+1,k,aA⟩ (Z8 .u64 (S%2251799813685248))).cell? ⟨G,1,aA⟩=aE (Z8 .u64 (S%18446744073709551616)):=by
        rw[Bo _ _ _ _ (by first|(simp;done)|(simp;omega))];exact c1
       have HS1:AO (LQ w (Dv (Dz xs ys) [0,0,0,0,0] (k+1)) (wr.setCell ⟨w.heap.size+1,k,aA⟩ (Z8 .u64 (S%2251799813685248)))/\w.heap.size+1<(wr.setCell ⟨w.heap.size+1,k,aA⟩ (Z8 .u64 (S%2251799813685248))).heap.size):=⟨s1,hsz⟩
       have hand:bits .and .u64 (S%18446744073709551616) 2251799813685247=S%2251799813685248:=by
        rw[DH _ 51 AJ AJ _ AK AK];show S%18446744073709551616%2251799813685248=_
        omega
       have hor:bits .or .u64 (S/18446744073709551616*8192) (S%18446744073709551616/2251799813685248)=S/2251799813685248:=by
        rw[FX _ _ 13 AJ AJ AJ (by show _<(8192:Int);omega) AJ (S/18446744073709551616) AN];omega
       have HAND:AO (bits .and .u64 (S%18446744073709551616) 2251799813685247=S%2251799813685248):=hand;have HOR:AO (bits .or .u64 (S/18446744073709551616*8192) (S%18446744073709551616/2251799813685248)=S/2251799813685248):=hor;have HGK1:AO (Dr C3 (tl xs ys) (k+1)=S/2251799813685248):=hgk1;have b0:0<=S/18446744073709551616:=AJ
       have b1:0<=S%18446744073709551616:=AJ
       have b2:S%18446744073709551616<18446744073709551616:=AJ
       have b3:S/18446744073709551616<2251799813685248:=AJ
       clear hts hS hSt hgk1 hpr s1 hsz hand hor hhi hov HL0 HTL HGK;generalize (Dv (Dz xs ys) [0,0,0,0,0] k).getD k 0=z at *;generalize S/18446744073709551616=sh at *;generalize S%18446744073709551616=sl at *;generalize S%2251799813685248=sr at *;generalize S/2251799813685248=sq at *;go_wp2;rw[HOR.o,HAND.o];exact⟨⟨k+1,AJ,by go_num,by rw[HGK1.o],HS1.o.1,HS1.o.2⟩,by simp[intOf];omega⟩
  ·obtain rfl:k=5:=AJ
   rw[SN] at hst;rw[show((5:Nat):Int)=5 from rfl];have hc:=HT3.o 5;have hc4:=HT4.o;have hb:=FF (tl xs ys) 0;have c0:=hst.row.cell 0 (by rw[Dn];decide);have f0:=hst.row.frozen 0;have s1:LQ w (Cq (tl xs ys)) (wr.setCell ⟨w.heap.size+1,0,aA⟩ (Z8 .u64 ((GS (tl xs ys) 5).getD 0 0+19*Dr C3 (tl xs ys) 5))):=
    ⟨((Wr.refl _ _).setCell 0 _).rowW hst.res AJ,hst.row.set 0 _,hst.below.setCell AL _⟩
   have HS1:AO (LQ w (Cq (tl xs ys)) (wr.setCell ⟨w.heap.size+1,0,aA⟩ (Z8 .u64 ((GS (tl xs ys) 5).getD 0 0+19*Dr C3 (tl xs ys) 5)))):=s1;clear s1 hst HT3 HT4 HT1;generalize (GS (tl xs ys) 5).getD 0 0=y0 at *;generalize Dr C3 (tl xs ys) 5=cc at *;obtain⟨hc0,hc1⟩:=hc;obtain⟨hb0,hb1⟩:=hb;go_wp2_with fail;have hst:=HS1.o;clear HS1 c0 f0;generalize wr.setCell ⟨w.heap.size+1,0,aA⟩ (Z8 .u64 (y0+19*cc))=w4 at *;refine(Hz _ (Cq (tl xs ys)) _ (Hx _) hst.row HQ.o.1).mono ?_;rintro e w1 ⟨rfl,hs⟩;have s1:=hst.carry hs;have hl:=HQ.o.2.1.1;have HSZ:AO ((tP.info? 138).map (·.size)=aE (((Cq (Cq (tl xs ys))).map (Value.int .u64)).toArray).size):=sizeEl hl;have HZ4:AO (([0,0,0,0,0].map (Value.int .u64)).toArray.size=(((Cq (Cq (tl xs ys))).map (Value.int .u64)).toArray).size):=by show _=_;simp[hl]
   have HRS:AO (Ch w1 w.heap.size 138 [0,0,0,0,0]):=s1.res;have HRO:AO (Ch w1 (w.heap.size+1) 138 (Cq (Cq (tl xs ys)))):=s1.row;have HBE:AO (Below w.heap.size w w1):=s1.below;clear s1 hs hst hl;generalize Cq (Cq (tl xs ys))=es at *;go_wp2_with (first
    |(refine Ae rfl 138 (aM 5) rfl (w.heap.size+1) rfl 138 _ (0,0) _ HRO.o underlying138 rfl HSZ.o ?_)
    |(refine AE 138 (aM 4) (aM 76) w.heap.size ((es.map (Value.int .u64)).toArray) 138 HRS.o HSZ.o HZ4.o (all_oneCell_toArray (Aw _ _)) ?_))
   refine Ab (v:=aH (es.map (Value.int .u64)).toArray) (Ah rfl _ _ w.heap.size 138 _ (0,0) _ rfl (AB HRS.o) underlying138 rfl HSZ.o) rfl ⟨es,HQ.o.2.1,HQ.o.2.2,rfl,?_⟩;exact HBE.o.trans ((Wr.setRow _ _ _).below Cl)
theorem DT {w:aC} {ops:Array Oper} {rest:List Oper} {o:Oper} {a:Act} {Q:Exit->Act->aC->Prop} (hgd:o.guard=aA) (x:Operand) (ho:o.op=.load 138 x)
  (g p:Nat) (es:List Int) (hx:a.eval x=aF (aE ⟨g,p,aA⟩)) (h:Dj w g p es) (hK:wpList tP ops Q rest (a.put o.dst (aH (es.map (Value.int .u64)).toArray)) w) :
  wpList tP ops Q (o::rest) a w:=by
 have hr:w.rangeAt g p (es.map (Value.int .u64)):=λj v hv=>by
  have hj:j<es.length:=by have:=(Ao.1 hv).1;simpa using this
  rw[h.2.2 j (AG h.2.1.1)];simp[hj] at hv;simp[hj,hv]
 have hl:=h.2.1.1;exact wpList_load_mid hgd 138 x ho g p hx (es.map (Value.int .u64)) _ hr underlying138 rfl (by rw[Tryz.sizeEl];simp[hl]) hK
theorem Co {w:aC} {ops:Array Oper} {rest:List Oper} {o:Oper} {a:Act} {Q:Exit->Act->aC->Prop} (hgd:o.guard=aA) (x y:Operand) (ho:o.op=.store 138 x y)
  (G:Nat) (es zs:List Int) (hx:a.eval x=aF (aE ⟨G,0,aA⟩)) (hy:a.eval y=aH (es.map (Value.int .u64)).toArray) (hl:es.length=5) (hz:zs.length=5) (hr:Ch w G 138 zs)
  (hK:∀ w',Ch w' G 138 es->Wr G w w'->wpList tP ops Q rest (a.put o.dst undef) w') :
  wpList tP ops Q (o::rest) a w:=
 CB hgd 138 x y ho G ((es.map (Value.int .u64)).toArray) hx hy 138 _ hr (sizeEl hl) (by simp[hl,hz]) (all_oneCell_toArray (Aw _ _)) (hK _ (hr.setRow es) (Wr.setRow _ _ _))
theorem Dj.of_row {w:aC} {g:Nat} {es:List Int} (h:Ch w g 138 es) (hk:Cs es):Dj w g 0 es:=
 ⟨h.lt,hk,λi hi=>by rw[Aq];exact h.cell i (AG hk.1)⟩
theorem Jo (w:aC):Ch (w.alloc (aJ CQ 138)) w.heap.size 138 [0,0,0,0,0]:=AX w _
theorem Nv {fn:Func} {p:Tmp} (h:fn.results=#[.cell p 138]) (tmps:Array aB) (w:aC) (g:Nat) (es:List Int) (hl:es.length=5) (hp:tmps.getD p undef=aF (aE ⟨g,0,aA⟩)) (hr:Ch w g 138 es) :
  (results fn tmps).run tP w=.ok (aH (es.map (Value.int .u64)).toArray) w:=
 Ah h tmps w g 138 _ (0,0) _ hp hr underlying138 rfl (sizeEl hl)
def GT (x:Int):Nat->Int
 |0=>x
 |n+1=>GT x n*GT x n%fp
structure Y9 (w:aC) (x:Int) (wr:aC):Prop where
 res:Ch wr w.heap.size 138 [0,0,0,0,0]
 row:∃ es,Ch wr (w.heap.size+1) 138 es/\Cs es/\ev es=x
 below:Below w.heap.size w wr
theorem Dq (g o:Nat) (xs:List Int) (n:Nat) (w:aC) (hn:n<=1048576) (h:Dj w g o xs) :
  Calls tP 151 #[aF (aE ⟨g,o,aA⟩),Z8 aI n] w (EP w (GT (ev xs) n)):=by
 have HX:AO (Dj (w.alloc (aJ CQ 138)) g o xs):=h.below (Cx _ _);have HK:AO (Cs xs):=h.2.1;clear h;go_enter func151,ntmps151;go_wp2_with (first
  |(refine DT rfl (aM 7) rfl g o xs rfl HX.o ?_)
  |(refine Co rfl (aM 5) (aM 8) rfl (w.heap.size+1) xs [0,0,0,0,0] rfl rfl HK.o.1 rfl (heap_alloc2_new _ _ _) ?_)
  |fail)
 intro w1 hr1 hw1;have HS:AO (Y9 w (GT (ev xs) 0) w1):=by
  refine⟨hw1.rowW (heap_alloc2_old _ _ _) AJ,⟨xs,hr1,HK.o,rfl⟩,?_⟩;exact((Cg.alloc Cl _).alloc AL _).trans (hw1.below AJ)
 clear hr1 hw1 HX;go_wp2
 go_loopw [10] (λi wr=>∃ k:Nat,k<=n/\i=Z8 aI k/\Y9 w (GT (ev xs) k) wr) (λi _=>n-(intOf i).toNat)
 case atStart=>exact⟨0,Au _,rfl,HS.o⟩
 case round=>
  clear HS;obtain⟨k,hk,rfl,hst⟩:=hrel;obtain⟨hres,⟨es,hrow,hok,hev⟩,hbel⟩:=hst;by_cases hlt:k<n
  ·have hlt':(k:Int)<(n:Int):=AJ
   have E:=Dj.of_row hrow hok;go_wp2_with fail;refine(Ct _ _ _ _ es es _ E E).mono ?_;rintro e w2 ⟨fs,hfk,hfv,rfl,b2⟩;have s2:=hbel.size;have hl1:=hrow.lt;have HR2:AO (Ch w2 (w.heap.size+1) 138 es):=hrow.below b2 hl1;have HRS:AO (Ch w2 w.heap.size 138 [0,0,0,0,0]):=hres.below b2 hres.lt;have HB2:AO (Below w.heap.size w w2):=hbel.trans (b2.mono s2);have HF:AO (Cs fs/\ev fs=GT (ev xs) (k+1)):=⟨hfk,by rw[hfv,hev];rfl⟩
   have HL:AO (es.length=5):=hok.1;clear E hrow hok hev hres hbel b2 hfk hfv;go_wp2_with (first
    |(refine Co rfl (aM 5) (aM 12) rfl (w.heap.size+1) fs es rfl rfl HF.o.1.1 HL.o HR2.o ?_)
    |fail)
   intro w3 hr3 hw3;have HS3:AO (Y9 w (GT (ev xs) (k+1)) w3):=⟨hw3.rowW HRS.o AJ,⟨fs,hr3,HF.o.1,HF.o.2⟩,HB2.o.trans (hw3.below AJ)⟩
   clear hr3 hw3 HR2 HRS HB2;go_wp2;go_roundw
   case rel=>exact⟨k+1,AJ,by go_num,HS3.o⟩
   case measure=>simp[intOf];omega
  ·obtain rfl:k=n:=AJ
   have HR2:AO (Dj wr (w.heap.size+1) 0 es):=Dj.of_row hrow hok;have HRS:AO (Ch wr w.heap.size 138 [0,0,0,0,0]):=hres;have HB2:AO (Below w.heap.size w wr):=hbel;have HF:AO (Cs es/\ev es=GT (ev xs) k):=⟨hok,hev⟩
   clear hrow hok hev hres hbel;go_wp2_with (first
    |(refine DT rfl (aM 5) rfl (w.heap.size+1) 0 es rfl HR2.o ?_)
    |(refine Co rfl (aM 4) (aM 14) rfl w.heap.size es [0,0,0,0,0] rfl rfl HF.o.1.1 rfl HRS.o ?_)
    |fail)
   intro w3 hr3 hw3;have HB3:AO (Below w.heap.size w w3):=HB2.o.trans (hw3.below Cl);have HR3:AO (Ch w3 w.heap.size 138 es):=hr3;clear hr3 hw3 HR2 HRS HB2;go_wp2;exact Ab (v:=aH (es.map (Value.int .u64)).toArray) (Nv rfl _ _ w.heap.size es HF.o.1.1 rfl HR3.o) rfl ⟨es,HF.o.1,HF.o.2,rfl,HB3.o⟩
theorem DL (a b:Int):(a%fp)*(b%fp)%fp=a*b%fp:=(Int.mul_emod a b fp).symm
theorem Nw (x:Int) (h0:0<=x) (h1:x<fp) (n:Nat):GT x n=x^(2^n)%fp:=by
 induction n with
 |zero=>simp only[GT,Nat.pow_zero,Int.pow_succ,Int.pow_zero,Int.one_mul];exact(Int.emod_eq_of_lt h0 h1).symm
 |succ n ih=>rw[GT,ih,DL,<-Int.pow_add,Nat.pow_succ];congr 2;omega
theorem Gj (x:Int) (a b:Nat):(x^a%fp)^b%fp=x^(a*b)%fp:=by
 induction b with
 |zero=>simp
 |succ b ih=>rw[Int.pow_succ,Int.mul_emod,ih,Int.emod_emod_of_dvd _ (Int.dvd_refl fp),DL,<-Int.pow_add,Nat.mul_succ]
theorem Gk (es:List Int):0<=ev es/\ev es<fp:=by unfold ev fp;omega
theorem QK (x:Int) (h:Nat):GT (x^(2^h-1)%fp) h*(x^(2^h-1)%fp)%fp=x^(2^(h+h)-1)%fp:=by
 have b:0<=x^(2^h-1)%fp/\x^(2^h-1)%fp<fp:=by unfold fp;omega
 rw[Nw _ b.1 b.2,Gj,DL,<-Int.pow_add]
 congr 2
 have hp:1<=2^h:=Nat.pow_pos AK;rw[Nat.pow_add,Nat.sub_mul,Nat.one_mul];have:2^h<=2^h*2^h:=Nat.le_mul_of_pos_left _ hp;omega
theorem SO (x:Int) (m:Nat) (h0:0<=x) (h1:x<fp):GT (x^(2^m-1)%fp) 1*x%fp=x^(2^(m+1)-1)%fp:=by
 have b:0<=x^(2^m-1)%fp/\x^(2^m-1)%fp<fp:=by unfold fp;omega
 have hx:x=x^1%fp:=by rw[Int.pow_succ,Int.pow_zero,Int.one_mul];exact(Int.emod_eq_of_lt h0 h1).symm
 rw[Nw _ b.1 b.2,Gj]
 conv=>lhs;rw[show x^((2^m-1)*2^1)%fp*x=x^((2^m-1)*2^1)%fp*(x^1%fp) from by rw[<-hx]]
 rw[DL,<-Int.pow_add]
 congr 2
 have hp:1<=2^m:=Nat.pow_pos AK;rw[Nat.pow_succ];omega
theorem Dj.wr {w w':aC} {g o V:Nat} {es:List Int} (h:Dj w g o es) (hw:Wr V w w') (hne:g≠V):Dj w' g o es:=
 ⟨by rw[hw.size];exact h.1,h.2.1,λi hi=>by rw[Ai (a:=⟨g,o+i,aA⟩) (w:=w) (hw.block g hne)];exact h.2.2 i hi⟩
theorem SP (n:Nat):∀(g o:Nat) (xs:List Int) (w:aC),1<=n->n<=1024->Dj w g o xs->
  Calls tP 160 #[aF (aE ⟨g,o,aA⟩),Z8 aI n] w (EP w (ev xs^(2^n-1)%fp)):=by
 induction n using Nat.strongRecOn with
 |ind n ih=>
  intro g o xs w hn1 hn2 h;have HX:AO (Dj (w.alloc (aJ CQ 138)) g o xs):=h.below (Cx _ _);have HK:AO (Cs xs):=h.2.1;have hev:=Gk xs;have hgw:g<w.heap.size:=h.1;clear h;by_cases h1:n=1
  ·have h1':((n:Int) == 1)=true:=by rw[h1];rfl
   have HV:AO (ev xs=ev xs^(2^n-1)%fp):=by
    show _=_
    rw[h1];simp only[Nat.pow_one,Nat.reduceSub,Int.pow_succ,Int.pow_zero,Int.one_mul];exact(Int.emod_eq_of_lt hev.1 hev.2).symm
   clear h1 ih;have HR0:AO (Ch (w.alloc (aJ CQ 138)) w.heap.size 138 [0,0,0,0,0]):=Jo w;go_enter func160,ntmps160;go_wp2_with (first
    |(refine DT rfl (aM 10) rfl g o xs rfl HX.o ?_)
    |(refine Co rfl (aM 4) (aM 11) rfl w.heap.size xs [0,0,0,0,0] rfl rfl HK.o.1 rfl HR0.o ?_)
    |fail)
   intro w3 hr3 hw3;have HB3:AO (Below w.heap.size w w3):=(Cx _ _).trans (hw3.below Cl);have HR3:AO (Ch w3 w.heap.size 138 xs):=hr3;clear hr3 hw3 HX HR0;go_wp2;exact Ab (v:=aH (xs.map (Value.int .u64)).toArray) (Nv rfl _ _ w.heap.size xs HK.o.1 rfl HR3.o) rfl ⟨xs,HK.o,HV.o,rfl,HB3.o⟩
  ·have h1':((n:Int) == 1)=false:=by simp;omega
   have IH:AO (∀(w:aC),1<=n/2->n/2<=1024->Dj w g o xs->Calls tP 160 #[aF (aE ⟨g,o,aA⟩),Z8 aI ((n/2:Nat):Int)] w (EP w (ev xs^(2^(n/2)-1)%fp))):=ih (n/2) AJ g o xs;have HD:AO ((n:Int)/2=((n/2:Nat):Int)):=by show _=_;omega
   clear ih;have hb0:Below w.heap.size w (w.alloc (aJ CQ 138)):=Cx _ _;have HR0:Ch (w.alloc (aJ CQ 138)) w.heap.size 138 [0,0,0,0,0]:=Jo w;go_enter func160,ntmps160;go_wp2_with fail;generalize w.alloc (aJ CQ 138)=w0 at *;rw[HD.o];refine(IH.o _ AJ AJ HX.o).mono ?_;rintro e w1 ⟨es,hok,hes,rfl,b1⟩;have HE1:AO (Cs es/\ev es=ev xs^(2^(n/2)-1)%fp):=⟨hok,hes⟩
   have s0:=hb0.size;have hl0:=HR0.lt;have HR1:Ch w1 w.heap.size 138 [0,0,0,0,0]:=HR0.below b1 hl0;have B1:Below w.heap.size w w1:=hb0.trans (b1.mono s0);have X1:=HX.o.below b1;clear hok hes b1 HR0 hb0 HX IH;have s1:=B1.size;have hl1:=HR1.lt;have HRN:AO (Ch (w1.alloc (aJ CQ 138)) w1.heap.size 138 [0,0,0,0,0]):=Jo w1;go_wp2_with (first
    |(refine Co rfl (aM 5) (aM 15) rfl w1.heap.size es [0,0,0,0,0] rfl rfl HE1.o.1.1 rfl HRN.o ?_)
    |fail)
   intro w2 hr2 hw2;have b2:Below w1.heap.size w1 w2:=(Cx _ _).trans (hw2.below Cl);clear HRN;have HR2:=HR1.below b2 hl1;have B2:Below w.heap.size w w2:=B1.trans (b2.mono s1);have X2:=X1.below b2;have E2:=Dj.of_row hr2 HE1.o.1;have hG:w.heap.size<w1.heap.size:=hl1;clear X1 HR1 B1 b2 hw2;generalize hGd:w1.heap.size=G at *;clear hGd;go_wp2_with fail;rw[HD.o];refine(Dq G 0 es (n/2) _ AJ E2).mono ?_;rintro e w3 ⟨fs,hfk,hfv,rfl,b3⟩;have s2:=B2.size;have hl2:=HR2.lt;have HR3:=HR2.below b3 hl2;have B3:Below w.heap.size w w3:=B2.trans (b3.mono s2);have X3:=X2.below b3;have E3:=E2.below b3;have HF:AO (Cs fs/\ev fs=GT (ev xs^(2^(n/2)-1)%fp) (n/2)):=⟨hfk,by rw[hfv,HE1.o.2]⟩
   clear hfk hfv b3 B2 X2 E2 HR2 hr2;have s3:=B3.size;have hl3:=HR3.lt;have hG3:G<w3.heap.size:=E3.1;have HRN:AO (Ch (w3.alloc (aJ CQ 138)) w3.heap.size 138 [0,0,0,0,0]):=Jo w3;go_wp2_with (first
    |(refine Co rfl (aM 6) (aM 18) rfl w3.heap.size fs [0,0,0,0,0] rfl rfl HF.o.1.1 rfl HRN.o ?_)
    |fail)
   intro w4 hr4 hw4;have b4:Below w3.heap.size w3 w4:=(Cx _ _).trans (hw4.below Cl);clear HRN;have HR4:=HR3.below b4 hl3;have B4:Below w.heap.size w w4:=B3.trans (b4.mono s3);have X4:=X3.below b4;have E4:=E3.below b4;have F4:=Dj.of_row hr4 HF.o.1;have hV:w.heap.size<w3.heap.size:=AJ
   clear X3 E3 HR3 B3 b4 hw4;generalize hVd:w3.heap.size=V at *;clear hVd;go_wp2_with fail;refine(Ct V 0 G 0 fs es _ F4 E4).mono ?_;rintro e w5 ⟨us,huk,huv,rfl,b5⟩;have s4:=B4.size;have HU:AO (Cs us/\ev us=ev xs^(2^(n/2+n/2)-1)%fp):=⟨huk,by rw[huv,HF.o.2,HE1.o.2,QK]⟩
   have HR5:=HR4.below b5 HR4.lt;have hrV:=hr4.below b5 hr4.lt;have B5:Below w.heap.size w w5:=B4.trans (b5.mono s4);have X5:=X4.below b5;have HFL:AO (fs.length=5):=HF.o.1.1;clear huk huv b5 B4 X4 E4 F4 HR4 hr4;have HRV:AO (Ch w5 V 138 fs):=hrV;clear hrV;go_wp2_with (first
    |(refine Co rfl (aM 6) (aM 19) rfl V us fs rfl rfl HU.o.1.1 HFL.o HRV.o ?_)
    |fail)
   intro w6 hr6 hw6;have HR6:Ch w6 w.heap.size 138 [0,0,0,0,0]:=hw6.rowW HR5 AJ;have B6:Below w.heap.size w w6:=B5.trans (hw6.below AJ);have X6:=X5.wr hw6 AJ;have hr6':Ch w6 V 138 us:=hr6;clear X5 HR5 B5 hw6 HRV hr6;have hmod:(n:Int)%2=((n%2:Nat):Int):=AJ
   by_cases hodd:n%2=1
   ·have ho1:(n:Int)%2=1:=AJ
    have ho2:(n:Int).tmod 2=1:=by rw[Am AJ];exact ho1
    have HNE:AO (n/2+n/2+1=n):=by show _=_;omega
    clear hmod hodd;have U6:=Dj.of_row hr6' HU.o.1;go_wp2_with fail;refine(Dq V 0 us 1 _ AK U6).mono ?_;rintro e w7 ⟨vs,hvk,hvv,rfl,b7⟩;have s6:=B6.size;have HV7:AO (Cs vs/\ev vs=GT (ev xs^(2^(n/2+n/2)-1)%fp) 1):=⟨hvk,by rw[hvv,HU.o.2]⟩
    have HR7:=HR6.below b7 HR6.lt;have HRV7:AO (Ch w7 V 138 us):=hr6'.below b7 hr6'.lt;have B7:Below w.heap.size w w7:=B6.trans (b7.mono s6);have X7:=X6.below b7;have HUL:AO (us.length=5):=HU.o.1.1;clear hvk hvv b7 U6 HR6 hr6' B6 X6;go_wp2_with (first
     |(refine Co rfl (aM 6) (aM 23) rfl V vs us rfl rfl HV7.o.1.1 HUL.o HRV7.o ?_)
     |fail)
    intro w8 hr8 hw8;have HR8:Ch w8 w.heap.size 138 [0,0,0,0,0]:=hw8.rowW HR7 AJ;have B8:Below w.heap.size w w8:=B7.trans (hw8.below AJ);have X8:=X7.wr hw8 AJ;have V8:=Dj.of_row hr8 HV7.o.1;clear HR7 B7 X7 hw8 HRV7;go_wp2_with fail;refine(Ct V 0 g o vs xs _ V8 X8).mono ?_;rintro e wa ⟨ts,htk,htv,rfl,ba⟩;have s8:=B8.size;have HT:AO (Cs ts/\ev ts=ev xs^(2^n-1)%fp):=⟨htk,by rw[htv,HV7.o.2,SO _ _ hev.1 hev.2,HNE.o]⟩
    have HRa:=HR8.below ba HR8.lt;have HRVa:AO (Ch wa V 138 vs):=hr8.below ba hr8.lt;have Ba:Below w.heap.size w wa:=B8.trans (ba.mono s8);have HVL8:AO (vs.length=5):=HV7.o.1.1;clear htk htv ba V8 X8 HR8 B8 hr8;go_wp2_with (first
     |(refine Co rfl (aM 6) (aM 25) rfl V ts vs rfl rfl HT.o.1.1 HVL8.o HRVa.o ?_)
     |fail)
    intro wb hrb hwb;have HRb:Ch wb w.heap.size 138 [0,0,0,0,0]:=hwb.rowW HRa AJ;have Bb:Below w.heap.size w wb:=Ba.trans (hwb.below AJ);clear HRa Ba hwb HRVa;have HRES:AO (Ch wb w.heap.size 138 [0,0,0,0,0]):=HRb;have HBE:AO (Below w.heap.size w wb):=Bb;have HVL:AO (Dj wb V 0 ts):=Dj.of_row hrb HT.o.1;clear hrb HRb Bb;go_wp2_with (first
     |(refine DT rfl (aM 6) rfl V 0 ts rfl HVL.o ?_)
     |(refine Co rfl (aM 4) (aM 26) rfl w.heap.size ts [0,0,0,0,0] rfl rfl HT.o.1.1 rfl HRES.o ?_)
     |fail)
    intro w9 hr9 hw9;have HB9:AO (Below w.heap.size w w9):=HBE.o.trans (hw9.below Cl);have HR9:AO (Ch w9 w.heap.size 138 ts):=hr9;clear hr9 hw9 HRES HBE HVL;go_wp2;exact Ab (v:=aH (ts.map (Value.int .u64)).toArray) (Nv rfl _ _ w.heap.size ts HT.o.1.1 rfl HR9.o) rfl ⟨ts,HT.o.1,HT.o.2,rfl,HB9.o⟩
   ·have ho1:(n:Int)%2=0:=AJ
    have ho2:(n:Int).tmod 2=0:=by rw[Am AJ];exact ho1
    have HT:AO (Cs us/\ev us=ev xs^(2^n-1)%fp):=⟨HU.o.1,by rw[HU.o.2,show n/2+n/2=n by omega]⟩
    clear hmod hodd X6;have HRES:AO (Ch w6 w.heap.size 138 [0,0,0,0,0]):=HR6;have HBE:AO (Below w.heap.size w w6):=B6;have HVL:AO (Dj w6 V 0 us):=Dj.of_row hr6' HT.o.1;clear hr6' HR6 B6;go_wp2_with (first
     |(refine DT rfl (aM 6) rfl V 0 us rfl HVL.o ?_)
     |(refine Co rfl (aM 4) (aM 26) rfl w.heap.size us [0,0,0,0,0] rfl rfl HT.o.1.1 rfl HRES.o ?_)
     |fail)
    intro w9 hr9 hw9;have HB9:AO (Below w.heap.size w w9):=HBE.o.trans (hw9.below Cl);have HR9:AO (Ch w9 w.heap.size 138 us):=hr9;clear hr9 hw9 HRES HBE HVL;go_wp2;exact Ab (v:=aH (us.map (Value.int .u64)).toArray) (Nv rfl _ _ w.heap.size us HT.o.1.1 rfl HR9.o) rfl ⟨us,HT.o.1,HT.o.2,rfl,HB9.o⟩
end Go.Proofs.YtjdhhgaelgemcaaGreatDoor
