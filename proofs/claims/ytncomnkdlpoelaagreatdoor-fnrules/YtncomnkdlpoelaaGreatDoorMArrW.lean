import Derived.Test.YtncomnkdlpoelaaGreatDoorMReg
open Go.Proofs.Tryz renaming prog->tP
open Go.Proofs.Tryz
open Go.Value renaming int->aO,pointer->aY,agg->af
open Go.IntKind renaming i64->aZ
open Go.Obj renaming cells->aa
open Go.Ending renaming returned->aQ
open Go.Ground renaming data->ag
open Go.Operand renaming tmp->ah
open Option renaming some->aR,none->aS
open Go renaming World->aV,Value->aX
set_option maxHeartbeats 2000000
set_option maxRecDepth 100000
namespace Go.Proofs.YtncomnkdlpoelaaGreatDoor
open Go.ChangeShapes Go.WideShapes Go.ChangeAt Go.RowKit
set_option linter.unusedVariables false
theorem MV (w:aV) (xs:List Int) (i:Nat) (hi:i<xs.length):(part 135 (xs.map (Value.int .u64)).toArray i).run tP w=.ok (aO .u64 (xs.getD i 0)) w:=by
 have hagg:(isAgg 135).run tP w=.ok false w:=by
  unfold isAgg;rw[Bc,BH underlying135 w];rfl
 simp[part,hagg,hi]
theorem sizeU64 (w:aV):(sizeOf 135).run tP w=.ok 1 w:=by
 have h:(tP.info? 135).map (·.size)=aR 1:=AM
 cases hq:tP.info? 135 with
 |none=>simp[hq] at h
 |some i=>
  have hs:i.size=1:=by simpa[hq] using h
  simp[sizeOf,typeInfo,hq,hs]
theorem Id (w:aV) (d n:Nat) (t:TypeId) (hu:tP.underlying t=aR (.array n 135)) (xs ys:List Int) (hx:xs.length=n) (hy:ys.length=n) :
  (Op.equalIn (d+2) t (af (xs.map (Value.int .u64)).toArray) (af (ys.map (Value.int .u64)).toArray)).run tP w=.ok (decide (xs=ys)) w:=by
 have key:decide (xs=ys)=(List.range' 0 n).all (λi=>xs.getD i 0 == ys.getD i 0):=by
  rw[Bool.eq_iff_iff];simp only[decide_eq_true_eq,List.all_eq_true,List.mem_range',beq_iff_eq];constructor
  {rintro rfl _ _;rfl};{intro h;apply List.ext_getElem AJ;intro i h1 h2;have:=h i ⟨i,AJ,AJ⟩;simpa[h1,h2] using this}
 rw[key];unfold Op.equalIn;simp only[Sem.run_bind,run_underlying hu,Result.andThen_ok,sizeU64,Nat.mul_one,Std.Legacy.Range.forIn_eq_forIn_range',Std.Legacy.Range.size,Nat.sub_zero,Nat.add_sub_cancel,Nat.div_one];have hl:∀ i∈List.range' 0 n,i<n:=λi hi=>by rw[List.mem_range'] at hi;obtain⟨j,_,rfl⟩:=hi;omega
 revert hl;generalize List.range' 0 n=l;intro hl
 induction l with
 |nil=>simp
 |cons i l ih=>
  have hi:=hl i (List.mem_cons_self ..);have ih':=ih (λj hj=>hl j (List.mem_cons_of_mem _ hj));simp only[List.forIn_cons,Sem.run_bind,MV w xs i AJ,MV w ys i AJ,Result.andThen_ok,run_equalIn_int w d 135 .u64 .u64 _ _ underlying135,List.all_cons];cases hb:(xs.getD i 0 == ys.getD i 0)
  {simp};{simp only[Bool.not_true,Bool.false_eq_true,if_false,Sem.run_pure,Result.andThen_ok,Bool.true_and];exact ih'}
/-! Elements of five limbs of 51 bits. -/
def D2 (B:Int) (xs:List Int):Nat->Int
 |0=>0
 |i+1=>(xs.getD i 0+D2 B xs i)/B
theorem Nu (B:Int) (xs:List Int) (n:Nat):val B ((List.range n).map λi=>(xs.getD i 0+D2 B xs i)%B)+D2 B xs n*B^n=val B ((List.range n).map λi=>xs.getD i 0):=by
 induction n with
 |zero=>simp[val,D2]
 |succ n ih=>
  rw[Dn,Dn,<-ih,Int.pow_succ];simp only[D2];have e:(xs.getD n 0+D2 B xs n)%B+B*((xs.getD n 0+D2 B xs n)/B)=xs.getD n 0+D2 B xs n:=Int.emod_add_mul_ediv _ _;have e2:((xs.getD n 0+D2 B xs n)%B+B*((xs.getD n 0+D2 B xs n)/B))*B^n=(xs.getD n 0+D2 B xs n)*B^n:=by rw[e]
  generalize B^n=P at *;generalize (xs.getD n 0+D2 B xs n)/B=q at *;generalize (xs.getD n 0+D2 B xs n)%B=r at *;generalize val B (List.map (λi=>(xs.getD i 0+D2 B xs i)%B) (List.range n))=v at *
  grind
def DD:Int:=2251799813685248
def MW (xs:List Int) (k i:Nat):Int:=if i<k then(xs.getD i 0+D2 DD xs i)%DD else xs.getD i 0
def Hn (xs:List Int) (k:Nat):List Int:=(List.range 5).map (MW xs k)
theorem Dm (xs:List Int) (k:Nat):(Hn xs k).length=5:=by simp[Hn]
theorem PG (f:Nat->Int) (i:Nat) (h:i<5):((List.range 5).map f).getD i 0=f i:=by simp[h]
theorem GX (xs:List Int) (k i:Nat) (h:i<5):(Hn xs k).getD i 0=MW xs k i:=PG _ i h
theorem K0 {a b:List Int} (ha:a.length=5) (hb:b.length=5) (h:∀ i,i<5->a.getD i 0=b.getD i 0):a=b:=by
 apply List.ext_getElem AJ;intro i h1 h2;have:=h i AJ;simpa[h1,h2] using this
theorem Rz (xs:List Int) (h:xs.length=5):Hn xs 0=xs:=by
 apply K0 (Dm _ _) h;intro i hi;rw[GX _ _ _ hi];simp[MW]
theorem R0 (xs:List Int) (k:Nat) (h:k<5):(Hn xs k).set k ((xs.getD k 0+D2 DD xs k)%DD)=Hn xs (k+1):=by
 apply K0 (by simp[Dm]) (Dm _ _);intro i hi;rw[Cx _ _ _ _ (by simp[Dm];omega),GX _ _ _ hi,GX _ _ _ hi];unfold MW;by_cases h2:i=k
 ·subst h2;simp
 ·have h3:(i<k)↔(i<k+1):=AJ
  simp[h2,h3]
theorem Ld (xs:List Int) (h:xs.length=5):val DD (Hn xs 5)+D2 DD xs 5*(fp+19)=val DD xs:=by
 have e:=Nu DD xs 5;rw[<-DE DD xs 5 h] at e;have e1:Hn xs 5=(List.range 5).map λi=>(xs.getD i 0+D2 DD xs i)%DD:=by
  apply K0 (Dm _ _) AL;intro i hi;rw[GX _ _ _ hi,PG _ _ hi];simp[MW,hi]
 have e2:(DD:Int)^5=fp+19:=AK
 rw[e1,<-e2];exact e
def Cu (xs:List Int):List Int:=(Hn xs 5).set 0 ((Hn xs 5).getD 0 0+19*D2 DD xs 5)
theorem IJ (xs:List Int):(Cu xs).length=5:=by simp[Cu,Dm]
theorem Nv (xs:List Int) (h:xs.length=5):val DD (Cu xs)=val DD xs-D2 DD xs 5*fp:=by
 unfold Cu;rw[FV _ _ _ _ (by simp[Dm]),<-Ld xs h];simp only[Int.pow_zero];generalize (Hn xs 5).getD 0 0=y;generalize D2 DD xs 5=c;generalize val DD (Hn xs 5)=v
 grind
def ev (xs:List Int):Int:=val DD xs%fp
theorem Ho (xs:List Int) (h:xs.length=5):ev (Cu xs)=ev xs:=by
 unfold ev;rw[Nv xs h];have:val DD xs-D2 DD xs 5*fp=val DD xs+fp*(-(D2 DD xs 5)):=by grind
 rw[this,Int.add_mul_emod_self_left]
def Cq (xs:List Int):Prop:=xs.length=5/\(∀ i,0<=xs.getD i 0)/\(∀ i,1<=i->xs.getD i 0<2251799813685248)/\xs.getD 0 0<2251799813685504
theorem FQ (xs:List Int) (i:Nat):0<=(Hn xs 5).getD i 0/\(Hn xs 5).getD i 0<2251799813685248:=by
 by_cases h:i<5
 ·rw[GX _ _ _ h];unfold MW DD;rw[AP h];omega
 ·rw[C9 (by rw[Dm];omega)];omega
theorem I6 {xs:List Int} (h0:0<=D2 DD xs 5) (h1:D2 DD xs 5<=13):Cq (Cu xs):=by
 have hl:0<(Hn xs 5).length:=by rw[Dm];decide
 have hb0:=FQ xs 0;refine⟨IJ _,λi=>?_,λi hi=>?_,?_⟩
 ·unfold Cu;rw[Cx _ _ _ _ hl];have:=FQ xs i;split<;>omega
 ·unfold Cu;rw[Cx _ _ _ _ hl,AQ AJ];exact(FQ xs i).2
 ·unfold Cu;rw[Cx _ _ _ _ hl,AP rfl];omega
theorem Nw {xs:List Int} (h:∀ i,0<=xs.getD i 0) (i:Nat):0<=D2 DD xs i:=by
 induction i with
 |zero=>simp[D2]
 |succ i ih=>have:=h i;simp only[D2];unfold DD at *;omega
theorem J8 {xs:List Int} {M C:Int} (h:∀ i,0<=xs.getD i 0/\xs.getD i 0<M) (hC:0<=C) (hM:M+C<=2251799813685248*(C+1)) (i:Nat):0<=D2 DD xs i/\D2 DD xs i<=C:=by
 induction i with
 |zero=>simp[D2];omega
 |succ i ih=>have:=h i;simp only[D2];unfold DD at *;omega
def Wb (xs:List Int):Prop:=∀ i,0<=xs.getD i 0/\xs.getD i 0<9223372036854775808
structure R3 (w:aV) (g:Nat) (zs:List Int) (wr:aV):Prop where
 row:Cd wr g 141 zs
 wr:Wr g w wr
theorem R3.set {w:aV} {g:Nat} {zs:List Int} {wr:aV} (h:R3 w g zs wr) (k:Nat) (x:Int):R3 w g (zs.set k x) ((wr.setCell ⟨g,k,aS⟩ (aO .u64 x)).drew):=
 ⟨h.row.set k x,(h.wr.setCell k _).drew⟩
theorem IK (g:Nat) (xs:List Int) (w:aV) (hl:xs.length=5) (hr:Cd w g 141 xs) (hx:Wb xs) :
  Calls tP 148 #[aY (aR ⟨g,0,aS⟩)] w λe w'=>e=aQ (aO .u64 (D2 DD xs 5))/\R3 w g (Hn xs 5) w':=by
 have HC:AO (∀ i,0<=D2 DD xs i/\D2 DD xs i<=4096):=λi=>J8 (M:=9223372036854775808) hx AK AK i
 have HX:=CY <| hx
 have HS:AO (R3 w g (Hn xs 0) w):=⟨by rw[Rz xs hl];exact hr,Wr.refl _ _⟩
 clear hx hr;go_enter func148,ntmps148;go_wp2
 go_loopw [3,5] (λc i wr=>∃ k:Nat,k<=5/\i=aO aZ k/\c=aO .u64 (D2 DD xs k)/\R3 w g (Hn xs k) wr) (λ_ i _=>5-(intOf i).toNat)
 case atStart=>exact⟨0,AK,rfl,rfl,HS.o⟩
 case round=>
  clear HS;obtain⟨k,hk,rfl,rfl,hst⟩:=hrel;by_cases hlt:k<5
  ·have hlt':(k:Int)<5:=AJ
   obtain⟨hc0,hc1⟩:=HC.o k;obtain⟨hx0,hx1⟩:=HX.o k;have hget:(Hn xs k).getD k 0=xs.getD k 0:=by rw[GX _ _ _ hlt];simp[MW]
   have hlen:=Dm xs k;have c0:=hst.row.cell k AJ;have f0:=hst.row.frozen k;rw[hget] at c0;have s1:=hst.set k (xs.getD k 0+D2 DD xs k);have c1:=s1.row.cell k (by rw[List.length_set];omega);have f1:=s1.row.frozen k;rw[Cx _ _ _ _ AJ,AP rfl] at c1;have s2:=s1.set k ((xs.getD k 0+D2 DD xs k)%DD);rw[List.set_set,R0 xs k hlt] at s2;have HS2:=CY <| s2
   have HCS:AO (D2 DD xs (k+1)=(xs.getD k 0+D2 DD xs k)/2251799813685248):=rfl;have HAND:AO (bits .and .u64 (xs.getD k 0+D2 DD xs k) 2251799813685247=(xs.getD k 0+D2 DD xs k)%DD):=DI _ 51 AJ AJ _ AK AK;clear hget hlen s1 s2 hst;generalize D2 DD xs k=cc at *;generalize xs.getD k 0=x at *;go_wp2
   go_region
   clear c0 f0;generalize (wr.setCell ⟨g,k,aS⟩ (aO .u64 (x+cc))).drew=w1 at *;go_wp2
   go_region
   rw[HAND.o];clear c1 f1;generalize (w1.setCell ⟨g,k,aS⟩ (aO .u64 ((x+cc)%DD))).drew=w2 at *;go_wp2;go_roundw
   case rel=>exact⟨k+1,AJ,by go_num,by rw[HCS.o],HS2.o⟩
   case measure=>simp[intOf];omega
  ·obtain rfl:k=5:=AJ
   have HP:=CY <| hst
   clear hst;go_wp2
   go_ret
   exact⟨rfl,HP.o⟩
theorem IL (g:Nat) (xs:List Int) (w:aV) (hl:xs.length=5) (hr:Cd w g 141 xs) (hx:Wb xs) :
  Calls tP 153 #[aY (aR ⟨g,0,aS⟩)] w λe w'=>e=aQ (.tuple #[])/\R3 w g (Cu xs) w':=by
 have hc:=J8 (M:=9223372036854775808) (C:=4096) hx AK AK 5;go_enter func153,ntmps153;go_wp2_with fail;refine(IK g xs _ hl hr hx).mono ?_;rintro e w1 ⟨rfl,st⟩;have hb:=FQ xs 0;have c0:=st.row.cell 0 (by rw[Dm];decide);have f0:=st.row.frozen 0;have HS:AO (R3 w g (Cu xs) ((w1.setCell ⟨g,0,aS⟩ (aO .u64 ((Hn xs 5).getD 0 0+19*D2 DD xs 5))).drew)):=st.set 0 _;clear st hr hx;generalize (Hn xs 5).getD 0 0=y at *;generalize D2 DD xs 5=c at *;obtain⟨hc0,hc1⟩:=hc;obtain⟨hb0,hb1⟩:=hb;go_wp2
 go_region
 clear c0 f0;generalize (w1.setCell ⟨g,0,aS⟩ (aO .u64 (y+19*c))).drew=w2 at *;go_wp2
 go_end0
 exact⟨rfl,HS.o⟩
def Dx (w:aV) (g o:Nat) (es:List Int):Prop:=g<w.heap.size/\Cq es/\∀ i,i<5->w.cell? ⟨g,o+i,aS⟩=aR (aO .u64 (es.getD i 0))
theorem Dx.below {w w':aV} {g o:Nat} {es:List Int} (h:Dx w g o es) (hb:Below w.heap.size w w'):Dx w' g o es:=
 ⟨AH hb.size h.1,h.2.1,λi hi=>by rw[hb.cell (p:=⟨g,o+i,aS⟩) h.1];exact h.2.2 i hi⟩
def EP (w:aV) (x:Int) (e:Ending) (w':aV):Prop:=
 ∃ es:List Int,Cq es/\ev es=x/\e=aQ (af (es.map (Value.int .u64)).toArray)/\Below w.heap.size w w'
theorem Tryz.sizeEl:(tP.info? 141).map (·.size)=aR 5:=AM
theorem sizeEl {ns:List Int} (h:ns.length=5):(tP.info? 141).map (·.size)=aR ((ns.map (Value.int .u64)).toArray).size:=by rw[Tryz.sizeEl];simp[h]
def EB (f:Nat->Int) (zs:List Int) (k:Nat):List Int:=(List.range 5).map λi=>if i<k then f i else zs.getD i 0
theorem Dh (f:Nat->Int) (zs:List Int) (k:Nat):(EB f zs k).length=5:=by simp[EB]
theorem Fq (f:Nat->Int) (zs:List Int) (k i:Nat) (h:i<5):(EB f zs k).getD i 0=if i<k then f i else zs.getD i 0:=PG _ i h
theorem I7 (f:Nat->Int) (zs:List Int) (h:zs.length=5):EB f zs 0=zs:=by
 apply K0 (Dh _ _ _) h;intro i hi;rw[Fq _ _ _ _ hi];simp
theorem I8 (f:Nat->Int) (zs:List Int) (k:Nat) (h:k<5):(EB f zs k).set k (f k)=EB f zs (k+1):=by
 apply K0 (by simp[Dh]) (Dh _ _ _);intro i hi;rw[Cx _ _ _ _ (by simp[Dh];omega),Fq _ _ _ _ hi,Fq _ _ _ _ hi];by_cases h2:i=k
 ·subst h2;simp
 ·have h3:(i<k)↔(i<k+1):=AJ
  simp[h2,h3]
theorem YD (B:Int) (f:Nat->Int) (zs:List Int):val B (EB f zs 5)=val B ((List.range 5).map f):=by
 congr 1
theorem R4 (B:Int) (f g:Nat->Int) (n:Nat):val B ((List.range n).map λi=>f i-g i)=val B ((List.range n).map f)-val B ((List.range n).map g):=by
 have:=GU B f g n (-1);rw[show(λi=>f i-g i)=λi=>f i+-1*g i from by funext i;omega,this];omega
structure NU (w:aV) (zs:List Int) (wr:aV):Prop where
 res:Cd wr w.heap.size 141 [0,0,0,0,0]
 row:Cd wr (w.heap.size+1) 141 zs
 below:Below w.heap.size w wr
theorem NU.set {w:aV} {zs:List Int} {wr:aV} (h:NU w zs wr) (k:Nat) (x:Int):NU w (zs.set k x) ((wr.setCell ⟨w.heap.size+1,k,aS⟩ (aO .u64 x)).drew):=
 ⟨((Wr.refl _ _).setCell k _).rowW h.res AJ,h.row.set k x,(h.below.setCell AL _).drew⟩
theorem NU.carry {w:aV} {zs ys:List Int} {wr w':aV} (h:NU w zs wr) (hs:R3 wr (w.heap.size+1) ys w'):NU w ys w':=
 ⟨hs.wr.rowW h.res AJ,hs.row,h.below.trans (hs.wr.below AJ)⟩
def IM (xs ys:List Int):List Int:=EB (λi=>xs.getD i 0+ys.getD i 0) [0,0,0,0,0] 5
theorem Ub {xs ys:List Int} (hx:Cq xs) (hy:Cq ys):Wb (IM xs ys)/\Cq (Cu (IM xs ys))/\ev (Cu (IM xs ys))=(ev xs+ev ys)%fp:=by
 have hb:∀ i,0<=(IM xs ys).getD i 0/\(IM xs ys).getD i 0<4503599627371008:=λi=>by
  by_cases h:i<5
  ·unfold IM;rw[Fq _ _ _ _ h,AP h];have a0:=hx.2.1 i;have b0:=hy.2.1 i;rcases Nat.eq_zero_or_pos i with rfl|hi
   {have:=hx.2.2.2;have:=hy.2.2.2;omega};{have:=hx.2.2.1 i hi;have:=hy.2.2.1 i hi;omega}
  ·rw[C9 (by unfold IM;rw[Dh];omega)];omega
 have hc:=J8 (C:=2) hb AK AK 5;refine⟨λi=>AG (hb i),I6 hc.1 AJ,?_⟩;rw[Ho (IM xs ys) (Dh _ _ _)];unfold ev IM;rw[YD,DE DD xs 5 hx.1,DE DD ys 5 hy.1,<-Int.add_emod]
 congr 1
 have:=GU DD (λi=>xs.getD i 0) (λi=>ys.getD i 0) 5 1;rw[show(λi=>xs.getD i 0+ys.getD i 0)=λi=>xs.getD i 0+1*ys.getD i 0 from by funext i;omega,this];omega
def Ex:List Int:=[4503599627370458,4503599627370494,4503599627370494,4503599627370494,4503599627370494]
theorem R5:val DD Ex=2*fp:=AK
def Hx (xs ys:List Int):List Int:=EB (λi=>Ex.getD i 0+xs.getD i 0-ys.getD i 0) Ex 5
theorem MY (i:Nat) (h:i<5):4503599627370458<=Ex.getD i 0/\Ex.getD i 0<=4503599627370494:=by
 have:i=0\/i=1\/i=2\/i=3\/i=4:=AJ
 rcases this with rfl|rfl|rfl|rfl|rfl<;>decide
theorem Uc {xs ys:List Int} (hx:Cq xs) (hy:Cq ys):Wb (Hx xs ys)/\Cq (Cu (Hx xs ys))/\ev (Cu (Hx xs ys))=(ev xs-ev ys)%fp:=by
 have hb:∀ i,0<=(Hx xs ys).getD i 0/\(Hx xs ys).getD i 0<6755399441056000:=λi=>by
  by_cases h:i<5
  ·unfold Hx;rw[Fq _ _ _ _ h,AP h];have a0:=hx.2.1 i;have b0:=hy.2.1 i;have t:=MY i h;rcases Nat.eq_zero_or_pos i with rfl|hi
   {have:=hx.2.2.2;have:=hy.2.2.2;omega};{have:=hx.2.2.1 i hi;have:=hy.2.2.1 i hi;omega}
  ·rw[C9 (by unfold Hx;rw[Dh];omega)];omega
 have hc:=J8 (C:=3) hb AK AK 5;refine⟨λi=>AG (hb i),I6 hc.1 AJ,?_⟩;rw[Ho (Hx xs ys) (Dh _ _ _)];unfold ev Hx;have e0:=R5;rw[DE DD Ex 5 rfl] at e0;rw[YD,R4 DD (λi=>Ex.getD i 0+xs.getD i 0) (λi=>ys.getD i 0) 5];have:=GU DD (λi=>Ex.getD i 0) (λi=>xs.getD i 0) 5 1;rw[show(λi=>Ex.getD i 0+xs.getD i 0)=λi=>Ex.getD i 0+1*xs.getD i 0 from by funext i;omega,this,e0,<-DE DD xs 5 hx.1,<-DE DD ys 5 hy.1,<-Int.sub_emod];rw[show 2*fp+1*val DD xs-val DD ys=(val DD xs-val DD ys)+fp*2 by omega,Int.add_mul_emod_self_left]
theorem GN (g1 o1 g2 o2:Nat) (xs ys:List Int) (w:aV) (h1:Dx w g1 o1 xs) (h2:Dx w g2 o2 ys) :
  Calls tP 139 #[aY (aR ⟨g1,o1,aS⟩),aY (aR ⟨g2,o2,aS⟩)] w (EP w ((ev xs+ev ys)%fp)):=by
 obtain⟨q1,q2,q3⟩:=Ub h1.2.1 h2.2.1;have HQ:AO (Wb (IM xs ys)/\Cq (Cu (IM xs ys))/\ev (Cu (IM xs ys))=(ev xs+ev ys)%fp):=⟨q1,q2,q3⟩
 have HS:AO (NU w (EB (λi=>xs.getD i 0+ys.getD i 0) [0,0,0,0,0] 0) ((w.alloc (aa CN 141)).alloc (aa CN 141))):=by
  rw[I7 _ _ rfl];exact⟨heap_alloc2_old _ _ _,heap_alloc2_new _ _ _,(Cf.alloc Ch _).alloc AL _⟩
 have H1:=CY <| h1
 have H2:=CY <| h2
 clear q1 q2 q3 h1 h2;go_enter func139,ntmps139;go_wp2
 go_loopw [7] (λi wr=>∃ k:Nat,k<=5/\i=aO aZ k/\NU w (EB (λi=>xs.getD i 0+ys.getD i 0) [0,0,0,0,0] k) wr) (λi _=>5-(intOf i).toNat)
 case atStart=>exact⟨0,AK,rfl,HS.o⟩
 case round=>
  clear HS;obtain⟨k,hk,rfl,hst⟩:=hrel;by_cases hlt:k<5
  ·have hlt':(k:Int)<5:=AJ
   have c1:=(H1.o.below hst.below).2.2 k hlt;have c2:=(H2.o.below hst.below).2.2 k hlt;have a0:=H1.o.2.1.2.1 k;have b0:=H2.o.2.1.2.1 k;have ab:xs.getD k 0<2251799813685504:=by
    rcases Nat.eq_zero_or_pos k with rfl|hi
    {exact H1.o.2.1.2.2.2};{have:=H1.o.2.1.2.2.1 k hi;omega}
   have bb:ys.getD k 0<2251799813685504:=by
    rcases Nat.eq_zero_or_pos k with rfl|hi
    {exact H2.o.2.1.2.2.2};{have:=H2.o.2.1.2.2.1 k hi;omega}
   have c3:=hst.row.cell k (by rw[Dh];exact hlt);have f3:=hst.row.frozen k;have s1:=hst.set k (xs.getD k 0+ys.getD k 0);rw[I8 (λi=>xs.getD i 0+ys.getD i 0) _ k hlt] at s1;have HS1:=CY <| s1
   clear s1 hst;generalize (EB (λi=>xs.getD i 0+ys.getD i 0) [0,0,0,0,0] k).getD k 0=z at *;generalize xs.getD k 0=x at *;generalize ys.getD k 0=y at *;go_wp2
   go_region
   clear c1 c2 c3 f3;generalize (wr.setCell ⟨w.heap.size+1,k,aS⟩ (aO .u64 (x+y))).drew=w1 at *;go_wp2;go_roundw
   case rel=>exact⟨k+1,AJ,by go_num,HS1.o⟩
   case measure=>simp[intOf];omega
  ·obtain rfl:k=5:=AJ
   go_wp2_with fail;refine(IL _ (IM xs ys) _ (Dh _ _ _) hst.row HQ.o.1).mono ?_;rintro e w1 ⟨rfl,hs⟩;have s1:=hst.carry hs;have hl:=HQ.o.2.1.1;have HSZ:=CY <| sizeEl hl
   have HZ4:AO (([0,0,0,0,0].map (Value.int .u64)).toArray.size=(((Cu (IM xs ys)).map (Value.int .u64)).toArray).size):=by show _=_;simp[hl]
   have HRS:=CY <| s1.res
   have HRO:=CY <| s1.row
   have HBE:=CY <| s1.below
   clear s1 hs hst hl;generalize Cu (IM xs ys)=es at *;go_wp2_with (first
    |(refine AZ rfl 141 (ah 5) rfl (w.heap.size+1) rfl 141 _ (0,0) _ HRO.o underlying141 rfl HSZ.o ?_)
    |(refine AE 141 (ah 4) (ah 25) w.heap.size ((es.map (Value.int .u64)).toArray) 141 HRS.o HSZ.o HZ4.o (all_oneCell_toArray (Az _ _)) ?_))
   refine AU (v:=af (es.map (Value.int .u64)).toArray) (AY rfl _ _ w.heap.size 141 _ (0,0) _ rfl (AB HRS.o) underlying141 rfl HSZ.o) rfl ⟨es,HQ.o.2.1,HQ.o.2.2,rfl,?_⟩;exact HBE.o.trans ((Wr.setRow _ _ _).below Ch)
theorem Fe (g1 o1 g2 o2:Nat) (xs ys:List Int) (w:aV) (h1:Dx w g1 o1 xs) (h2:Dx w g2 o2 ys) :
  Calls tP 138 #[aY (aR ⟨g1,o1,aS⟩),aY (aR ⟨g2,o2,aS⟩)] w (EP w ((ev xs-ev ys)%fp)):=by
 obtain⟨q1,q2,q3⟩:=Uc h1.2.1 h2.2.1;have HQ:AO (Wb (Hx xs ys)/\Cq (Cu (Hx xs ys))/\ev (Cu (Hx xs ys))=(ev xs-ev ys)%fp):=⟨q1,q2,q3⟩
 have H1:=CY <| h1
 have H2:=CY <| h2
 clear q1 q2 q3 h1 h2;go_enter func138,ntmps138;have HR0:AO (Cd ((w.alloc (aa CN 141)).alloc (aa CN 141)) w.heap.size 141 [0,0,0,0,0]):=heap_alloc2_old _ _ _;have HBB:AO (Below w.heap.size w ((w.alloc (aa CN 141)).alloc (aa CN 141))):=(Cf.alloc Ch _).alloc AL _;have HR1:AO (Cd ((w.alloc (aa CN 141)).alloc (aa CN 141)) (w.heap.size+1) 141 [0,0,0,0,0]):=heap_alloc2_new _ _ _;have HSZ:AO ((tP.info? 141).map (·.size)=aR ((Ex.map (Value.int .u64)).toArray).size):=sizeEl rfl;go_wp2_with (first
  |(refine AE 141 (ah 5) (ah 7) (w.heap.size+1) ((Ex.map (Value.int .u64)).toArray) 141 HR1.o HSZ.o rfl (all_oneCell_toArray (Az _ _)) ?_)
  |fail)
 have HS:AO (NU w (EB (λi=>Ex.getD i 0+xs.getD i 0-ys.getD i 0) Ex 0) (((w.alloc (aa CN 141)).alloc (aa CN 141)).setRow (w.heap.size+1) (Ex.map (Value.int .u64)).toArray)):=by
  rw[I7 _ _ rfl];have r0:=HR0.o;have r1:=HR1.o;have bb:=HBB.o;generalize (w.alloc (aa CN 141)).alloc (aa CN 141)=wz at *;exact⟨r0.setRow_other _ AJ,r1.setRow Ex,bb.trans ((Wr.setRow _ _ _).below AJ)⟩
 clear HR0 HR1 HSZ HBB;generalize ((w.alloc (aa CN 141)).alloc (aa CN 141)).setRow (w.heap.size+1) (Ex.map (Value.int .u64)).toArray=w0 at *
 go_loopw [8] (λi wr=>∃ k:Nat,k<=5/\i=aO aZ k/\NU w (EB (λi=>Ex.getD i 0+xs.getD i 0-ys.getD i 0) Ex k) wr) (λi _=>5-(intOf i).toNat)
 case atStart=>exact⟨0,AK,rfl,HS.o⟩
 case round=>
  clear HS;obtain⟨k,hk,rfl,hst⟩:=hrel;by_cases hlt:k<5
  ·have hlt':(k:Int)<5:=AJ
   have c1:=(H1.o.below hst.below).2.2 k hlt;have c2:=(H2.o.below hst.below).2.2 k hlt;have a0:=H1.o.2.1.2.1 k;have b0:=H2.o.2.1.2.1 k;have ab:xs.getD k 0<2251799813685504:=by
    rcases Nat.eq_zero_or_pos k with rfl|hi
    {exact H1.o.2.1.2.2.2};{have:=H1.o.2.1.2.2.1 k hi;omega}
   have bb:ys.getD k 0<2251799813685504:=by
    rcases Nat.eq_zero_or_pos k with rfl|hi
    {exact H2.o.2.1.2.2.2};{have:=H2.o.2.1.2.2.1 k hi;omega}
   have c3:=hst.row.cell k (by rw[Dh];exact hlt);have f3:=hst.row.frozen k;have ht:=MY k hlt;have hz:(EB (λi=>Ex.getD i 0+xs.getD i 0-ys.getD i 0) Ex k).getD k 0=Ex.getD k 0:=by rw[Fq _ _ _ _ hlt];simp
   rw[hz] at c3;have s1:=hst.set k (Ex.getD k 0+xs.getD k 0-ys.getD k 0);rw[I8 (λi=>Ex.getD i 0+xs.getD i 0-ys.getD i 0) _ k hlt] at s1;have HS1:=CY <| s1
   have HW:AO (IntKind.u64.wrap (Ex.getD k 0+IntKind.u64.wrap (xs.getD k 0-ys.getD k 0))=Ex.getD k 0+xs.getD k 0-ys.getD k 0):=by
    show _=_
    rw[IntKind.wrap_u64,IntKind.wrap_u64];omega
   clear s1 hst hz;obtain⟨ht0,ht1⟩:=ht;generalize Ex.getD k 0=z at *;generalize xs.getD k 0=x at *;generalize ys.getD k 0=y at *;go_wp2
   go_region
   rw[HW.o];clear c1 c2 c3 f3;generalize (wr.setCell ⟨w.heap.size+1,k,aS⟩ (aO .u64 (z+x-y))).drew=w1 at *;go_wp2;go_roundw
   case rel=>exact⟨k+1,AJ,by go_num,HS1.o⟩
   case measure=>simp[intOf];omega
  ·obtain rfl:k=5:=AJ
   go_wp2_with fail;refine(IL _ (Hx xs ys) _ (Dh _ _ _) hst.row HQ.o.1).mono ?_;rintro e w1 ⟨rfl,hs⟩;have s1:=hst.carry hs;have hl:=HQ.o.2.1.1;have HSZ:=CY <| sizeEl hl
   have HZ4:AO (([0,0,0,0,0].map (Value.int .u64)).toArray.size=(((Cu (Hx xs ys)).map (Value.int .u64)).toArray).size):=by show _=_;simp[hl]
   have HRS:AO (Cd w1 w.heap.size 141 [0,0,0,0,0]):=s1.res;have HRO:AO (Cd w1 (w.heap.size+1) 141 (Cu (Hx xs ys))):=s1.row;have HBE:AO (Below w.heap.size w w1):=s1.below;clear s1 hs hst hl;generalize Cu (Hx xs ys)=es at *;go_wp2_with (first
    |(refine AZ rfl 141 (ah 5) rfl (w.heap.size+1) rfl 141 _ (0,0) _ HRO.o underlying141 rfl HSZ.o ?_)
    |(refine AE 141 (ah 4) (ah 29) w.heap.size ((es.map (Value.int .u64)).toArray) 141 HRS.o HSZ.o HZ4.o (all_oneCell_toArray (Az _ _)) ?_))
   refine AU (v:=af (es.map (Value.int .u64)).toArray) (AY rfl _ _ w.heap.size 141 _ (0,0) _ rfl (AB HRS.o) underlying141 rfl HSZ.o) rfl ⟨es,HQ.o.2.1,HQ.o.2.2,rfl,?_⟩;exact HBE.o.trans ((Wr.setRow _ _ _).below Ch)
open Go.Shelf Go.Lib
theorem QL (x y:Nat) (hx:x<18446744073709551616) (hy:y<18446744073709551616) (w:aV) :
  Calls tP 164 #[aO .u64 x,aO .u64 y] w λe w'=>e=aQ (.tuple #[aO .u64 ((x*y/18446744073709551616:Nat):Int),aO .u64 ((x*y%18446744073709551616:Nat):Int)])/\w'=w:=by
 obtain⟨b1,b2,b3,hhi⟩:=Lib.mul64_hi x y hx hy;have p1:=Lib.half_mul_le (a:=x/4294967296) (b:=y/4294967296) AJ AJ;have p2:=Lib.half_mul_le (a:=x/4294967296) (b:=y%4294967296) AJ AJ;have p3:=Lib.half_mul_le (a:=x%4294967296) (b:=y/4294967296) AJ AJ;have q1:x/4294967296*(y/4294967296)<18446744073709551616:=AJ
 have q2:x/4294967296*(y%4294967296)<18446744073709551616:=AJ
 have q3:x%4294967296*(y/4294967296)<18446744073709551616:=AJ
 have q4:x/4294967296*(y/4294967296)+(x/4294967296*(y%4294967296)+x%4294967296*(y%4294967296)/4294967296)/4294967296<18446744073709551616:=AJ
 have q5:x/4294967296*(y/4294967296)+(x/4294967296*(y%4294967296)+x%4294967296*(y%4294967296)/4294967296)/4294967296+((x/4294967296*(y%4294967296)+x%4294967296*(y%4294967296)/4294967296)%4294967296+x%4294967296*(y/4294967296))/4294967296<18446744073709551616:=AJ
 go_enter func164,ntmps164;go_wp2;simp only[Mul64.maskN x hx,Mul64.maskN y hy,Mul64.divN,Mul64.mulN,Mul64.addN,Mul64.wrapN _ b1,Mul64.wrapN _ q2,Mul64.wrapN _ b2,Mul64.maskN _ b2,Mul64.wrapN _ q3,Mul64.wrapN _ b3,Mul64.wrapN _ q1,Mul64.wrapN _ q4,Mul64.wrapN _ q5,Mul64.wrapM (x*y)];rw[hhi]
 go_ret2
 exact⟨rfl,rfl⟩
theorem QM (x y:Int) (hx:0<=x) (hx':x<18446744073709551616) (hy:0<=y) (hy':y<18446744073709551616) (w:aV) :
  Calls tP 164 #[aO .u64 x,aO .u64 y] w λe w'=>e=aQ (.tuple #[aO .u64 (x*y/18446744073709551616),aO .u64 (x*y%18446744073709551616)])/\w'=w:=by
 obtain⟨x,rfl⟩:=Ab hx;obtain⟨y,rfl⟩:=Ab hy;refine(QL x y AJ AJ w).mono ?_;rintro e w' ⟨rfl,rfl⟩;refine⟨?_,rfl⟩;rw[Int.natCast_ediv,Int.natCast_emod,Int.natCast_mul];rfl
def R6:Array aX->Sem aX:=λargs=>do
 let (x, y, c) ← Extern.MathBitsCarry.three "Add64" args
 pure (Extern.MathBitsCarry.pair ((x+y+c)%Extern.MathBitsCarry.m64) ((x+y+c)/Extern.MathBitsCarry.m64))
theorem Nx (x y:Nat) (w:aV) :
  (R6 #[aO .u64 x,aO .u64 y,aO .u64 0]).run tP w=
   .ok (.tuple #[aO .u64 (((x+y)%18446744073709551616:Nat):Int),aO .u64 (((x+y)/18446744073709551616:Nat):Int)]) w:=rfl
theorem Ud (x y:Int) (hx:0<=x) (hy:0<=y) (w:aV):(callFunc 165 #[aO .u64 x,aO .u64 y,aO .u64 0]).run tP w=
  .ok (.value (.tuple #[aO .u64 ((x+y)%18446744073709551616),aO .u64 ((x+y)/18446744073709551616)])) w:=by
 obtain⟨x,rfl⟩:=Ab hx;obtain⟨y,rfl⟩:=Ab hy;have e1:(((x+y)%18446744073709551616:Nat):Int)=((x:Int)+y)%18446744073709551616:=AJ
 have e2:(((x+y)/18446744073709551616:Nat):Int)=((x:Int)+y)/18446744073709551616:=AJ
 rw[run_callFunc_extern func165 AM AM AM (e:=R6) AM,Nx x y,e1,e2];rfl
structure YE (w:aV) (g:Nat) (S:Int) (wr:aV):Prop where
 row:wr.heap[g]?=aR (aa #[aO .u64 (S/18446744073709551616),aO .u64 (S%18446744073709551616)] 206 (0,0))
 wr:Wr g w wr
theorem MZ (g:Nat) (S a b:Int) (w:aV) (hS:0<=S) (hr:w.heap[g]?=aR (aa #[aO .u64 (S/18446744073709551616),aO .u64 (S%18446744073709551616)] 206 (0,0))) (ha:0<=a) (ha':a<18446744073709551616) (hb:0<=b) (hb':b<18446744073709551616) (hT:S+a*b<340282366920938463463374607431768211456) :
  Calls tP 152 #[aY (aR ⟨g,0,aS⟩),aO .u64 a,aO .u64 b] w λe w'=>e=aQ (.tuple #[])/\YE w g (S+a*b) w':=by
 obtain⟨p,hp⟩:∃ p,p=a*b:=⟨_,rfl⟩
 have hp0:0<=p:=by rw[hp];exact Int.mul_nonneg ha hb
 have M:=QM a b ha ha' hb hb';rw[<-hp] at M hT |-;clear hp;have c0:w.cell? ⟨g,0,aS⟩=aR (aO .u64 (S/18446744073709551616)):=AA hr _;have c1:w.cell? ⟨g,1,aS⟩=aR (aO .u64 (S%18446744073709551616)):=AA hr _;have f0:=An w g 0 _ _ hr;have f1:=An w g 1 _ _ hr;have r1:=Ao w g 1 _ 206 (aO .u64 ((S%18446744073709551616+p%18446744073709551616)%18446744073709551616)) hr;have r2:=Ao _ g 0 _ 206 (aO .u64 (S/18446744073709551616+(p/18446744073709551616+(S%18446744073709551616+p%18446744073709551616)/18446744073709551616))) r1;have HP:AO (YE w g (S+p) ((w.setCell ⟨g,1,aS⟩ (aO .u64 ((S%18446744073709551616+p%18446744073709551616)%18446744073709551616))).setCell ⟨g,0,aS⟩ (aO .u64 (S/18446744073709551616+(p/18446744073709551616+(S%18446744073709551616+p%18446744073709551616)/18446744073709551616))))):=by
  refine⟨?_,((Wr.refl _ _).setCell 1 _).setCell 0 _⟩;rw[r2];have e1:(S+p)/18446744073709551616=S/18446744073709551616+(p/18446744073709551616+(S%18446744073709551616+p%18446744073709551616)/18446744073709551616):=AJ
  have e2:(S+p)%18446744073709551616=(S%18446744073709551616+p%18446744073709551616)%18446744073709551616:=AJ
  rw[e1,e2];rfl
 have b0:0<=S/18446744073709551616:=AJ
 have b1:0<=S%18446744073709551616:=AJ
 have b2:0<=p/18446744073709551616:=AJ
 have b3:0<=p%18446744073709551616:=AJ
 have b4:S/18446744073709551616+(p/18446744073709551616+(S%18446744073709551616+p%18446744073709551616)/18446744073709551616)<18446744073709551616:=AJ
 have b5:S%18446744073709551616<18446744073709551616:=AJ
 have b6:p%18446744073709551616<18446744073709551616:=AJ
 clear r1 r2 hr hT;generalize S/18446744073709551616=hi at *;generalize S%18446744073709551616=lo at *;generalize p/18446744073709551616=ph at *;generalize p%18446744073709551616=pl at *;go_enter func152,ntmps152;go_wp2_with fail;refine(M _).mono ?_;rintro e w1 ⟨rfl,rfl⟩;clear M;go_wp2_with (simp only[Ud lo pl b1 b3])
 go_end0
 exact⟨rfl,HP.o⟩
section
variable {P:Program} {ops:Array Oper} {Q:Exit->Act->aV->Prop} {md:Region.Mode}
theorem Ie (M:Nat->aV->aV->Prop) (frame:(Nat->aX)->Act) (Ext:(Nat->Bool)->aV->Prop) (Good:Nat->(Nat->Bool)->aV->aX->Prop)
  (hstab:∀ j L w w' i v,M i w w'->i≠j->L i=false->Good j L w v->Good j (CZ L i) w' v)
  (hguard:ops.all (λo=>o.guard.isNone)=true)
  (hback:(List.range ops.size).all (λi=>((ops[i]?).map (λo=>o.after.all (λe=>decide (e.on<i)))).getD false)=true)
  (hop:∀(i:Nat) (o:Oper) (L:Nat->Bool) (u:Nat->aX) (w:aV),ops[i]?=aR o->L i=false->Ext L w->(∀ e∈o.after,Region.binds md e=true->Good e.on L w (u e.on))->
   ∀ K:Act->aV->Prop,(∀ w' v,Good i (CZ L i) w' v->Ext (CZ L i) w'->M i w w'->K (frame (Ca u i v)) w')->Oper.wp P o (frame u) w K Q)
  (hdone:∀ L u w,Ext L w->(∀ i,i<ops.size->Good i L w (u i))->Q .normal (frame u) w) :
  ∀(fuel:Nat) (listed:Array Bool) (u:Nat->aX) (w:aV),listed.size=ops.size->Ext (λn=>listed.getD n false) w->(∀ i,i<ops.size->listed.getD i false=true->Good i (λn=>listed.getD n false) w (u i))->
   (listed.toList.filter (!·)).length<=fuel->wpAny P md ops Q fuel listed (frame u) w:=by
 have hb:∀(i:Nat) (o:Oper),ops[i]?=aR o->∀ e∈o.after,e.on<i:=λi o ho e he=>by
  have hi:=(AR.1 ho).1;have:=BM.1 hback i (BG.2 hi);rw[ho] at this;simp at this;obtain⟨k,hk,rfl⟩:=BQ.1 he;exact this k hk
 have hg:∀(i:Nat) (o:Oper),ops[i]?=aR o->o.guard=none:=λi o ho=>by
  have:=Array.all_eq_true_iff_forall_mem.1 hguard o (Array.mem_of_getElem? ho);simpa using this
 have hfin:∀(listed:Array Bool) (u:Nat->aX) (w:aV),listed.size=ops.size->Ext (λn=>listed.getD n false) w->(∀ i,i<ops.size->listed.getD i false=true->Good i (λn=>listed.getD n false) w (u i))->Region.ready md ops listed=[]->Q .normal (frame u) w:=by
  intro listed u w hs he hgd hr;refine hdone _ u w he λi hi=>hgd i hi ?_
  have hall:∀ n i,i<n->i<ops.size->listed.getD i false=true:=by
   intro n
   induction n with
   |zero=>intro i h;omega
   |succ n ih=>
    intro i hin hi;by_cases hlt:i<n
    ·exact ih i hlt hi
    ·cases hl:listed.getD i false with
     |true=>rfl
     |false=>
      exfalso
      have hl':listed.getD i true=false:=by
       have hil:i<listed.size:=AJ
       simp[hil] at hl |-;exact hl
      have:i∈Region.ready md ops listed:=Cz.2 ⟨hi,hl',ops[i],by simp[hi],λe hee _=>ih e.on (by have:=hb i ops[i] (by simp[hi]) e hee;omega) (by have:=hb i ops[i] (by simp[hi]) e hee;omega)⟩;rw[hr] at this;cases this
  exact hall (i+1) i AJ hi
 intro fuel
 induction fuel with
 |zero=>
  intro listed u w hs he hgd hc;have hr:Region.ready md ops listed=[]:=by
   apply BN.2;intro i hi;obtain⟨h1,h2,_⟩:=Cz.1 hi;have hil:i<listed.size:=AJ
   have h3:listed[i]=false:=by simpa[hil] using h2
   have:listed[i]∈listed.toList.filter (!·):=by
    rw[BS];exact⟨AL,by rw[h3];rfl⟩
   have:=Bg this;omega
  exact⟨hr,hfin listed u w hs he hgd hr⟩
 |succ fuel ih=>
  intro listed u w hs he hgd hc;refine⟨λhr=>hfin listed u w hs he hgd hr,λi hi=>?_⟩;obtain⟨h1,h2,o,ho,h3⟩:=Cz.1 hi;refine wpOp_step ho λK hK=>?_
  have hw:Region.wanted o (yielded ops (frame u).tmps)=true:=by simp[Region.wanted,hg i o ho]
  rw[AP hw];have hil:i<listed.size:=AJ
  have hnl:listed.getD i false=false:=by simp[hil] at h2 |-;exact h2
  have hupd:(λn=>(listed.setIfInBounds i true).getD n false)=CZ (λn=>listed.getD n false) i:=by
   funext n;rw[DV listed i n hil];rfl
  refine hop i o (λn=>listed.getD n false) u w ho hnl he (λe hee hbd=>hgd e.on (AG (hb i o ho e hee)) (h3 e hee hbd)) K λw' v hgv hext hm=>hK _ _ ?_
  refine ih _ _ w' (by simpa using hs) (by rw[hupd];exact hext) (λj hj hlj=>?_) ?_
  ·rw[DV listed i j hil] at hlj;unfold Ca;by_cases hji:j=i
   {subst hji;rw[hupd];simpa using hgv};{rw[AQ hji] at hlj;rw[AQ hji,hupd];exact hstab j _ w w' i _ hm (A9 hji) hnl (hgd j hj hlj)}
  ·have:listed.toList[i]?=aR false:=by simp[hil] at h2;simp[hil,h2]
   have:=Et listed.toList i this;rw[BR];omega
end
def YF (xs:List Int):Prop:=∀ i,0<=xs.getD i 0/\xs.getD i 0<9223372036854775808
/-! Products of elements. -/
def Vr (a b:List Int) (i:Nat):Int:=cs a b i (i+1)
def Vs (a b:List Int) (i:Nat):Int:=cs a b (5+i) 5
def tl (a b:List Int):List Int:=(List.range 5).map λi=>Vr a b i+19*Vs a b i
theorem R7 (a b:List Int):(tl a b).length=5:=by simp[tl]
theorem Ny (a b:List Int) (i:Nat) (h:i<5):(tl a b).getD i 0=Vr a b i+19*Vs a b i:=PG _ i h
theorem R8 {a b:List Int} (ha:a.length=5) (s:Nat) (d:Nat):cs a b s (5+d)=cs a b s 5:=by
 induction d with
 |zero=>rfl
 |succ d ih=>rw[<-A7,cs,ih,C9 (xs:=a) AJ];omega
theorem Ma {b:List Int} (a:List Int) (hb:b.length=5) (i n:Nat) (h:n<=i+1):cs a b (5+i) n=0:=by
 induction n with
 |zero=>rfl
 |succ n ih=>rw[cs,ih AJ,C9 (xs:=b) AJ];omega
theorem Wc (a b:List Int) (ha:a.length=5) (hb:b.length=5):∃ H,val DD (tl a b)=val DD a*val DD b-H*fp:=by
 have e1:=Ou DD (FD a b) (5+5) (AG (MJ a b));rw[Kr,MI] at e1;refine⟨val DD ((List.range 5).map λi=>(FD a b).getD (5+i) 0),?_⟩;have e2:tl a b=(List.range 5).map λi=>(FD a b).getD i 0+19*(FD a b).getD (5+i) 0:=by
  unfold tl Vr Vs
  congr 1;funext i
  rw[IW,IW,show 5+i+1=5+(1+i) by omega,R8 ha]
 rw[e2,GU DD (λi=>(FD a b).getD i 0) (λi=>(FD a b).getD (5+i) 0) 5 19,<-e1];have:(DD:Int)^5=fp+19:=AK
 rw[this];generalize val DD (List.map (λi=>(FD a b).getD i 0) (List.range 5))=p;generalize val DD (List.map (λi=>(FD a b).getD (5+i) 0) (List.range 5))=q
 grind
theorem YG (a b:List Int) (ha:a.length=5) (hb:b.length=5):ev (tl a b)=ev a*ev b%fp:=by
 obtain⟨H,e⟩:=Wc a b ha hb;unfold ev;rw[e,<-Int.mul_emod];have:val DD a*val DD b-H*fp=val DD a*val DD b+fp*(-H):=by grind
 rw[this,Int.add_mul_emod_self_left]
theorem Cq.bd {a:List Int} (h:Cq a):Bd 2251799813685504 a/\∀ i,0<=a.getD i 0:=by
 refine⟨λi=>?_,h.2.1⟩;have h0:=h.2.1 i;rcases Nat.eq_zero_or_pos i with rfl|hi
 ·have:=h.2.2.2;omega
 ·have:=h.2.2.1 i hi;omega
theorem QN {a b:List Int} (ha:∀ i,0<=a.getD i 0) (hb:∀ i,0<=b.getD i 0) (s n:Nat):0<=cs a b s n:=by
 induction n with
 |zero=>exact Int.le_refl 0
 |succ n ih=>rw[cs];have:=Int.mul_nonneg (ha n) (hb (s-n));omega
theorem Vt {a b:List Int} (ha:Cq a) (hb:Cq b):(∀ s n,n<=5->0<=cs a b s n/\cs a b s n<=40564819207303340847894502572032)/\(∀ i,0<=(tl a b).getD i 0/\(tl a b).getD i 0<=811296384146066816957890051440640)/\(∀ i,0<=D2 DD (tl a b) i/\D2 DD (tl a b) i<=1152921504606846976)/\D2 DD (tl a b) 5<=36028797018963968:=by
 have h1:∀ s n,n<=5->0<=cs a b s n/\cs a b s n<=40564819207303340847894502572032:=λs n hn=>by
  have h:=(Ov ha.bd.1 hb.bd.1 AK s n).2;have h0:=QN ha.2.1 hb.2.1 s n;refine⟨h0,?_⟩;have hn':(n:Int)<=5:=AJ
  have:=Int.mul_le_mul_of_nonneg_right hn' (show(0:Int)<=2251799813685504*2251799813685504 by decide);have e:(5:Int)*(2251799813685504*2251799813685504)<=40564819207303340847894502572032:=AK
  omega
 have h2:∀ i,0<=(tl a b).getD i 0/\(tl a b).getD i 0<=811296384146066816957890051440640:=λi=>by
  by_cases h:i<5
  {rw[Ny _ _ _ h];unfold Vr Vs;have p:=h1 i (i+1) AJ;have q:=h1 (5+i) 5 AJ;omega};{rw[C9 (by rw[R7];omega)];omega}
 have h3:∀ i,0<=D2 DD (tl a b) i/\D2 DD (tl a b) i<=1152921504606846976:=λi=>J8 (M:=811296384146066816957890051440641) (C:=1152921504606846976) (λi=>AG (h2 i)) AK AK i
 refine⟨h1,h2,h3,?_⟩;have h4:(tl a b).getD 4 0<=40564819207303340847894502572032:=by
  rw[Ny _ _ _ AK];have:Vs a b 4=0:=Ma a hb.1 4 5 AK;rw[this];unfold Vr;have:=h1 4 (4+1) AK;omega
 have h5:=h3 4;show((tl a b).getD 4 0+D2 DD (tl a b) 4)/DD<=_
 unfold DD at *;omega
theorem R9 {a b:List Int} (ha:Cq a) (hb:Cq b):YF (Cu (tl a b))/\Cq (Cu (Cu (tl a b)))/\ev (Cu (Cu (tl a b)))=ev a*ev b%fp:=by
 obtain⟨h1,h2,h3,h4⟩:=Vt ha hb;have g5:=h3 5;have hb1:∀ i,0<=(Cu (tl a b)).getD i 0/\(Cu (tl a b)).getD i 0<1152921504606846976/\(1<=i->(Cu (tl a b)).getD i 0<2251799813685248):=λi=>by
  unfold Cu;have s:=FQ (tl a b) i;have s0:=FQ (tl a b) 0;rw[Cx _ _ _ _ (by rw[Dm];decide)];split<;>omega
 refine⟨λi=>AG (hb1 i),I6 ?_ ?_,?_⟩
 ·exact Nw (λi=>(hb1 i).1) 5
 ·have c1:=(hb1 0);have c2:=(hb1 1);have c3:=hb1 2;have c4:=hb1 3;have c5:=hb1 4;simp only[D2];unfold DD;omega
 ·rw[Ho _ (IJ _),Ho _ (R7 _ _),YG _ _ ha.1 hb.1]
def EH (xs ys:List Int) (i:Nat):Int:=((tl xs ys).getD i 0+D2 DD (tl xs ys) i)%DD
theorem SA (xs ys:List Int):EB (EH xs ys) [0,0,0,0,0] 5=Hn (tl xs ys) 5:=by
 apply K0 (Dh _ _ _) (Dm _ _);intro i hi;rw[Fq _ _ _ _ hi,AP hi,GX _ _ _ hi];unfold MW EH;rw[AP hi]
structure K1 (w:aV) (zs:List Int) (G:Nat) (S:Int) (wr:aV):Prop where
 pl:NU w zs wr
 sum:wr.heap[G]?=aR (aa #[aO .u64 (S/18446744073709551616),aO .u64 (S%18446744073709551616)] 206 (0,0))
 hG:w.heap.size+1<G
theorem K1.drew {w:aV} {zs:List Int} {G:Nat} {S:Int} {wr:aV} (h:K1 w zs G S wr):K1 w zs G S wr.drew:=
 ⟨⟨h.pl.res,h.pl.row,h.pl.below.drew⟩,h.sum,h.hG⟩
theorem K1.add {w:aV} {zs:List Int} {G:Nat} {S S':Int} {wr w':aV} (h:K1 w zs G S wr) (hs:YE wr G S' w'):K1 w zs G S' w':=
 ⟨⟨hs.wr.rowW h.pl.res (AG h.hG),hs.wr.rowW h.pl.row (AG h.hG),h.pl.below.trans (hs.wr.below (AG h.hG))⟩,hs.row,h.hG⟩
theorem Cr (g1 o1 g2 o2:Nat) (xs ys:List Int) (w:aV) (h1:Dx w g1 o1 xs) (h2:Dx w g2 o2 ys) :
  Calls tP 127 #[aY (aR ⟨g1,o1,aS⟩),aY (aR ⟨g2,o2,aS⟩)] w (EP w (ev xs*ev ys%fp)):=by
 obtain⟨q1,q2,q3⟩:=R9 h1.2.1 h2.2.1;obtain⟨t1,t2,t3,t4⟩:=Vt h1.2.1 h2.2.1;have HQ:AO (YF (Cu (tl xs ys))/\Cq (Cu (Cu (tl xs ys)))/\ev (Cu (Cu (tl xs ys)))=ev xs*ev ys%fp):=⟨q1,q2,q3⟩
 have HT1:=CY <| t1
 have HT3:=CY <| t3
 have HT4:=CY <| t4
 have HS:AO (NU w (EB (EH xs ys) [0,0,0,0,0] 0) ((w.alloc (aa CN 141)).alloc (aa CN 141))):=by
  rw[I7 _ _ rfl];exact⟨heap_alloc2_old _ _ _,heap_alloc2_new _ _ _,(Cf.alloc Ch _).alloc AL _⟩
 have HL:AO (w.heap.size+1<((w.alloc (aa CN 141)).alloc (aa CN 141)).heap.size):=by show _<_;simp
 have H1:=CY <| h1
 have H2:=CY <| h2
 have hy5:=h2.2.1.1;have HY5:=CY <| hy5
 go_enter func127,ntmps127;go_wp2
 go_loopw [6,11] (λv i wr=>∃ k:Nat,k<=5/\i=aO aZ k/\v=aO .u64 (D2 DD (tl xs ys) k)/\NU w (EB (EH xs ys) [0,0,0,0,0] k) wr/\w.heap.size+1<wr.heap.size) (λ_ i _=>5-(intOf i).toNat)
 case atStart=>exact⟨0,AK,rfl,rfl,HS.o,HL.o⟩
 case round=>
  obtain⟨k,hk,rfl,rfl,hst,hlz⟩:=hrel;by_cases hlt:k<5
  ·have hlt':(k:Int)<5:=AJ
   obtain⟨hc0,hc1⟩:=HT3.o k;have hst2:K1 w (EB (EH xs ys) [0,0,0,0,0] k) wr.heap.size (D2 DD (tl xs ys) k) (wr.alloc (aa #[aO .u64 0,aO .u64 (D2 DD (tl xs ys) k)] 206)):=by
    have b0:Below wr.heap.size wr (wr.alloc (aa #[aO .u64 0,aO .u64 (D2 DD (tl xs ys) k)] 206)):=Ct _ _;refine⟨⟨hst.res.below b0 AJ,hst.row.below b0 AJ,hst.below.trans (b0.mono hst.below.size)⟩,?_,hlz⟩;rw[AS];have e1:D2 DD (tl xs ys) k/18446744073709551616=0:=AJ
    have e2:D2 DD (tl xs ys) k%18446744073709551616=D2 DD (tl xs ys) k:=AJ
    rw[e1,e2]
   have HST:AO (K1 w (EB (EH xs ys) [0,0,0,0,0] k) wr.heap.size (D2 DD (tl xs ys) k+cs xs ys k 0) (wr.alloc (aa #[aO .u64 0,aO .u64 (D2 DD (tl xs ys) k)] 206))):=by
    rw[show cs xs ys k 0=0 from rfl,Int.add_zero];exact hst2
   generalize hgk:D2 DD (tl xs ys) k=ov at *;have HGK:=CY <| hgk
   go_wp2;generalize hG:wr.heap.size=G at *;generalize wr.alloc (aa #[aO .u64 0,aO .u64 ov] 206)=w3 at *
   go_loopw [18] (λi wq=>∃ n:Nat,n<=k+1/\i=aO aZ n/\K1 w (EB (EH xs ys) [0,0,0,0,0] k) G (ov+cs xs ys k n) wq) (λi _=>k+1-(intOf i).toNat)
   case atStart=>exact⟨0,Aw _,rfl,HST.o⟩
   case round=>
    obtain⟨n,hn,rfl,hts⟩:=hrel;by_cases hnk:n<k+1
    ·have hnk':(n:Int)<(k:Int)+1:=AJ
     have HCX:AO (∀ w',Below w.heap.size w w'->w'.cell? ⟨g1,o1+n,aS⟩=aR (aO .u64 (xs.getD n 0))):=λw' hb=>(H1.o.below hb).2.2 n AJ
     have HCY:AO (∀ w',Below w.heap.size w w'->w'.cell? ⟨g2,o2+(k-n),aS⟩=aR (aO .u64 (ys.getD (k-n) 0))):=λw' hb=>(H2.o.below hb).2.2 (k-n) AJ
     have bx:=H1.o.2.1.bd;have by_:=H2.o.2.1.bd;have hx0:=bx.2 n;have hx1:=(bx.1 n).2;have hy0:=by_.2 (k-n);have hy1:=(by_.1 (k-n)).2;have hcs:cs xs ys k (n+1)=cs xs ys k n+xs.getD n 0*ys.getD (k-n) 0:=rfl;have hsn:=HT1.o k n AJ;have hsn1:=HT1.o k (n+1) AJ;rw[hcs] at hsn1;have HTS:=CY <| hts.drew
     have HCS:=CY <| hcs
     have hsub:((k:Int)-(n:Int))=((k-n:Nat):Int):=AJ
     have hwsub:IntKind.i64.wrap ((k:Int)-(n:Int))=((k-n:Nat):Int):=by rw[Ak];omega
     have hwsub2:IntKind.i64.wrap ((k-n:Nat):Int)=((k-n:Nat):Int):=by rw[Ak];omega
     have hn5:(n:Int)<5:=AJ
     have hkn5:((k-n:Nat):Int)<5:=AJ
     generalize xs.getD n 0=x at *;generalize ys.getD (k-n) 0=y at *;generalize cs xs ys k n=C at *;obtain⟨s0,s1⟩:=hsn;obtain⟨s2,s3⟩:=hsn1;obtain⟨C',hC'⟩:∃ C',C'=C+x*y:=⟨_,rfl⟩
     have HEQ:AO (ov+C+x*y=ov+C'):=by show _=_;omega
     have HCE:AO (cs xs ys k (n+1)=C'):=by show _=_;rw[HCS.o,hC']
     have hSz:0<=ov+C:=AJ
     have hTT:(ov+C)+x*y<340282366920938463463374607431768211456:=AJ
     go_wp2_with fail;refine Ag AM ?_;refine Ie (λ_ _ _=>True) (frame:=(λ(a b c d e f g h i j k l m n o p q r s u v w x y z A B C D E F G H I J K L M N O P Q R S T U V W X Y Z a0 a1 a2 a3 a4 a5 a6 a7 a8 a9 b0 b1 b2:aX)=>λ(t:Nat->aX)=>({ tmps:=List.toArray [a,b,c,d,e,f,g,h,i,j,k,l,m,n,o,p,q,r,s,u,v,t 0,t 1,t 2,t 3,t 4,t 5,t 6,t 7,t 8,t 9,t 10,t 11,t 12,w,x,y,z,A,B,C,D,E,F,G,H,I,J,K,L,M,N,O,P,Q,R,S,T,U,V,W,X,Y,Z,a0,a1,a2,a3,a4,a5,a6,a7,a8,a9,b0,b1,b2],defers:=[] }:Act)) _ _ _ _ _ _ _ _ _ _ _ _ _ _ _ _ _ _ _ _ _ _ _ _ _ _ _ _ _ _ _ _ _ _ _ _ _ _ _ _ _ _ _ _ _ _ _ _ _ _ _ _ _ _ _ _ _ _ _ _ _ _ _ _)
      (Ext:=λL w'=>K1 w (EB (EH xs ys) [0,0,0,0,0] k) G (if L 12=true then(ov+C') else(ov+C)) w') (Good:=λi L _ v=>if i=0 then v=(aY (aR ⟨g1,o1,aS⟩)) else if i=1 then v=(aO aZ (n:Int)) else if i=2 then v=(aY (aR ⟨g1,o1,aS⟩)) else if i=3 then v=(aY (aR ⟨g1,o1+n,aS⟩)) else if i=4 then v=(aO .u64 x) else if i=5 then v=(aY (aR ⟨g2,o2,aS⟩)) else if i=6 then v=(aO aZ (k:Int)) else if i=7 then v=(aO aZ (n:Int)) else if i=8 then v=(aO aZ ((k-n:Nat):Int)) else if i=9 then v=(aY (aR ⟨g2,o2,aS⟩)) else if i=10 then v=(aY (aR ⟨g2,o2+(k-n),aS⟩)) else if i=11 then v=(aO .u64 y) else(v=.tuple #[]/\L 12=true)) ?hstab AM AM ?hop ?hdone _ _ ((λ(x0 x1 x2 x3 x4 x5 x6 x7 x8 x9 x10 x11 x12:aX)=>λ(i:Nat)=>if i=0 then x0 else if i=1 then x1 else if i=2 then x2 else if i=3 then x3 else if i=4 then x4 else if i=5 then x5 else if i=6 then x6 else if i=7 then x7 else if i=8 then x8 else if i=9 then x9 else if i=10 then x10 else if i=11 then x11 else if i=12 then x12 else undef) _ _ _ _ _ _ _ _ _ _ _ _ _) _ AL ?ext ?start AL
     case start=>intro i hi h;exact absurd h Ef
     case hstab=>
      intro j L w w' i v _ hij hL h;by_cases hj:j<12
      ·obtain rfl|rfl|rfl|rfl|rfl|rfl|rfl|rfl|rfl|rfl|rfl|rfl:j=0\/j=1\/j=2\/j=3\/j=4\/j=5\/j=6\/j=7\/j=8\/j=9\/j=10\/j=11:=AJ
       all_goals exact h
      ·have hj':=hj;have e:(CZ L i 12)=true\/L 12=false:=by unfold CZ;by_cases h9:12=i<;>simp[h9]
       revert h;simp only[if_neg (show ¬ j=0 by omega),if_neg (show ¬ j=1 by omega),if_neg (show ¬ j=2 by omega),if_neg (show ¬ j=3 by omega),if_neg (show ¬ j=4 by omega),if_neg (show ¬ j=5 by omega),if_neg (show ¬ j=6 by omega),if_neg (show ¬ j=7 by omega),if_neg (show ¬ j=8 by omega),if_neg (show ¬ j=9 by omega),if_neg (show ¬ j=10 by omega),if_neg (show ¬ j=11 by omega)];rintro⟨h1,h2⟩;exact⟨h1,by rcases e with e|e;exact e;rw[h2] at e;cases e⟩
     case ext=>exact HTS.o
     case hop=>
      intro i o L t w' ho hLi hx hdep K hK;have hi:i<13:=(AR.1 ho).1;have cA:w'.cell? ⟨g1,o1+n,aS⟩=aR (aO .u64 x):=HCX.o _ hx.pl.below;have cB:w'.cell? ⟨g2,o2+(k-n),aS⟩=aR (aO .u64 y):=HCY.o _ hx.pl.below;have REF:AO (∀ j,j≠12->K1 w (EB (EH xs ys) [0,0,0,0,0] k) G (if CZ L j 12=true then(ov+C') else(ov+C)) w'):=λj hj=>by
       have:CZ L j 12=L 12:=by unfold CZ;rw[AQ (A9 hj)]
       rw[this];exact hx
      have HX:AO (K1 w (EB (EH xs ys) [0,0,0,0,0] k) G (if L 12=true then(ov+C') else(ov+C)) w'):=hx;obtain rfl|rfl|rfl|rfl|rfl|rfl|rfl|rfl|rfl|rfl|rfl|rfl|rfl:i=0\/i=1\/i=2\/i=3\/i=4\/i=5\/i=6\/i=7\/i=8\/i=9\/i=10\/i=11\/i=12:=AJ
      all_goals(simp at ho;subst ho)
      {clear hdep;have hK':=hK w' (aY (aR ⟨g1,o1,aS⟩)) AL (REF.o 0 AK) trivial;go_simp;simpa[Ca,hsub,hwsub,hwsub2] using hK'};{clear hdep;have hK':=hK w' (aO aZ (n:Int)) AL (REF.o 1 AK) trivial;go_simp;simpa[Ca,hsub,hwsub,hwsub2] using hK'}
      ·have d0:t 0=(aY (aR ⟨g1,o1,aS⟩)):=by simpa using hdep ⟨0,ag⟩ AL rfl
       have hK':=hK w' (aY (aR ⟨g1,o1,aS⟩)) AL (REF.o 2 AK) trivial;go_simp;simpa[Ca,d0,hsub,hwsub,hwsub2] using hK'
      ·have d2:t 2=(aY (aR ⟨g1,o1,aS⟩)):=by simpa using hdep ⟨2,ag⟩ AL rfl
       have d1:t 1=(aO aZ (n:Int)):=by simpa using hdep ⟨1,ag⟩ AL rfl
       have hK':=hK w' (aY (aR ⟨g1,o1+n,aS⟩)) AL (REF.o 3 AK) trivial;go_simp;simpa[Ca,d2,d1,hsub,hwsub,hwsub2] using hK'
      ·have d3:t 3=(aY (aR ⟨g1,o1+n,aS⟩)):=by simpa using hdep ⟨3,ag⟩ AL rfl
       have hK':=hK w' (aO .u64 x) AL (REF.o 4 AK) trivial;go_simp;simpa[Ca,d3,hsub,hwsub,hwsub2] using hK'
      {clear hdep;have hK':=hK w' (aY (aR ⟨g2,o2,aS⟩)) AL (REF.o 5 AK) trivial;go_simp;simpa[Ca,hsub,hwsub,hwsub2] using hK'};{clear hdep;have hK':=hK w' (aO aZ (k:Int)) AL (REF.o 6 AK) trivial;go_simp;simpa[Ca,hsub,hwsub,hwsub2] using hK'};{clear hdep;have hK':=hK w' (aO aZ (n:Int)) AL (REF.o 7 AK) trivial;go_simp;simpa[Ca,hsub,hwsub,hwsub2] using hK'}
      ·have d6:t 6=(aO aZ (k:Int)):=by simpa using hdep ⟨6,ag⟩ AL rfl
       have d7:t 7=(aO aZ (n:Int)):=by simpa using hdep ⟨7,ag⟩ AL rfl
       have hK':=hK w' (aO aZ ((k-n:Nat):Int)) AL (REF.o 8 AK) trivial;go_simp;simpa[Ca,d6,d7,hsub,hwsub,hwsub2] using hK'
      ·have d5:t 5=(aY (aR ⟨g2,o2,aS⟩)):=by simpa using hdep ⟨5,ag⟩ AL rfl
       have hK':=hK w' (aY (aR ⟨g2,o2,aS⟩)) AL (REF.o 9 AK) trivial;go_simp;simpa[Ca,d5,hsub,hwsub,hwsub2] using hK'
      ·have d9:t 9=(aY (aR ⟨g2,o2,aS⟩)):=by simpa using hdep ⟨9,ag⟩ AL rfl
       have d8:t 8=(aO aZ ((k-n:Nat):Int)):=by simpa using hdep ⟨8,ag⟩ AL rfl
       have hK':=hK w' (aY (aR ⟨g2,o2+(k-n),aS⟩)) AL (REF.o 10 AK) trivial;go_simp;simpa[Ca,d9,d8,hsub,hwsub,hwsub2] using hK'
      ·have d10:t 10=(aY (aR ⟨g2,o2+(k-n),aS⟩)):=by simpa using hdep ⟨10,ag⟩ AL rfl
       have hK':=hK w' (aO .u64 y) AL (REF.o 11 AK) trivial;go_simp;simpa[Ca,d10,hsub,hwsub,hwsub2] using hK'
      ·have d4:t 4=(aO .u64 x):=by simpa using hdep ⟨4,ag⟩ AL rfl
       have d11:t 11=(aO .u64 y):=by simpa using hdep ⟨11,ag⟩ AL rfl
       have hts:=HX.o;rw[AQ (by rw[hLi];decide)] at hts;have A:=MZ G ((ov+C)) x y w' hSz hts.sum hx0 AJ AJ AJ hTT;have hK':∀ ww,YE w' G ((ov+C)+x*y) ww->K _ ww:=λww hs=>hK ww (.tuple #[]) (by simp[CZ]) (by rw[AP (by simp[CZ])];have:=hts.add hs;rw[HEQ.o] at this;exact this) trivial
       go_simp;refine A.mono ?_;rintro e w9 ⟨rfl,hs⟩;have hK2:=hK' w9 hs;go_simp;simpa[Ca,d4,d11] using hK2
     case hdone=>
      intro L t w' hx hg;have d0:t 0=(aY (aR ⟨g1,o1,aS⟩)):=by simpa using hg 0 AK
      have d1:t 1=(aO aZ (n:Int)):=by simpa using hg 1 AK
      have d2:t 2=(aY (aR ⟨g1,o1,aS⟩)):=by simpa using hg 2 AK
      have d3:t 3=(aY (aR ⟨g1,o1+n,aS⟩)):=by simpa using hg 3 AK
      have d4:t 4=(aO .u64 x):=by simpa using hg 4 AK
      have d5:t 5=(aY (aR ⟨g2,o2,aS⟩)):=by simpa using hg 5 AK
      have d6:t 6=(aO aZ (k:Int)):=by simpa using hg 6 AK
      have d7:t 7=(aO aZ (n:Int)):=by simpa using hg 7 AK
      have d8:t 8=(aO aZ ((k-n:Nat):Int)):=by simpa using hg 8 AK
      have d9:t 9=(aY (aR ⟨g2,o2,aS⟩)):=by simpa using hg 9 AK
      have d10:t 10=(aY (aR ⟨g2,o2+(k-n),aS⟩)):=by simpa using hg 10 AK
      have d11:t 11=(aO .u64 y):=by simpa using hg 11 AK
      have d12:t 12=.tuple #[]/\L 12=true:=by simpa using hg 12 AK
      rw[AP d12.2] at hx;have HP:AO (K1 w (EB (EH xs ys) [0,0,0,0,0] k) G (ov+cs xs ys k (n+1)) w'):=by rw[HCE.o];exact hx
      dsimp only;rw[d0,d1,d2,d3,d4,d5,d6,d7,d8,d9,d10,d11,d12.1];go_wp2;go_roundw
      case rel=>exact⟨n+1,AJ,by go_num,HP.o⟩
      case measure=>simp[intOf];omega
    ·obtain rfl:n=k+1:=AJ
     have HLO:AO (cs xs ys k (k+1)=Vr xs ys k):=rfl;have hlo:=HT1.o k (k+1) AJ;rw[HLO.o] at hts hlo;have HTL:AO ((tl xs ys).getD k 0=Vr xs ys k+19*Vs xs ys k):=Ny _ _ _ hlt;generalize Vr xs ys k=lo at *;have HTS0:AO (K1 w (EB (EH xs ys) [0,0,0,0,0] k) G (ov+lo+19*cs xs ys (5+k) (k+1)) wr):=by
      show K1 w _ G _ wr
      rw[Ma xs HY5.o k (k+1) Ch];simpa using hts
     obtain⟨l0,l1⟩:=hlo;obtain⟨L0,hL0⟩:∃ L0,L0=ov+lo:=⟨_,rfl⟩
     rw[<-hL0] at HTS0;have hLz:0<=L0:=AJ
     have hLm:L0<=40564819207304493769399109419008:=AJ
     have HL0:=CY <| hL0
     have hk1:((k+1:Nat):Int)=(k:Int)+1:=AJ
     rw[hk1];go_wp2
     go_loopw [10] (λi wq=>∃ n:Nat,k+1<=n/\n<=5/\i=aO aZ n/\K1 w (EB (EH xs ys) [0,0,0,0,0] k) G (L0+19*cs xs ys (5+k) n) wq) (λi _=>5-(intOf i).toNat)
     case atStart=>exact⟨k+1,Aa _,AJ,by go_num,HTS0.o⟩
     case round=>
      obtain⟨n,hnl,hnh,rfl,hts⟩:=hrel;by_cases hn5:n<5
      ·have hn5':(n:Int)<5:=AJ
       have HCX:AO (∀ w',Below w.heap.size w w'->w'.cell? ⟨g1,o1+n,aS⟩=aR (aO .u64 (xs.getD n 0))):=λw' hb=>(H1.o.below hb).2.2 n AJ
       have HCY:AO (∀ w',Below w.heap.size w w'->w'.cell? ⟨g2,o2+(k+5-n),aS⟩=aR (aO .u64 (ys.getD (k+5-n) 0))):=λw' hb=>(H2.o.below hb).2.2 (k+5-n) AJ
       have bx:=H1.o.2.1.bd;have by_:=H2.o.2.1.bd;have hx0:=bx.2 n;have hx1:=(bx.1 n).2;have hy0:=by_.2 (k+5-n);have hy1:=(by_.1 (k+5-n)).2;have hcs:cs xs ys (5+k) (n+1)=cs xs ys (5+k) n+xs.getD n 0*ys.getD (k+5-n) 0:=by rw[cs,show 5+k-n=k+5-n by omega]
       have hsn:=HT1.o (5+k) n AJ;have hsn1:=HT1.o (5+k) (n+1) AJ;rw[hcs] at hsn1;have HTS:=CY <| hts.drew
       have HCS:=CY <| hcs
       have hsub:((k:Int)+5-(n:Int))=((k+5-n:Nat):Int):=AJ
       have hwsub:IntKind.i64.wrap ((k:Int)+5-(n:Int))=((k+5-n:Nat):Int):=by rw[Ak];omega
       have hwsub2:IntKind.i64.wrap ((k+5-n:Nat):Int)=((k+5-n:Nat):Int):=by rw[Ak];omega
       have hw5:IntKind.i64.wrap ((k:Int)+5)=(k:Int)+5:=by rw[Ak];omega
       have hkn5:((k+5-n:Nat):Int)<5:=AJ
       generalize xs.getD n 0=x at *;generalize ys.getD (k+5-n) 0=y at *;generalize cs xs ys (5+k) n=C at *;obtain⟨s0,s1⟩:=hsn;obtain⟨s2,s3⟩:=hsn1;have hm19:IntKind.u64.wrap (19*y)=19*y:=by rw[IntKind.wrap_u64];omega
       have e19:x*(19*y)=19*(x*y):=by grind
       obtain⟨C',hC'⟩:∃ C',C'=C+x*y:=⟨_,rfl⟩
       have HEQ:AO (L0+19*C+x*(19*y)=L0+19*C'):=by show _=_;rw[e19];omega
       have HCE:AO (cs xs ys (5+k) (n+1)=C'):=by show _=_;rw[HCS.o,hC']
       have hSz:0<=L0+19*C:=AJ
       have hTT:(L0+19*C)+x*(19*y)<340282366920938463463374607431768211456:=by rw[e19];omega
       go_wp2_with fail;refine Ag AM ?_;refine Ie (λ_ _ _=>True) (frame:=(λ(a b c d e f g h i j k l m n o p q r s u v w x y z A B C D E F G H I J K L M N O P Q R S T U V W X Y Z a0 a1 a2 a3 a4 a5 a6 a7 a8 a9 b0:aX)=>λ(t:Nat->aX)=>({ tmps:=List.toArray [a,b,c,d,e,f,g,h,i,j,k,l,m,n,o,p,q,r,s,u,v,w,x,y,z,A,B,C,D,E,F,G,H,I,J,K,L,M,N,O,P,t 0,t 1,t 2,t 3,t 4,t 5,t 6,t 7,t 8,t 9,t 10,t 11,t 12,t 13,t 14,Q,R,S,T,U,V,W,X,Y,Z,a0,a1,a2,a3,a4,a5,a6,a7,a8,a9,b0],defers:=[] }:Act)) _ _ _ _ _ _ _ _ _ _ _ _ _ _ _ _ _ _ _ _ _ _ _ _ _ _ _ _ _ _ _ _ _ _ _ _ _ _ _ _ _ _ _ _ _ _ _ _ _ _ _ _ _ _ _ _ _ _ _ _ _ _)
        (Ext:=λL w'=>K1 w (EB (EH xs ys) [0,0,0,0,0] k) G (if L 14=true then(L0+19*C') else(L0+19*C)) w') (Good:=λi L _ v=>if i=0 then v=(aY (aR ⟨g1,o1,aS⟩)) else if i=1 then v=(aO aZ (n:Int)) else if i=2 then v=(aY (aR ⟨g1,o1,aS⟩)) else if i=3 then v=(aY (aR ⟨g1,o1+n,aS⟩)) else if i=4 then v=(aO .u64 x) else if i=5 then v=(aY (aR ⟨g2,o2,aS⟩)) else if i=6 then v=(aO aZ (k:Int)) else if i=7 then v=(aO aZ ((k:Int)+5)) else if i=8 then v=(aO aZ (n:Int)) else if i=9 then v=(aO aZ ((k+5-n:Nat):Int)) else if i=10 then v=(aY (aR ⟨g2,o2,aS⟩)) else if i=11 then v=(aY (aR ⟨g2,o2+(k+5-n),aS⟩)) else if i=12 then v=(aO .u64 y) else if i=13 then v=(aO .u64 (19*y)) else(v=.tuple #[]/\L 14=true)) ?hstab AM AM ?hop ?hdone _ _ ((λ(x0 x1 x2 x3 x4 x5 x6 x7 x8 x9 x10 x11 x12 x13 x14:aX)=>λ(i:Nat)=>if i=0 then x0 else if i=1 then x1 else if i=2 then x2 else if i=3 then x3 else if i=4 then x4 else if i=5 then x5 else if i=6 then x6 else if i=7 then x7 else if i=8 then x8 else if i=9 then x9 else if i=10 then x10 else if i=11 then x11 else if i=12 then x12 else if i=13 then x13 else if i=14 then x14 else undef) _ _ _ _ _ _ _ _ _ _ _ _ _ _ _) _ AL ?ext ?start AL
       case start=>intro i hi h;exact absurd h Ef
       case hstab=>
        intro j L w w' i v _ hij hL h;by_cases hj:j<14
        ·obtain rfl|rfl|rfl|rfl|rfl|rfl|rfl|rfl|rfl|rfl|rfl|rfl|rfl|rfl:j=0\/j=1\/j=2\/j=3\/j=4\/j=5\/j=6\/j=7\/j=8\/j=9\/j=10\/j=11\/j=12\/j=13:=AJ
         all_goals exact h
        ·have hj':=hj;have e:(CZ L i 14)=true\/L 14=false:=by unfold CZ;by_cases h9:14=i<;>simp[h9]
         revert h;simp only[if_neg (show ¬ j=0 by omega),if_neg (show ¬ j=1 by omega),if_neg (show ¬ j=2 by omega),if_neg (show ¬ j=3 by omega),if_neg (show ¬ j=4 by omega),if_neg (show ¬ j=5 by omega),if_neg (show ¬ j=6 by omega),if_neg (show ¬ j=7 by omega),if_neg (show ¬ j=8 by omega),if_neg (show ¬ j=9 by omega),if_neg (show ¬ j=10 by omega),if_neg (show ¬ j=11 by omega),if_neg (show ¬ j=12 by omega),if_neg (show ¬ j=13 by omega)];rintro⟨h1,h2⟩;exact⟨h1,by rcases e with e|e;exact e;rw[h2] at e;cases e⟩
       case ext=>exact HTS.o
       case hop=>
        intro i o L t w' ho hLi hx hdep K hK;have hi:i<15:=(AR.1 ho).1;have cA:w'.cell? ⟨g1,o1+n,aS⟩=aR (aO .u64 x):=HCX.o _ hx.pl.below;have cB:w'.cell? ⟨g2,o2+(k+5-n),aS⟩=aR (aO .u64 y):=HCY.o _ hx.pl.below;have REF:AO (∀ j,j≠14->K1 w (EB (EH xs ys) [0,0,0,0,0] k) G (if CZ L j 14=true then(L0+19*C') else(L0+19*C)) w'):=λj hj=>by
         have:CZ L j 14=L 14:=by unfold CZ;rw[AQ (A9 hj)]
         rw[this];exact hx
        have HX:AO (K1 w (EB (EH xs ys) [0,0,0,0,0] k) G (if L 14=true then(L0+19*C') else(L0+19*C)) w'):=hx;obtain rfl|rfl|rfl|rfl|rfl|rfl|rfl|rfl|rfl|rfl|rfl|rfl|rfl|rfl|rfl:i=0\/i=1\/i=2\/i=3\/i=4\/i=5\/i=6\/i=7\/i=8\/i=9\/i=10\/i=11\/i=12\/i=13\/i=14:=AJ
        all_goals(simp at ho;subst ho)
        {clear hdep;have hK':=hK w' (aY (aR ⟨g1,o1,aS⟩)) AL (REF.o 0 AK) trivial;go_simp;simpa[Ca,hsub,hwsub,hwsub2,hm19,hw5] using hK'};{clear hdep;have hK':=hK w' (aO aZ (n:Int)) AL (REF.o 1 AK) trivial;go_simp;simpa[Ca,hsub,hwsub,hwsub2,hm19,hw5] using hK'}
        ·have d0:t 0=(aY (aR ⟨g1,o1,aS⟩)):=by simpa using hdep ⟨0,ag⟩ AL rfl
         have hK':=hK w' (aY (aR ⟨g1,o1,aS⟩)) AL (REF.o 2 AK) trivial;go_simp;simpa[Ca,d0,hsub,hwsub,hwsub2,hm19,hw5] using hK'
        ·have d2:t 2=(aY (aR ⟨g1,o1,aS⟩)):=by simpa using hdep ⟨2,ag⟩ AL rfl
         have d1:t 1=(aO aZ (n:Int)):=by simpa using hdep ⟨1,ag⟩ AL rfl
         have hK':=hK w' (aY (aR ⟨g1,o1+n,aS⟩)) AL (REF.o 3 AK) trivial;go_simp;simpa[Ca,d2,d1,hsub,hwsub,hwsub2,hm19,hw5] using hK'
        ·have d3:t 3=(aY (aR ⟨g1,o1+n,aS⟩)):=by simpa using hdep ⟨3,ag⟩ AL rfl
         have hK':=hK w' (aO .u64 x) AL (REF.o 4 AK) trivial;go_simp;simpa[Ca,d3,hsub,hwsub,hwsub2,hm19,hw5] using hK'
        {clear hdep;have hK':=hK w' (aY (aR ⟨g2,o2,aS⟩)) AL (REF.o 5 AK) trivial;go_simp;simpa[Ca,hsub,hwsub,hwsub2,hm19,hw5] using hK'};{clear hdep;have hK':=hK w' (aO aZ (k:Int)) AL (REF.o 6 AK) trivial;go_simp;simpa[Ca,hsub,hwsub,hwsub2,hm19,hw5] using hK'}
        ·have d6:t 6=(aO aZ (k:Int)):=by simpa using hdep ⟨6,ag⟩ AL rfl
         have hK':=hK w' (aO aZ ((k:Int)+5)) AL (REF.o 7 AK) trivial;go_simp;simpa[Ca,d6,hsub,hwsub,hwsub2,hm19,hw5] using hK'
        ·clear hdep;have hK':=hK w' (aO aZ (n:Int)) AL (REF.o 8 AK) trivial;go_simp;simpa[Ca,hsub,hwsub,hwsub2,hm19,hw5] using hK'
        ·have d7:t 7=(aO aZ ((k:Int)+5)):=by simpa using hdep ⟨7,ag⟩ AL rfl
         have d8:t 8=(aO aZ (n:Int)):=by simpa using hdep ⟨8,ag⟩ AL rfl
         have hK':=hK w' (aO aZ ((k+5-n:Nat):Int)) AL (REF.o 9 AK) trivial;go_simp;simpa[Ca,d7,d8,hsub,hwsub,hwsub2,hm19,hw5] using hK'
        ·have d5:t 5=(aY (aR ⟨g2,o2,aS⟩)):=by simpa using hdep ⟨5,ag⟩ AL rfl
         have hK':=hK w' (aY (aR ⟨g2,o2,aS⟩)) AL (REF.o 10 AK) trivial;go_simp;simpa[Ca,d5,hsub,hwsub,hwsub2,hm19,hw5] using hK'
        ·have d10:t 10=(aY (aR ⟨g2,o2,aS⟩)):=by simpa using hdep ⟨10,ag⟩ AL rfl
         have d9:t 9=(aO aZ ((k+5-n:Nat):Int)):=by simpa using hdep ⟨9,ag⟩ AL rfl
         have hK':=hK w' (aY (aR ⟨g2,o2+(k+5-n),aS⟩)) AL (REF.o 11 AK) trivial;go_simp;simpa[Ca,d10,d9,hsub,hwsub,hwsub2,hm19,hw5] using hK'
        ·have d11:t 11=(aY (aR ⟨g2,o2+(k+5-n),aS⟩)):=by simpa using hdep ⟨11,ag⟩ AL rfl
         have hK':=hK w' (aO .u64 y) AL (REF.o 12 AK) trivial;go_simp;simpa[Ca,d11,hsub,hwsub,hwsub2,hm19,hw5] using hK'
        ·have d12:t 12=(aO .u64 y):=by simpa using hdep ⟨12,ag⟩ AL rfl
         have hK':=hK w' (aO .u64 (19*y)) AL (REF.o 13 AK) trivial;go_simp;simpa[Ca,d12,hsub,hwsub,hwsub2,hm19,hw5] using hK'
        ·have d4:t 4=(aO .u64 x):=by simpa using hdep ⟨4,ag⟩ AL rfl
         have d13:t 13=(aO .u64 (19*y)):=by simpa using hdep ⟨13,ag⟩ AL rfl
         have hts:=HX.o;rw[AQ (by rw[hLi];decide)] at hts;have A:=MZ G ((L0+19*C)) x (19*y) w' hSz hts.sum hx0 AJ AJ AJ hTT;have hK':∀ ww,YE w' G ((L0+19*C)+x*(19*y)) ww->K _ ww:=λww hs=>hK ww (.tuple #[]) (by simp[CZ]) (by rw[AP (by simp[CZ])];have:=hts.add hs;rw[HEQ.o] at this;exact this) trivial
         go_simp;refine A.mono ?_;rintro e w9 ⟨rfl,hs⟩;have hK2:=hK' w9 hs;go_simp;simpa[Ca,d4,d13] using hK2
       case hdone=>
        intro L t w' hx hg;have d0:t 0=(aY (aR ⟨g1,o1,aS⟩)):=by simpa using hg 0 AK
        have d1:t 1=(aO aZ (n:Int)):=by simpa using hg 1 AK
        have d2:t 2=(aY (aR ⟨g1,o1,aS⟩)):=by simpa using hg 2 AK
        have d3:t 3=(aY (aR ⟨g1,o1+n,aS⟩)):=by simpa using hg 3 AK
        have d4:t 4=(aO .u64 x):=by simpa using hg 4 AK
        have d5:t 5=(aY (aR ⟨g2,o2,aS⟩)):=by simpa using hg 5 AK
        have d6:t 6=(aO aZ (k:Int)):=by simpa using hg 6 AK
        have d7:t 7=(aO aZ ((k:Int)+5)):=by simpa using hg 7 AK
        have d8:t 8=(aO aZ (n:Int)):=by simpa using hg 8 AK
        have d9:t 9=(aO aZ ((k+5-n:Nat):Int)):=by simpa using hg 9 AK
        have d10:t 10=(aY (aR ⟨g2,o2,aS⟩)):=by simpa using hg 10 AK
        have d11:t 11=(aY (aR ⟨g2,o2+(k+5-n),aS⟩)):=by simpa using hg 11 AK
        have d12:t 12=(aO .u64 y):=by simpa using hg 12 AK
        have d13:t 13=(aO .u64 (19*y)):=by simpa using hg 13 AK
        have d14:t 14=.tuple #[]/\L 14=true:=by simpa using hg 14 AK
        rw[AP d14.2] at hx;have HP:AO (K1 w (EB (EH xs ys) [0,0,0,0,0] k) G (L0+19*cs xs ys (5+k) (n+1)) w'):=by rw[HCE.o];exact hx
        dsimp only;rw[d0,d1,d2,d3,d4,d5,d6,d7,d8,d9,d10,d11,d12,d13,d14.1];go_wp2;go_roundw
        case rel=>exact⟨n+1,AJ,AJ,by go_num,HP.o⟩
        case measure=>simp[intOf];omega
      ·obtain rfl:n=5:=AJ
       rw[show((5:Nat):Int)=5 from rfl];have hhi:=HT1.o (5+k) 5 AJ;have HHI:AO (cs xs ys (5+k) 5=Vs xs ys k):=rfl;rw[HHI.o] at hts hhi;obtain⟨S,hS⟩:∃ S,S=L0+19*Vs xs ys k:=⟨_,rfl⟩
       rw[<-hS] at hts;have hSt:S=(tl xs ys).getD k 0+ov:=by rw[hS,HL0.o,HTL.o];omega
       have hS0:0<=S:=AJ
       have hS1:S<41538374868278621028243970633760768:=AJ
       have hov:=HT3.o (k+1);have hgk1:D2 DD (tl xs ys) (k+1)=S/2251799813685248:=by
        show((tl xs ys).getD k 0+D2 DD (tl xs ys) k)/DD=_
        rw[HGK.o,<-hSt];rfl
       have hpr:EH xs ys k=S%2251799813685248:=by unfold EH;rw[HGK.o,<-hSt];rfl
       have c0:wr.cell? ⟨G,0,aS⟩=aR (aO .u64 (S/18446744073709551616)):=AA hts.sum _;have c1:wr.cell? ⟨G,1,aS⟩=aR (aO .u64 (S%18446744073709551616)):=AA hts.sum _;have c3:=hts.pl.row.cell k (by rw[Dh];exact hlt);have f3:=hts.pl.row.frozen k;have s1:NU w (EB (EH xs ys) [0,0,0,0,0] (k+1)) (wr.setCell ⟨w.heap.size+1,k,aS⟩ (aO .u64 (S%2251799813685248))):=by
        rw[<-I8 _ _ _ hlt,hpr];exact⟨((Wr.refl _ _).setCell k _).rowW hts.pl.res AJ,hts.pl.row.set k _,hts.pl.below.setCell AL _⟩
       have hGne:G≠w.heap.size+1:=AG hts.hG
       have hsz:w.heap.size+1<(wr.setCell ⟨w.heap.size+1,k,aS⟩ (aO .u64 (S%2251799813685248))).heap.size:=by
        have:=(AR.1 hts.sum).1;have:=hts.hG;simp[World.setCell];omega
       have c0':(wr.setCell ⟨w.heap.size+1,k,aS⟩ (aO .u64 (S%2251799813685248))).cell? ⟨G,0,aS⟩=aR (aO .u64 (S/18446744073709551616)):=by
        rw[World.cell?_setCell_other _ _ _ _ (by first|(simp;done)|(simp;omega))];exact c0
       have c1':(wr.setCell ⟨w.heap.size+1,k,aS⟩ (aO .u64 (S%2251799813685248))).cell? ⟨G,1,aS⟩=aR (aO .u64 (S%18446744073709551616)):=by
        rw[World.cell?_setCell_other _ _ _ _ (by first|(simp;done)|(simp;omega))];exact c1
       have HS1:AO (NU w (EB (EH xs ys) [0,0,0,0,0] (k+1)) (wr.setCell ⟨w.heap.size+1,k,aS⟩ (aO .u64 (S%2251799813685248)))/\w.heap.size+1<(wr.setCell ⟨w.heap.size+1,k,aS⟩ (aO .u64 (S%2251799813685248))).heap.size):=⟨s1,hsz⟩
       have hand:bits .and .u64 (S%18446744073709551616) 2251799813685247=S%2251799813685248:=by
        rw[DI _ 51 AJ AJ _ AK AK];show S%18446744073709551616%2251799813685248=_
        omega
       have hor:bits .or .u64 (S/18446744073709551616*8192) (S%18446744073709551616/2251799813685248)=S/2251799813685248:=by
        rw[Fm _ _ 13 AJ AJ AJ (by show _<(8192:Int);omega) AJ (S/18446744073709551616) AN];omega
       have HAND:=CY <| hand
       have HOR:=CY <| hor
       have HGK1:=CY <| hgk1
       have b0:0<=S/18446744073709551616:=AJ
       have b1:0<=S%18446744073709551616:=AJ
       have b2:S%18446744073709551616<18446744073709551616:=AJ
       have b3:S/18446744073709551616<2251799813685248:=AJ
       clear hts hS hSt hgk1 hpr s1 hsz hand hor hhi hov HL0 HTL HGK;generalize (EB (EH xs ys) [0,0,0,0,0] k).getD k 0=z at *;generalize S/18446744073709551616=sh at *;generalize S%18446744073709551616=sl at *;generalize S%2251799813685248=sr at *;generalize S/2251799813685248=sq at *;go_wp2;rw[HOR.o,HAND.o];exact⟨⟨k+1,AJ,by go_num,by rw[HGK1.o],HS1.o.1,HS1.o.2⟩,by simp[intOf];omega⟩
  ·obtain rfl:k=5:=AJ
   rw[SA] at hst;rw[show((5:Nat):Int)=5 from rfl];have hc:=HT3.o 5;have hc4:=HT4.o;have hb:=FQ (tl xs ys) 0;have c0:=hst.row.cell 0 (by rw[Dm];decide);have f0:=hst.row.frozen 0;have s1:NU w (Cu (tl xs ys)) (wr.setCell ⟨w.heap.size+1,0,aS⟩ (aO .u64 ((Hn (tl xs ys) 5).getD 0 0+19*D2 DD (tl xs ys) 5))):=
    ⟨((Wr.refl _ _).setCell 0 _).rowW hst.res AJ,hst.row.set 0 _,hst.below.setCell AL _⟩
   have HS1:=CY <| s1
   generalize (Hn (tl xs ys) 5).getD 0 0=y0 at *;generalize D2 DD (tl xs ys) 5=cc at *;obtain⟨hc0,hc1⟩:=hc;obtain⟨hb0,hb1⟩:=hb;go_wp2_with fail;have hst:=HS1.o;generalize wr.setCell ⟨w.heap.size+1,0,aS⟩ (aO .u64 (y0+19*cc))=w4 at *;refine(IL _ (Cu (tl xs ys)) _ (IJ _) hst.row HQ.o.1).mono ?_;rintro e w1 ⟨rfl,hs⟩;have s1:=hst.carry hs;have hl:=HQ.o.2.1.1;have HSZ:=CY <| sizeEl hl
   have HZ4:AO (([0,0,0,0,0].map (Value.int .u64)).toArray.size=(((Cu (Cu (tl xs ys))).map (Value.int .u64)).toArray).size):=by show _=_;simp[hl]
   have HRS:=CY <| s1.res
   have HRO:=CY <| s1.row
   have HBE:=CY <| s1.below
   generalize Cu (Cu (tl xs ys))=es at *;go_wp2_with (first
    |(refine AZ rfl 141 (ah 5) rfl (w.heap.size+1) rfl 141 _ (0,0) _ HRO.o underlying141 rfl HSZ.o ?_)
    |(refine AE 141 (ah 4) (ah 76) w.heap.size ((es.map (Value.int .u64)).toArray) 141 HRS.o HSZ.o HZ4.o (all_oneCell_toArray (Az _ _)) ?_))
   refine AU (v:=af (es.map (Value.int .u64)).toArray) (AY rfl _ _ w.heap.size 141 _ (0,0) _ rfl (AB HRS.o) underlying141 rfl HSZ.o) rfl ⟨es,HQ.o.2.1,HQ.o.2.2,rfl,?_⟩;exact HBE.o.trans ((Wr.setRow _ _ _).below Ch)
theorem DS {w:aV} {ops:Array Oper} {rest:List Oper} {o:Oper} {a:Act} {Q:Exit->Act->aV->Prop} (hgd:o.guard=aS) (x:Operand) (ho:o.op=.load 141 x)
  (g p:Nat) (es:List Int) (hx:a.eval x=aY (aR ⟨g,p,aS⟩)) (h:Dx w g p es) (hK:wpList tP ops Q rest (a.put o.dst (af (es.map (Value.int .u64)).toArray)) w) :
  wpList tP ops Q (o::rest) a w:=by
 have hr:w.rangeAt g p (es.map (Value.int .u64)):=λj v hv=>by
  have hj:j<es.length:=by have:=(Am.1 hv).1;simpa using this
  rw[h.2.2 j (AG h.2.1.1)];simp[hj] at hv;simp[hj,hv]
 have hl:=h.2.1.1;exact wpList_load_mid hgd 141 x ho g p hx (es.map (Value.int .u64)) _ hr underlying141 rfl (by rw[Tryz.sizeEl];simp[hl]) hK
theorem Ck {w:aV} {ops:Array Oper} {rest:List Oper} {o:Oper} {a:Act} {Q:Exit->Act->aV->Prop} (hgd:o.guard=aS) (x y:Operand) (ho:o.op=.store 141 x y)
  (G:Nat) (es zs:List Int) (hx:a.eval x=aY (aR ⟨G,0,aS⟩)) (hy:a.eval y=af (es.map (Value.int .u64)).toArray) (hl:es.length=5) (hz:zs.length=5) (hr:Cd w G 141 zs)
  (hK:∀ w',Cd w' G 141 es->Wr G w w'->wpList tP ops Q rest (a.put o.dst undef) w') :
  wpList tP ops Q (o::rest) a w:=
 Bx hgd 141 x y ho G ((es.map (Value.int .u64)).toArray) hx hy 141 _ hr (sizeEl hl) (by simp[hl,hz]) (all_oneCell_toArray (Az _ _)) (hK _ (hr.setRow es) (Wr.setRow _ _ _))
theorem Dx.of_row {w:aV} {g:Nat} {es:List Int} (h:Cd w g 141 es) (hk:Cq es):Dx w g 0 es:=
 ⟨h.lt,hk,λi hi=>by rw[Ar];exact h.cell i (AG hk.1)⟩
theorem J9 (w:aV):Cd (w.alloc (aa CN 141)) w.heap.size 141 [0,0,0,0,0]:=AS w _
theorem Nz {fn:Func} {p:Tmp} (h:fn.results=#[.cell p 141]) (tmps:Array aX) (w:aV) (g:Nat) (es:List Int) (hl:es.length=5) (hp:tmps.getD p undef=aY (aR ⟨g,0,aS⟩)) (hr:Cd w g 141 es) :
  (results fn tmps).run tP w=.ok (af (es.map (Value.int .u64)).toArray) w:=
 AY h tmps w g 141 _ (0,0) _ hp hr underlying141 rfl (sizeEl hl)
def Gw (x:Int):Nat->Int
 |0=>x
 |n+1=>Gw x n*Gw x n%fp
structure ZL (w:aV) (x:Int) (wr:aV):Prop where
 res:Cd wr w.heap.size 141 [0,0,0,0,0]
 row:∃ es,Cd wr (w.heap.size+1) 141 es/\Cq es/\ev es=x
 below:Below w.heap.size w wr
theorem Dp (g o:Nat) (xs:List Int) (n:Nat) (w:aV) (hn:n<=1048576) (h:Dx w g o xs) :
  Calls tP 150 #[aY (aR ⟨g,o,aS⟩),aO aZ n] w (EP w (Gw (ev xs) n)):=by
 have HX:AO (Dx (w.alloc (aa CN 141)) g o xs):=h.below (Ct _ _);have HK:=CY <| h.2.1
 clear h;go_enter func150,ntmps150;go_wp2_with (first
  |(refine DS rfl (ah 7) rfl g o xs rfl HX.o ?_)
  |(refine Ck rfl (ah 5) (ah 8) rfl (w.heap.size+1) xs [0,0,0,0,0] rfl rfl HK.o.1 rfl (heap_alloc2_new _ _ _) ?_)
  |fail)
 intro w1 hr1 hw1;have HS:AO (ZL w (Gw (ev xs) 0) w1):=by
  refine⟨hw1.rowW (heap_alloc2_old _ _ _) AJ,⟨xs,hr1,HK.o,rfl⟩,?_⟩;exact((Cf.alloc Ch _).alloc AL _).trans (hw1.below AJ)
 clear hr1 hw1 HX;go_wp2
 go_loopw [10] (λi wr=>∃ k:Nat,k<=n/\i=aO aZ k/\ZL w (Gw (ev xs) k) wr) (λi _=>n-(intOf i).toNat)
 case atStart=>exact⟨0,Aw _,rfl,HS.o⟩
 case round=>
  clear HS;obtain⟨k,hk,rfl,hst⟩:=hrel;obtain⟨hres,⟨es,hrow,hok,hev⟩,hbel⟩:=hst;by_cases hlt:k<n
  ·have hlt':(k:Int)<(n:Int):=AJ
   have E:=Dx.of_row hrow hok;go_wp2_with fail;refine(Cr _ _ _ _ es es _ E E).mono ?_;rintro e w2 ⟨fs,hfk,hfv,rfl,b2⟩;have s2:=hbel.size;have hl1:=hrow.lt;have HR2:=CY <| hrow.below b2 hl1
   have HRS:=CY <| hres.below b2 hres.lt
   have HB2:=CY <| hbel.trans (b2.mono s2)
   have HF:AO (Cq fs/\ev fs=Gw (ev xs) (k+1)):=⟨hfk,by rw[hfv,hev];rfl⟩
   have HL:=CY <| hok.1
   clear E hrow hok hev hres hbel b2 hfk hfv;go_wp2_with (first
    |(refine Ck rfl (ah 5) (ah 12) rfl (w.heap.size+1) fs es rfl rfl HF.o.1.1 HL.o HR2.o ?_)
    |fail)
   intro w3 hr3 hw3;have HS3:AO (ZL w (Gw (ev xs) (k+1)) w3):=⟨hw3.rowW HRS.o AJ,⟨fs,hr3,HF.o.1,HF.o.2⟩,HB2.o.trans (hw3.below AJ)⟩
   clear hr3 hw3 HR2 HRS HB2;go_wp2;go_roundw
   case rel=>exact⟨k+1,AJ,by go_num,HS3.o⟩
   case measure=>simp[intOf];omega
  ·obtain rfl:k=n:=AJ
   have HR2:=CY <| Dx.of_row hrow hok
   have HRS:=CY <| hres
   have HB2:=CY <| hbel
   have HF:AO (Cq es/\ev es=Gw (ev xs) k):=⟨hok,hev⟩
   clear hrow hok hev hres hbel;go_wp2_with (first
    |(refine DS rfl (ah 5) rfl (w.heap.size+1) 0 es rfl HR2.o ?_)
    |(refine Ck rfl (ah 4) (ah 14) rfl w.heap.size es [0,0,0,0,0] rfl rfl HF.o.1.1 rfl HRS.o ?_)
    |fail)
   intro w3 hr3 hw3;have HB3:=CY <| HB2.o.trans (hw3.below Ch)
   have HR3:AO (Cd w3 w.heap.size 141 es):=hr3;clear hr3 hw3 HR2 HRS HB2;go_wp2;exact AU (v:=af (es.map (Value.int .u64)).toArray) (Nz rfl _ _ w.heap.size es HF.o.1.1 rfl HR3.o) rfl ⟨es,HF.o.1,HF.o.2,rfl,HB3.o⟩
theorem DL (a b:Int):(a%fp)*(b%fp)%fp=a*b%fp:=(Int.mul_emod a b fp).symm
theorem N0 (x:Int) (h0:0<=x) (h1:x<fp) (n:Nat):Gw x n=x^(2^n)%fp:=by
 induction n with
 |zero=>simp only[Gw,Nat.pow_zero,Int.pow_succ,Int.pow_zero,Int.one_mul];exact(Int.emod_eq_of_lt h0 h1).symm
 |succ n ih=>rw[Gw,ih,DL,<-Int.pow_add,Nat.pow_succ];congr 2;omega
theorem Gx (x:Int) (a b:Nat):(x^a%fp)^b%fp=x^(a*b)%fp:=by
 induction b with
 |zero=>simp
 |succ b ih=>rw[Int.pow_succ,Int.mul_emod,ih,Int.emod_emod_of_dvd _ (Int.dvd_refl fp),DL,<-Int.pow_add,Nat.mul_succ]
theorem Gy (es:List Int):0<=ev es/\ev es<fp:=by unfold ev fp;omega
theorem QO (x:Int) (h:Nat):Gw (x^(2^h-1)%fp) h*(x^(2^h-1)%fp)%fp=x^(2^(h+h)-1)%fp:=by
 have b:0<=x^(2^h-1)%fp/\x^(2^h-1)%fp<fp:=by unfold fp;omega
 rw[N0 _ b.1 b.2,Gx,DL,<-Int.pow_add]
 congr 2
 have hp:1<=2^h:=Nat.pow_pos AK;rw[Nat.pow_add,Nat.sub_mul,Nat.one_mul];have:2^h<=2^h*2^h:=Nat.le_mul_of_pos_left _ hp;omega
theorem SB (x:Int) (m:Nat) (h0:0<=x) (h1:x<fp):Gw (x^(2^m-1)%fp) 1*x%fp=x^(2^(m+1)-1)%fp:=by
 have b:0<=x^(2^m-1)%fp/\x^(2^m-1)%fp<fp:=by unfold fp;omega
 have hx:x=x^1%fp:=by rw[Int.pow_succ,Int.pow_zero,Int.one_mul];exact(Int.emod_eq_of_lt h0 h1).symm
 rw[N0 _ b.1 b.2,Gx]
 conv=>lhs;rw[show x^((2^m-1)*2^1)%fp*x=x^((2^m-1)*2^1)%fp*(x^1%fp) from by rw[<-hx]]
 rw[DL,<-Int.pow_add]
 congr 2
 have hp:1<=2^m:=Nat.pow_pos AK;rw[Nat.pow_succ];omega
theorem Dx.wr {w w':aV} {g o V:Nat} {es:List Int} (h:Dx w g o es) (hw:Wr V w w') (hne:g≠V):Dx w' g o es:=
 ⟨by rw[hw.size];exact h.1,h.2.1,λi hi=>by rw[Af (a:=⟨g,o+i,aS⟩) (w:=w) (hw.block g hne)];exact h.2.2 i hi⟩
theorem SD (n:Nat):∀(g o:Nat) (xs:List Int) (w:aV),1<=n->n<=1024->Dx w g o xs->
  Calls tP 159 #[aY (aR ⟨g,o,aS⟩),aO aZ n] w (EP w (ev xs^(2^n-1)%fp)):=by
 induction n using Nat.strongRecOn with
 |ind n ih=>
  intro g o xs w hn1 hn2 h;have HX:AO (Dx (w.alloc (aa CN 141)) g o xs):=h.below (Ct _ _);have HK:=CY <| h.2.1
  have hev:=Gy xs;have hgw:=h.1;by_cases h1:n=1
  ·have h1':((n:Int) == 1)=true:=by rw[h1];rfl
   have HV:AO (ev xs=ev xs^(2^n-1)%fp):=by
    show _=_
    rw[h1];simp only[Nat.pow_one,Nat.reduceSub,Int.pow_succ,Int.pow_zero,Int.one_mul];exact(Int.emod_eq_of_lt hev.1 hev.2).symm
   have HR0:=CY <| J9 w
   go_enter func159,ntmps159;go_wp2_with (first
    |(refine DS rfl (ah 10) rfl g o xs rfl HX.o ?_)
    |(refine Ck rfl (ah 4) (ah 11) rfl w.heap.size xs [0,0,0,0,0] rfl rfl HK.o.1 rfl HR0.o ?_)
    |fail)
   intro w3 hr3 hw3;have HB3:=CY <| (Ct _ _).trans (hw3.below Ch)
   have HR3:=CY <| hr3
   go_wp2;exact AU (v:=af (xs.map (Value.int .u64)).toArray) (Nz rfl _ _ w.heap.size xs HK.o.1 rfl HR3.o) rfl ⟨xs,HK.o,HV.o,rfl,HB3.o⟩
  ·have h1':((n:Int) == 1)=false:=by simp;omega
   have IH:=CY <| ih (n/2) AJ g o xs
   have HD:AO ((n:Int)/2=((n/2:Nat):Int)):=by show _=_;omega
   have hb0:Below w.heap.size w (w.alloc (aa CN 141)):=Ct _ _;have HR0:=J9 w;go_enter func159,ntmps159;go_wp2_with fail;generalize w.alloc (aa CN 141)=w0 at *;rw[HD.o];refine(IH.o _ AJ AJ HX.o).mono ?_;rintro e w1 ⟨es,hok,hes,rfl,b1⟩;have HE1:AO (Cq es/\ev es=ev xs^(2^(n/2)-1)%fp):=⟨hok,hes⟩
   have s0:=hb0.size;have hl0:=HR0.lt;have HR1:=HR0.below b1 hl0;have B1:=hb0.trans (b1.mono s0);have X1:=HX.o.below b1;have s1:=B1.size;have hl1:=HR1.lt;have HRN:=CY <| J9 w1
   go_wp2_with (first
    |(refine Ck rfl (ah 5) (ah 15) rfl w1.heap.size es [0,0,0,0,0] rfl rfl HE1.o.1.1 rfl HRN.o ?_)
    |fail)
   intro w2 hr2 hw2;have b2:=(Ct _ _).trans (hw2.below Ch);have HR2:=HR1.below b2 hl1;have B2:=B1.trans (b2.mono s1);have X2:=X1.below b2;have E2:=Dx.of_row hr2 HE1.o.1;have hG:=hl1;generalize hGd:w1.heap.size=G at *;go_wp2_with fail;rw[HD.o];refine(Dp G 0 es (n/2) _ AJ E2).mono ?_;rintro e w3 ⟨fs,hfk,hfv,rfl,b3⟩;have s2:=B2.size;have hl2:=HR2.lt;have HR3:=HR2.below b3 hl2;have B3:=B2.trans (b3.mono s2);have X3:=X2.below b3;have E3:=E2.below b3;have HF:AO (Cq fs/\ev fs=Gw (ev xs^(2^(n/2)-1)%fp) (n/2)):=⟨hfk,by rw[hfv,HE1.o.2]⟩
   have s3:=B3.size;have hl3:=HR3.lt;have hG3:=E3.1;have HRN:=CY <| J9 w3
   go_wp2_with (first
    |(refine Ck rfl (ah 6) (ah 18) rfl w3.heap.size fs [0,0,0,0,0] rfl rfl HF.o.1.1 rfl HRN.o ?_)
    |fail)
   intro w4 hr4 hw4;have b4:=(Ct _ _).trans (hw4.below Ch);have HR4:=HR3.below b4 hl3;have B4:=B3.trans (b4.mono s3);have X4:=X3.below b4;have E4:=E3.below b4;have F4:=Dx.of_row hr4 HF.o.1;have hV:w.heap.size<w3.heap.size:=AJ
   generalize hVd:w3.heap.size=V at *;go_wp2_with fail;refine(Cr V 0 G 0 fs es _ F4 E4).mono ?_;rintro e w5 ⟨us,huk,huv,rfl,b5⟩;have s4:=B4.size;have HU:AO (Cq us/\ev us=ev xs^(2^(n/2+n/2)-1)%fp):=⟨huk,by rw[huv,HF.o.2,HE1.o.2,QO]⟩
   have HR5:=HR4.below b5 HR4.lt;have hrV:=hr4.below b5 hr4.lt;have B5:=B4.trans (b5.mono s4);have X5:=X4.below b5;have HFL:=CY <| HF.o.1.1
   have HRV:=CY <| hrV
   go_wp2_with (first
    |(refine Ck rfl (ah 6) (ah 19) rfl V us fs rfl rfl HU.o.1.1 HFL.o HRV.o ?_)
    |fail)
   intro w6 hr6 hw6;have HR6:=hw6.rowW HR5 AJ;have B6:=B5.trans (hw6.below AJ);have X6:=X5.wr hw6 AJ;have hr6':=hr6;have hmod:(n:Int)%2=((n%2:Nat):Int):=AJ
   by_cases hodd:n%2=1
   ·have ho1:(n:Int)%2=1:=AJ
    have ho2:(n:Int).tmod 2=1:=by rw[Ah AJ];exact ho1
    have HNE:AO (n/2+n/2+1=n):=by show _=_;omega
    have U6:=Dx.of_row hr6' HU.o.1;go_wp2_with fail;refine(Dp V 0 us 1 _ AK U6).mono ?_;rintro e w7 ⟨vs,hvk,hvv,rfl,b7⟩;have s6:=B6.size;have HV7:AO (Cq vs/\ev vs=Gw (ev xs^(2^(n/2+n/2)-1)%fp) 1):=⟨hvk,by rw[hvv,HU.o.2]⟩
    have HR7:=HR6.below b7 HR6.lt;have HRV7:=CY <| hr6'.below b7 hr6'.lt
    have B7:=B6.trans (b7.mono s6);have X7:=X6.below b7;have HUL:=CY <| HU.o.1.1
    go_wp2_with (first
     |(refine Ck rfl (ah 6) (ah 23) rfl V vs us rfl rfl HV7.o.1.1 HUL.o HRV7.o ?_)
     |fail)
    intro w8 hr8 hw8;have HR8:=hw8.rowW HR7 AJ;have B8:=B7.trans (hw8.below AJ);have X8:=X7.wr hw8 AJ;have V8:=Dx.of_row hr8 HV7.o.1;go_wp2_with fail;refine(Cr V 0 g o vs xs _ V8 X8).mono ?_;rintro e wa ⟨ts,htk,htv,rfl,ba⟩;have s8:=B8.size;have HT:AO (Cq ts/\ev ts=ev xs^(2^n-1)%fp):=⟨htk,by rw[htv,HV7.o.2,SB _ _ hev.1 hev.2,HNE.o]⟩
    have HRa:=HR8.below ba HR8.lt;have HRVa:=CY <| hr8.below ba hr8.lt
    have Ba:=B8.trans (ba.mono s8);have HVL8:=CY <| HV7.o.1.1
    go_wp2_with (first
     |(refine Ck rfl (ah 6) (ah 25) rfl V ts vs rfl rfl HT.o.1.1 HVL8.o HRVa.o ?_)
     |fail)
    intro wb hrb hwb;have HRb:=hwb.rowW HRa AJ;have Bb:=Ba.trans (hwb.below AJ);have HRES:=CY <| HRb
    have HBE:=CY <| Bb
    have HVL:=CY <| Dx.of_row hrb HT.o.1
    go_wp2_with (first
     |(refine DS rfl (ah 6) rfl V 0 ts rfl HVL.o ?_)
     |(refine Ck rfl (ah 4) (ah 26) rfl w.heap.size ts [0,0,0,0,0] rfl rfl HT.o.1.1 rfl HRES.o ?_)
     |fail)
    intro w9 hr9 hw9;have HB9:=CY <| HBE.o.trans (hw9.below Ch)
    have HR9:=CY <| hr9
    go_wp2;exact AU (v:=af (ts.map (Value.int .u64)).toArray) (Nz rfl _ _ w.heap.size ts HT.o.1.1 rfl HR9.o) rfl ⟨ts,HT.o.1,HT.o.2,rfl,HB9.o⟩
   ·have ho1:(n:Int)%2=0:=AJ
    have ho2:(n:Int).tmod 2=0:=by rw[Ah AJ];exact ho1
    have HT:AO (Cq us/\ev us=ev xs^(2^n-1)%fp):=⟨HU.o.1,by rw[HU.o.2,show n/2+n/2=n by omega]⟩
    have HRES:=CY <| HR6
    have HBE:=CY <| B6
    have HVL:=CY <| Dx.of_row hr6' HT.o.1
    go_wp2_with (first
     |(refine DS rfl (ah 6) rfl V 0 us rfl HVL.o ?_)
     |(refine Ck rfl (ah 4) (ah 26) rfl w.heap.size us [0,0,0,0,0] rfl rfl HT.o.1.1 rfl HRES.o ?_)
     |fail)
    intro w9 hr9 hw9;have HB9:=CY <| HBE.o.trans (hw9.below Ch)
    have HR9:=CY <| hr9
    go_wp2;exact AU (v:=af (us.map (Value.int .u64)).toArray) (Nz rfl _ _ w.heap.size us HT.o.1.1 rfl HR9.o) rfl ⟨us,HT.o.1,HT.o.2,rfl,HB9.o⟩
section
variable {P:Program} {ops:Array Oper} {Q:Exit->Act->aV->Prop} {md:Region.Mode}
theorem Ej (M:Nat->aV->aV->Prop) (frame:(Nat->aX)->Act) (Ext:(Nat->Bool)->(Nat->aX)->aV->Prop) (Good:Nat->(Nat->Bool)->aV->aX->Prop)
  (hstab:∀ j L w w' i v,M i w w'->i≠j->L i=false->Good j L w v->Good j (CZ L i) w' v)
  (hback:(List.range ops.size).all (λi=>((ops[i]?).map (λo=>o.after.all (λe=>!Region.binds md e || decide (e.on<i)))).getD false)=true)
  (hop:∀(i:Nat) (o:Oper) (L:Nat->Bool) (u:Nat->aX) (w:aV),ops[i]?=aR o->L i=false->Ext L u w->(∀ e∈o.after,Region.binds md e=true->L e.on=true/\Good e.on L w (u e.on))->
   ∀ K:Act->aV->Prop,(∀ w' v,Good i (CZ L i) w' v->Ext (CZ L i) (Ca u i v) w'->M i w w'->K (frame (Ca u i v)) w')->(if Region.wanted o (yielded ops (frame u).tmps)=true then Oper.wp P o (frame u) w K Q else K ((frame u).put o.dst undef) w))
  (hdone:∀ L u w,Ext L u w->(∀ i,i<ops.size->Good i L w (u i))->Q .normal (frame u) w) :
  ∀(fuel:Nat) (listed:Array Bool) (u:Nat->aX) (w:aV),listed.size=ops.size->Ext (λn=>listed.getD n false) u w->(∀ i,i<ops.size->listed.getD i false=true->Good i (λn=>listed.getD n false) w (u i))->
   (listed.toList.filter (!·)).length<=fuel->wpAny P md ops Q fuel listed (frame u) w:=by
 have hb:∀(i:Nat) (o:Oper),ops[i]?=aR o->∀ e∈o.after,Region.binds md e=true->e.on<i:=λi o ho e he hbe=>by
  have hi:=(AR.1 ho).1;have:=BM.1 hback i (BG.2 hi);rw[ho] at this;simp at this;obtain⟨k,hk,rfl⟩:=BQ.1 he;rcases this k hk with h|h
  {rw[hbe] at h;cases h};{exact h}
 have hfin:∀(listed:Array Bool) (u:Nat->aX) (w:aV),listed.size=ops.size->Ext (λn=>listed.getD n false) u w->(∀ i,i<ops.size->listed.getD i false=true->Good i (λn=>listed.getD n false) w (u i))->Region.ready md ops listed=[]->Q .normal (frame u) w:=by
  intro listed u w hs he hgd hr;refine hdone _ u w he λi hi=>hgd i hi ?_
  have hall:∀ n i,i<n->i<ops.size->listed.getD i false=true:=by
   intro n
   induction n with
   |zero=>intro i h;omega
   |succ n ih=>
    intro i hin hi;by_cases hlt:i<n
    ·exact ih i hlt hi
    ·cases hl:listed.getD i false with
     |true=>rfl
     |false=>
      exfalso
      have hl':listed.getD i true=false:=by
       have hil:i<listed.size:=AJ
       simp[hil] at hl |-;exact hl
      have:i∈Region.ready md ops listed:=Cz.2 ⟨hi,hl',ops[i],by simp[hi],λe hee hbe=>ih e.on (by have:=hb i ops[i] (by simp[hi]) e hee hbe;omega) (by have:=hb i ops[i] (by simp[hi]) e hee hbe;omega)⟩;rw[hr] at this;cases this
  exact hall (i+1) i AJ hi
 intro fuel
 induction fuel with
 |zero=>
  intro listed u w hs he hgd hc;have hr:Region.ready md ops listed=[]:=by
   apply BN.2;intro i hi;obtain⟨h1,h2,_⟩:=Cz.1 hi;have hil:i<listed.size:=AJ
   have h3:listed[i]=false:=by simpa[hil] using h2
   have:listed[i]∈listed.toList.filter (!·):=by
    rw[BS];exact⟨AL,by rw[h3];rfl⟩
   have:=Bg this;omega
  exact⟨hr,hfin listed u w hs he hgd hr⟩
 |succ fuel ih=>
  intro listed u w hs he hgd hc;refine⟨λhr=>hfin listed u w hs he hgd hr,λi hi=>?_⟩;obtain⟨h1,h2,o,ho,h3⟩:=Cz.1 hi;refine wpOp_step ho λK hK=>?_
  have hil:i<listed.size:=AJ
  have hnl:listed.getD i false=false:=by simp[hil] at h2 |-;exact h2
  have hupd:(λn=>(listed.setIfInBounds i true).getD n false)=CZ (λn=>listed.getD n false) i:=by
   funext n;rw[DV listed i n hil];rfl
  refine hop i o (λn=>listed.getD n false) u w ho hnl he (λe hee hbd=>⟨h3 e hee hbd,hgd e.on (AG (hb i o ho e hee hbd)) (h3 e hee hbd)⟩) K λw' v hgv hext hm=>hK _ _ ?_
  refine ih _ _ w' (by simpa using hs) (by rw[hupd];exact hext) (λj hj hlj=>?_) ?_
  ·rw[DV listed i j hil] at hlj;unfold Ca;by_cases hji:j=i
   {subst hji;rw[hupd];simpa using hgv};{rw[AQ hji] at hlj;rw[AQ hji,hupd];exact hstab j _ w w' i _ hm (A9 hji) hnl (hgd j hj hlj)}
  ·have:listed.toList[i]?=aR false:=by simp[hil] at h2;simp[hil,h2]
   have:=Et listed.toList i this;rw[BR];omega
end
end Go.Proofs.YtncomnkdlpoelaaGreatDoor
