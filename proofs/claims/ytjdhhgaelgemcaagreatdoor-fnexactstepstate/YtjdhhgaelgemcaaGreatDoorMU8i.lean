import Derived.Test.YtjdhhgaelgemcaaGreatDoorMBase
namespace Go.Proofs.YtjdhhgaelgemcaaGreatDoor
open Go.ChangeShapes Go.WideShapes Go.ChangeAt Go.RowKit
set_option linter.unusedVariables false
theorem Tryz.infoU8:(Tryz.prog.info? 5).map (λi=>(i.zero,i.size,i.bytes))=some (some (.int .u8 0),1,1):=AM
structure J3 (a:Option Addr) (w w':World):Prop where
 os:w'.os=w.os
 tape:w'.tape=w.tape
 output:w'.output=w.output
 size:w'.heap.size=w.heap.size
 block:∀ k,(∀ ad,a=some ad->k≠ad.block)->w'.heap[k]?=w.heap[k]?
theorem J3.refl (a:Option Addr) (w:World):J3 a w w:=⟨rfl,rfl,rfl,rfl,λ_ _=>rfl⟩
theorem J3.setCell {a:Option Addr} {w w':World} (h:J3 a w w') (ad:Addr) (ha:a=some ad) (o:Nat) (v:Value):J3 a w (w'.setCell ⟨ad.block,o,none⟩ v):=
 ⟨h.os,h.tape,h.output,by simp[World.setCell];exact h.size,λk hk=>(heap_setCell_other w' ⟨ad.block,o,none⟩ k v (hk ad ha)).trans (h.block k hk)⟩
theorem J3.below {a:Option Addr} {w w':World} (h:J3 a w w') (B:Nat) (hB:∀ ad,a=some ad->B<=ad.block):Below B w w':=
 ⟨h.os,h.tape,h.output,by rw[h.size];exact Ac _,λk hk=>h.block k (λad e=>AG (hB ad e))⟩
def FK (w:World) (a:Option Addr) (n:Nat):Prop:=
 n=0\/∃ g o,a=some ⟨g,o,none⟩/\g<w.heap.size/\∀ i,i<n->(w.cell? ⟨g,o+i,none⟩).isSome=true/\w.frozen? ⟨g,o+i,none⟩=false
theorem FK.below {w w':World} {a:Option Addr} {n:Nat} (h:FK w a n) (hb:Below w.heap.size w w'):FK w' a n:=by
 rcases h with h|⟨g,o,h1,h2,h3⟩
 ·exact .inl h
 ·exact .inr ⟨g,o,h1,AG hb.size,λi hi=>by rw[hb.cell (p:=⟨g,o+i,none⟩) h2,hb.frozen (p:=⟨g,o+i,none⟩) h2];exact h3 i hi⟩
end Go.Proofs.YtjdhhgaelgemcaaGreatDoor
namespace Go.Proofs.YtjdhhgaelgemcaaGreatDoor
set_option linter.unusedVariables false
/-! Carries in base 65536,sixteen digits. -/
def cy (xs:List Int):Nat->Int
 |0=>0
 |i+1=>(xs.getD i 0+cy xs i)/65536
def Lm (xs:List Int) (k i:Nat):Int:=if i<k then(xs.getD i 0+cy xs i)%65536 else if i=k then xs.getD i 0+cy xs i else xs.getD i 0
def Kx (xs:List Int) (k:Nat):List Int:=(List.range 16).map (Lm xs k)
def Cj (xs:List Int):List Int:=(List.range 16).map λi=>(xs.getD i 0+cy xs i)%65536+if i=0 then 38*cy xs 16 else 0
theorem Dx (xs:List Int) (k:Nat):(Kx xs k).length=16:=by simp[Kx]
theorem C6 (xs:List Int):(Cj xs).length=16:=by simp[Cj]
theorem Ig (f:Nat->Int) (i:Nat) (h:i<16):((List.range 16).map f).getD i 0=f i:=by simp[h]
theorem Fi (xs:List Int) (k i:Nat) (h:i<16):(Kx xs k).getD i 0=Lm xs k i:=Ig _ i h
theorem EO (xs:List Int) (i:Nat) (h:i<16):(Cj xs).getD i 0=(xs.getD i 0+cy xs i)%65536+if i=0 then 38*cy xs 16 else 0:=Ig _ i h
theorem Ih {a b:List Int} (ha:a.length=16) (hb:b.length=16) (h:∀ i,i<16->a.getD i 0=b.getD i 0):a=b:=by
 apply List.ext_getElem AJ;intro i h1 h2;have:=h i AJ;simpa[h1,h2] using this
theorem Cy (zs:List Int) (i j:Nat) (x:Int) (hi:i<zs.length):(zs.set i x).getD j 0=if j=i then x else zs.getD j 0:=by
 by_cases h:j=i
 ·subst h;rw[AP rfl,AS,List.getElem?_set_self hi];rfl
 ·rw[AQ h,AS,List.getElem?_set_ne (BA h),AS]
theorem Qn (xs:List Int) (h:xs.length=16):Kx xs 0=xs:=by
 apply Ih (Dx _ _) h;intro i hi;rw[Fi _ _ _ hi];unfold Lm;by_cases h0:i=0
 ·subst h0;simp[cy]
 ·simp[h0]
theorem Qo (xs:List Int) (k:Nat) (h:k<15):((Kx xs k).set k ((xs.getD k 0+cy xs k)%65536)).set (k+1) (xs.getD (k+1) 0+cy xs (k+1))=Kx xs (k+1):=by
 apply Ih (by simp[Dx]) (Dx _ _);intro i hi;rw[Cy _ _ _ _ (by simp[Dx];omega),Cy _ _ _ _ (by simp[Dx];omega),Fi _ _ _ hi,Fi _ _ _ hi];unfold Lm;by_cases h1:i=k+1
 ·subst h1;simp
 ·by_cases h2:i=k
  ·subst h2;simp
  ·have h3:(i<k)↔(i<k+1):=AJ
   simp[h1,h2,h3]
theorem Qp (xs:List Int):((Kx xs 15).set 15 ((xs.getD 15 0+cy xs 15)%65536)).set 0 (((Kx xs 15).set 15 ((xs.getD 15 0+cy xs 15)%65536)).getD 0 0+38*cy xs 16)=Cj xs:=by
 apply Ih (by simp[Dx]) (C6 _);intro i hi;rw[Cy _ _ _ _ (by simp[Dx]),Cy _ _ _ _ (by simp[Dx]),Cy _ _ _ _ (by simp[Dx]),Fi _ _ _ hi,Fi _ _ _ AK,EO _ _ hi];unfold Lm;by_cases h1:i=0
 ·subst h1;simp
 ·by_cases h2:i=15
  ·subst h2;simp
  ·have h3:i<15:=AJ
   simp[h1,h2,h3]
def Bd (M:Int) (xs:List Int):Prop:=∀ i,-M<=xs.getD i 0/\xs.getD i 0<=M
theorem Ln {xs:List Int} {M C:Int} (h:Bd M xs) (hC:M<=65535*C) (hM:0<=M) (i:Nat):-C<=cy xs i/\cy xs i<=C:=by
 induction i with
 |zero=>simp only[cy];omega
 |succ i ih=>simp only[cy];have:=h i;omega
theorem Do (B:Int) (f:Nat->Int) (n:Nat):val B ((List.range (n+1)).map f)=val B ((List.range n).map f)+f n*B^n:=by
 rw[CN,BS,Bp,Bu,Fs];simp
theorem DD (B:Int) (xs:List Int) (n:Nat) (h:xs.length=n):val B xs=val B ((List.range n).map (λi=>xs.getD i 0)):=by
 congr 1
 apply List.ext_getElem (by simp[h]);intro i h1 h2;simp[h1]
theorem J9 (xs:List Int) (n:Nat):val 65536 ((List.range n).map λi=>(xs.getD i 0+cy xs i)%65536)+cy xs n*65536^n=val 65536 ((List.range n).map λi=>xs.getD i 0):=by
 induction n with
 |zero=>simp[val,cy]
 |succ n ih=>
  rw[Do,Do,<-ih,Int.pow_succ];simp only[cy];have e:(xs.getD n 0+cy xs n)%65536+65536*((xs.getD n 0+cy xs n)/65536)=xs.getD n 0+cy xs n:=Int.emod_add_mul_ediv _ _;have e2:((xs.getD n 0+cy xs n)%65536+65536*((xs.getD n 0+cy xs n)/65536))*65536^n=(xs.getD n 0+cy xs n)*65536^n:=by rw[e]
  generalize (65536:Int)^n=P at *;generalize (xs.getD n 0+cy xs n)/65536=q at *;generalize (xs.getD n 0+cy xs n)%65536=r at *;generalize val 65536 (List.map (λi=>(xs.getD i 0+cy xs i)%65536) (List.range n))=v at *
  grind
def fp:Int:=57896044618658097711785492504343953926634992332820282019728792003956564819949
theorem Pb (xs:List Int) (h:xs.length=16):val 65536 (Cj xs)=val 65536 xs-cy xs 16*(2*fp):=by
 have e:=J9 xs 16;rw[<-DD 65536 xs 16 h] at e;have e1:val 65536 (Cj xs)=val 65536 ((List.range 16).map λi=>(xs.getD i 0+cy xs i)%65536)+38*cy xs 16:=by
  have:Cj xs=((List.range 16).map λi=>(xs.getD i 0+cy xs i)%65536).set 0 (((List.range 16).map λi=>(xs.getD i 0+cy xs i)%65536).getD 0 0+38*cy xs 16):=by
   apply Ih (C6 _) AL;intro i hi;rw[Cy _ _ _ _ AL,EO _ _ hi,Ig _ _ hi,Ig _ _ AK];by_cases h0:i=0
   ·subst h0;simp
   ·simp[h0]
  rw[this,FJ _ _ _ _ AL];simp only[Int.pow_zero];generalize List.map (λi=>(xs.getD i 0+cy xs i)%65536) (List.range 16)=l;omega
 rw[e1,<-e];have:(65536:Int)^16=2*fp+38:=AK
 rw[this];generalize val 65536 (List.map (λi=>(xs.getD i 0+cy xs i)%65536) (List.range 16))=l
 grind
theorem DB {xs:List Int} {i:Nat} (h:xs.length<=i):xs.getD i 0=0:=by
 rw[AS,BX h];rfl
theorem GV {xs:List Int} {C:Int} (hC:0<=C) (h:-C<=cy xs 16/\cy xs 16<=C):Bd (65535+38*C) (Cj xs)/\∀ i,1<=i->0<=(Cj xs).getD i 0/\(Cj xs).getD i 0<65536:=by
 refine⟨λi=>?_,λi hi=>?_⟩
 ·by_cases h16:i<16
  ·rw[EO _ _ h16];split<;>omega
  ·rw[DB (by rw[C6];omega)];omega
 ·by_cases h16:i<16
  ·rw[EO _ _ h16,AQ AJ];omega
  ·rw[DB (by rw[C6];omega)];omega
def R (xs:List Int):Prop:=xs.length=16/\Bd 65700 xs
def fv (xs:List Int):Int:=val 65536 xs%fp
theorem GW (xs:List Int) (h:xs.length=16):fv (Cj xs)=fv xs:=by
 unfold fv;rw[Pb xs h];have:val 65536 xs-cy xs 16*(2*fp)=val 65536 xs+fp*(-(2*cy xs 16)):=by grind
 rw[this,Int.add_mul_emod_self_left]
/-! Products of rows of digits. -/
def Ht:List Int->List Int->List Int
 |[],ys=>ys
 |x::xs,[]=>x::xs
 |x::xs,y::ys=>(x+y)::Ht xs ys
def E0:List Int->List Int->List Int
 |[],_=>[]
 |x::xs,ys=>Ht (ys.map (x*·)) (0::E0 xs ys)
theorem Qq (B:Int) (xs ys:List Int):val B (Ht xs ys)=val B xs+val B ys:=by
 induction xs generalizing ys with
 |nil=>simp[Ht,val]
 |cons x xs ih=>cases ys with
  |nil=>simp[Ht,val]
  |cons y ys=>simp only[Ht,val,ih];grind
theorem Pc (B x:Int) (ys:List Int):val B (ys.map (x*·))=x*val B ys:=by
 induction ys with
 |nil=>simp[val]
 |cons y ys ih=>simp only[List.map_cons,val,ih];grind
theorem Lo (B:Int) (xs ys:List Int):val B (E0 xs ys)=val B xs*val B ys:=by
 induction xs with
 |nil=>simp[E0,val]
 |cons x xs ih=>simp only[E0,Qq,Pc,val,ih];grind
theorem Qr (xs ys:List Int) (i:Nat):(Ht xs ys).getD i 0=xs.getD i 0+ys.getD i 0:=by
 induction xs generalizing ys i with
 |nil=>simp[Ht]
 |cons x xs ih=>cases ys with
  |nil=>simp[Ht]
  |cons y ys=>cases i with
   |zero=>simp[Ht]
   |succ i=>simp only[Ht,List.getD_cons_succ,ih]
theorem Pd (x:Int) (ys:List Int) (i:Nat):(ys.map (x*·)).getD i 0=x*ys.getD i 0:=by
 simp only[List.getD_eq_getElem?_getD,List.getElem?_map];cases ys[i]?<;>simp
def cs (a b:List Int) (s:Nat):Nat->Int
 |0=>0
 |n+1=>cs a b s n+a.getD n 0*b.getD (s-n) 0
theorem Tq (x:Int) (xs b:List Int) (s n:Nat):cs (x::xs) b (s+1) (n+1)=x*b.getD (s+1) 0+cs xs b s n:=by
 induction n with
 |zero=>simp[cs]
 |succ n ih=>
  rw[cs,ih];simp only[cs,List.getD_cons_succ];rw[show s+1-(n+1)=s-n by omega];omega
theorem IG (xs ys:List Int) (s:Nat):(E0 xs ys).getD s 0=cs xs ys s (s+1):=by
 induction xs generalizing s with
 |nil=>
  have:∀ n,cs [] ys s n=0:=λn=>by
   induction n with
   |zero=>rfl
   |succ n ih=>simp[cs,ih]
  rw[this];simp[E0]
 |cons x xs ih=>
  rw[E0,Qr,Pd];cases s with
  |zero=>simp[cs]
  |succ s=>
   rw[List.getD_cons_succ,ih s];exact(Tq x xs ys s (s+1)).symm
theorem Qs (xs ys:List Int):(Ht xs ys).length=max xs.length ys.length:=by
 induction xs generalizing ys with
 |nil=>simp[Ht]
 |cons x xs ih=>cases ys with
  |nil=>simp[Ht]
  |cons y ys=>simp only[Ht,List.length_cons,ih];omega
theorem Lp (xs ys:List Int):(E0 xs ys).length<=xs.length+ys.length:=by
 induction xs with
 |nil=>simp[E0]
 |cons x xs ih=>simp only[E0,Qs,List.length_map,List.length_cons];omega
def Tr (a b:List Int) (i:Nat):Int:=cs a b i (i+1)
def Te (a b:List Int) (i:Nat):Int:=cs a b (16+i) (17+i)
def FB (a b:List Int):List Int:=(List.range 16).map λi=>Tr a b i+38*Te a b i
theorem OO (B:Int) (xs:List Int) (n:Nat) (h:xs.length<=n):val B ((List.range n).map λi=>xs.getD i 0)=val B xs:=by
 obtain⟨d,rfl⟩:∃ d,n=xs.length+d:=⟨n-xs.length,AJ⟩
 clear h
 induction d with
 |zero=>rw[Nat.add_zero,<-DD B xs _ rfl]
 |succ d ih=>rw[<-Ax,Do,ih,DB AJ];omega
theorem KI (B:Int) (f:Nat->Int) (m n:Nat):val B ((List.range (m+n)).map f)=val B ((List.range m).map f)+B^m*val B ((List.range n).map λi=>f (m+i)):=by
 induction n with
 |zero=>simp[val]
 |succ n ih=>rw[<-Ax,Do,ih,Do,Int.pow_add];grind
theorem F8 (B:Int) (f g:Nat->Int) (n:Nat) (c:Int):val B ((List.range n).map λi=>f i+c*g i)=val B ((List.range n).map f)+c*val B ((List.range n).map g):=by
 induction n with
 |zero=>simp[val]
 |succ n ih=>rw[Do,Do,Do,ih];grind
theorem Qt (a b:List Int) (ha:a.length=16) (hb:b.length=16):∃ H,val 65536 (FB a b)=val 65536 a*val 65536 b-H*(2*fp):=by
 have e1:=OO 65536 (E0 a b) (16+16) (AG (Lp a b));rw[KI,Lo] at e1;refine⟨val 65536 ((List.range 16).map λi=>(E0 a b).getD (16+i) 0),?_⟩;have e2:FB a b=(List.range 16).map λi=>(E0 a b).getD i 0+38*(E0 a b).getD (16+i) 0:=by
  unfold FB Tr Te
  congr 1;funext i
  rw[IG,IG,show 16+i+1=17+i by omega]
 rw[e2,F8 65536 (λi=>(E0 a b).getD i 0) (λi=>(E0 a b).getD (16+i) 0) 16 38,<-e1];have:(65536:Int)^16=2*fp+38:=AK
 rw[this];generalize val 65536 (List.map (λi=>(E0 a b).getD i 0) (List.range 16))=p;generalize val 65536 (List.map (λi=>(E0 a b).getD (16+i) 0) (List.range 16))=q
 grind
theorem Ts (a b:List Int) (ha:a.length=16) (hb:b.length=16):fv (FB a b)=fv a*fv b%fp:=by
 obtain⟨H,e⟩:=Qt a b ha hb;unfold fv;rw[e,<-Int.mul_emod];have:val 65536 a*val 65536 b-H*(2*fp)=val 65536 a*val 65536 b+fp*(-(2*H)):=by grind
 rw[this,Int.add_mul_emod_self_left]
theorem OP {a b:List Int} {N:Int} (ha:Bd N a) (hb:Bd N b) (hN:0<=N) (s n:Nat):-(n*(N*N))<=cs a b s n/\cs a b s n<=n*(N*N):=by
 induction n with
 |zero=>simp[cs]
 |succ n ih=>
  have h1:=ha n;have h2:=hb (s-n);have p:-(N*N)<=a.getD n 0*b.getD (s-n) 0/\a.getD n 0*b.getD (s-n) 0<=N*N:=by
   generalize a.getD n 0=x at *;generalize b.getD (s-n) 0=y at *;have q1:0<=(N-x)*(N+y):=Int.mul_nonneg AJ AJ;have q2:0<=(N+x)*(N-y):=Int.mul_nonneg AJ AJ;have q3:0<=(N-x)*(N-y):=Int.mul_nonneg AJ AJ;have q4:0<=(N+x)*(N+y):=Int.mul_nonneg AJ AJ;constructor<;>grind
  rw[cs];have e:((n+1:Nat):Int)*(N*N)=n*(N*N)+N*N:=by rw[Int.natCast_add];grind
  rw[e];generalize N*N=Q at *;generalize (n:Int)*Q=K at *;omega
theorem Ky {a b:List Int} (hb:b.length=16) (i n:Nat) (h:n<=i+1):cs a b (16+i) n=0:=by
 induction n with
 |zero=>rfl
 |succ n ih=>rw[cs,ih AJ,DB (xs:=b) AJ];omega
theorem Tt {a b:List Int} (ha:a.length=16) (s:Nat) (d:Nat):cs a b s (16+d)=cs a b s 16:=by
 induction d with
 |zero=>rfl
 |succ d ih=>rw[<-Ax,cs,ih,DB (xs:=a) AJ];omega
theorem NL {a b:List Int} (ha:a.length=16) (i:Nat):Te a b i=cs a b (16+i) 16:=by
 unfold Te;rw[show 17+i=16+(1+i) by omega];exact Tt ha _ _
theorem Qu {xs:List Int} (h:∀ i,1<=i->0<=xs.getD i 0/\xs.getD i 0<65536) (h0:-34359738368<=xs.getD 0 0/\xs.getD 0 0<=34359738368) (i:Nat):-1<=cy xs (i+3)/\cy xs (i+3)<=1:=by
 induction i with
 |zero=>
  have a1:=h 1 AK;have a2:=h 2 AK;simp only[cy];omega
 |succ i ih=>
  have a:=h (i+3) AJ;rw[show i+1+3=(i+3)+1 from rfl,cy];omega
theorem Vk {xs:List Int} {M:Int} (hl:xs.length=16) (hM:Bd M xs) (h0:0<=M) (h1:M<=17592186044416) :
  R (Cj (Cj xs))/\fv (Cj (Cj xs))=fv xs/\Bd 20401160191 (Cj xs):=by
 have hc:=Ln (C:=536870912) hM AJ h0 16;obtain⟨b1,b2⟩:=GV AK hc;have b1':Bd 20401160191 (Cj xs):=b1;have hs:=Qu (xs:=Cj xs) b2 (AG (b1' 0)) 13;obtain⟨b3,_⟩:=GV (C:=1) AK hs;refine⟨⟨C6 _,λi=>AG (b3 i)⟩,?_,b1'⟩;rw[GW _ (C6 _),GW _ hl]
theorem Vl {xs:List Int} (hl:xs.length=16) (hM:Bd 131400 xs):R (Cj xs)/\fv (Cj xs)=fv xs:=by
 have hc:=Ln (C:=3) hM AK AK 16;obtain⟨b1,b2⟩:=GV AK hc;exact⟨⟨C6 _,λi=>AG (b1 i)⟩,GW _ hl⟩
theorem E1 (a b:List Int):(FB a b).length=16:=by simp[FB]
theorem OQ {a b:List Int} (ha:R a) (hb:R b):Bd 17592186044416 (FB a b):=by
 intro i;by_cases h:i<16
 ·have e:(FB a b).getD i 0=Tr a b i+38*Te a b i:=Ig _ i h;rw[e,NL ha.1];unfold Tr;have h1:=OP ha.2 hb.2 AK i (i+1);have h2:=OP ha.2 hb.2 AK (16+i) 16;omega
 ·rw[DB (by rw[E1];omega)];omega
def Ea (x:Int):List Int:=x::List.replicate 15 0
theorem Pe (B:Int) (n:Nat):val B (List.replicate n 0)=0:=by
 induction n with
 |zero=>rfl
 |succ n ih=>rw[List.replicate_succ];simp[val,ih]
theorem NM (x:Int):val 65536 (Ea x)=x:=by simp only[Ea,val,Pe];omega
theorem KJ {x M:Int} (h:-M<=x/\x<=M):Bd M (Ea x):=by
 intro i;cases i with
 |zero=>simpa[Ea] using h
 |succ i=>
  have:(Ea x).getD (i+1) 0=0:=by
   unfold Ea;rw[List.getD_cons_succ,AS,List.getElem?_replicate];split<;>rfl
  rw[this];omega
end Go.Proofs.YtjdhhgaelgemcaaGreatDoor
