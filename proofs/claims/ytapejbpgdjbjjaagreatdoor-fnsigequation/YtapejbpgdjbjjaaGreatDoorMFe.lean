import Derived.Test.YtapejbpgdjbjjaaGreatDoorMVal
import Derived.BigRegion
namespace Go.Proofs.YtapejbpgdjbjjaaGreatDoor
set_option linter.unusedVariables false
/-! Carries in base 65536,sixteen digits. -/
def cy (xs:List Int):Nat→Int
 |0=>0
 |i+1=>(xs.getD i 0+cy xs i)/65536
def cdig (xs:List Int) (k i:Nat):Int:=if i<k then(xs.getD i 0+cy xs i)%65536 else if i=k then xs.getD i 0+cy xs i else xs.getD i 0
def cst (xs:List Int) (k:Nat):List Int:=(List.range 16).map (cdig xs k)
def carryL (xs:List Int):List Int:=(List.range 16).map fun i=>(xs.getD i 0+cy xs i)%65536+if i=0 then 38*cy xs 16 else 0
theorem cst_len (xs:List Int) (k:Nat):(cst xs k).length=16:=by simp[cst]
theorem carryL_len (xs:List Int):(carryL xs).length=16:=by simp[carryL]
theorem rget (f:Nat→Int) (i:Nat) (h:i<16):((List.range 16).map f).getD i 0=f i:=by simp[h]
theorem cst_get (xs:List Int) (k i:Nat) (h:i<16):(cst xs k).getD i 0=cdig xs k i:=rget _ i h
theorem carryL_get (xs:List Int) (i:Nat) (h:i<16):(carryL xs).getD i 0=(xs.getD i 0+cy xs i)%65536+if i=0 then 38*cy xs 16 else 0:=rget _ i h
theorem list16 {a b:List Int} (ha:a.length=16) (hb:b.length=16) (h:∀ i,i<16→a.getD i 0=b.getD i 0):a=b:=by
 apply List.ext_getElem (by omega)
 intro i h1 h2
 have:=h i (by omega)
 simpa[h1,h2] using this
theorem getD_set_eq (zs:List Int) (i j:Nat) (x:Int) (hi:i<zs.length):(zs.set i x).getD j 0=if j=i then x else zs.getD j 0:=by
 by_cases h:j=i
 ·subst h;rw[if_pos rfl,List.getD_eq_getElem?_getD,List.getElem?_set_self hi];rfl
 ·rw[if_neg h,List.getD_eq_getElem?_getD,List.getElem?_set_ne (Ne.symm h),List.getD_eq_getElem?_getD]
theorem cst_zero (xs:List Int) (h:xs.length=16):cst xs 0=xs:=by
 apply list16 (cst_len _ _) h
 intro i hi
 rw[cst_get _ _ _ hi]
 unfold cdig
 by_cases h0:i=0
 ·subst h0;simp[cy]
 ·simp[h0]
theorem cst_step (xs:List Int) (k:Nat) (h:k<15):((cst xs k).set k ((xs.getD k 0+cy xs k)%65536)).set (k+1) (xs.getD (k+1) 0+cy xs (k+1))=cst xs (k+1):=by
 apply list16 (by simp[cst_len]) (cst_len _ _)
 intro i hi
 rw[getD_set_eq _ _ _ _ (by simp[cst_len];omega),getD_set_eq _ _ _ _ (by simp[cst_len];omega),cst_get _ _ _ hi,cst_get _ _ _ hi]
 unfold cdig
 by_cases h1:i=k+1
 ·subst h1;simp
 ·by_cases h2:i=k
  ·subst h2;simp
  ·have h3:(i<k)↔(i<k+1):=by omega
   simp[h1,h2,h3]
theorem cst_last (xs:List Int):((cst xs 15).set 15 ((xs.getD 15 0+cy xs 15)%65536)).set 0 (((cst xs 15).set 15 ((xs.getD 15 0+cy xs 15)%65536)).getD 0 0+38*cy xs 16)=carryL xs:=by
 apply list16 (by simp[cst_len]) (carryL_len _)
 intro i hi
 rw[getD_set_eq _ _ _ _ (by simp[cst_len]),getD_set_eq _ _ _ _ (by simp[cst_len]),getD_set_eq _ _ _ _ (by simp[cst_len]),cst_get _ _ _ hi,cst_get _ _ _ (by decide),carryL_get _ _ hi]
 unfold cdig
 by_cases h1:i=0
 ·subst h1;simp
 ·by_cases h2:i=15
  ·subst h2;simp
  ·have h3:i<15:=by omega
   simp[h1,h2,h3]
def Bd (M:Int) (xs:List Int):Prop:=∀ i,-M≤xs.getD i 0∧xs.getD i 0≤M
theorem cy_bd {xs:List Int} {M C:Int} (h:Bd M xs) (hC:M≤65535*C) (hM:0≤M) (i:Nat):-C≤cy xs i∧cy xs i≤C:=by
 induction i with
 |zero=>simp only[cy];omega
 |succ i ih=>simp only[cy];have:=h i;omega
theorem val_range (B:Int) (f:Nat→Int) (n:Nat):val B ((List.range (n+1)).map f)=val B ((List.range n).map f)+f n*B^n:=by
 rw[List.range_succ,List.map_append,List.map_cons,List.map_nil,val_snoc];simp
theorem val_eq_range (B:Int) (xs:List Int) (n:Nat) (h:xs.length=n):val B xs=val B ((List.range n).map (fun i=>xs.getD i 0)):=by
 congr 1
 apply List.ext_getElem (by simp[h])
 intro i h1 h2
 simp[h1]
theorem carry_val_aux (xs:List Int) (n:Nat):val 65536 ((List.range n).map fun i=>(xs.getD i 0+cy xs i)%65536)+cy xs n*65536^n=val 65536 ((List.range n).map fun i=>xs.getD i 0):=by
 induction n with
 |zero=>simp[val,cy]
 |succ n ih=>
  rw[val_range,val_range,←ih,Int.pow_succ];simp only[cy];have e:(xs.getD n 0+cy xs n)%65536+65536*((xs.getD n 0+cy xs n)/65536)=xs.getD n 0+cy xs n:=Int.emod_add_mul_ediv _ _;have e2:((xs.getD n 0+cy xs n)%65536+65536*((xs.getD n 0+cy xs n)/65536))*65536^n=(xs.getD n 0+cy xs n)*65536^n:=by rw[e]
  generalize (65536:Int)^n=P at *;generalize (xs.getD n 0+cy xs n)/65536=q at *;generalize (xs.getD n 0+cy xs n)%65536=r at *;generalize val 65536 (List.map (fun i=>(xs.getD i 0+cy xs i)%65536) (List.range n))=v at *
  grind
def fp:Int:=57896044618658097711785492504343953926634992332820282019728792003956564819949
theorem carry_val (xs:List Int) (h:xs.length=16):val 65536 (carryL xs)=val 65536 xs-cy xs 16*(2*fp):=by
 have e:=carry_val_aux xs 16
 rw[←val_eq_range 65536 xs 16 h] at e
 have e1:val 65536 (carryL xs)=val 65536 ((List.range 16).map fun i=>(xs.getD i 0+cy xs i)%65536)+38*cy xs 16:=by
  have:carryL xs=((List.range 16).map fun i=>(xs.getD i 0+cy xs i)%65536).set 0 (((List.range 16).map fun i=>(xs.getD i 0+cy xs i)%65536).getD 0 0+38*cy xs 16):=by
   apply list16 (carryL_len _) (by simp);intro i hi;rw[getD_set_eq _ _ _ _ (by simp),carryL_get _ _ hi,rget _ _ hi,rget _ _ (by decide)];by_cases h0:i=0
   ·subst h0;simp
   ·simp[h0]
  rw[this,val_set _ _ _ _ (by simp)];simp only[Int.pow_zero];generalize List.map (fun i=>(xs.getD i 0+cy xs i)%65536) (List.range 16)=l;omega
 rw[e1,←e]
 have:(65536:Int)^16=2*fp+38:=by decide
 rw[this]
 generalize val 65536 (List.map (fun i=>(xs.getD i 0+cy xs i)%65536) (List.range 16))=l
 grind
theorem getD_past {xs:List Int} {i:Nat} (h:xs.length≤i):xs.getD i 0=0:=by
 rw[List.getD_eq_getElem?_getD,List.getElem?_eq_none h];rfl
theorem carry_bd {xs:List Int} {C:Int} (hC:0≤C) (h:-C≤cy xs 16∧cy xs 16≤C):Bd (65535+38*C) (carryL xs)∧∀ i,1≤i→0≤(carryL xs).getD i 0∧(carryL xs).getD i 0<65536:=by
 refine⟨fun i=>?_,fun i hi=>?_⟩
 ·by_cases h16:i<16
  ·rw[carryL_get _ _ h16];split<;>omega
  ·rw[getD_past (by rw[carryL_len];omega)];omega
 ·by_cases h16:i<16
  ·rw[carryL_get _ _ h16,if_neg (by omega)];omega
  ·rw[getD_past (by rw[carryL_len];omega)];omega
def R (xs:List Int):Prop:=xs.length=16∧Bd 65700 xs
def fv (xs:List Int):Int:=val 65536 xs%fp
theorem fv_carry (xs:List Int) (h:xs.length=16):fv (carryL xs)=fv xs:=by
 unfold fv
 rw[carry_val xs h]
 have:val 65536 xs-cy xs 16*(2*fp)=val 65536 xs+fp*(-(2*cy xs 16)):=by grind
 rw[this,Int.add_mul_emod_self_left]
/-! Products of rows of digits. -/
def addP:List Int→List Int→List Int
 |[],ys=>ys
 |x::xs,[]=>x::xs
 |x::xs,y::ys=>(x+y)::addP xs ys
def mulP:List Int→List Int→List Int
 |[],_=>[]
 |x::xs,ys=>addP (ys.map (x*·)) (0::mulP xs ys)
theorem val_addP (B:Int) (xs ys:List Int):val B (addP xs ys)=val B xs+val B ys:=by
 induction xs generalizing ys with
 |nil=>simp[addP,val]
 |cons x xs ih=>cases ys with
  |nil=>simp[addP,val]
  |cons y ys=>simp only[addP,val,ih];grind
theorem val_scale (B x:Int) (ys:List Int):val B (ys.map (x*·))=x*val B ys:=by
 induction ys with
 |nil=>simp[val]
 |cons y ys ih=>simp only[List.map_cons,val,ih];grind
theorem val_mulP (B:Int) (xs ys:List Int):val B (mulP xs ys)=val B xs*val B ys:=by
 induction xs with
 |nil=>simp[mulP,val]
 |cons x xs ih=>simp only[mulP,val_addP,val_scale,val,ih];grind
theorem addP_get (xs ys:List Int) (i:Nat):(addP xs ys).getD i 0=xs.getD i 0+ys.getD i 0:=by
 induction xs generalizing ys i with
 |nil=>simp[addP]
 |cons x xs ih=>cases ys with
  |nil=>simp[addP]
  |cons y ys=>cases i with
   |zero=>simp[addP]
   |succ i=>simp only[addP,List.getD_cons_succ,ih]
theorem scale_get (x:Int) (ys:List Int) (i:Nat):(ys.map (x*·)).getD i 0=x*ys.getD i 0:=by
 simp only[List.getD_eq_getElem?_getD,List.getElem?_map]
 cases ys[i]?<;>simp
def cs (a b:List Int) (s:Nat):Nat→Int
 |0=>0
 |n+1=>cs a b s n+a.getD n 0*b.getD (s-n) 0
theorem cs_cons (x:Int) (xs b:List Int) (s n:Nat):cs (x::xs) b (s+1) (n+1)=x*b.getD (s+1) 0+cs xs b s n:=by
 induction n with
 |zero=>simp[cs]
 |succ n ih=>
  rw[cs,ih];simp only[cs,List.getD_cons_succ];rw[show s+1-(n+1)=s-n by omega];omega
theorem mulP_get (xs ys:List Int) (s:Nat):(mulP xs ys).getD s 0=cs xs ys s (s+1):=by
 induction xs generalizing s with
 |nil=>
  have:∀ n,cs [] ys s n=0:=fun n=>by
   induction n with
   |zero=>rfl
   |succ n ih=>simp[cs,ih]
  rw[this];simp[mulP]
 |cons x xs ih=>
  rw[mulP,addP_get,scale_get];cases s with
  |zero=>simp[cs]
  |succ s=>
   rw[List.getD_cons_succ,ih s];exact(cs_cons x xs ys s (s+1)).symm
theorem addP_len (xs ys:List Int):(addP xs ys).length=max xs.length ys.length:=by
 induction xs generalizing ys with
 |nil=>simp[addP]
 |cons x xs ih=>cases ys with
  |nil=>simp[addP]
  |cons y ys=>simp only[addP,List.length_cons,ih];omega
theorem mulP_len (xs ys:List Int):(mulP xs ys).length≤xs.length+ys.length:=by
 induction xs with
 |nil=>simp[mulP]
 |cons x xs ih=>simp only[mulP,addP_len,List.length_map,List.length_cons];omega
def loS (a b:List Int) (i:Nat):Int:=cs a b i (i+1)
def hiS (a b:List Int) (i:Nat):Int:=cs a b (16+i) (17+i)
def mulL (a b:List Int):List Int:=(List.range 16).map fun i=>loS a b i+38*hiS a b i
theorem val_pad (B:Int) (xs:List Int) (n:Nat) (h:xs.length≤n):val B ((List.range n).map fun i=>xs.getD i 0)=val B xs:=by
 obtain⟨d,rfl⟩:∃ d,n=xs.length+d:=⟨n-xs.length,by omega⟩
 clear h
 induction d with
 |zero=>rw[Nat.add_zero,←val_eq_range B xs _ rfl]
 |succ d ih=>rw[←Nat.add_assoc,val_range,ih,getD_past (by omega)];omega
theorem val_split (B:Int) (f:Nat→Int) (m n:Nat):val B ((List.range (m+n)).map f)=val B ((List.range m).map f)+B^m*val B ((List.range n).map fun i=>f (m+i)):=by
 induction n with
 |zero=>simp[val]
 |succ n ih=>rw[←Nat.add_assoc,val_range,ih,val_range,Int.pow_add];grind
theorem val_lin (B:Int) (f g:Nat→Int) (n:Nat) (c:Int):val B ((List.range n).map fun i=>f i+c*g i)=val B ((List.range n).map f)+c*val B ((List.range n).map g):=by
 induction n with
 |zero=>simp[val]
 |succ n ih=>rw[val_range,val_range,val_range,ih];grind
theorem mulL_val (a b:List Int) (ha:a.length=16) (hb:b.length=16):∃ H,val 65536 (mulL a b)=val 65536 a*val 65536 b-H*(2*fp):=by
 have e1:=val_pad 65536 (mulP a b) (16+16) (by have:=mulP_len a b;omega)
 rw[val_split,val_mulP] at e1
 refine⟨val 65536 ((List.range 16).map fun i=>(mulP a b).getD (16+i) 0),?_⟩
 have e2:mulL a b=(List.range 16).map fun i=>(mulP a b).getD i 0+38*(mulP a b).getD (16+i) 0:=by
  unfold mulL loS hiS
  congr 1;funext i
  rw[mulP_get,mulP_get,show 16+i+1=17+i by omega]
 rw[e2,val_lin 65536 (fun i=>(mulP a b).getD i 0) (fun i=>(mulP a b).getD (16+i) 0) 16 38,←e1]
 have:(65536:Int)^16=2*fp+38:=by decide
 rw[this]
 generalize val 65536 (List.map (fun i=>(mulP a b).getD i 0) (List.range 16))=p
 generalize val 65536 (List.map (fun i=>(mulP a b).getD (16+i) 0) (List.range 16))=q
 grind
theorem fv_mulL (a b:List Int) (ha:a.length=16) (hb:b.length=16):fv (mulL a b)=fv a*fv b%fp:=by
 obtain⟨H,e⟩:=mulL_val a b ha hb
 unfold fv
 rw[e,←Int.mul_emod]
 have:val 65536 a*val 65536 b-H*(2*fp)=val 65536 a*val 65536 b+fp*(-(2*H)):=by grind
 rw[this,Int.add_mul_emod_self_left]
theorem cs_bd {a b:List Int} {N:Int} (ha:Bd N a) (hb:Bd N b) (hN:0≤N) (s n:Nat):-(n*(N*N))≤cs a b s n∧cs a b s n≤n*(N*N):=by
 induction n with
 |zero=>simp[cs]
 |succ n ih=>
  have h1:=ha n;have h2:=hb (s-n);have p:-(N*N)≤a.getD n 0*b.getD (s-n) 0∧a.getD n 0*b.getD (s-n) 0≤N*N:=by
   generalize a.getD n 0=x at *;generalize b.getD (s-n) 0=y at *;have q1:0≤(N-x)*(N+y):=Int.mul_nonneg (by omega) (by omega);have q2:0≤(N+x)*(N-y):=Int.mul_nonneg (by omega) (by omega);have q3:0≤(N-x)*(N-y):=Int.mul_nonneg (by omega) (by omega);have q4:0≤(N+x)*(N+y):=Int.mul_nonneg (by omega) (by omega);constructor<;>grind
  rw[cs];have e:((n+1:Nat):Int)*(N*N)=n*(N*N)+N*N:=by rw[Int.natCast_add];grind
  rw[e];generalize N*N=Q at *;generalize (n:Int)*Q=K at *;omega
theorem cs_zero_from {a b:List Int} (hb:b.length=16) (i n:Nat) (h:n≤i+1):cs a b (16+i) n=0:=by
 induction n with
 |zero=>rfl
 |succ n ih=>rw[cs,ih (by omega),getD_past (xs:=b) (by omega)];omega
theorem cs_past {a b:List Int} (ha:a.length=16) (s:Nat) (d:Nat):cs a b s (16+d)=cs a b s 16:=by
 induction d with
 |zero=>rfl
 |succ d ih=>rw[←Nat.add_assoc,cs,ih,getD_past (xs:=a) (by omega)];omega
theorem hiS_eq {a b:List Int} (ha:a.length=16) (i:Nat):hiS a b i=cs a b (16+i) 16:=by
 unfold hiS
 rw[show 17+i=16+(1+i) by omega];exact cs_past ha _ _
theorem cy_sharp {xs:List Int} (h:∀ i,1≤i→0≤xs.getD i 0∧xs.getD i 0<65536) (h0:-34359738368≤xs.getD 0 0∧xs.getD 0 0≤34359738368) (i:Nat):-1≤cy xs (i+3)∧cy xs (i+3)≤1:=by
 induction i with
 |zero=>
  have a1:=h 1 (by decide);have a2:=h 2 (by decide);simp only[cy];omega
 |succ i ih=>
  have a:=h (i+3) (by omega);rw[show i+1+3=(i+3)+1 from rfl,cy];omega
theorem two_R {xs:List Int} {M:Int} (hl:xs.length=16) (hM:Bd M xs) (h0:0≤M) (h1:M≤17592186044416) :
  R (carryL (carryL xs))∧fv (carryL (carryL xs))=fv xs∧Bd 20401160191 (carryL xs):=by
 have hc:=cy_bd (C:=536870912) hM (by omega) h0 16
 obtain⟨b1,b2⟩:=carry_bd (by decide) hc
 have b1':Bd 20401160191 (carryL xs):=b1
 have hs:=cy_sharp (xs:=carryL xs) b2 (by have:=b1' 0;omega) 13
 obtain⟨b3,_⟩:=carry_bd (C:=1) (by decide) hs
 refine⟨⟨carryL_len _,fun i=>by have:=b3 i;omega⟩,?_,b1'⟩
 rw[fv_carry _ (carryL_len _),fv_carry _ hl]
theorem one_R {xs:List Int} (hl:xs.length=16) (hM:Bd 131400 xs):R (carryL xs)∧fv (carryL xs)=fv xs:=by
 have hc:=cy_bd (C:=3) hM (by decide) (by decide) 16
 obtain⟨b1,b2⟩:=carry_bd (by decide) hc
 exact⟨⟨carryL_len _,fun i=>by have:=b1 i;omega⟩,fv_carry _ hl⟩
theorem mulL_len (a b:List Int):(mulL a b).length=16:=by simp[mulL]
theorem mulL_bd {a b:List Int} (ha:R a) (hb:R b):Bd 17592186044416 (mulL a b):=by
 intro i
 by_cases h:i<16
 ·have e:(mulL a b).getD i 0=loS a b i+38*hiS a b i:=rget _ i h;rw[e,hiS_eq ha.1];unfold loS;have h1:=cs_bd ha.2 hb.2 (by decide) i (i+1);have h2:=cs_bd ha.2 hb.2 (by decide) (16+i) 16;omega
 ·rw[getD_past (by rw[mulL_len];omega)];omega
def smallL (x:Int):List Int:=x::List.replicate 15 0
theorem val_zeros (B:Int) (n:Nat):val B (List.replicate n 0)=0:=by
 induction n with
 |zero=>rfl
 |succ n ih=>rw[List.replicate_succ];simp[val,ih]
theorem smallL_val (x:Int):val 65536 (smallL x)=x:=by simp only[smallL,val,val_zeros];omega
theorem smallL_bd {x M:Int} (h:-M≤x∧x≤M):Bd M (smallL x):=by
 intro i
 cases i with
 |zero=>simpa[smallL] using h
 |succ i=>
  have:(smallL x).getD (i+1) 0=0:=by
   unfold smallL;rw[List.getD_cons_succ,List.getD_eq_getElem?_getD,List.getElem?_replicate];split<;>rfl
  rw[this];omega
end Go.Proofs.YtapejbpgdjbjjaaGreatDoor
namespace Go.Proofs.YtapejbpgdjbjjaaGreatDoor
set_option linter.unusedVariables false
/-! Elements of five limbs of 51 bits. -/
def gcy (B:Int) (xs:List Int):Nat→Int
 |0=>0
 |i+1=>(xs.getD i 0+gcy B xs i)/B
theorem gcarry_val (B:Int) (xs:List Int) (n:Nat):val B ((List.range n).map fun i=>(xs.getD i 0+gcy B xs i)%B)+gcy B xs n*B^n=val B ((List.range n).map fun i=>xs.getD i 0):=by
 induction n with
 |zero=>simp[val,gcy]
 |succ n ih=>
  rw[val_range,val_range,←ih,Int.pow_succ];simp only[gcy];have e:(xs.getD n 0+gcy B xs n)%B+B*((xs.getD n 0+gcy B xs n)/B)=xs.getD n 0+gcy B xs n:=Int.emod_add_mul_ediv _ _;have e2:((xs.getD n 0+gcy B xs n)%B+B*((xs.getD n 0+gcy B xs n)/B))*B^n=(xs.getD n 0+gcy B xs n)*B^n:=by rw[e]
  generalize B^n=P at *;generalize (xs.getD n 0+gcy B xs n)/B=q at *;generalize (xs.getD n 0+gcy B xs n)%B=r at *;generalize val B (List.map (fun i=>(xs.getD i 0+gcy B xs i)%B) (List.range n))=v at *
  grind
def B51:Int:=2251799813685248
def sdig (xs:List Int) (k i:Nat):Int:=if i<k then(xs.getD i 0+gcy B51 xs i)%B51 else xs.getD i 0
def sst (xs:List Int) (k:Nat):List Int:=(List.range 5).map (sdig xs k)
theorem sst_len (xs:List Int) (k:Nat):(sst xs k).length=5:=by simp[sst]
theorem rget5 (f:Nat→Int) (i:Nat) (h:i<5):((List.range 5).map f).getD i 0=f i:=by simp[h]
theorem sst_get (xs:List Int) (k i:Nat) (h:i<5):(sst xs k).getD i 0=sdig xs k i:=rget5 _ i h
theorem list5 {a b:List Int} (ha:a.length=5) (hb:b.length=5) (h:∀ i,i<5→a.getD i 0=b.getD i 0):a=b:=by
 apply List.ext_getElem (by omega)
 intro i h1 h2
 have:=h i (by omega)
 simpa[h1,h2] using this
theorem sst_zero (xs:List Int) (h:xs.length=5):sst xs 0=xs:=by
 apply list5 (sst_len _ _) h
 intro i hi
 rw[sst_get _ _ _ hi];simp[sdig]
theorem sst_step (xs:List Int) (k:Nat) (h:k<5):(sst xs k).set k ((xs.getD k 0+gcy B51 xs k)%B51)=sst xs (k+1):=by
 apply list5 (by simp[sst_len]) (sst_len _ _)
 intro i hi
 rw[getD_set_eq _ _ _ _ (by simp[sst_len];omega),sst_get _ _ _ hi,sst_get _ _ _ hi]
 unfold sdig
 by_cases h2:i=k
 ·subst h2;simp
 ·have h3:(i<k)↔(i<k+1):=by omega
  simp[h2,h3]
theorem sst_val (xs:List Int) (h:xs.length=5):val B51 (sst xs 5)+gcy B51 xs 5*(fp+19)=val B51 xs:=by
 have e:=gcarry_val B51 xs 5
 rw[←val_eq_range B51 xs 5 h] at e
 have e1:sst xs 5=(List.range 5).map fun i=>(xs.getD i 0+gcy B51 xs i)%B51:=by
  apply list5 (sst_len _ _) (by simp);intro i hi;rw[sst_get _ _ _ hi,rget5 _ _ hi];simp[sdig,hi]
 have e2:(B51:Int)^5=fp+19:=by decide
 rw[e1,←e2];exact e
def carryE (xs:List Int):List Int:=(sst xs 5).set 0 ((sst xs 5).getD 0 0+19*gcy B51 xs 5)
theorem carryE_len (xs:List Int):(carryE xs).length=5:=by simp[carryE,sst_len]
theorem carryE_val (xs:List Int) (h:xs.length=5):val B51 (carryE xs)=val B51 xs-gcy B51 xs 5*fp:=by
 unfold carryE
 rw[val_set _ _ _ _ (by simp[sst_len]),←sst_val xs h]
 simp only[Int.pow_zero]
 generalize (sst xs 5).getD 0 0=y
 generalize gcy B51 xs 5=c
 generalize val B51 (sst xs 5)=v
 grind
def ev (xs:List Int):Int:=val B51 xs%fp
theorem ev_carryE (xs:List Int) (h:xs.length=5):ev (carryE xs)=ev xs:=by
 unfold ev
 rw[carryE_val xs h]
 have:val B51 xs-gcy B51 xs 5*fp=val B51 xs+fp*(-(gcy B51 xs 5)):=by grind
 rw[this,Int.add_mul_emod_self_left]
def EOk (xs:List Int):Prop:=xs.length=5∧(∀ i,0≤xs.getD i 0)∧(∀ i,1≤i→xs.getD i 0<2251799813685248)∧xs.getD 0 0<2251799813685504
theorem sst_bd (xs:List Int) (i:Nat):0≤(sst xs 5).getD i 0∧(sst xs 5).getD i 0<2251799813685248:=by
 by_cases h:i<5
 ·rw[sst_get _ _ _ h];unfold sdig B51;rw[if_pos h];omega
 ·rw[getD_past (by rw[sst_len];omega)];omega
theorem carryE_ok {xs:List Int} (h0:0≤gcy B51 xs 5) (h1:gcy B51 xs 5≤13):EOk (carryE xs):=by
 have hl:0<(sst xs 5).length:=by rw[sst_len];decide
 have hb0:=sst_bd xs 0
 refine⟨carryE_len _,fun i=>?_,fun i hi=>?_,?_⟩
 ·unfold carryE;rw[getD_set_eq _ _ _ _ hl];have:=sst_bd xs i;split<;>omega
 ·unfold carryE;rw[getD_set_eq _ _ _ _ hl,if_neg (by omega)];exact(sst_bd xs i).2
 ·unfold carryE;rw[getD_set_eq _ _ _ _ hl,if_pos rfl];omega
theorem gcy_nonneg {xs:List Int} (h:∀ i,0≤xs.getD i 0) (i:Nat):0≤gcy B51 xs i:=by
 induction i with
 |zero=>simp[gcy]
 |succ i ih=>have:=h i;simp only[gcy];unfold B51 at *;omega
theorem gcy_le {xs:List Int} {M C:Int} (h:∀ i,0≤xs.getD i 0∧xs.getD i 0<M) (hC:0≤C) (hM:M+C≤2251799813685248*(C+1)) (i:Nat):0≤gcy B51 xs i∧gcy B51 xs i≤C:=by
 induction i with
 |zero=>simp[gcy];omega
 |succ i ih=>have:=h i;simp only[gcy];unfold B51 at *;omega
end Go.Proofs.YtapejbpgdjbjjaaGreatDoor
namespace Go.Proofs.YtapejbpgdjbjjaaGreatDoor
open Go.ChangeShapes Go.WideShapes Go.ChangeAt Go.RowKit
set_option linter.unusedVariables false
def U62 (xs:List Int):Prop:=∀ i,0≤xs.getD i 0∧xs.getD i 0<9223372036854775808
structure StS (w:World) (g:Nat) (zs:List Int) (wr:World):Prop where
 row:RowW wr g 52 zs
 wr:Wr g w wr
theorem StS.set {w:World} {g:Nat} {zs:List Int} {wr:World} (h:StS w g zs wr) (k:Nat) (x:Int):StS w g (zs.set k x) ((wr.setCell ⟨g,k,none⟩ (.int .u64 x)).drew):=
 ⟨h.row.set k x,(h.wr.setCell k _).drew⟩
set_option maxHeartbeats 1000000 in
theorem settle_any (g:Nat) (xs:List Int) (w:World) (hl:xs.length=5) (hr:RowW w g 52 xs) (hx:U62 xs) :
  Calls Tryz.prog 91 #[.pointer (some ⟨g,0,none⟩)] w fun e w'=>e=.returned (.int .u64 (gcy B51 xs 5))∧StS w g (sst xs 5) w':=by
 have HC:Hid (∀ i,0≤gcy B51 xs i∧gcy B51 xs i≤4096):=fun i=>gcy_le (M:=9223372036854775808) hx (by decide) (by decide) i
 have HX:Hid (U62 xs):=hx
 have HS:Hid (StS w g (sst xs 0) w):=⟨by rw[sst_zero xs hl];exact hr,Wr.refl _ _⟩
 clear hx hr
 go_enter Tryz.func91,Tryz.ntmps91
 go_wp2
 go_loopw [3,5] (fun c i wr=>∃ k:Nat,k≤5∧i=.int .i64 k∧c=.int .u64 (gcy B51 xs k)∧StS w g (sst xs k) wr) (fun _ i _=>5-(intOf i).toNat)
 case atStart=>exact⟨0,by decide,rfl,rfl,HS.out⟩
 case round=>
  clear HS;obtain⟨k,hk,rfl,rfl,hst⟩:=hrel;by_cases hlt:k<5
  ·have hlt':(k:Int)<5:=by omega
   obtain⟨hc0,hc1⟩:=HC.out k;obtain⟨hx0,hx1⟩:=HX.out k;have hget:(sst xs k).getD k 0=xs.getD k 0:=by rw[sst_get _ _ _ hlt];simp[sdig]
   have hlen:=sst_len xs k;have c0:=hst.row.cell k (by omega);have f0:=hst.row.frozen k;rw[hget] at c0;have s1:=hst.set k (xs.getD k 0+gcy B51 xs k);have c1:=s1.row.cell k (by rw[List.length_set];omega);have f1:=s1.row.frozen k;rw[getD_set_eq _ _ _ _ (by omega),if_pos rfl] at c1;have s2:=s1.set k ((xs.getD k 0+gcy B51 xs k)%B51);rw[List.set_set,sst_step xs k hlt] at s2;have HS2:Hid (StS w g (sst xs (k+1)) ((((wr.setCell ⟨g,k,none⟩ (.int .u64 (xs.getD k 0+gcy B51 xs k))).drew).setCell ⟨g,k,none⟩ (.int .u64 ((xs.getD k 0+gcy B51 xs k)%B51))).drew)):=s2;have HCS:Hid (gcy B51 xs (k+1)=(xs.getD k 0+gcy B51 xs k)/2251799813685248):=rfl;have HAND:Hid (bits .and .u64 (xs.getD k 0+gcy B51 xs k) 2251799813685247=(xs.getD k 0+gcy B51 xs k)%B51):=u64_and_mask _ 51 (by omega) (by omega) _ (by decide) (by decide);clear hget hlen s1 s2 hst;generalize gcy B51 xs k=cc at *;generalize xs.getD k 0=x at *;go_wp2
   go_region
   clear c0 f0;generalize (wr.setCell ⟨g,k,none⟩ (.int .u64 (x+cc))).drew=w1 at *;go_wp2
   go_region
   rw[HAND.out];clear c1 f1;generalize (w1.setCell ⟨g,k,none⟩ (.int .u64 ((x+cc)%B51))).drew=w2 at *;go_wp2;go_roundw
   case rel=>exact⟨k+1,by omega,by go_num,by rw[HCS.out],HS2.out⟩
   case measure=>simp[intOf];omega
  ·obtain rfl:k=5:=by omega
   have HP:Hid (StS w g (sst xs 5) wr):=hst;clear hst;go_wp2
   go_ret
   exact⟨rfl,HP.out⟩
set_option maxHeartbeats 400000 in
theorem carryE_any (g:Nat) (xs:List Int) (w:World) (hl:xs.length=5) (hr:RowW w g 52 xs) (hx:U62 xs) :
  Calls Tryz.prog 96 #[.pointer (some ⟨g,0,none⟩)] w fun e w'=>e=.returned (.tuple #[])∧StS w g (carryE xs) w':=by
 have hc:=gcy_le (M:=9223372036854775808) (C:=4096) hx (by decide) (by decide) 5
 go_enter Tryz.func96,Tryz.ntmps96
 go_wp2_with fail
 refine(settle_any g xs _ hl hr hx).mono ?_
 rintro e w1 ⟨rfl,st⟩
 have hb:=sst_bd xs 0
 have c0:=st.row.cell 0 (by rw[sst_len];decide)
 have f0:=st.row.frozen 0
 have HS:Hid (StS w g (carryE xs) ((w1.setCell ⟨g,0,none⟩ (.int .u64 ((sst xs 5).getD 0 0+19*gcy B51 xs 5))).drew)):=st.set 0 _
 clear st hr hx
 generalize (sst xs 5).getD 0 0=y at *
 generalize gcy B51 xs 5=c at *
 obtain⟨hc0,hc1⟩:=hc
 obtain⟨hb0,hb1⟩:=hb
 go_wp2
 go_region
 clear c0 f0
 generalize (w1.setCell ⟨g,0,none⟩ (.int .u64 (y+19*c))).drew=w2 at *
 go_wp2
 go_end0
 exact⟨rfl,HS.out⟩
end Go.Proofs.YtapejbpgdjbjjaaGreatDoor
namespace Go.Proofs.YtapejbpgdjbjjaaGreatDoor
open Go.ChangeShapes Go.WideShapes Go.ChangeAt Go.RowKit
set_option linter.unusedVariables false
theorem part_u64 (w:World) (xs:List Int) (i:Nat) (hi:i<xs.length):(part 50 (xs.map (Value.int .u64)).toArray i).run Tryz.prog w=.ok (.int .u64 (xs.getD i 0)) w:=by
 have hagg:(isAgg 50).run Tryz.prog w=.ok false w:=by
  unfold isAgg;rw[Sem.run_bind,run_underlying Tryz.underlying50 w];rfl
 simp[part,hagg,hi]
theorem sizeU64 (w:World):(sizeOf 50).run Tryz.prog w=.ok 1 w:=by
 have h:(Tryz.prog.info? 50).map (·.size)=some 1:=by kernel_rfl
 cases hq:Tryz.prog.info? 50 with
 |none=>simp[hq] at h
 |some i=>
  have hs:i.size=1:=by simpa[hq] using h
  simp[sizeOf,typeInfo,hq,hs]
theorem run_eqW (w:World) (d n:Nat) (t:TypeId) (hu:Tryz.prog.underlying t=some (.array n 50)) (xs ys:List Int) (hx:xs.length=n) (hy:ys.length=n) :
  (Op.equalIn (d+2) t (.agg (xs.map (Value.int .u64)).toArray) (.agg (ys.map (Value.int .u64)).toArray)).run Tryz.prog w=.ok (decide (xs=ys)) w:=by
 have key:decide (xs=ys)=(List.range' 0 n).all (fun i=>xs.getD i 0 == ys.getD i 0):=by
  rw[Bool.eq_iff_iff];simp only[decide_eq_true_eq,List.all_eq_true,List.mem_range',beq_iff_eq];constructor
  ·rintro rfl _ _;rfl
  ·intro h;apply List.ext_getElem (by omega);intro i h1 h2;have:=h i ⟨i,by omega,by omega⟩;simpa[h1,h2] using this
 rw[key]
 unfold Op.equalIn
 simp only[Sem.run_bind,run_underlying hu,Result.andThen_ok,sizeU64,Nat.mul_one,Std.Legacy.Range.forIn_eq_forIn_range',Std.Legacy.Range.size,Nat.sub_zero,Nat.add_sub_cancel,Nat.div_one]
 have hl:∀ i∈List.range' 0 n,i<n:=fun i hi=>by rw[List.mem_range'] at hi;obtain⟨j,_,rfl⟩:=hi;omega
 revert hl
 generalize List.range' 0 n=l
 intro hl
 induction l with
 |nil=>simp
 |cons i l ih=>
  have hi:=hl i (List.mem_cons_self ..);have ih':=ih (fun j hj=>hl j (List.mem_cons_of_mem _ hj));simp only[List.forIn_cons,Sem.run_bind,part_u64 w xs i (by omega),part_u64 w ys i (by omega),Result.andThen_ok,run_equalIn_int w d 50 .u64 .u64 _ _ Tryz.underlying50,List.all_cons];cases hb:(xs.getD i 0 == ys.getD i 0)
  ·simp
  ·simp only[Bool.not_true,Bool.false_eq_true,if_false,Sem.run_pure,Result.andThen_ok,Bool.true_and];exact ih'
end Go.Proofs.YtapejbpgdjbjjaaGreatDoor
