import Derived.Test.YthmeoilbmfdhfaaGreatSnA
import Derived.Test.YthmeoilbmfdhfaaGreatMSvS
open Go.Value renaming slice->UD,int->UE
open Go.Obj renaming cells->UP
namespace Go.Proofs.YthmeoilbmfdhfaaGreat
set_option maxHeartbeats 2000000
set_option maxRecDepth 100000
open Go.ChangeShapes Go.WideShapes Go.ChangeAt Go.RowKit
set_option linter.unusedVariables false
theorem MW (gn tl:Int) (aD aU:Option Addr) (nD cD nU cU:Nat) (D U:List Int) (w:World) (hD:D.length=nD) (hU:U.length=nU) (mD:nD<=1048576) (mU:nU<=1048576) (haD:At .i64 w aD D) (haU:At .i64 w aU U) :
  Calls Tryz.prog 96 #[.agg #[UE .u32 gn,UE .u32 tl,UD aD nD cD,UD aU nU cU]] w λe w'=>e=.returned (.bool (Ih gn tl D U))/\Below w.heap.size w w':=by
 have b0:Below w.heap.size w (w.alloc (UP #[UE .u32 gn,UE .u32 tl,UD aD nD cD,UD aU nU cU] 30)):=Cs.alloc Cw _;have HB:AP (∀ q,Below w.heap.size w ((w.alloc (UP #[UE .u32 gn,UE .u32 tl,UD aD nD cD,UD aU nU cU] 30)).drewN q)):=λq=>ET b0 q
 have HB0:AP (Below w.heap.size w (w.alloc (UP #[UE .u32 gn,UE .u32 tl,UD aD nD cD,UD aU nU cU] 30))):=b0;have HA:AP (∀ wz,Below w.heap.size w wz->At .i64 wz aD D/\At .i64 wz aU U):=λwz b=>⟨haD.below b,haU.below b⟩
 have HL:AP (D.length=nD/\U.length=nU):=⟨hD,hU⟩
 clear haD haU hD hU b0;by_cases h1:gn<=4000000000
 ·by_cases h2:1<=tl
  ·have h2':tl≥1:=h2;by_cases h3:tl<=4000000000
   ·by_cases h4:Dj D
    ·have HS1:AP (Fl D=true):=E6 h4;by_cases h5:nD<=16
     ·have h5':(nD:Int)<=16:=AK
      have HE:AP (Ih gn tl D U=Fl U):=by
       show _=_
       by_cases h6:Dj U
       ·rw[E6 h6,Fi ⟨h1,h2,h3,h4,by rw[HL.o.1];exact h5,h6⟩]
       ·rw[F5 h6,Eo (λq=>h6 q.2.2.2.2.2)]
      clear h4;go_enter Tryz.func96,Tryz.ntmps96;go_wp2_with fail;refine(Ef _ _ _ D _ HL.o.1 mD (HA.o _ HB0.o).1).mono ?_;rintro e w1 ⟨rfl,q1,rfl⟩;rw[HS1.o];go_wp2_with fail;refine(Ef _ _ _ U _ HL.o.2 mU (HA.o _ (HB.o q1)).2).mono ?_;rintro e w2 ⟨rfl,q2,rfl⟩;rw[dN];have HF:=HB.o (q1+q2);have HFF:AP _:=HF;clear HF HB HB0 HA;generalize hq:Fl U=q at *;have HQ:AP (Fl U=q):=hq;clear hq;go_wp2
      go_ret
      exact⟨by rw[HE.o];rfl,HFF.o⟩
     ·have h5':¬ ((nD:Int)<=16):=AK
      have HE:AP (Ih gn tl D U=false):=Eo (λq=>h5 (by rw[<-HL.o.1];exact q.2.2.2.2.1));clear h4;go_enter Tryz.func96,Tryz.ntmps96;go_wp2_with fail;refine(Ef _ _ _ D _ HL.o.1 mD (HA.o _ HB0.o).1).mono ?_;rintro e w1 ⟨rfl,q1,rfl⟩;rw[HS1.o];have HFF:=HB.o q1;have HF:AP _:=HFF;clear HFF HB HB0 HA;go_wp2
      go_ret
      exact⟨by rw[HE.o];rfl,HF.o⟩
    ·have HS1:AP (Fl D=false):=F5 h4;have HE:AP (Ih gn tl D U=false):=Eo (λq=>h4 q.2.2.2.1);clear h4;go_enter Tryz.func96,Tryz.ntmps96;go_wp2_with fail;refine(Ef _ _ _ D _ HL.o.1 mD (HA.o _ HB0.o).1).mono ?_;rintro e w1 ⟨rfl,q1,rfl⟩;rw[HS1.o];have HFF:=HB.o q1;have HF:AP _:=HFF;clear HFF HB HB0 HA;go_wp2
     go_ret
     exact⟨by rw[HE.o];rfl,HF.o⟩
   ·have HE:AP (Ih gn tl D U=false):=Eo (λq=>h3 q.2.2.1);clear HB HA;go_enter Tryz.func96,Tryz.ntmps96;go_wp2
    go_ret
    exact⟨by rw[HE.o];rfl,HB0.o⟩
  ·have HE:AP (Ih gn tl D U=false):=Eo (λq=>h2 q.2.1);have h2':¬ (tl≥1):=h2;clear HB HA;go_enter Tryz.func96,Tryz.ntmps96;go_wp2
   go_ret
   exact⟨by rw[HE.o];rfl,HB0.o⟩
 ·have HE:AP (Ih gn tl D U=false):=Eo (λq=>h1 q.1);clear HB HA;go_enter Tryz.func96,Tryz.ntmps96;go_wp2
  go_ret
  exact⟨by rw[HE.o];rfl,HB0.o⟩
theorem Qk (x:Int) (w:World) (h0:0<=x) (h1:x<256) :
  Calls Tryz.prog 145 #[UE .i64 x] w λe w'=>e=.returned (UD (some ⟨w.heap.size,0,none⟩) 2 2)/\w'=w.alloc (UP #[UE .u8 x,UE .u8 0] 5):=by
 have e1:x.tmod 256=x:=by rw[CJ h0];exact Int.emod_eq_of_lt h0 h1
 have e2:x.tdiv 256=0:=by rw[Int.tdiv_eq_ediv_of_nonneg h0];exact Int.ediv_eq_zero_of_lt h0 h1
 have e3:x%256=x:=Int.emod_eq_of_lt h0 h1;have e4:x/256=0:=Int.ediv_eq_zero_of_lt h0 h1;go_enter Tryz.func145,Tryz.ntmps145;go_wp2
 go_ret
 exact⟨rfl,rfl⟩
def Fx (xs:List Int) (i:Nat):List Int:=if i<xs.length then [xs.getD i 0,0] else [0,0]
def Cz (xs:List Int) (f k:Nat):List Int:=((List.range k).map (λj=>Fx xs (f+j))).flatten
theorem Jd (xs:List Int) (f k:Nat):Cz xs f (k+1)=Cz xs f k++Fx xs (f+k):=by
 unfold Cz;rw[CW,BY,List.flatten_append];simp
theorem Ox (xs:List Int) (i:Nat):(Fx xs i).length=2:=by unfold Fx;split<;>rfl
theorem FA (xs:List Int) (f k:Nat):(Cz xs f k).length=2*k:=by
 induction k with
 |zero=>rfl
 |succ k ih=>rw[Jd,Al,ih,Ox];omega
theorem MX (a:Option Addr) (n cap:Nat) (xs:List Int) (f m:Nat) (w:World) (hn:xs.length=n) (hm:n<=1048576) (ha:At .i64 w a xs) (hx:∀ z∈xs,0<=z/\z<256) (hf:f+m<=1048576) :
  Calls Tryz.prog 99 #[UD a n cap,UE .i64 f,UE .i64 ((f:Int)+m)] w λe w'=>∃ v,e=.returned v/\DT w' w.heap.size v (Cz xs f m)/\Below w.heap.size w w':=by
 have HA:AP (At .i64 w a xs):=ha;have HN:AP (xs.length=n):=hn;have HX:AP (∀ z∈xs,0<=z/\z<256):=hx;have H0:AP (DT (w.alloc (UP #[] 5)) w.heap.size (UD (some ⟨w.heap.size,0,none⟩) 0 0) (Cz xs f 0)/\Below w.heap.size w (w.alloc (UP #[] 5))):=⟨DT.empty _ _ Cw,Cs.alloc Cw _⟩
 clear ha hn hx;go_enter Tryz.func99,Tryz.ntmps99;go_wp2_with fail
 go_loopw [7,8] (λv i wr=>∃(j:Nat) (l:Value),j<=m/\i=UE .i64 ((f:Int)+j)/\l=v/\DT wr w.heap.size l (Cz xs f j)/\Below w.heap.size w wr) (λ_ i _=>f+m-(intOf i).toNat)
 case atStart=>exact⟨0,_,Aj _,AM,rfl,H0.o.1,H0.o.2⟩
 case round=>
  clear H0;obtain⟨j,l,hj,rfl,rfl,hown,hbel⟩:=hrel;by_cases hlt:j<m
  ·have hlt':(f:Int)+j<(f:Int)+m:=AK
   have hsz:=hbel.size;have HOW:AP (DT wr w.heap.size l (Cz xs f j)):=hown;have HBE:AP (Below w.heap.size w wr):=hbel;have HSU:AP (Cz xs f (j+1)=Cz xs f j++Fx xs (f+j)):=Jd xs f j;have HLE:AP ((Cz xs f j).length+2<=1099511627776):=by show _<=_;rw[FA];omega
   by_cases hin:f+j<n
   ·have hin':(f:Int)+j<(n:Int):=AK
    obtain⟨b,off,ea,hb,hc⟩:=(HA.o.below hbel).get (AG HN.o);have hck:=hc (f+j) (AG HN.o);have htn:((f:Int)+j).toNat=f+j:=AK
    have hr:=HX.o (xs.getD (f+j) 0) (Iu (AG HN.o));have HD2:AP (Fx xs (f+j)=[xs.getD (f+j) 0,0]):=by show _=_;unfold Fx;rw[AR (AG HN.o)]
    subst ea;clear hc hb hown hbel;generalize xs.getD (f+j) 0=z at *;have HOA:AP (DT (wr.alloc (UP #[UE .u8 z,UE .u8 0] 5)) w.heap.size l (Cz xs f j)):=HOW.o.alloc _;have HSZ:AP (w.heap.size<=(wr.alloc (UP #[UE .u8 z,UE .u8 0] 5)).heap.size):=by show _<=_;simp;omega
    have HNW:AP (∀ i,i<2->(wr.alloc (UP #[UE .u8 z,UE .u8 0] 5)).cell? ((⟨wr.heap.size,0,none⟩:Addr).add i)=some (UE .u8 ([z,0].getD i 0))):=by
     intro i hi;rw[Ay,Ak,AA (AV wr _) _];have:i=0\/i=1:=AK
     rcases this with rfl|rfl<;>rfl
    go_wp2_with fail;refine(Qk z wr hr.1 hr.2).mono ?_;rintro e w2 ⟨rfl,rfl⟩;go_wp2_with (first
     |(at_builtin;refine Dh _ rfl (.tmp 20) (.tmp 25) rfl w.heap.size _ _ rfl HOA.o ⟨wr.heap.size,0,none⟩ 2 2 [z,0] rfl rfl HNW.o HLE.o HSZ.o ?_)
     |fail)
    intro v' w3 hown' hbel' _;have HO2:AP (DT w3 w.heap.size v' (Cz xs f (j+1))):=by show DT _ _ _ _;rw[HSU.o,HD2.o];exact hown'
    have HB2:AP (Below w.heap.size w w3):=(HBE.o.alloc hsz _).trans hbel';clear hown' hbel' HOW HBE HOA HNW HSZ HLE HD2 HSU hck;go_wp2;go_roundw
    case rel=>exact⟨j+1,_,AK,by go_num,rfl,HO2.o,HB2.o⟩
    case measure=>simp[intOf];omega
   ·have hin':¬ ((f:Int)+j<(n:Int)):=AK
    have HD2:AP (Fx xs (f+j)=[0,0]):=by show _=_;unfold Fx;rw[AS (AG HN.o)]
    clear hown hbel;have HOA:AP (DT (wr.alloc (UP #[UE .u8 0,UE .u8 0] 5)) w.heap.size l (Cz xs f j)):=HOW.o.alloc _;have HSZ:AP (w.heap.size<=(wr.alloc (UP #[UE .u8 0,UE .u8 0] 5)).heap.size):=by show _<=_;simp;omega
    have HNW:AP (∀ i,i<2->(wr.alloc (UP #[UE .u8 0,UE .u8 0] 5)).cell? ((⟨wr.heap.size,0,none⟩:Addr).add i)=some (UE .u8 ([0,0].getD i 0))):=by
     intro i hi;rw[Ay,Ak,AA (AV wr _) _];have:i=0\/i=1:=AK
     rcases this with rfl|rfl<;>rfl
    go_wp2_with (first
     |(at_builtin;refine Dh _ rfl (.tmp 27) (.tmp 28) rfl w.heap.size _ _ rfl HOA.o ⟨wr.heap.size,0,none⟩ 2 2 [0,0] rfl rfl HNW.o HLE.o HSZ.o ?_)
     |fail)
    intro v' w3 hown' hbel' _;have HO2:AP (DT w3 w.heap.size v' (Cz xs f (j+1))):=by show DT _ _ _ _;rw[HSU.o,HD2.o];exact hown'
    have HB2:AP (Below w.heap.size w w3):=(HBE.o.alloc hsz _).trans hbel';clear hown' hbel' HOW HBE HOA HNW HSZ HLE HD2 HSU;go_wp2;go_roundw
    case rel=>exact⟨j+1,_,AK,by go_num,rfl,HO2.o,HB2.o⟩
    case measure=>simp[intOf];omega
  ·have hjm:j=m:=AK
   subst hjm;have hlt':¬ ((f:Int)+j<(f:Int)+j):=AK
   have HO2:AP (DT wr w.heap.size l (Cz xs f j)):=hown;clear hown;go_wp2
   go_ret
   exact⟨_,rfl,HO2.o,hbel⟩
noncomputable def bv (xs:List Int) (k:Nat):Nat->Int
 |0=>0
 |n+1=>2*bv xs k n+(if E9 (8*(k:Int)+(7-(n:Int))) xs=true then 1 else 0)
theorem Oy (xs:List Int) (k n:Nat):0<=bv xs k n/\bv xs k n<2^n:=by
 induction n with
 |zero=>exact⟨Int.le_refl _,by simp[bv]⟩
 |succ n ih=>
  simp only[bv,Int.pow_succ];split<;>omega
noncomputable def DE (xs:List Int) (k:Nat):List Int:=(List.range k).map (λi=>bv xs i 8)
theorem Lw (xs:List Int) (k:Nat):DE xs (k+1)=DE xs k++[bv xs k 8]:=by unfold DE;rw[CW,BY];rfl
theorem Fy (xs:List Int) (k:Nat):(DE xs k).length=k:=by simp[DE]
theorem Oz (a:Option Addr) (n cap:Nat) (xs:List Int) (w:World) (hn:xs.length=n) (hm:n<=1048576) (ha:At .i64 w a xs) :
  Calls Tryz.prog 98 #[UD a n cap] w λe w'=>∃ v,e=.returned v/\DT w' w.heap.size v (DE xs 32)/\Below w.heap.size w w':=by
 have HA:AP (At .i64 w a xs):=ha;have HN:AP (xs.length=n):=hn;have H0:AP (DT (w.alloc (UP #[] 5)) w.heap.size (UD (some ⟨w.heap.size,0,none⟩) 0 0) (DE xs 0)/\Below w.heap.size w (w.alloc (UP #[] 5))):=⟨DT.empty _ _ Cw,Cs.alloc Cw _⟩
 have HBV:AP (∀ k m,bv xs k (m+1)=2*bv xs k m+(if E9 (8*(k:Int)+(7-(m:Int))) xs=true then 1 else 0)):=λ_ _=>rfl
 clear ha hn;go_enter Tryz.func98,Tryz.ntmps98;go_wp2_with fail
 go_loopw [3,4] (λv i wr=>∃(k:Nat) (l:Value),k<=32/\i=UE .i64 k/\l=v/\DT wr w.heap.size l (DE xs k)/\Below w.heap.size w wr) (λ_ i _=>32-(intOf i).toNat)
 case atStart=>exact⟨0,_,Aj _,rfl,rfl,H0.o.1,H0.o.2⟩
 case round=>
  clear H0;obtain⟨k,l,hk,rfl,rfl,hown,hbel⟩:=hrel;by_cases hlt:k<32
  ·have hlt':(k:Int)<32:=AK
   have HOW:AP (DT wr w.heap.size l (DE xs k)):=hown;have HBE:AP (Below w.heap.size w wr):=hbel;have hsz:=hbel.size;clear hown hbel;go_wp2_with fail
   go_loop [5,6] (λq i=>∃ m:Nat,m<=8/\i=UE .i64 (7-(m:Int))/\q=UE .i64 (bv xs k m)) (λ_ i=>(intOf i+1).toNat)
   case atStart=>exact⟨0,AK,rfl,rfl⟩
   case round=>
    obtain⟨m,hm8,rfl,rfl⟩:=hrel;have hbd:=Oy xs k m;have hp:(2:Int)^m<=256:=by
     have:(2:Nat)^m<=2^8:=Nat.pow_le_pow_right AL hm8
     exact_mod_cast this
    by_cases h8:m<8
    ·have h8':(7:Int)-m≥0:=AK
     have HS:=HBV.o k m;have HSS:AP _:=HS;clear HS;generalize bv xs k m=y at *;have hy0:0<=y:=hbd.1;have hy1:y<256:=AK
     clear hbd hp;go_wp2_with fail;refine(Dm _ _ _ xs _ _ HN.o hm (HA.o.below HBE.o)).mono ?_;rintro e w2 ⟨rfl,rfl⟩;by_cases hmem:E9 (8*(k:Int)+(7-(m:Int))) xs=true
     ·have HE:AP (bv xs k (m+1)=2*y+1):=by show _=_;rw[HSS.o,AR hmem]
      rw[hmem];clear hmem HSS;go_wp2
      go_round
      case rel=>exact⟨m+1,AK,by go_num,by rw[HE.o]⟩
      case measure=>simp[intOf];omega
     ·have HE:AP (bv xs k (m+1)=2*y):=by show _=_;rw[HSS.o,AS hmem];omega
      rw[Bool.not_eq_true] at hmem;rw[hmem];clear hmem HSS;go_wp2
      go_round
      case rel=>exact⟨m+1,AK,by go_num,by rw[HE.o]⟩
      case measure=>simp[intOf];omega
    ·have hme:m=8:=AK
     subst hme;have h8':¬ ((7:Int)-(8:Nat)≥0):=AK
     have HSU:AP (DE xs (k+1)=DE xs k++[bv xs k 8]):=Lw xs k;have HLE:AP ((DE xs k).length+1<=1099511627776):=by show _<=_;rw[Fy];omega
     generalize bv xs k 8=y at *;have hy0:0<=y:=hbd.1;have hy1:y<256:=AG hbd.2
     have hym:y%256=y:=Int.emod_eq_of_lt hy0 hy1;clear hbd hp;have HOA:AP (DT (wr.alloc (UP #[UE .u8 y] 5)) w.heap.size l (DE xs k)):=HOW.o.alloc _;have HSZ:AP (w.heap.size<=(wr.alloc (UP #[UE .u8 y] 5)).heap.size):=by show _<=_;simp;omega
     have HNW:AP (∀ i,i<1->(wr.alloc (UP #[UE .u8 y] 5)).cell? ((⟨wr.heap.size,0,none⟩:Addr).add i)=some (UE .u8 ([y].getD i 0))):=by
      intro i hi;obtain rfl:i=0:=AK
      rw[Ay,Ak,AA (AV wr _) _];rfl
     go_wp2_with (first
      |(at_builtin;refine Dh _ rfl (.tmp 26) (.tmp 29) rfl w.heap.size _ _ rfl HOA.o ⟨wr.heap.size,0,none⟩ 1 1 [y] rfl rfl HNW.o HLE.o HSZ.o ?_)
      |fail)
     intro v' w3 hown' hbel' _;have HO2:AP (DT w3 w.heap.size v' (DE xs (k+1))):=by show DT _ _ _ _;rw[HSU.o];exact hown'
     have HB2:AP (Below w.heap.size w w3):=(HBE.o.alloc hsz _).trans hbel';clear hown' hbel' HOW HBE HOA HNW HSZ HLE HSU;go_wp2;go_roundw
     case rel=>exact⟨k+1,_,AK,by go_num,rfl,HO2.o,HB2.o⟩
     case measure=>simp[intOf];omega
  ·have hke:k=32:=AK
   subst hke;have HO2:AP (DT wr w.heap.size l (DE xs 32)):=hown;clear hown;go_wp2
   go_ret
   exact⟨_,rfl,HO2.o,hbel⟩
end Go.Proofs.YthmeoilbmfdhfaaGreat
