import Derived.Test.YtncomnkdlpoelaaGreatDoorMCatZ
open Go.Proofs.Tryz renaming prog->tP
open Go.Proofs.Tryz
open Go.Value renaming slice->aM,int->aO,pointer->aY,agg->af
open Go.IntKind renaming i64->aZ,u8->aP
open Go.Obj renaming cells->aa
open Go.Ending renaming returned->aQ
open Option renaming some->aR,none->aS
open Go renaming World->aV
set_option maxHeartbeats 4000000
set_option maxRecDepth 100000
namespace Go.Proofs.YtncomnkdlpoelaaGreatDoor
open Go.ChangeShapes Go.WideShapes Go.ChangeAt Go.RowKit
set_option linter.unusedVariables false
def LY (w:aV) (v:Int) (e:Ending) (w':aV):Prop:=
 ∃ ms:List Int,ms.length=4/\IE ms/\val 18446744073709551616 ms=v/\e=aQ (af (ms.map (Value.int .u64)).toArray)/\Below w.heap.size w w'
structure NO (w:aV) (zs:List Int) (k:Nat) (wr:aV):Prop where
 res:Cd wr w.heap.size 146 [0,0,0,0]
 row:∃ ns,ns.length=4/\Cd wr (w.heap.size+1) 146 ns/\IE ns/\val 18446744073709551616 ns=val 256 (zs.take k)
 below:Below w.heap.size w wr
theorem Ea (a b:Int) (k:Nat) (ha:0<=a) (ha':a<18446744073709551616) (hb:0<=b) (hb':b<2^k) (hb'':b<18446744073709551616) (q:Int) (hd:a=q*2^k):bits .or .u64 b a=b+a:=by
 have:=Fm a b k ha ha' hb hb' hb'' q hd;obtain⟨a,rfl⟩:=Ab ha;obtain⟨b,rfl⟩:=Ab hb;rw[u64_or_nat a b AJ AJ] at this;rw[u64_or_nat b a AJ AJ,Nat.or_comm];omega
theorem Rt (V y x:Int) (j:Nat) (hj:j<32) (hV0:0<=V) (hV:V<256^j) (hy:V/18446744073709551616^(j/8)%18446744073709551616=y) (hx0:0<=x) (hx1:x<256) :
  bits .or .u64 y (IntKind.u64.wrap (x*2^(8*(j%8))))=y+x*256^(j%8)/\0<=y+x*256^(j%8)/\y+x*256^(j%8)<18446744073709551616/\x*256^(j%8)*18446744073709551616^(j/8)=x*256^j:=by
 have e1:(256:Int)^j=18446744073709551616^(j/8)*256^(j%8):=by
  rw[show(18446744073709551616:Int)=256^8 from by decide,<-Int.pow_mul,<-Int.pow_add]
  congr 1;omega
 have hp:(0:Int)<18446744073709551616^(j/8):=Int.pow_pos AK;have a0:0<=V/18446744073709551616^(j/8):=Int.ediv_nonneg hV0 AJ;have a1:V/18446744073709551616^(j/8)<256^(j%8):=Int.ediv_lt_of_lt_mul hp (by rw[Int.mul_comm,<-e1];exact hV);have e2:(2:Int)^(8*(j%8))=256^(j%8):=(RJ _).symm;have e3:x*256^(j%8)*18446744073709551616^(j/8)=x*256^j:=by rw[e1];grind
 have hr:j%8<8:=Nat.mod_lt _ AK;have hle:(256:Int)^(j%8)<=256^7:=by
  have:j%8=0\/j%8=1\/j%8=2\/j%8=3\/j%8=4\/j%8=5\/j%8=6\/j%8=7:=AJ
  rcases this with h|h|h|h|h|h|h|h<;>rw[h]<;>decide
 have hP0:(0:Int)<256^(j%8):=Int.pow_pos AK;have e7:(256:Int)^7=72057594037927936:=AK
 rw[e7] at hle;refine⟨?_,?_,?_,e3⟩;all_goals
  generalize V/18446744073709551616^(j/8)=z at *;have hzy:z=y:=by rw[<-hy];exact(Int.emod_eq_of_lt a0 AJ).symm
  subst hzy;have m0:0<=x*256^(j%8):=Int.mul_nonneg hx0 AJ;have m1:x*256^(j%8)<=255*256^(j%8):=Int.mul_le_mul_of_nonneg_right AJ AJ
 ·rw[e2,IntKind.wrap_u64,Int.emod_eq_of_lt m0 AJ];exact Ea _ _ (8*(j%8)) m0 AJ a0 (by rw[e2];exact a1) AJ x (by rw[e2])
 ·omega
 ·omega
theorem LZ (a:Option Addr) (n cap:Nat) (zs:List Int) (w:aV) (hn:zs.length=n) (hm:32<=n) (hm':n<=1048576) (ha:At aP w a zs) (hz:Cb zs) :
  Calls tP 106 #[aM a n cap] w (LY w (val 256 (zs.take 32))):=by
 have HS:AO (NO w zs 0 ((w.alloc (aa CK 146)).alloc (aa CK 146))):=
  ⟨heap_alloc2_old _ _ _,⟨[0,0,0,0],rfl,heap_alloc2_new _ _ _,by unfold IE;decide,by rw[List.take_zero];decide⟩,(Cf.alloc Ch _).alloc AL _⟩
 go_enter func106,ntmps106;go_wp2
 go_loopw [5] (λi wr=>∃(j:Nat),j<=32/\i=aO aZ j/\NO w zs j wr) (λi _=>32-(intOf i).toNat)
 case atStart=>exact⟨0,Aw _,rfl,HS.o⟩
 case round=>
  clear HS;obtain⟨j,hj,rfl,hres,⟨ns,hl,hrow,hw,hv⟩,hbel⟩:=hrel;by_cases hj0:j<32
  ·obtain⟨b0,off,rfl,hb0,hc⟩:=(ha.below hbel).get AJ;have c0:=hc j AJ;have hx:=hz.get j;have hV:=DN 256 zs j AJ;have ht0:0<=val 256 (zs.take j):=C0 AK (λz hz'=>hz z (Ax hz'));have ht1:val 256 (zs.take j)<256^j:=by
    have:=Eg (B:=256) AK (xs:=zs.take j) (λz hz'=>hz z (Ax hz'))
    rwa [Aq,Nat.min_eq_left AJ] at this
   have hdg:=Es (B:=18446744073709551616) AK hw (j/8);rw[hv] at hdg;obtain⟨n1,n2,n3,n4⟩:=Rt _ _ _ j hj0 ht0 ht1 hdg hx.1 hx.2;have S1:=hrow.set (j/8) (ns.getD (j/8) 0+zs.getD j 0*256^(j%8));have S2:=hw.set (j/8) _ n2 n3;have S3:=FV 18446744073709551616 ns (j/8) (ns.getD (j/8) 0+zs.getD j 0*256^(j%8)) AJ;rw[show ns.getD (j/8) 0+zs.getD j 0*256^(j%8)-ns.getD (j/8) 0=zs.getD j 0*256^(j%8) by omega,n4,hv,<-hV] at S3;have c1:=hrow.cell (j/8) AJ;have f1:=hrow.frozen (j/8);have HS:AO (NO w zs (j+1) (wr.setCell ⟨w.heap.size+1,j/8,aS⟩ (aO .u64 (ns.getD (j/8) 0+zs.getD j 0*256^(j%8))))):=
    ⟨((Wr.refl _ _).setCell (j/8) _).rowW hres AJ,⟨_,by rw[List.length_set];exact hl,S1,S2,S3⟩,hbel.setCell AL _⟩
   have HN1:=CY <| n1
   clear hV ht0 ht1 hdg n1 n2 n3 n4 S1 S2 S3 hv hrow hres hbel hw;generalize zs.getD j 0=x at *;obtain⟨hx0,hx1⟩:=hx;clear hc;have hlt:(j:Int)<n:=AJ
   have hlt2:(j:Int)/8<4:=AJ
   generalize ns.getD (j/8) 0=y at *;go_wp2
   go_region
   rw[HN1.o];have HS2:AO (NO w zs (j+1) ((wr.setCell ⟨w.heap.size+1,j/8,aS⟩ (aO .u64 (y+x*256^(j%8)))).drew)):=
    ⟨HS.o.res,HS.o.row,⟨HS.o.below.os,HS.o.below.tape,HS.o.below.output,HS.o.below.size,HS.o.below.block⟩⟩
   clear HS c0 c1 f1;generalize (wr.setCell ⟨w.heap.size+1,j/8,aS⟩ (aO .u64 (y+x*256^(j%8)))).drew=w2 at *;go_wp2;go_roundw
   case rel=>exact⟨j+1,AJ,by go_num,HS2.o⟩
   case measure=>simp[intOf];omega
  ·have hj32:j=32:=AJ
   subst hj32;have HSZ:=CY <| sizeNum hl
   have HZ4:AO (([0,0,0,0].map (Value.int .u64)).toArray.size=((ns.map (Value.int .u64)).toArray).size):=by show _=_;simp[hl]
   have HRS:=CY <| hres
   have HRO:=CY <| hrow
   have HBE:=CY <| hbel
   have HV:=CY <| hv
   clear hres hrow hbel hv;go_wp2_with (first
    |(refine AZ rfl 146 (.tmp 3) rfl (w.heap.size+1) rfl 146 _ (0,0) _ HRO.o underlying146 rfl HSZ.o ?_)
    |(refine AE 146 (.tmp 2) (.tmp 24) w.heap.size ((ns.map (Value.int .u64)).toArray) 146 HRS.o HSZ.o HZ4.o (all_oneCell_toArray (Az _ _)) ?_))
   refine AU (v:=af (ns.map (Value.int .u64)).toArray) (AY rfl _ _ w.heap.size 146 _ (0,0) _ rfl (AB HRS.o) underlying146 rfl HSZ.o) rfl ⟨ns,hl,hw,HV.o,rfl,?_⟩;exact HBE.o.trans ((Wr.setRow _ _ _).below Ch)
theorem Hm (a:Option Addr) (n cap i:Nat) (zs:List Int) (w:aV) (hn:zs.length=n) (hm:n<=4096) (hi:i<=8192) (ha:At .u64 w a zs) :
  Calls tP 160 #[aM a n cap,aO aZ i] w λe w'=>e=aQ (aO .u64 (zs.getD i 0))/\w'=w:=by
 by_cases h:i<n
 ·obtain⟨b,off,rfl,hb,hc⟩:=ha.get AJ;have c0:=hc i AJ;have h':(i:Int)<(n:Int):=AJ
  generalize zs.getD i 0=x at *;clear hc;go_enter func160,ntmps160;go_wp2
  go_ret
  exact⟨rfl,rfl⟩
 ·have e:zs.getD i 0=0:=by rw[AX,BP AJ];rfl
  rw[e];have h':¬ (i:Int)<(n:Int):=AJ
  go_enter func160,ntmps160;go_wp2
  go_ret
  exact⟨rfl,rfl⟩
theorem Nn (B p:Int) (k i:Nat) (hB:1<B) (h0:0<=p) (h1:p<B):p*B^k/B^i%B=if i=k then p else 0:=by
 have hp:∀ j:Nat,(0:Int)<B^j:=λj=>Int.pow_pos AJ
 by_cases h:i=k
 ·subst h;rw[AP rfl,Int.mul_ediv_cancel _ (Int.ne_of_gt (hp i))];exact Int.emod_eq_of_lt h0 h1
 ·rw[AQ h];rcases Nat.lt_or_gt_of_ne h with hl|hg
  ·obtain⟨d,rfl⟩:∃ d,k=i+1+d:=⟨k-i-1,AJ⟩
   have e:p*B^(i+1+d)=(p*B^d*B)*B^i:=by rw[Int.pow_add,Int.pow_succ];grind
   rw[e,Int.mul_ediv_cancel _ (Int.ne_of_gt (hp i)),Int.mul_emod_left]
  ·have hlt:p*B^k<B^i:=by
    obtain⟨d,rfl⟩:∃ d,i=k+1+d:=⟨i-k-1,AJ⟩
    have a1:=Int.mul_lt_mul_of_pos_right h1 (hp k);have a2:B*B^k<=B^(k+1+d):=by
     have:B^(k+1+d)=B*B^k*B^d:=by rw[Int.pow_add,Int.pow_succ];grind
     rw[this];have h3:B*B^k*1<=B*B^k*B^d:=Int.mul_le_mul_of_nonneg_left (AG (hp d)) (Int.mul_nonneg AJ (Int.le_of_lt (hp k)));omega
    omega
   rw[Int.ediv_eq_zero_of_lt (Int.mul_nonneg h0 (Int.le_of_lt (hp k))) hlt];rfl
theorem QF {A T P B:Int} (hB:0<B) (hP:0<P) (h:A/(P*B)=T/(P*B)):(A/P%B=T/P%B->A/P=T/P)/\(A/P%B<T/P%B->A<T)/\(T/P%B<A/P%B->T<A):=by
 have e1:=Int.emod_add_mul_ediv (A/P) B;have e2:=Int.emod_add_mul_ediv (T/P) B;rw[BY (Int.le_of_lt hP)] at e1 e2;rw[h] at e1;have lt:∀ X Y:Int,X/P<Y/P->X<Y:=λX Y hh=>by
  rcases Int.lt_or_le X Y with h'|h'
  {exact h'};{have:=Int.ediv_le_ediv hP h';omega}
 refine⟨λhh=>?_,λhh=>lt _ _ ?_,λhh=>lt _ _ ?_⟩
 ·rw[<-e1,<-e2,hh]
 ·generalize B*(T/(P*B))=z at *;omega
 ·generalize B*(T/(P*B))=z at *;omega
theorem Jc (a:Option Addr) (n cap k:Nat) (p:Int) (zs:List Int) (w:aV) (hn:zs.length=n) (hm:n<=4096) (hk:k<=1024) (ha:At .u64 w a zs) (hz:MC zs) (hp0:0<=p) (hp1:p<4294967296) :
  Calls tP 146 #[aM a n cap,aO .u64 p,aO aZ k] w λe w'=>e=aQ (.bool (decide (val 4294967296 zs<=p*4294967296^k)))/\w'=w:=by
 have hA0:=C0 AK hz;have hA1:val 4294967296 zs<4294967296^n:=by rw[<-hn];exact Eg AK hz
 have hpw:∀ j:Nat,(0:Int)<4294967296^j:=λj=>Int.pow_pos AK
 have HW:=CY <| hpw
 have HT:AO (val 4294967296 zs/4294967296^(n+k+1)=p*4294967296^k/4294967296^(n+k+1)):=by
  show _=_
  rw[Int.ediv_eq_zero_of_lt hA0,Int.ediv_eq_zero_of_lt (Int.mul_nonneg hp0 (Int.le_of_lt (hpw k)))]
  ·have e:(4294967296:Int)^(n+k+1)=4294967296*4294967296^k*4294967296^n:=by rw[show n+k+1=n+(k+1) by omega,Int.pow_add,Int.pow_succ];grind
   have a1:=Int.mul_lt_mul_of_pos_right hp1 (hpw k);have a2:4294967296*4294967296^k*1<=4294967296*4294967296^k*(4294967296:Int)^n:=Int.mul_le_mul_of_nonneg_left (AG (hpw n)) (Int.mul_nonneg AK (Int.le_of_lt (hpw k)));rw[e];omega
  ·have e:(4294967296:Int)^(n+k+1)=4294967296^n*4294967296^(k+1):=by rw[show n+k+1=n+(k+1) by omega,Int.pow_add]
   have a2:4294967296^n*1<=4294967296^n*(4294967296:Int)^(k+1):=Int.mul_le_mul_of_nonneg_left (AG (hpw (k+1))) (Int.le_of_lt (hpw n));rw[e];omega
 go_enter func146,ntmps146;go_wp2
 go_loop [7] (λi=>∃ j:Nat,j<=n+k+1/\i=aO aZ ((j:Int)-1)/\val 4294967296 zs/4294967296^j=p*4294967296^k/4294967296^j) (λi=>(intOf i+1).toNat)
 case atStart=>exact⟨n+k+1,Aa _,by go_num,HT.o⟩
 case round=>
  obtain⟨j,hj,rfl,hv⟩:=hrel;by_cases hj0:0<j
  ·obtain⟨j,rfl⟩:∃ i,j=i+1:=⟨j-1,AJ⟩
   have ei:((j+1:Nat):Int)-1=(j:Int):=AJ
   rw[ei];rw[Int.pow_succ] at hv;obtain⟨g1,g2,g3⟩:=QF AK (HW.o j) hv;rw[Es AK hz,Nn _ _ _ _ AK hp0 hp1] at g1 g2 g3;have HD:=hz.get j;have H1:=CY <| g1
   have H2:=CY <| g2
   have H3:=CY <| g3
   have HA:=CY <| ha
   generalize hd:zs.getD j 0=d at *;have HG:=CY <| hd
   obtain⟨hd0,hd1⟩:=HD;by_cases hjk:j=k
   ·subst hjk;rw[AP rfl] at H1 H2 H3;have hjk':((j:Int) == (j:Int))=true:=AL
    have hfin:∀ q:Bool,(q=decide (d<p))->d≠p->q=decide (val 4294967296 zs<=p*4294967296^j):=λq hq hne=>by
     rw[hq];by_cases hlt:d<p
     ·have:=H2.o hlt;have h':val 4294967296 zs<=p*4294967296^j:=AJ
      simp[hlt,h']
     ·have:=H3.o AJ;have h':¬ val 4294967296 zs<=p*4294967296^j:=AJ
      simp[hlt,h']
    have HF:=CY <| hfin
    go_wp2_with fail;refine(Hm a n cap j zs _ hn hm AJ HA.o).mono ?_;rintro e w1 ⟨rfl,rfl⟩;rw[HG.o];by_cases hdw:d=p
    ·have HE:=H1.o hdw;have HV:=CY <| HE
     have hdw':(d != p)=false:=by simpa using hdw
     have hdw2:(d == p)=true:=by simpa using hdw
     go_wp2
     go_round
     case rel=>exact⟨j,AJ,rfl,HV.o⟩
     case measure=>first|(simp[intOf];done)|(simp[intOf];omega)
    ·have hdw':(d != p)=true:=by simpa using hdw
     have HN:=CY <| hdw
     clear hdw H1;go_wp2_with fail;refine(Hm a n cap j zs _ hn hm AJ HA.o).mono ?_;rintro e w2 ⟨rfl,rfl⟩;rw[HG.o];obtain⟨q,hq⟩:∃ q,q=decide (d<p):=⟨_,rfl⟩
     have HQ:=CY <| HF.o q hq HN.o
     have hq':=hq.symm;clear hq HF;by_cases hlt:d<p
     ·obtain rfl:q=true:=by rw[<-hq'];simpa using hlt
      clear hq';go_wp2
      go_ret
      exact⟨by rw[<-HQ.o];rfl,rfl⟩
     ·obtain rfl:q=false:=by rw[<-hq'];simpa using hlt
      have HD:=CY <| hq'
      clear hq';go_wp2
      go_ret
      refine⟨?_,rfl⟩;show aQ (.bool (decide (d<p)))=_
      rw[HD.o,<-HQ.o]
   ·rw[AQ hjk] at H1 H2 H3;have hjk':((j:Int) == (k:Int))=false:=by simp;omega
    have hfin:∀ q:Bool,(q=decide (d<0))->d≠0->q=decide (val 4294967296 zs<=p*4294967296^k):=λq hq hne=>by
     rw[hq];by_cases hlt:d<0
     ·have:=H2.o hlt;have h':val 4294967296 zs<=p*4294967296^k:=AJ
      simp[hlt,h']
     ·have:=H3.o AJ;have h':¬ val 4294967296 zs<=p*4294967296^k:=AJ
      simp[hlt,h']
    have HF:=CY <| hfin
    go_wp2_with fail;refine(Hm a n cap j zs _ hn hm AJ HA.o).mono ?_;rintro e w1 ⟨rfl,rfl⟩;rw[HG.o];by_cases hdw:d=0
    ·have HE:=H1.o hdw;have HV:=CY <| HE
     have hdw':(d != 0)=false:=by simpa using hdw
     have hdw2:(d == 0)=true:=by simpa using hdw
     go_wp2
     go_round
     case rel=>exact⟨j,AJ,rfl,HV.o⟩
     case measure=>first|(simp[intOf];done)|(simp[intOf];omega)
    ·have hdw':(d != 0)=true:=by simpa using hdw
     have HN:=CY <| hdw
     clear hdw H1;go_wp2_with fail;refine(Hm a n cap j zs _ hn hm AJ HA.o).mono ?_;rintro e w2 ⟨rfl,rfl⟩;rw[HG.o];obtain⟨q,hq⟩:∃ q,q=decide (d<0):=⟨_,rfl⟩
     have HQ:=CY <| HF.o q hq HN.o
     have hq':=hq.symm;clear hq HF;by_cases hlt:d<0
     ·obtain rfl:q=true:=by rw[<-hq'];simpa using hlt
      clear hq';go_wp2
      go_ret
      exact⟨by rw[<-HQ.o];rfl,rfl⟩
     ·obtain rfl:q=false:=by rw[<-hq'];simpa using hlt
      have HD:=CY <| hq'
      clear hq';go_wp2
      go_ret
      refine⟨?_,rfl⟩;show aQ (.bool (decide (d<0)))=_
      rw[HD.o,<-HQ.o]
  ·obtain rfl:j=0:=AJ
   rw[Int.pow_zero,Int.ediv_one,Int.ediv_one] at hv;have HE:AO (decide (val 4294967296 zs<=p*4294967296^k)=true):=by show _=_;rw[hv];simp
   clear hv;go_wp2
   go_ret
   exact⟨by rw[HE.o];rfl,rfl⟩
structure RI (p e j X:Nat):Prop where
 lo:X^e<=p*2^(64*e)
 hi:p*2^(64*e)<(X+2^j)^e
 dvd:2^j∣X
 le:X+2^j<=2^67
theorem RI.yes {p e j X:Nat} (h:RI p e (j+1) X) (hy:(X+2^j)^e<=p*2^(64*e)):RI p e j (X+2^j):=by
 have e2:2^(j+1)=2^j+2^j:=by rw[Nat.pow_succ];omega
 refine⟨hy,?_,?_,?_⟩
 ·have:=h.hi;rw[e2,<-A7] at this;exact this
 ·exact Nat.dvd_add (Nat.dvd_trans ⟨2,by rw[Nat.pow_succ]⟩ h.dvd) (Nat.dvd_refl _)
 ·have:=h.le;omega
theorem RI.no {p e j X:Nat} (h:RI p e (j+1) X) (hy:¬ (X+2^j)^e<=p*2^(64*e)):RI p e j X:=by
 have e2:2^(j+1)=2^j+2^j:=by rw[Nat.pow_succ];omega
 refine⟨h.lo,AJ,Nat.dvd_trans ⟨2,by rw[Nat.pow_succ]⟩ h.dvd,by have:=h.le;have:0<2^j:=Nat.pow_pos AK;omega⟩
theorem No (X d:Nat) (j:Nat) (hd:X/4294967296^(j/32)%4294967296=d) (hX:2^(j+1)∣X):d+2^(j%32)<4294967296:=by
 obtain⟨t,rfl⟩:=hX;have e1:2^(j+1)*t=4294967296^(j/32)*(2^(j%32+1)*t):=by
  rw[show(4294967296:Nat)=2^32 from rfl,<-Nat.pow_mul,<-Nat.mul_assoc,<-Nat.pow_add]
  congr 2;omega
 rw[e1,Nat.mul_div_cancel_left _ (Nat.pow_pos AK)] at hd;have hr:j%32<32:=Nat.mod_lt _ AK;obtain⟨q,hq⟩:∃ q,j%32+1+q=32:=⟨31-j%32,AJ⟩
 have e3:(4294967296:Nat)=2^(j%32+1)*2^q:=by rw[<-Nat.pow_add,hq]
 rw[e3,Nat.mul_mod_mul_left] at hd;have hlt:t%2^q<2^q:=Nat.mod_lt _ (Nat.pow_pos AK);have h4:2^(j%32+1)*(t%2^q+1)<=2^(j%32+1)*2^q:=Nat.mul_le_mul_left _ hlt;rw[<-e3,Nat.mul_add,Bu,hd,Nat.pow_succ] at h4;have:0<2^(j%32):=Nat.pow_pos AK;omega
def Ru (p e:Nat) (w:aV) (en:Ending) (w':aV):Prop:=
 ∃ X:Nat,en=aQ (aO .u64 ((X:Int)%18446744073709551616))/\X^e<=p*2^(64*e)/\p*2^(64*e)<(X+1)^e/\Below w.heap.size w w'
structure RS (w:aV) (p e j:Nat) (v:Value) (wr:aV):Prop where
 st:∃(xs:List Int) (X:Nat),FC wr w.heap.size v xs/\xs.length=3/\MC xs/\val 4294967296 xs=X/\RI p e j X
 below:Below w.heap.size w wr
theorem Xy (k:Nat):(4294967296:Int)^k=2^(32*k):=by rw[show(4294967296:Int)=2^32 from by decide,<-Int.pow_mul]
theorem Ky (p e:Nat) (w:aV) (hp:p<=409) (he:(e=2/\p<64)\/e=3) :
  Calls tP 117 #[aO .u64 p,aO aZ e] w (Ru p e w):=by
 have H0:RI p e 67 0:=by
  refine⟨?_,?_,⟨0,rfl⟩,AK⟩
  ·rcases he with⟨rfl,_⟩|rfl<;>simp
  ·rcases he with⟨rfl,h⟩|rfl
   {rw[show(0+2^67)^2=64*2^(64*2) from by decide];exact Nat.mul_lt_mul_of_pos_right h AK};{rw[show(0+2^67)^3=512*2^(64*3) from by decide];exact Nat.mul_lt_mul_of_pos_right AJ AK}
 have HS:AO (RS w p e 67 (aM (aR ⟨w.heap.size,0,aS⟩) 3 3) (w.alloc (aa #[aO .u64 0,aO .u64 0,aO .u64 0] 135))):=
  ⟨⟨[0,0,0],0,DQ.lit w _ [0,0,0] Ch AK,rfl,by unfold MC;decide,AK,H0⟩,Cf.alloc Ch _⟩
 have he3:e<=3:=AJ
 have he0:2<=e:=AJ
 go_enter func117,ntmps117;go_wp2
 go_loopw [5,6] (λv i wr=>∃ j:Nat,j<=67/\i=aO aZ ((j:Int)-1)/\RS w p e j v wr) (λ_ i _=>(intOf i+1).toNat)
 case atStart=>exact⟨67,Aa _,by go_num,HS.o⟩
 case round=>
  obtain⟨j,hj,rfl,⟨xs,X,hown,hxl,hxd,hxv,hri⟩,hbel⟩:=hrel;by_cases hj0:0<j
  ·obtain⟨j,rfl⟩:∃ i,j=i+1:=⟨j-1,AJ⟩
   have ei:((j+1:Nat):Int)-1=(j:Int):=AJ
   rw[ei];obtain⟨g,c,rfl,hg,hg',hA⟩:=hown.at_;rw[hxl] at hown |-;obtain⟨_,_,hE,_,hcl⟩:=hA.get AJ;cases hE;have hsz:=hbel.size;have hdg:=Es (B:=4294967296) AK hxd (j/32);have hdr:=hxd.get (j/32);rw[hxv] at hdg;have hdn:X/4294967296^(j/32)%4294967296=(xs.getD (j/32) 0).toNat:=by
    have:((X/4294967296^(j/32)%4294967296:Nat):Int)=xs.getD (j/32) 0:=by rw[<-hdg];simp
    omega
   have hroom:=No X _ j hdn hri.dvd;have hrm:xs.getD (j/32) 0+2^(j%32)<4294967296:=by
    have:((2^(j%32):Nat):Int)=(2:Int)^(j%32):=AL
    omega
   have h2p:(0:Int)<2^(j%32):=Int.pow_pos AK;have hys:val 4294967296 (xs.set (j/32) (xs.getD (j/32) 0+2^(j%32)))=((X+2^j:Nat):Int):=by
    rw[FV _ _ _ _ AJ,hxv];have:xs.getD (j/32) 0+2^(j%32)-xs.getD (j/32) 0=(2:Int)^(j%32):=AJ
    rw[this,Xy,<-Int.pow_add];have:j%32+32*(j/32)=j:=AJ
    rw[this];simp
   have HYD:AO (MC (xs.set (j/32) (xs.getD (j/32) 0+2^(j%32)))):=hxd.set _ _ AJ hrm;have HYL:AO ((xs.set (j/32) (xs.getD (j/32) 0+2^(j%32))).length=3):=by rw[List.length_set];exact hxl
   have HYV:=CY <| hys
   have HRI:=CY <| hri
   have HX:AO (xs.length=3/\MC xs/\val 4294967296 xs=X):=⟨hxl,hxd,hxv⟩
   have HO:=CY <| hown
   have HB:=CY <| hbel
   have HN:AO (∀ i,i<3->(wr.alloc (aa #[] 135)).cell? ((⟨g,0,aS⟩:Addr).add i)=aR (aO .u64 (xs.getD i 0))):=λi hi=>by
    rw[A0];rw[((A8 wr.heap.size wr).alloc Ch (aa #[] 135)).cell (p:=⟨g,0+i,aS⟩) hg'];exact hcl i AJ
   have HXL:=CY <| hxl
   go_wp2_with (at_builtin;refine Dd _ Xe rfl _ _ rfl wr.heap.size _ [] rfl (DQ.empty _ _ Ch) ⟨g,0,aS⟩ 3 _ xs rfl HXL.o HN.o ?c2 ?c3 ?_)
   case c2=>decide
   case c3=>simp
   intro v' w1 hown' hbel' _;obtain⟨g1,c1,rfl,hg1,hg1',_⟩:=hown'.at_;rw[HXL.o] at hown' |-;have hB1:=(Cf.alloc Ch _).trans hbel';obtain⟨cz,fz,oz⟩:=DQ.set HXL.o hown' (j/32) (xs.getD (j/32) 0+2^(j%32)) AJ;have HO2:=CY <| oz
   have HB2:AO (Below wr.heap.size wr (w1.setCell ⟨g1,j/32,aS⟩ (aO .u64 (xs.getD (j/32) 0+2^(j%32))))):=hB1.setCell hg1 _;obtain⟨hd0,hd1⟩:=hdr;generalize hdd:xs.getD (j/32) 0=d at *;have hsh:IntKind.u64.wrap (1*2^(j%32))=2^(j%32):=by rw[Int.one_mul,IntKind.wrap_u64];exact Int.emod_eq_of_lt AJ AJ
   have hsh':IntKind.u64.wrap (2^(j%32))=2^(j%32):=by rw[IntKind.wrap_u64];exact Int.emod_eq_of_lt AJ AJ
   have hj3:(j:Int)/32<3:=AJ
   go_wp2_with fail;have o2:=HO2.o;have b2:=HB2.o;have HDL:=HX.o;generalize hyy:xs.set (j/32) (d+2^(j%32))=ys at *;generalize w1.setCell ⟨g1,j/32,aS⟩ (aO .u64 (d+2^(j%32)))=w2 at *;obtain⟨hYA,_,_⟩:=o2.atS;have HO9:=CY <| o2
   have HO0:=CY <| HO.o.grow b2
   have HB9:=CY <| HB.o.trans (b2.mono hsz)
   refine(Oq _ _ 3 3 _ _ ys ys _ HYL.o HYL.o AK AK AK AK hYA hYA HYD.o HYD.o).mono ?_;rintro en w3 ⟨v3,zs,rfl,O3,hzl,hzd,hzv,B3⟩;obtain⟨g3,c3,rfl,hg3,hg3',hZA⟩:=O3.at_;rw[HYV.o] at hzv;have hzl':zs.length=6:=by rw[hzl,HYL.o]
   have hYA3:=hYA.below B3;have HO9':=CY <| HO9.o.grow B3
   have HO0':=CY <| HO0.o.grow B3
   have HB9':=CY <| HB9.o.trans (B3.mono HB9.o.size)
   have hsz9:=B3.size;rw[hzl'] at O3 |-;have HTT:AO ((p:Int)*4294967296^(2*e)=((p*2^(64*e):Nat):Int)):=by
    show _=_
    rw[Xy,Int.natCast_mul,show 32*(2*e)=64*e by omega];simp
   have h2e:((2*e:Nat):Int)=2*(e:Int):=AJ
   rcases he with⟨he2,hp2⟩|he2
   ·have hne:((e:Int) == 3)=false:=by rw[he2];decide
    have HZV:AO (val 4294967296 zs=(((X+2^j)^e:Nat):Int)):=by
     show _=_
     rw[he2,hzv,Nat.pow_succ,Nat.pow_succ,Nat.pow_zero,Nat.one_mul,Int.natCast_mul]
    clear hzv he2;have hzl:=hzl';clear hzl';go_wp2_with fail;generalize hW:w3=W9 at *;clear hW;generalize hc9:c3=c9 at *;clear hc9;have HO9:=HO9';have HO0:=HO0';have HB9:=HB9';clear HO9' HO0' HB9';by_cases hle:(X+2^j)^e<=p*2^(64*e)
    ·have HQ:AO (decide (val 4294967296 zs<=(p:Int)*4294967296^(2*e))=true):=by
      show _=_
      rw[HZV.o,HTT.o];have:(((X+2^j)^e:Nat):Int)<=((p*2^(64*e):Nat):Int):=by exact Int.ofNat_le.2 hle
      simpa using this
     have HP:AO (RS w p e j (aM (aR ⟨g1,0,aS⟩) 3 c1) W9):=
      ⟨⟨_,_,(HO9.o.lower hsz),HYL.o,HYD.o,HYV.o,HRI.o.yes hle⟩,HB9.o⟩
     clear hle;have A:=Jc _ _ c9 (2*e) (p:Int) zs W9 hzl AJ AJ hZA hzd AJ AJ;rw[h2e] at A;refine A.mono ?_;rintro en w5 ⟨rfl,rfl⟩;rw[HQ.o];clear HQ A;go_wp2;go_roundw
     case rel=>exact⟨j,AJ,rfl,HP.o⟩
     case measure=>first|(simp[intOf];done)|(simp[intOf];omega)
    ·have HQ:AO (decide (val 4294967296 zs<=(p:Int)*4294967296^(2*e))=false):=by
      show _=_
      rw[HZV.o,HTT.o];have:¬ (((X+2^j)^e:Nat):Int)<=((p*2^(64*e):Nat):Int):=λh=>hle (Int.ofNat_le.1 h)
      simpa using this
     have HP:AO (RS w p e j (aM (aR ⟨g,0,aS⟩) 3 c) W9):=
      ⟨⟨xs,X,HO0.o,HX.o.1,HX.o.2.1,HX.o.2.2,HRI.o.no hle⟩,HB9.o⟩
     clear hle;have A:=Jc _ _ c9 (2*e) (p:Int) zs W9 hzl AJ AJ hZA hzd AJ AJ;rw[h2e] at A;refine A.mono ?_;rintro en w5 ⟨rfl,rfl⟩;rw[HQ.o];go_wp2;go_roundw
     case rel=>exact⟨j,AJ,rfl,HP.o⟩
     case measure=>first|(simp[intOf];done)|(simp[intOf];omega)
   ·have hne:((e:Int) == 3)=true:=by rw[he2];decide
    have HE:=CY <| he2
    clear he2;have hzl:=hzl';clear hzl';go_wp2_with fail;refine(Oq _ _ 6 3 _ _ zs ys _ hzl HYL.o AK AK AK AK hZA hYA3 hzd HYD.o).mono ?_;rintro en w4 ⟨v4,us,rfl,O4,hul,hud,huv,B4⟩;obtain⟨g4,c4,rfl,hg4,hg4',hUA⟩:=O4.at_;rw[HYV.o,hzv] at huv;have hul':us.length=9:=by rw[hul,hzl,HYL.o]
    have HO9:=CY <| HO9'.o.grow B4
    have HO0:=CY <| HO0'.o.grow B4
    have HB9:=CY <| HB9'.o.trans (B4.mono HB9'.o.size)
    rw[hul'] at O4 |-;clear HO9' HO0' HB9' O4 B4 hul hzl hzd hzv hZA;have hzl:=hul';have hzd:=hud;have hZA:=hUA;clear hul' hud hUA;have HZV:AO (val 4294967296 us=(((X+2^j)^e:Nat):Int)):=by
     show _=_
     rw[HE.o,huv,Nat.pow_succ,Nat.pow_succ,Nat.pow_succ,Nat.pow_zero,Nat.one_mul,Int.natCast_mul,Int.natCast_mul]
    clear huv;go_wp2_with fail;generalize hW:w4=W9 at *;clear hW;generalize hc9:c4=c9 at *;clear hc9;by_cases hle:(X+2^j)^e<=p*2^(64*e)
    ·have HQ:AO (decide (val 4294967296 us<=(p:Int)*4294967296^(2*e))=true):=by
      show _=_
      rw[HZV.o,HTT.o];have:(((X+2^j)^e:Nat):Int)<=((p*2^(64*e):Nat):Int):=by exact Int.ofNat_le.2 hle
      simpa using this
     have HP:AO (RS w p e j (aM (aR ⟨g1,0,aS⟩) 3 c1) W9):=
      ⟨⟨_,_,(HO9.o.lower hsz),HYL.o,HYD.o,HYV.o,HRI.o.yes hle⟩,HB9.o⟩
     clear hle;have A:=Jc _ _ c9 (2*e) (p:Int) us W9 hzl AJ AJ hZA hzd AJ AJ;rw[h2e] at A;refine A.mono ?_;rintro en w5 ⟨rfl,rfl⟩;rw[HQ.o];clear HQ A;go_wp2;go_roundw
     case rel=>exact⟨j,AJ,rfl,HP.o⟩
     case measure=>first|(simp[intOf];done)|(simp[intOf];omega)
    ·have HQ:AO (decide (val 4294967296 us<=(p:Int)*4294967296^(2*e))=false):=by
      show _=_
      rw[HZV.o,HTT.o];have:¬ (((X+2^j)^e:Nat):Int)<=((p*2^(64*e):Nat):Int):=λh=>hle (Int.ofNat_le.1 h)
      simpa using this
     have HP:AO (RS w p e j (aM (aR ⟨g,0,aS⟩) 3 c) W9):=
      ⟨⟨xs,X,HO0.o,HX.o.1,HX.o.2.1,HX.o.2.2,HRI.o.no hle⟩,HB9.o⟩
     clear hle;have A:=Jc _ _ c9 (2*e) (p:Int) us W9 hzl AJ AJ hZA hzd AJ AJ;rw[h2e] at A;refine A.mono ?_;rintro en w5 ⟨rfl,rfl⟩;rw[HQ.o];go_wp2;go_roundw
     case rel=>exact⟨j,AJ,rfl,HP.o⟩
     case measure=>first|(simp[intOf];done)|(simp[intOf];omega)
  ·obtain rfl:j=0:=AJ
   obtain⟨g,c,rfl,hg,hg',_⟩:=hown.at_;rw[hxl] at hown |-;have c0:=DQ.cellAt hxl hown 0 AK;have c1:=DQ.cellAt hxl hown 1 AK;have d0:=hxd.get 0;have d1:=hxd.get 1;have d2:=hxd.get 2;have HX:AO ((X:Int)%18446744073709551616=xs.getD 0 0+xs.getD 1 0*4294967296):=by
    show _=_
    rw[<-hxv]
    match xs,hxl with
    |[a,b,d],_=>
     simp only[List.getD_cons_zero,List.getD_cons_succ,val] at d0 d1 d2 |-;omega
   have HP:AO (X^e<=p*2^(64*e)/\p*2^(64*e)<(X+1)^e):=⟨hri.lo,by simpa using hri.hi⟩
   generalize xs.getD 0 0=x0 at *;generalize xs.getD 1 0=x1 at *;obtain⟨d00,d01⟩:=d0;obtain⟨d10,d11⟩:=d1;go_wp2
   go_quiet (fail)
   go_wp2
   go_ret
   refine⟨X,?_,HP.o.1,HP.o.2,⟨hbel.os,hbel.tape,hbel.output,hbel.size,hbel.block⟩⟩;rw[HX.o];rfl
def Tr:List Nat:=[23241441160490167842,26604808713878332877,31543488660544240431,35287351959220771772,41025191555757552952,43374469216020582425,47431773444313272219,49223322299838333208,52460086356995146306,56674242196778545086,57948244932766773900,61468643694135456994,63608380943893236079,64626287408284341937,66571091106846937653,69291241975837173396,71813108563482594002,72615556083564357091,74922338351982630325,76384605279477341285,77095200552867529333,79152035218479047811,80466001307761769428,82360010132597855157,84757271453788200875,85906662539289440784,86470001012957192511,87575168524888248036,88117443448470540226,89182409882623190821,92723033081372705391,93686458245878541936,95095488024300105724,95556006044611561766,97794660939065469677,98230277650290947039,99514478923103560670,100766364611844223656,101583977345534766822,102786266195516601659,103961068102722061156,104346826991781163009,106234157551817627537,106603670640207904304,107335108066752287256,107697117917222381840,109819772810290077738,111863398698143437240,112528278492720320712,112857792170093030227,113511107980111571865,114477206417490790568,114795642568024087139,116361942610802215627,117281838038729876339,118187525164200278179,119079540232616391420,119373928427484032864,120248493880617511794,120824543361758411244,121110519679094562344,122520547622920568297,124441674862916172053,124979807718728684331,125247145020423037340,125778422408467759623,127603441353585912606,128369846764518166904,129627222056361226170,129875788766833580198,130370087684295691694,131104582549941012251,132071287192121802116,132787134709014930579,133495346155087314620,133963344184962190668,134659270149180113590,135576127461610847786,136029942151059536620,136928597060811708439,26087635650665564424,31950697969885030203,41248173712355948587,48805497317890012913,61180928696206656209,66510681623121259551,76057874264641092971,80407493254657745273]
def tab:List Nat:=Tr.map (·%18446744073709551616)
theorem Xz:∀ t<80,Tr.getD t 0^3<=FO.getD (t+1) 0*2^(64*3)/\FO.getD (t+1) 0*2^(64*3)<(Tr.getD t 0+1)^3:=by decide +kernel
theorem X9:∀ t<8,Tr.getD (80+t) 0^2<=FO.getD (t+1) 0*2^(64*2)/\FO.getD (t+1) 0*2^(64*2)<(Tr.getD (80+t) 0+1)^2:=by decide +kernel
theorem Rv:∀ t<80,FO.getD (t+1) 0<=409:=by decide +kernel
theorem UV:∀ t<8,FO.getD (t+1) 0<64:=by decide +kernel
theorem La (t:Nat):tab.getD t 0=Tr.getD t 0%18446744073709551616:=by
 simp only[tab,List.getD_eq_getElem?_getD,List.getElem?_map];cases Tr[t]?<;>simp
theorem J2 {X R T e:Nat} (h1:X^e<=T) (h2:T<(X+1)^e) (h3:R^e<=T) (h4:T<(R+1)^e):X=R:=by
 rcases Nat.lt_trichotomy X R with h|h|h
 ·have:=Nat.pow_le_pow_left (show X+1<=R from h) e;omega
 ·exact h
 ·have:=Nat.pow_le_pow_left (show R+1<=X from h) e;omega
def QG (t:Int):Int:=if 0<=t/\t<88 then(tab.getD t.toNat 0:Nat) else 0
theorem ZA (n:Nat) (hn:n<80):∃ p R:Nat,(∀ w,Calls tP 118 #[aO aZ n] w λe w'=>e=aQ (aO .u64 p)/\w'=w)/\p<=409/\R^3<=p*2^(64*3)/\p*2^(64*3)<(R+1)^3/\QG (n:Int)=(R:Int)%18446744073709551616:=by
 refine⟨FO.getD (n+1) 0,Tr.getD n 0,λw=>Km n w hn,Rv n hn,(Xz n hn).1,(Xz n hn).2,?_⟩;unfold QG;rw[AP AJ,Bm,La];exact Int.natCast_emod _ _
theorem ZB (n:Nat) (hn:n<8):∃ p R:Nat,(∀ w,Calls tP 118 #[aO aZ n] w λe w'=>e=aQ (aO .u64 p)/\w'=w)/\p<=409/\p<64/\R^2<=p*2^(64*2)/\p*2^(64*2)<(R+1)^2/\QG (80+(n:Int))=(R:Int)%18446744073709551616:=by
 refine⟨FO.getD (n+1) 0,Tr.getD (80+n) 0,λw=>Km n w AJ,Rv n AJ,UV n hn,(X9 n hn).1,(X9 n hn).2,?_⟩;unfold QG;rw[AP AJ,show(80+(n:Int)).toNat=80+n by omega,La];exact Int.natCast_emod _ _
theorem UW (t:Int) (w:aV) (h0:-9223372036854775808<=t) (h1:t<=9223372036854775807) :
  Calls tP 97 #[aO aZ t] w λe w'=>e=aQ (aO .u64 (QG t))/\Below w.heap.size w w':=by
 by_cases ha:0<=t
 ·by_cases hb:t<80
  ·obtain⟨n,rfl⟩:=Ab ha;obtain⟨p,R,hp,hp1,hp2,hp3,e⟩:=ZA n AJ;generalize QG (n:Int)=r at *;have HE:=CY <| e
   clear e;go_enter func97,ntmps97;go_wp2_with fail;refine(hp _).mono ?_;rintro e w1 ⟨rfl,rfl⟩;go_wp2_with fail;have A:=Ky p 3 w1 hp1 (.inr rfl);refine A.mono ?_;rintro e w2 ⟨X,rfl,x1,x2,B⟩;rw[J2 x1 x2 hp2 hp3,<-HE.o];have HB:=CY <| B
   clear B x1 x2 A hp hp2 hp3 HE;go_wp2
   go_ret
   exact⟨rfl,HB.o⟩
  ·by_cases hc:t<88
   ·obtain⟨n,hn⟩:∃ n:Nat,t=80+(n:Int):=⟨(t-80).toNat,AJ⟩
    obtain⟨p,R,hp,hp1,hp4,hp2,hp3,e⟩:=ZB n AJ;rw[<-hn] at e;generalize QG t=r at *;have HE:=CY <| e
    have HSUB:AO (t-80=(n:Int)):=by show _=_;omega
    have hb':decide (t<80)=false:=by simpa using hb
    have ha':decide (0<=t)=true:=by simpa using ha
    have hg:80<=t:=AJ
    clear e hn;go_enter func97,ntmps97;go_wp2_with fail;rw[HSUB.o];refine(hp _).mono ?_;rintro e w1 ⟨rfl,rfl⟩;go_wp2_with fail;have A:=Ky p 2 w1 hp1 (.inl ⟨rfl,hp4⟩);refine A.mono ?_;rintro e w2 ⟨X,rfl,x1,x2,B⟩;rw[J2 x1 x2 hp2 hp3,<-HE.o];have HB:=CY <| B
    clear B x1 x2 A hp hp2 hp3 HE;go_wp2
    go_ret
    exact⟨rfl,HB.o⟩
   ·have e:QG t=0:=by unfold QG;rw[AQ AJ]
    rw[e];go_enter func97,ntmps97;go_wp2
    go_ret
    exact⟨rfl,A8 _ _⟩
 ·have e:QG t=0:=by unfold QG;rw[AQ AJ]
  rw[e];have ha':decide (0<=t)=false:=by simpa using ha
  go_enter func97,ntmps97;go_wp2
  go_ret
  exact⟨rfl,A8 _ _⟩
def EF (w:aV):Prop:=∀ i,i<88->w.cell? ⟨1,i,aS⟩=aR (aO .u64 (tab.getD i 0:Nat))
structure MQ (g:Nat) (w w':aV):Prop where
 os:w'.os=w.os
 tape:w'.tape=w.tape
 output:w'.output=w.output
 size:w.heap.size<=w'.heap.size
 block:∀ k,k<w.heap.size->k≠g->w'.heap[k]?=w.heap[k]?
theorem MQ.trans {g:Nat} {a b c:aV} (h:MQ g a b) (k:MQ g b c):MQ g a c:=
 ⟨k.os.trans h.os,k.tape.trans h.tape,k.output.trans h.output,Ai h.size k.size,λi hi hg=>(k.block i (Ap hi h.size) hg).trans (h.block i hi hg)⟩
theorem Wr.frg {g:Nat} {w w':aV} (h:Wr g w w'):MQ g w w':=⟨h.os,h.tape,h.output,by rw[h.size];exact Aa _,λk _ hg=>h.block k hg⟩
theorem QH {g:Nat} {w w':aV} (h:Below w.heap.size w w'):MQ g w w':=⟨h.os,h.tape,h.output,h.size,λk hk _=>h.block k hk⟩
theorem MQ.below {g B:Nat} {w w':aV} (h:MQ g w w') (hB:B<=g) (hw:B<=w.heap.size):Below B w w':=⟨h.os,h.tape,h.output,h.size,λk hk=>h.block k AJ AJ⟩
theorem MQ.row {g q:Nat} {w w':aV} {e:TypeId} {zs:List Int} (h:MQ g w w') (hr:Er w q e zs) (hq:q≠g):Er w' q e zs:=by unfold Er;rw[h.block q hr.lt hq];exact hr
def Xh (v:List Int) (x:Int):List Int:=
 [IntKind.u64.wrap (UT (v.getD 0 0) (v.getD 1 0) (v.getD 2 0) (v.getD 3 0) (v.getD 4 0) (v.getD 5 0) (v.getD 6 0) (v.getD 7 0) x+Xf (v.getD 0 0) (v.getD 1 0) (v.getD 2 0)),v.getD 0 0,v.getD 1 0,v.getD 2 0,
  IntKind.u64.wrap (v.getD 3 0+UT (v.getD 0 0) (v.getD 1 0) (v.getD 2 0) (v.getD 3 0) (v.getD 4 0) (v.getD 5 0) (v.getD 6 0) (v.getD 7 0) x),v.getD 4 0,v.getD 5 0,v.getD 6 0]
def W8 (v:List Int):Prop:=v.length=8/\∀ i,EQ (v.getD i 0)
theorem W8.eight {v:List Int} (h:W8 v):v=[v.getD 0 0,v.getD 1 0,v.getD 2 0,v.getD 3 0,v.getD 4 0,v.getD 5 0,v.getD 6 0,v.getD 7 0]:=by
 obtain⟨hl,_⟩:=h
 match v,hl with
 |[a,b,c,d,e,f,q,z],_=>rfl
theorem J3:EQ 0:=⟨AK,AK⟩
theorem YA {a b c d e f q z:Int} (ha:EQ a) (hb:EQ b) (hc:EQ c) (hd:EQ d) (he:EQ e) (hf:EQ f) (hq:EQ q) (hz:EQ z):W8 [a,b,c,d,e,f,q,z]:=
 ⟨rfl,λi=>by
  match i with
  |0=>exact ha
  |1=>exact hb
  |2=>exact hc
  |3=>exact hd
  |4=>exact he
  |5=>exact hf
  |6=>exact hq
  |7=>exact hz
  |n+8=>exact J3⟩
theorem Wa {v:List Int} (h:W8 v) (x:Int):W8 (Xh v x):=YA (D0 _) (h.2 0) (h.2 1) (h.2 2) (D0 _) (h.2 4) (h.2 5) (h.2 6)
theorem Np (g:Nat) (ty:TypeId) (v:List Int) (x:Int) (w:aV) (hr:Cd w g ty v) (hv:W8 v) (hx:EQ x) :
  Calls tP 157 #[aY (aR ⟨g,0,aS⟩),aO .u64 x] w λen w'=>en=aQ (.tuple #[])/\Cd w' g ty (Xh v x)/\Wr g w w':=by
 have e:=hv.eight;refine QC g ty (v.getD 0 0) (v.getD 1 0) (v.getD 2 0) (v.getD 3 0) (v.getD 4 0) (v.getD 5 0) (v.getD 6 0) (v.getD 7 0) x w ?_ (hv.2 0) (hv.2 1) (hv.2 2) (hv.2 3) (hv.2 4) (hv.2 5) (hv.2 6) (hv.2 7) hx;have h2:=hr;unfold Cd at h2;rw[e] at h2;exact h2
def kt (t:Nat):Int:=((tab.getD t 0:Nat):Int)
theorem Nq (t:Nat):EQ (kt t):=by
 unfold kt;rw[La];have:=Nat.mod_lt (Tr.getD t 0) (show 0<18446744073709551616 by decide);exact⟨AJ,AJ⟩
def Ev (hs bs:List Int):Nat->List Int
 |0=>hs
 |t+1=>Xh (Ev hs bs t) (IntKind.u64.wrap (kt t+wd bs t))
theorem Jd {hs:List Int} (h:W8 hs) (bs:List Int) (t:Nat):W8 (Ev hs bs t):=by
 induction t with
 |zero=>exact h
 |succ t ih=>exact Wa ih _
def JX (hs vs:List Int) (k:Nat):List Int:=(List.range 8).map λi=>if i<k then IntKind.u64.wrap (hs.getD i 0+vs.getD i 0) else hs.getD i 0
theorem J4 (hs vs:List Int) (k:Nat):(JX hs vs k).length=8:=by simp[JX]
theorem J5 (hs vs:List Int) (k i:Nat) (h:i<8):(JX hs vs k).getD i 0=if i<k then IntKind.u64.wrap (hs.getD i 0+vs.getD i 0) else hs.getD i 0:=by unfold JX;simp[List.getD,h]
theorem QI {hs:List Int} (h:W8 hs) (vs:List Int):JX hs vs 0=hs:=by
 rw[h.eight];rfl
theorem Rw (hs vs:List Int) (k:Nat) (h:k<8):(JX hs vs k).set k (IntKind.u64.wrap (hs.getD k 0+vs.getD k 0))=JX hs vs (k+1):=by
 apply List.ext_getElem?;intro i;rw[List.getElem?_set];unfold JX;by_cases h1:k=i
 ·subst h1;simp[h]
 ·rw[AQ h1];by_cases h2:i<8
  ·have e:(i<k+1)=(i<k):=by apply propext;omega
   simp[h2,e]
  ·simp[h2]
def EL (hs bs:List Int):List Int:=JX hs (Ev hs bs 80) 8
theorem F5 (hs bs:List Int):W8 (EL hs bs):=⟨J4 _ _ _,λi=>by
 unfold EL;by_cases h:i<8
 ·rw[J5 _ _ _ _ h,AP h];exact D0 _
 ·rw[AX,BP (by rw[J4];omega)];exact J3⟩
theorem YB (w:aV) (vs:List Int) (hl:vs.length=80) (k:Nat) (hk:k<80):(Instr.index 213 (af (vs.map (Value.int .u64)).toArray) (aO aZ (k:Int))).run tP w=.ok (aO .u64 (vs.getD k 0)) w:=by
 have h2:k<vs.length:=AJ
 simp[Instr.index,run_underlying underlying213,asIntOf,part,go_sem,h2];omega
theorem ZC (w:aV) (vs:List Int) (hl:vs.length=8) (k:Nat) (hk:k<8):(Instr.index 175 (af (vs.map (Value.int .u64)).toArray) (aO aZ (k:Int))).run tP w=.ok (aO .u64 (vs.getD k 0)) w:=by
 have h2:k<vs.length:=AJ
 simp[Instr.index,run_underlying underlying175,asIntOf,part,go_sem,h2];omega
theorem EF.frg {w w':aV} (h:EF w) (hw:∀ k,k<w.heap.size->k=1->w'.heap[k]?=w.heap[k]?):EF w':=λi hi=>by
 have hc:=h i hi;have hz:1<w.heap.size:=block_lt_of_cell (a:=⟨1,0,aS⟩) (h 0 AK);rw[<-hc];exact Af (hw 1 hz rfl)
structure MX (w:aV) (g gB:Nat) (hs vs bs:List Int) (y:aV):Prop where
 tur:Cd y w.heap.size 175 vs
 wds:Cd y g 175 hs
 tab:EF y
 fr:MQ g w y
theorem MX.call {w:aV} {g gB:Nat} {hs vs vs' bs:List Int} {y y':aV} (h:MX w g gB hs vs bs y) (hg:g<w.heap.size) (h0:1<w.heap.size) (hr:Cd y' w.heap.size 175 vs') (hw:Wr w.heap.size y y'):MX w g gB hs vs' bs y':=
 ⟨hr,hw.rowW h.wds AJ,h.tab.frg (λk _ e=>hw.block k AJ),⟨hw.os.trans h.fr.os,hw.tape.trans h.fr.tape,hw.output.trans h.fr.output,by rw[hw.size];exact h.fr.size,λk hk hkg=>(hw.block k AJ).trans (h.fr.block k hk hkg)⟩⟩
theorem MX.set {w:aV} {g gB:Nat} {hs vs bs:List Int} {y:aV} (h:MX w g gB hs vs bs y) (hg:g<w.heap.size) (h0:g≠1) (k:Nat) (x:Int):MX w g gB (hs.set k x) vs bs ((y.setCell ⟨g,k,aS⟩ (aO .u64 x)).drew):=by
 have hw:Wr g y ((y.setCell ⟨g,k,aS⟩ (aO .u64 x)).drew):=((Wr.refl _ _).setCell k _).drew;exact⟨hw.rowW h.tur AJ,h.wds.set k x,h.tab.frg (λk _ e=>hw.block k AJ),h.fr.trans hw.frg⟩
theorem Je (g gB:Nat) (hs bs:List Int) (w:aV) (hr:Cd w g 175 hs) (hw8:W8 hs) (hb:Er w gB 178 bs) (hl:bs.length=128) (hz:Cb bs) (hT:EF w) (hg0:g≠1) :
  Calls tP 133 #[aY (aR ⟨g,0,aS⟩),aY (aR ⟨gB,0,aS⟩)] w λe w'=>e=aQ (.tuple #[])/\Cd w' g 175 (EL hs bs)/\MQ g w w':=by
 have hgl:=hr.lt;have hbl:=hb.lt;have h0:=block_lt_of_cell (a:=⟨1,0,aS⟩) (hT 0 AK);have H8:=CX hw8;have HU:=CX (λt=>Nl hz hl t);have HR:=CX hr;have HZN:AO (Cd (w.alloc (aa CV 175)) w.heap.size 175 [0,0,0,0,0,0,0,0]):=AS w _;have HAL:AO (Below w.heap.size w (w.alloc (aa CV 175))):=Cf.alloc Ch _;have HB:=CX (Al hb (Al hl hz));have HT:=CX hT;go_enter func133,ntmps133;go_wp2_with (first
  |(refine FX rfl (.tmp 10) rfl underlying175 Tryz.sizeWds g hs rfl H8.o.1 HR.o ?_)
  |(refine E8 rfl (.tmp 4) (.tmp 11) rfl Tryz.sizeWds w.heap.size hs [0,0,0,0,0,0,0,0] rfl rfl H8.o.1 rfl HZN.o ?_)
  |fail)
 intro w1 hr1 hw1;have FR1:MQ g w w1:=⟨hw1.os.trans HAL.o.os,hw1.tape.trans HAL.o.tape,hw1.output.trans HAL.o.output,by rw[hw1.size];exact HAL.o.size,λk hk _=>(hw1.block k AJ).trans (HAL.o.block k hk)⟩
 have HM:MX w g gB hs hs bs w1:=⟨hr1,hw1.rowW (HR.o.below HAL.o hgl) AJ,(HT.o.frg (λk hk _=>HAL.o.block k hk)).frg (λk _ e=>hw1.block k AJ),FR1⟩
 have A:=CX (QE gB bs w1 (by unfold Er;rw[hw1.block gB AJ,HAL.o.block gB hbl];exact HB.o.1) HB.o.2.1 HB.o.2.2);have HM1:=CX HM;go_wp2_with fail;refine A.o.mono ?_;rintro e w2 ⟨rfl,b2⟩;have HM2:AO (MX w g gB hs (Ev hs bs 0) bs w2):=⟨HM1.o.tur.below b2 HM1.o.tur.lt,HM1.o.wds.below b2 HM1.o.wds.lt,HM1.o.tab.frg (λk hk _=>b2.block k hk),HM1.o.fr.trans (QH b2)⟩
 have hix:=CX (λw k hk=>YB w (Hw bs 80) (GI _ _) k hk);obtain⟨AV,hAV⟩:∃ AV,AV=((Hw bs 80).map (Value.int .u64)).toArray:=⟨_,rfl⟩
 rw[<-hAV] at hix |-;clear hAV;go_wp2
 go_loopw [14] (λi wr=>∃ k:Nat,k<=80/\i=aO aZ k/\MX w g gB hs (Ev hs bs k) bs wr) (λi _=>80-(intOf i).toNat)
 case atStart=>exact⟨0,AJ,rfl,HM2.o⟩
 case round=>
  clear HM2;obtain⟨k,hk,rfl,hm⟩:=hrel;by_cases hlt:k<80
  ·have hlt':(k:Int)<80:=AJ
   have hx:=λw=>hix.o w k hlt
   rw[Jx _ _ _ hlt,AP hlt] at hx;have hu:=HU.o k;have hc:=hm.tab k AJ;have hku:=Nq k;have HMk:=CX hm;have hkt:kt k=((tab.getD k 0:Nat):Int):=rfl;rw[<-hkt] at hc;have A:=CX (Np w.heap.size 175 (Ev hs bs k) (IntKind.u64.wrap (kt k+wd bs k)) wr hm.tur (Jd H8.o bs k) (D0 _));have HN:AO (Ev hs bs (k+1)=Xh (Ev hs bs k) (IntKind.u64.wrap (kt k+wd bs k))):=rfl;clear hm hkt;obtain⟨v,hv⟩:∃ v,v=wd bs k:=⟨_,rfl⟩
   obtain⟨c,hcc⟩:∃ c,c=kt k:=⟨_,rfl⟩
   rw[<-hv] at hx hu A HN;rw[<-hcc] at hc hku A HN;clear hv hcc;obtain⟨hu0,hu1⟩:=hu;obtain⟨hk0,hk1⟩:=hku;go_wp2_with fail;refine A.o.mono ?_;rintro e w3 ⟨rfl,r3,b3⟩;have HM3:AO (MX w g gB hs (Ev hs bs (k+1)) bs w3):=by rw[HN.o];exact HMk.o.call hgl h0 r3 b3
   go_wp2;go_roundw
   case rel=>exact⟨k+1,AJ,by go_num,HM3.o⟩
   case measure=>simp[intOf];omega
  ·obtain rfl:k=80:=AJ
   have hVS:=Jd H8.o bs 80;have HVL:=CX hVS;have HMF:AO (EL hs bs=JX hs (Ev hs bs 80) 8):=rfl;obtain⟨vs,hvs⟩:∃ vs,vs=Ev hs bs 80:=⟨_,rfl⟩
   rw[<-hvs] at hm HVL HMF;clear hVS hvs;have HM3:=CX hm;have HMZ:AO (MX w g gB (JX hs vs 0) vs bs wr):=by rw[QI H8.o];exact hm
   clear hm hix;go_wp2_with (first
    |(refine FX rfl (.tmp 4) rfl underlying175 Tryz.sizeWds w.heap.size vs rfl HVL.o.1 HM3.o.tur ?_)
    |fail)
   have hix:=CX (λw k hk=>ZC w vs HVL.o.1 k hk);obtain⟨BV,hBV⟩:∃ BV,BV=(vs.map (Value.int .u64)).toArray:=⟨_,rfl⟩
   rw[<-hBV] at hix |-;clear hBV HM3;go_wp2
   go_loopw [26] (λi wr=>∃ k:Nat,k<=8/\i=aO aZ k/\MX w g gB (JX hs vs k) vs bs wr) (λi _=>8-(intOf i).toNat)
   case atStart=>exact⟨0,AJ,rfl,HMZ.o⟩
   case round=>
    rename_i wq _
    obtain⟨k,hk,rfl,hm⟩:=hrel;by_cases hlt:k<8
    ·have hlt':(k:Int)<8:=AJ
     have hx:=λw=>hix.o w k hlt
     have hu:=HVL.o.2 k;have hh:=H8.o.2 k;have hc:=hm.wds.cell k (by rw[J4];exact hlt);rw[J5 _ _ _ _ hlt,AQ AJ] at hc;have hf:=hm.wds.frozen k;have hn:=hm.set hgl hg0 k (IntKind.u64.wrap (hs.getD k 0+vs.getD k 0));rw[Rw _ _ _ hlt] at hn;have HN:=CX hn;clear hn hm;obtain⟨v,hv⟩:∃ v,v=vs.getD k 0:=⟨_,rfl⟩
     obtain⟨c,hcc⟩:∃ c,c=hs.getD k 0:=⟨_,rfl⟩
     rw[<-hv] at hx hu HN;rw[<-hcc] at hc hh HN;clear hv hcc;obtain⟨hu0,hu1⟩:=hu;obtain⟨hh0,hh1⟩:=hh;go_wp2
     go_region
     go_wp2;go_roundw
     case rel=>exact⟨k+1,AJ,by go_num,HN.o⟩
     case measure=>simp[intOf];omega
    ·obtain rfl:k=8:=AJ
     have HN:=CX hm;go_wp2
     go_end0
     rw[HMF.o];exact⟨rfl,HN.o.wds,HN.o.fr⟩
def EG (zs:List Int):List Int:=zs.take 128++List.replicate (128-zs.length) 0
theorem EA (zs:List Int):(EG zs).length=128:=by unfold EG;simp;omega
theorem J6 {zs:List Int} (h:Cb zs):Cb (EG zs):=λz hz=>by
 unfold EG at hz;rcases Bi.1 hz with h'|h'
 ·exact h z (Ax h')
 ·rw[(List.mem_replicate.1 h').2];exact⟨AK,AK⟩
theorem Tryz.sizeU8h:(tP.info? 5).map (·.size)=aR 1:=AM
theorem Nr (zs:List Int):splice ((List.replicate 128 (0:Int)).map (Value.int aP)) 0 ((zs.take 128).map (Value.int aP))=(EG zs).map (Value.int aP):=by
 unfold splice EG;rw[List.take_zero,List.nil_append,BI,<-List.map_drop,List.drop_replicate,Ar,Bh,Aq,show 128-min 128 zs.length=128-zs.length by omega]
theorem Lb (w:aV) (g:Nat):(Instr.sliceAt 178 (aY (aR ⟨g,0,aS⟩)) aS aS aS).run tP w=.ok (aM (aR ⟨g,0,aS⟩) 128 128) w:=by
 unfold Instr.sliceAt;simp[run_underlying underlying178,go_sem,Instr.sliceBounds,Addr.add]
theorem PD (a:Option Addr) (n cap:Nat) (zs:List Int) (w:aV) (hn:zs.length=n) (ha:At aP w a zs) (hm:n<=2097152) :
  Calls tP 132 #[aM a n cap] w λe w'=>e=aQ (af ((EG zs).map (Value.int aP)).toArray)/\Below w.heap.size w w':=by
 have z1:=Rn;have z2:=O8;have z3:=Ro;have hsl:=λw=>Lb w
 obtain⟨w2,hw2⟩:∃ w2,w2=(w.alloc (aa I4 178)).alloc (aa I4 178):=⟨_,rfl⟩
 have HB:AO (Below w.heap.size w w2):=by rw[hw2];exact(Cf.alloc Ch _).alloc AL _
 have HR0:AO (Er w2 w.heap.size 178 (List.replicate 128 0)):=by show _=_;rw[hw2,heap_alloc2_old,MN]
 have HR1:AO (Er w2 (w.heap.size+1) 178 (List.replicate 128 0)):=by show _=_;rw[hw2,heap_alloc2_new,MN]
 have HA:=CX ha;have HN:=CX hn;have HW:=CX hw2;obtain⟨zz,hzz⟩:∃ zz,zz=(List.replicate 128 (0:Int)).map (Value.int aP):=⟨_,rfl⟩
 have HSP:AO (splice zz 0 ((zs.take 128).map (Value.int aP))=(EG zs).map (Value.int aP)):=by show _=_;rw[hzz];exact Nr zs
 have HR1:AO (w2.heap[w.heap.size+1]?=aR (aa zz.toArray 178 (0,0))):=by rw[hzz];exact HR1
 have HLn:AO (((zs.take 128).map (Value.int aP)).length=Nat.min n 128):=by show _=_;rw[Bh,Aq,hn];exact Nat.min_comm _ _
 have HLm:AO (0+((zs.take 128).map (Value.int aP)).length<=zz.length):=by show _<=_;rw[hzz,Bh,Aq,Bh,List.length_replicate];omega
 clear hzz;have HP:AO (0<((zs.take 128).map (Value.int aP)).length->aR (⟨w.heap.size+1,0,aS⟩:Addr)=aR ⟨w.heap.size+1,0,aS⟩/\∃ ad,a=aR ad/\∀ j v,((zs.take 128).map (Value.int aP))[j]?=aR v->w2.cell? (ad.add j)=aR v):=by
  intro hp;refine⟨rfl,?_⟩;rw[Bh,Aq] at hp;obtain⟨b,o,rfl,hb,hc⟩:=(HA.o.below HB.o).get AJ;refine⟨_,rfl,λj v hv=>?_⟩;have hj:j<128/\j<zs.length:=by have:=(Am.1 hv).1;rw[Bh,Aq] at this;omega
  rw[A0,hc j hj.2];rw[B0,List.getElem?_take_of_lt hj.1] at hv;simp[hj.2] at hv |-;exact hv
 clear ha hn hw2;go_enter func132,ntmps132
 go_upto_region 2 with fail
 rw[<-HW.o];go_wp2_with (first
  |(refine wpList_copy_splice rfl (.tmp 4) (.tmp 5) 22 22 rfl 5 underlying22 Tryz.sizeU8h (aR ⟨w.heap.size+1,0,aS⟩) a 128 128 n cap rfl rfl (w.heap.size+1) 0 zz 178 HR1.o ((zs.take 128).map (Value.int aP)) HLn.o HP.o HLm.o (Az _ _) (w.heap.size+1) w2 Cf Ch ?_)
  |fail)
 rw[<-List.map_take,HSP.o];intro w3 hr3 hb3;have HR3:=CY <| hr3
 have HR03:=CY <| HR0.o.below hb3 AJ
 have HB3:=CY <| HB.o.trans (hb3.mono AJ)
 have HL:=CX (EA zs);clear hr3 hb3 HR0 HR1 HB HA HN HW z1 z2 z3 hsl;go_wp2_with (first
  |(refine LV rfl (.tmp 3) rfl underlying178 Tryz.sizeBlk (w.heap.size+1) (EG zs) rfl HL.o HR3.o ?_)
  |(refine EK rfl (.tmp 2) (.tmp 7) rfl Tryz.sizeBlk w.heap.size (EG zs) (List.replicate 128 0) rfl rfl HL.o AL HR03.o ?_)
  |fail)
 intro w4 hr4 hw4;have HB4:=CY <| HB3.o.trans (hw4.below Ch)
 have HR4:=CX hr4;clear hr4 hw4;go_wp2;exact AU (v:=af ((EG zs).map (Value.int aP)).toArray) (AY rfl _ _ w.heap.size 178 _ (0,0) _ rfl HR4.o underlying178 rfl (by rw[Tryz.sizeBlk];simp[HL.o])) rfl ⟨rfl,HB4.o⟩
def Ns:List Int:=(List.range 8).map λi=>kt (80+i)
theorem PE (i:Nat) (h:i<8):Ns.getD i 0=kt (80+i):=by unfold Ns;simp[List.getD,h]
theorem Lc:W8 Ns:=⟨by simp[Ns],λi=>by
 by_cases h:i<8
 ·rw[PE i h];exact Nq _
 ·rw[AX,BP (by unfold Ns;simp;omega)];exact J3⟩
def Vq (k:Nat):List Int:=(List.range 8).map λi=>if i<k then kt (80+i) else 0
theorem UZ (k:Nat):(Vq k).length=8:=by simp[Vq]
theorem Ua (k:Nat) (h:k<8):(Vq k).set k (kt (80+k))=Vq (k+1):=by
 apply List.ext_getElem?;intro i;rw[List.getElem?_set];unfold Vq;by_cases h1:k=i
 ·subst h1;simp[h]
 ·rw[AQ h1];by_cases h2:i<8
  ·have e:(i<k+1)=(i<k):=by apply propext;omega
   simp[h2,e]
  ·simp[h2]
theorem YC:Vq 8=Ns:=by
 unfold Vq Ns;apply List.map_congr_left;intro i hi;rw[AP (BG.1 hi)]
structure IV (w:aV) (k:Nat) (y:aV):Prop where
 res:Cd y w.heap.size 175 [0,0,0,0,0,0,0,0]
 row:Cd y (w.heap.size+1) 175 (Vq k)
 below:Below w.heap.size w y
theorem QJ (w:aV) (hT:EF w) (hz:1<w.heap.size) :
  Calls tP 131 #[] w λe w'=>e=aQ (af (Ns.map (Value.int .u64)).toArray)/\Below w.heap.size w w':=by
 have HT:=CX hT;have HS:AO (IV w 0 ((w.alloc (aa CV 175)).alloc (aa CV 175))):=
  ⟨heap_alloc2_old _ _ _,heap_alloc2_new _ _ _,(Cf.alloc Ch _).alloc AL _⟩
 clear hT;go_enter func131,ntmps131;go_wp2
 go_loopw [3] (λi wr=>∃ k:Nat,k<=8/\i=aO aZ k/\IV w k wr) (λi _=>8-(intOf i).toNat)
 case atStart=>exact⟨0,AJ,rfl,HS.o⟩
 case round=>
  clear HS;obtain⟨k,hk,rfl,hs⟩:=hrel;by_cases hlt:k<8
  ·have hlt':(k:Int)<8:=AJ
   have hc:wr.cell? ⟨1,80+k,aS⟩=aR (aO .u64 (kt (80+k))):=by
    rw[Af (w:=w) (hs.below.block 1 hz)];exact HT.o (80+k) AJ
   have hc2:=hs.row.cell k (by rw[UZ];exact hlt);have hf:=hs.row.frozen k;have hN:AO (IV w (k+1) (wr.setCell ⟨w.heap.size+1,k,aS⟩ (aO .u64 (kt (80+k))))):=
    ⟨((Wr.refl _ _).setCell k _).rowW hs.res AJ,by rw[<-Ua k hlt];exact hs.row.set k _,hs.below.setCell AL _⟩
   have he:((80:Int)+(k:Int)).toNat=80+k:=AJ
   clear hs;generalize kt (80+k)=c at *;go_wp2;go_roundw
   case rel=>exact⟨k+1,AJ,by go_num,hN.o⟩
   case measure=>simp[intOf];omega
  ·obtain rfl:k=8:=AJ
   have H1:=CX hs.row;rw[YC] at H1;have H2:=CX hs.res;have H3:=CX hs.below;have HL:=CX Lc.1;clear hs;go_wp2_with (first
    |(refine FX rfl (.tmp 1) rfl underlying175 Tryz.sizeWds (w.heap.size+1) Ns rfl HL.o H1.o ?_)
    |(refine E8 rfl (.tmp 0) (.tmp 13) rfl Tryz.sizeWds w.heap.size Ns [0,0,0,0,0,0,0,0] rfl rfl HL.o rfl H2.o ?_)
    |fail)
   intro w3 hr3 hw3;have HB3:=CY <| H3.o.trans (hw3.below Ch)
   have HR3:=CX hr3;clear hr3 hw3 H1 H2 H3;go_wp2;exact AU (v:=af (Ns.map (Value.int .u64)).toArray) (AY rfl _ _ w.heap.size 175 _ (0,0) _ rfl HR3.o underlying175 rfl (by rw[Tryz.sizeWds];simp[HL.o])) rfl ⟨rfl,HB3.o⟩
def Gm (hs:List Int):List Int:=hs.flatMap Jb
theorem Kz (hs:List Int) (k:Nat) (h:k<hs.length):Gm (hs.take (k+1))=Gm (hs.take k)++Jb (hs.getD k 0):=by
 unfold Gm;rw[GV hs k h,List.flatMap_append];simp
theorem MT (v:Int) (i:Nat) (h:i<8):(Jb v).take (i+1)=(Jb v).take i++[v/2^(56-8*i)%256]:=by
 rw[GV _ _ (by rw[D8];exact h),Oy v i h]
theorem Gv (hs:List Int):(Gm hs).length=8*hs.length:=by
 unfold Gm
 induction hs with
 |nil=>rfl
 |cons a l ih=>rw[List.flatMap_cons,Ae,D8,ih,BO];omega
theorem I5 (hs:List Int):Cb (Gm hs):=λz hz=>by
 unfold Gm at hz;obtain⟨v,_,h⟩:=List.mem_flatMap.1 hz;exact ML v z h
theorem QK (g:Nat) (hs:List Int) (w:aV) (hr:Cd w g 175 hs) (h8:W8 hs) :
  Calls tP 135 #[aY (aR ⟨g,0,aS⟩)] w λe w'=>∃ v,e=aQ v/\DB w' w.heap.size v (Gm hs)/\Below w.heap.size w w':=by
 have hgl:=hr.lt;have HR:=CX hr;have H8:=CX h8;clear hr h8;obtain⟨i0,hi,hz0,hz1,hz2⟩:=BZ Tryz.infoU8';have HI:=CX (Al hi (Al hz0 (Al hz1 hz2)));clear hi hz0 hz1 hz2;go_enter func135,ntmps135;go_wp2_with (refine wpList_make_own _ rfl _ _ 22 rfl w.heap.size 5 i0 (aO aP 0) 1 underlying22 HI.o.1 HI.o.2.1 HI.o.2.2.1 aZ aZ 64 64 rfl rfl rfl (by rw[HI.o.2.2.2];decide) AK Ch ?_);intro w1 o1 b1;have HO1:AO (DB w1 w.heap.size (aM (aR ⟨w.heap.size,0,aS⟩) 0 64) (Gm (hs.take 0))):=⟨o1,_,_,rfl⟩
 have HB1:=CY <| Cf.grown b1 Ch (λk hk=>by cases hk)
 clear o1 b1;go_wp2
 go_loopw [3,9] (λv i wr=>∃ k:Nat,k<=8/\i=aO aZ k/\DB wr w.heap.size v (Gm (hs.take k))/\Below w.heap.size w wr) (λ_ i _=>8-(intOf i).toNat)
 case atStart=>exact⟨0,AJ,rfl,HO1.o,HB1.o⟩
 case round=>
  clear HO1 HB1;obtain⟨k,hk,rfl,hown,hbel⟩:=hrel;by_cases hlt:k<8
  ·have hlt':(k:Int)<8:=AJ
   have hc:=(HR.o.below hbel hgl).cell k (by rw[H8.o.1];exact hlt);have hu:=H8.o.2 k;have HSN:=CX (Kz hs k (by rw[H8.o.1];exact hlt));have HPL:=CX (Gv (hs.take k));rw[Aq,H8.o.1] at HPL;have HO:=CX hown;have HB:=CX hbel;clear hown hbel;obtain⟨x,hx⟩:∃ x,x=hs.getD k 0:=⟨_,rfl⟩
   rw[<-hx] at hc hu HSN;clear hx;obtain⟨p,hp⟩:∃ p,p=Gm (hs.take k):=⟨_,rfl⟩
   rw[<-hp] at HO HSN HPL;clear hp;obtain⟨hu0,hu1⟩:=hu;have hlp:p.length<=64:=AG HPL.o
   go_wp2
   go_loopw [3,14] (λv i wr=>∃ j:Nat,j<=8/\i=aO aZ j/\DB wr w.heap.size v (p++(Jb x).take j)/\Below w.heap.size w wr) (λ_ i _=>8-(intOf i).toNat)
   case atStart=>exact⟨0,AJ,rfl,by simpa using HO.o,HB.o⟩
   case round=>
    clear HO HB hc;obtain⟨j,hj,rfl,hown,hbel⟩:=hrel;by_cases hlj:j<8
    ·have hlj':(j:Int)<8:=AJ
     have hsz:=hbel.size;have HE:=CX (MT x j hlj);have HLJ:AO ((p++(Jb x).take j).length+1<=1099511627776):=by show _<=_;rw[Ae,Aq,D8];omega
     have HO:=CX hown;have HB:=CX hbel;clear hown hbel;go_wp2_with (at_builtin;refine Cv _ rfl _ _ rfl w.heap.size _ _ rfl (HO.o.alloc _) ⟨wr.heap.size,0,aS⟩ 1 1 [x/2^(56-8*j)%256] rfl rfl ?c1 HLJ.o ?c3 ?_);all_goals first|(intro j' hj';obtain rfl:j'=0:=AJ
                                                                                                                                                                                                                                simp[Addr.add];done)|skip
     case c3=>rw[Ay];omega
     intro v' w2 hown' hbel' _;have HO2:AO (DB w2 w.heap.size v' (p++(Jb x).take (j+1))):=by rw[HE.o];exact hown'
     have HB2:=CY <| (HB.o.alloc hsz _).trans hbel'
     clear hown' hbel' HO HB HE HLJ;go_wp2;go_roundw
     case rel=>exact⟨j+1,AJ,by go_num,HO2.o,HB2.o⟩
     case measure=>simp[intOf];omega
    ·obtain rfl:j=8:=AJ
     rw[Ad (by rw[D8];exact Aa _),<-HSN.o] at hown;have HOW:=CX hown;have HBE:=CX hbel;clear hown hbel;go_wp2;go_roundw
     case rel=>exact⟨k+1,AJ,by go_num,HOW.o,HBE.o⟩
     case measure=>simp[intOf];omega
  ·obtain rfl:k=8:=AJ
   have HOW:=CX hown;rw[Ad (by rw[H8.o.1];exact Aa _)] at HOW;have HBE:=CX hbel;clear hown hbel;go_wp2
   go_ret
   exact⟨_,rfl,HOW.o,HBE.o⟩
theorem J7 (x:Int) (w:aV) (hx:EQ x) :
  Calls tP 100 #[aO .u64 x] w λe w'=>∃ v,e=aQ v/\DB w' w.heap.size v (Jb x)/\Below w.heap.size w w':=by
 obtain⟨hx0,hx1⟩:=hx;go_enter func100,ntmps100;go_wp2
 go_loopw [3,4] (λv i wr=>∃ j:Nat,j<=8/\i=aO aZ (56-8*(j:Int))/\DB wr w.heap.size v ((Jb x).take j)/\Below w.heap.size w wr) (λ_ i _=>(intOf i+8).toNat)
 case atStart=>exact⟨0,AJ,rfl,DB.empty _ _ Ch,Cf.alloc Ch _⟩
 case round=>
  obtain⟨j,hj,rfl,hown,hbel⟩:=hrel;by_cases hlj:j<8
  ·have hlj':(0:Int)<=56-8*(j:Int):=AJ
   have hsz:=hbel.size;have HE:=CX (MT x j hlj);have HLJ:AO (((Jb x).take j).length+1<=1099511627776):=by show _<=_;rw[Aq,D8];omega
   have HO:=CX hown;have HB:=CX hbel;go_wp2_with (at_builtin;refine Cv _ rfl _ _ rfl w.heap.size _ _ rfl (HO.o.alloc _) ⟨wr.heap.size,0,aS⟩ 1 1 [x/2^(56-8*j)%256] rfl rfl ?c1 HLJ.o ?c3 ?_);all_goals first|(intro j' hj';obtain rfl:j'=0:=AJ
                                                                                                                                                                                                              simp[Addr.add];done)|skip
   case c3=>rw[Ay];omega
   intro v' w2 hown' hbel' _;have HO2:AO (DB w2 w.heap.size v' ((Jb x).take (j+1))):=by rw[HE.o];exact hown'
   have HB2:=CY <| (HB.o.alloc hsz _).trans hbel'
   go_wp2;go_roundw
   case rel=>exact⟨j+1,AJ,by go_num,HO2.o,HB2.o⟩
   case measure=>simp[intOf];omega
  ·obtain rfl:j=8:=AJ
   have HOW:=CX hown;rw[Ad (by rw[D8];exact Aa _)] at HOW;have HBE:=CX hbel;go_wp2
   go_ret
   exact⟨_,rfl,HOW.o,HBE.o⟩
def lenOf:Value->Nat
 |aM _ n _=>n
 |_=>0
def GW (n:Nat):Nat:=(239-n%128)%128
theorem GM (n:Nat):(n+1+GW n)%128=112/\GW n<128:=by unfold GW;omega
theorem Rx (n j:Nat) (h:j<GW n):(n+1+j)%128≠112:=by unfold GW at h;omega
def Ew (zs:List Int):List Int:=zs++[128]++List.replicate (GW zs.length) 0++List.replicate 8 0++Jb (8*(zs.length:Int))
theorem MU {w w':aV} {B:Nat} {v:Value} {zs:List Int} (h:DB w B v zs) (hb:Below w.heap.size w w'):DB w' B v zs:=by
 refine⟨⟨h.1.1,?_⟩,h.2⟩;rcases h.1.2 with h'|⟨g,c,cur,h1,h2,h3,h4⟩
 ·exact .inl h'
 ·exact .inr ⟨g,c,cur,h1,h2,by rw[hb.block g (AR.1 h3).1];exact h3,h4⟩
theorem Ry (b off cap n:Nat) (zs:List Int) (w:aV) (hn:zs.length=n) (hb:b<w.heap.size) (hc:∀ i,i<zs.length->w.cell? ⟨b,off+i,aS⟩=aR (aO aP (zs.getD i 0))) (hm:n<=2097152) :
  Calls tP 98 #[aM (aR ⟨b,off,aS⟩) n cap] w λe w'=>∃ v,e=aQ v/\DB w' w.heap.size v (Ew zs)/\Below w.heap.size w w':=by
 have HC:=CX hc;have HN:=CX hn;have HE0:=CX (DB.empty w w.heap.size Ch);have HAL:AO (Below w.heap.size w (w.alloc (aa #[] 5))):=Cf.alloc Ch _;go_enter func98,ntmps98;go_wp2_with (at_builtin;refine Cv _ rfl _ _ rfl w.heap.size _ [] rfl HE0.o ⟨b,off,aS⟩ n cap zs rfl HN.o ?c1 (by simp;omega) AL ?_)
 case c1=>
  intro j hj;rw[A0,HAL.o.cell (p:=⟨b,off+j,aS⟩) hb];exact HC.o j (by rw[HN.o];exact hj)
 intro v1 w1 o1 b1 _;have HO1:=CY <| o1
 have HB1:=CY <| HAL.o.trans b1
 have HLN:AO (zs.length+1<=1099511627776):=by show _<=_;rw[HN.o];omega
 have hs1:=HB1.o.size;go_wp2_with (at_builtin;refine Cv _ rfl _ _ rfl w.heap.size _ _ rfl (HO1.o.alloc _) ⟨w1.heap.size,0,aS⟩ 1 1 [128] rfl rfl ?c1 HLN.o ?c3 ?_);all_goals first|(intro j' hj';obtain rfl:j'=0:=AJ
                                                                                                                                                                                   simp[Addr.add];done)|skip
 case c3=>rw[Ay];omega
 intro v2 w2 o2 b2 _;have HO2:AO (DB w2 w.heap.size v2 (zs++[128]++List.replicate 0 0)):=by show DB _ _ _ _;simpa using o2
 have HB2:=CY <| (HB1.o.alloc hs1 _).trans b2
 go_wp2
 go_loopw [3] (λv wr=>∃ j:Nat,j<=GW n/\DB wr w.heap.size v (zs++[128]++List.replicate j 0)/\Below w.heap.size w wr) (λv _=>n+200-lenOf v)
 case atStart=>exact⟨0,Aw _,HO2.o,HB2.o⟩
 case round=>
  obtain⟨j,hj,hown,hbel⟩:=hrel;have hsz:=hbel.size;obtain⟨g,c,rfl,hg1,hg2,hg3⟩:=hown.base;have HO:=CX hown;have HB:=CX hbel;have hps:=GM n;have hll:(zs++[128]++List.replicate j 0).length=n+1+j:=by simp[HN.o];omega
  rw[hll] at HO hg3 |-;have HLL:=CX hll;obtain⟨L,hL⟩:∃ L,L=n+1+j:=⟨_,rfl⟩
  rw[<-hL] at HO hg3 HLL |-;have hLb:L<=2097700:=AJ
  by_cases hlt:j<GW n
  ·have hne:=Rx n j hlt;have hne':¬ ((L:Int)%128=112):=AJ
   have HJ:AO (j+1<=GW n):=by show _<=_;omega
   have HLm:AO (L<n+200):=by show _<_;omega
   have HLJ:AO ((zs++[128]++List.replicate j 0).length+1<=1099511627776):=by show _<=_;rw[HLL.o];omega
   have hO:=HO.o;obtain⟨ys,hys⟩:∃ ys,ys=zs++[128]++List.replicate j 0:=⟨_,rfl⟩
   rw[<-hys] at HO HLL HLJ;clear hO;have HYS:AO (zs++[128]++List.replicate (j+1) 0=ys++[0]):=by show _=_;rw[hys,List.replicate_succ'];simp
   clear hys;go_wp2_with (at_builtin;refine Cv _ rfl _ _ rfl w.heap.size _ _ rfl (HO.o.alloc _) ⟨wr.heap.size,0,aS⟩ 1 1 [0] rfl rfl ?d1 HLJ.o ?d3 ?_);all_goals first|(intro j' hj';obtain rfl:j'=0:=AJ
                                                                                                                                                                       simp[Addr.add];done)|skip
   case d3=>rw[Ay];omega
   intro v2 w2 o2 b2 _;obtain⟨g',c2,e2,_,_,_⟩:=o2.base;have HO2:AO (DB w2 w.heap.size v2 (zs++[128]++List.replicate (j+1) 0)):=by rw[HYS.o];exact o2
   have HB2:=CY <| (HB.o.alloc hsz _).trans b2
   have HV2:AO (lenOf v2=L+1):=by rw[e2];show _=_;simp[lenOf,HLL.o]
   go_wp2;go_roundw
   case rel=>exact⟨j+1,HJ.o,HO2.o,HB2.o⟩
   case measure=>
    have h1:=HV2.o;have h2:=HLm.o;have h3:lenOf (aM (aR ⟨g,0,aS⟩) L c)=L:=rfl
    first|(rw[h3,h1];omega)|(simp[lenOf,h1] at *;omega)
  ·obtain rfl:j=GW n:=AJ
   have hne':((L:Int)%128=112):=AJ
   have HLJ:AO ((zs++[128]++List.replicate (GW n) 0).length+8<=1099511627776):=by show _<=_;rw[HLL.o];omega
   clear hL hps hj hlt;obtain⟨ys,hys⟩:∃ ys,ys=zs++[128]++List.replicate (GW n) 0:=⟨_,rfl⟩
   rw[<-hys] at HO HLL HLJ;have HYS:AO (Ew zs=ys++[0,0,0,0,0,0,0,0]++Jb (8*(n:Int))):=by show _=_;rw[hys];unfold Ew;rw[HN.o];rfl
   clear hys;go_wp2_with (at_builtin;refine Cv _ rfl _ _ rfl w.heap.size _ _ rfl (HO.o.alloc _) ⟨wr.heap.size,0,aS⟩ 8 8 [0,0,0,0,0,0,0,0] rfl rfl ?e1 HLJ.o ?e3 ?_)
   case e1=>
    intro j' hj';have:j'=0\/j'=1\/j'=2\/j'=3\/j'=4\/j'=5\/j'=6\/j'=7:=AJ
    rcases this with rfl|rfl|rfl|rfl|rfl|rfl|rfl|rfl<;>simp[Addr.add]
   case e3=>rw[Ay];omega
   intro v2 w2 o2 b2 _;have HO2:=CX o2;have HB2:=CY <| (HB.o.alloc hsz _).trans b2
   clear o2 b2 HO HB HLJ;have e8:(8:Int)*(n:Int)<18446744073709551616:=AJ
   have A:=CX (J7 (8*(n:Int)) w2 ⟨AJ,AJ⟩);go_wp2_with fail;refine A.o.mono ?_;rintro e w3 ⟨v3,rfl,o3,b3⟩;obtain⟨g3,c3,rfl,_,hg3',hc3⟩:=o3.base;have HO3:AO (DB w3 w.heap.size v2 (ys++[0,0,0,0,0,0,0,0])):=by
    obtain⟨hh,g2,c2,e2⟩:=HO2.o;exact MU ⟨hh,g2,c2,e2⟩ b3
   have HB3:=CY <| HB2.o.trans (b3.mono HB2.o.size)
   have HP3:=CX o3.part;have HLY:AO ((ys++[0,0,0,0,0,0,0,0]).length+8<=1099511627776):=by show _<=_;rw[Ae,HLL.o];simp;omega
   have hsz3:=HB3.o.size;rw[D8] at hc3 |-;clear o3 b3 A HO2 HB2;go_wp2_with (at_builtin;refine Cv _ rfl _ _ rfl w.heap.size _ _ rfl HO3.o ⟨g3,0,aS⟩ 8 c3 (Jb (8*(n:Int))) rfl (D8 _) ?f1 HLY.o ?f3 ?_)
   case f1=>
    intro j' hj';obtain⟨b',o',c',e',_,hcc⟩:=HP3.o;cases e';rw[A0];exact hcc j' (by rw[D8];exact hj')
   case f3=>exact hsz3
   intro v4 w4 o4 b4 _;have HO4:AO (DB w4 w.heap.size v4 (Ew zs)):=by rw[HYS.o,CB];exact o4
   have HB4:AO (Below w.heap.size w w4):=HB3.o.trans b4;go_wp2
   go_ret
   exact⟨_,rfl,HO4.o,HB4.o⟩
theorem Nt (w:aV) (b o c t:Nat) (ht:t<16) (hc:128<=c):(Instr.sliceAt 22 (aM (aR ⟨b,o,aS⟩) 128 c) (aR (aO aZ (8*(t:Int)))) (aR (aO aZ (8*(t:Int)+8))) aS).run tP w=.ok (aM (aR ⟨b,o+8*t,aS⟩) 8 (c-8*t)) w:=by
 have h2:(8*(t:Int)+8)<=(c:Int):=AJ
 have h3:(8*(t:Int)+8).toNat=8*t+8:=AJ
 have h4:¬ (c=8*t):=AJ
 have h5:(8*(t:Int)).toNat=8*t:=AJ
 have h6:(0:Int)<=8*(t:Int):=AJ
 have h7:(0:Int)<=8*(t:Int)+8:=AJ
 unfold Instr.sliceAt;simp[run_underlying underlying22,go_sem,Instr.sliceBounds,h2,h3,h4,h5,h6,h7,Addr.add];rw[AP AJ];by_cases h0:t=0
 ·subst h0;simp
 ·rw[AQ AJ]
structure BK (w:aV) (bh oh bb ob bk:Nat) (hs bs:List Int):Prop where
 h:bh<w.heap.size/\∀ i,i<8->w.cell? ⟨bh,oh+i,aS⟩=aR (aO .u64 (hs.getD i 0))
 b:bb<w.heap.size/\∀ i,i<128->w.cell? ⟨bb,ob+i,aS⟩=aR (aO aP (bs.getD i 0))
 k:bk<w.heap.size/\∀ i,i<88->w.cell? ⟨bk,i,aS⟩=aR (aO .u64 (kt i))
theorem BK.below {w w':aV} {bh oh bb ob bk:Nat} {hs bs:List Int} (h:BK w bh oh bb ob bk hs bs) (hb:Below w.heap.size w w'):BK w' bh oh bb ob bk hs bs:=by
 have:=hb.size;exact⟨⟨AG h.h.1,λi hi=>by rw[Af (w:=w) (hb.block bh h.h.1)];exact h.h.2 i hi⟩,⟨AG h.b.1,λi hi=>by rw[Af (w:=w) (hb.block bb h.b.1)];exact h.b.2 i hi⟩,⟨AG h.k.1,λi hi=>by rw[Af (w:=w) (hb.block bk h.k.1)];exact h.k.2 i hi⟩⟩
theorem Zy (x:Int) (w:aV) (hx:EQ x):Calls tP 120 #[aO .u64 x,aO .u64 1] w λe w'=>e=aQ (aO .u64 (DK 1 x))/\w'=w:=EJ x 1 w AK hx
theorem Zz (x:Int) (w:aV) (hx:EQ x):Calls tP 120 #[aO .u64 x,aO .u64 8] w λe w'=>e=aQ (aO .u64 (DK 8 x))/\w'=w:=EJ x 8 w AK hx
theorem ZD (x:Int) (w:aV) (hx:EQ x):Calls tP 120 #[aO .u64 x,aO .u64 19] w λe w'=>e=aQ (aO .u64 (DK 19 x))/\w'=w:=EJ x 19 w AK hx
theorem ZE (x:Int) (w:aV) (hx:EQ x):Calls tP 120 #[aO .u64 x,aO .u64 61] w λe w'=>e=aQ (aO .u64 (DK 61 x))/\w'=w:=EJ x 61 w AK hx
theorem ZF (x:Int) (w:aV) (hx:EQ x):Calls tP 120 #[aO .u64 x,aO .u64 28] w λe w'=>e=aQ (aO .u64 (DK 28 x))/\w'=w:=EJ x 28 w AK hx
theorem ZG (x:Int) (w:aV) (hx:EQ x):Calls tP 120 #[aO .u64 x,aO .u64 34] w λe w'=>e=aQ (aO .u64 (DK 34 x))/\w'=w:=EJ x 34 w AK hx
theorem ZH (x:Int) (w:aV) (hx:EQ x):Calls tP 120 #[aO .u64 x,aO .u64 39] w λe w'=>e=aQ (aO .u64 (DK 39 x))/\w'=w:=EJ x 39 w AK hx
theorem ZI (x:Int) (w:aV) (hx:EQ x):Calls tP 120 #[aO .u64 x,aO .u64 14] w λe w'=>e=aQ (aO .u64 (DK 14 x))/\w'=w:=EJ x 14 w AK hx
theorem ZJ (x:Int) (w:aV) (hx:EQ x):Calls tP 120 #[aO .u64 x,aO .u64 18] w λe w'=>e=aQ (aO .u64 (DK 18 x))/\w'=w:=EJ x 18 w AK hx
theorem ZK (x:Int) (w:aV) (hx:EQ x):Calls tP 120 #[aO .u64 x,aO .u64 41] w λe w'=>e=aQ (aO .u64 (DK 41 x))/\w'=w:=EJ x 41 w AK hx
end Go.Proofs.YtncomnkdlpoelaaGreatDoor
