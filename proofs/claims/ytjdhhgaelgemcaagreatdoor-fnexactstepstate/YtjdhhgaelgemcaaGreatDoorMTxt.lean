import Derived.Test.YtjdhhgaelgemcaaGreatDoorMOwnB
open Go.Proofs.Tryz renaming prog->tP
open Go.Proofs.Tryz
open Go.Value renaming slice->Z7,int->Z8
open Go.IntKind renaming i64->aI
open Go.Ending renaming returned->aK
open Option renaming some->aE,none->aA
open Go renaming World->aC
set_option maxHeartbeats 1000000
set_option maxRecDepth 100000
namespace Go.Proofs.YtjdhhgaelgemcaaGreatDoor
open Go.ChangeShapes Go.WideShapes Go.ChangeAt Go.RowKit Go.Joins
set_option linter.unusedVariables false
theorem Q5 (n:Nat):(256:Int)^n=2^(8*n):=by rw[show(256:Int)=2^8 from rfl,<-Int.pow_mul]
theorem Tryz.sizeNum:(tP.info? 143).map (·.size)=aE 4:=AM
theorem sizeNum {ns:List Int} (h:ns.length=4):(tP.info? 143).map (·.size)=aE ((ns.map (Value.int .u64)).toArray).size:=by rw[Tryz.sizeNum];simp[h]
theorem Pi (V y:Int) (k:Nat) (hy:V/18446744073709551616^(k/8)%18446744073709551616=y):y/2^(8*(k%8))%256=V/256^k%256:=by
 have e1:(256:Int)^k=18446744073709551616^(k/8)*256^(k%8):=by
  rw[show(18446744073709551616:Int)=256^8 from by decide,<-Int.pow_mul,<-Int.pow_add]
  congr 1;omega
 have hp:(0:Int)<=18446744073709551616^(k/8):=Int.pow_nonneg AK;rw[e1,<-Bj hp,<-Q5,<-hy];generalize V/18446744073709551616^(k/8)=z;have:k%8=0\/k%8=1\/k%8=2\/k%8=3\/k%8=4\/k%8=5\/k%8=6\/k%8=7:=AJ
 rcases this with h|h|h|h|h|h|h|h<;>rw[h]<;>simp only[Int.pow_succ,Int.pow_zero]<;>omega
theorem K4 (V B:Int) (k:Nat) (hB:0<B):V%B^(k+1)=V%B^k+V/B^k%B*B^k:=by
 have hp:(0:Int)<B^k:=Int.pow_pos hB;rw[Int.pow_succ];have e1:=Int.emod_add_mul_ediv V (B^k);have e2:=Int.emod_add_mul_ediv (V/B^k) B;have e3:V=(V%B^k+V/B^k%B*B^k)+(B^k*B)*(V/B^k/B):=by grind
 have b0:=Int.emod_nonneg V (show B^k≠0 by omega);have b1:=Int.emod_lt_of_pos V hp;have b2:=Int.emod_nonneg (V/B^k) (show B≠0 by omega);have b3:=Int.emod_lt_of_pos (V/B^k) hB;have m0:0<=V/B^k%B*B^k:=Int.mul_nonneg b2 AJ;have m1:V/B^k%B*B^k<=(B-1)*B^k:=Int.mul_le_mul_of_nonneg_right AJ AJ
 conv=>lhs;rw[e3]
 rw[Int.add_mul_emod_self_left];apply Int.emod_eq_of_lt AJ;have:(B-1)*B^k=B^k*B-B^k:=by grind
 omega
structure TX (w:aC) (g:Nat) (ns:List Int) (k:Nat) (wr:aC):Prop where
 row:Ch wr g 143 ns
 txt:∃ bs:List Int,bs.length=32/\Ci bs/\val 256 (bs.take k)=val 18446744073709551616 ns%256^k/\wr.ownsRow w.heap.size 5 1 (Z7 (aE ⟨w.heap.size,0,aA⟩) 32 32) 32 (bs.map (Value.int .u8))
 below:Below w.heap.size w wr
def Lx (w:aC) (V:Int) (e:Ending) (w':aC):Prop:=
 ∃ bs:List Int,bs.length=32/\Ci bs/\val 256 bs=V/\e=aK (Z7 (aE ⟨w.heap.size,0,aA⟩) 32 32)/\DM w' w.heap.size (Z7 (aE ⟨w.heap.size,0,aA⟩) 32 32) bs/\Below w.heap.size w w'
theorem Q6 (g:Nat) (ns:List Int) (w:aC) (hl:ns.length=4) (hr:Ch w g 143 ns) (hw:G4 ns) :
  Calls tP 129 #[.pointer (aE ⟨g,0,aA⟩)] w (Lx w (val 18446744073709551616 ns)):=by
 obtain⟨i0,hi,hz0,hz1,hz2⟩:=Bh Tryz.infoU8;have HI:AO (i0.bytes=1):=hz2;clear hz2;have hg:=hr.lt;go_enter func129,ntmps129;go_wp2_with (first
  |(at_make;refine wpList_make_full _ rfl _ _ 26 rfl w.heap.size 5 i0 (Z8 .u8 0) 1 underlying26 hi hz0 hz1 _ _ _ _ 32 rfl rfl rfl rfl ?c1 ?c2 ?c3 ?_)
  |fail)
 case c1=>rw[HI.o];omega
 case c2=>unfold maxLen;omega
 case c3=>exact Ac _
 intro w1 hown hgrow;have hb1:Below w.heap.size w w1:=Cg.grown hgrow Cl AL;have hown0:w1.ownsRow w.heap.size 5 1 (Z7 (aE ⟨w.heap.size,0,aA⟩) 32 32) 32 ((List.replicate 32 0).map (Value.int .u8)):=by
  have e:(madeCells #[Z8 IntKind.u8 0] 32).toList=(List.replicate 32 0).map (Value.int .u8):=by simp only[toList_madeCells_one,List.map_replicate]
  rw[<-e];exact hown
 have HS:AO (TX w g ns 0 w1):=⟨hr.below hb1 hg,⟨List.replicate 32 0,AL,λz hz=>by rw[List.mem_replicate] at hz;omega,by simp[val],hown0⟩,hb1⟩
 clear hown hgrow hown0 hb1 hr;go_wp2
 go_loopw [8] (λi wr=>∃ k:Nat,k<=32/\i=Z8 aI k/\TX w g ns k wr) (λi _=>32-(intOf i).toNat)
 case atStart=>exact⟨0,Au _,rfl,HS.o⟩
 case round=>
  clear HS;obtain⟨k,hk,rfl,hrow,⟨bs,hbl,hbb,hbv,hown⟩,hbel⟩:=hrel;by_cases hlt:k<32
  ·have hc:=hrow.cell (k/8) AJ;have hx:=hw.get (k/8);have hdg:=Em (B:=18446744073709551616) AK hw (k/8);have htb:=Pi _ _ _ hdg;have hst:=hown.stored k (Z8 .u8 (val 18446744073709551616 ns/256^k%256));have hmem:wr.cell? ⟨w.heap.size,k,aA⟩=aE (Z8 .u8 (bs.getD k 0)):=by
    rw[hown.cellAt k AJ];simp[show k<bs.length by omega]
   have hfz:=hown.frozenAt k;rw[<-List.map_set] at hst;have hd0:0<=val 18446744073709551616 ns/256^k%256:=AJ
   have hd1:val 18446744073709551616 ns/256^k%256<256:=AJ
   have HS:AO (TX w g ns (k+1) (wr.setCell ⟨w.heap.size,k,aA⟩ (Z8 .u8 (val 18446744073709551616 ns/256^k%256)))):=by
    refine⟨((Wr.refl _ _).setCell k _).rowW hrow AJ,⟨bs.set k (val 18446744073709551616 ns/256^k%256),by rw[List.length_set];exact hbl,?_,?_,hst.1⟩,hbel.setCell Cl _⟩
    ·intro z hz;rcases List.mem_or_eq_of_mem_set hz with h'|rfl
     ·exact hbb z h'
     ·exact⟨hd0,hd1⟩
    ·rw[F7 _ _ _ _ AJ,hbv,K4 _ _ _ AK]
   have HTB:AO (ns.getD (k/8) 0/2^(8*(k%8))%256=val 18446744073709551616 ns/256^k%256):=htb;clear hst hown hbel hrow hbv hdg htb hd0 hd1;generalize ns.getD (k/8) 0=x at *;generalize bs.getD k 0=y at *;generalize val 18446744073709551616 ns/256^k%256=z at *;obtain⟨hx0,hx1⟩:=hx;have hlt2:(k:Int)/8<4:=AJ
   go_wp2;rw[HTB.o];exact⟨⟨k+1,AJ,by go_num,HS.o⟩,by simp[intOf];omega⟩
  ·have hk32:k=32:=AJ
   subst hk32;rw[Ad AJ] at hbv;have n0:0<=val 18446744073709551616 ns:=C0 AK hw;have n1:val 18446744073709551616 ns<256^32:=by
    have:=EZ (B:=18446744073709551616) AK hw;rw[hl] at this;have e:(18446744073709551616:Int)^4=256^32:=AK
    rwa [e] at this
   rw[Int.emod_eq_of_lt n0 n1] at hbv;have HP:AO (Lx w (val 18446744073709551616 ns) (aK (Z7 (aE ⟨w.heap.size,0,aA⟩) 32 32)) wr):=
    ⟨bs,hbl,hbb,hbv,rfl,⟨by rw[hbl];exact hown,_,_,by rw[hbl]⟩,hbel⟩
   clear hbv n0 n1 hown hbel hrow hbl hbb;go_wp2
   go_ret
   exact HP.o
end Go.Proofs.YtjdhhgaelgemcaaGreatDoor
namespace Go.Proofs.YtjdhhgaelgemcaaGreatDoor
open Go.ChangeShapes Go.WideShapes Go.ChangeAt Go.RowKit
set_option linter.unusedVariables false
theorem Vm:KT aI 2 22 8:=⟨AM,underlying22,AK,AK⟩
abbrev D3:=DR aI 2
def Ym (w:aC) (zs:List Int) (e:Ending) (w':aC):Prop:=
 ∃ g c,e=aK (Z7 (aE ⟨g,0,aA⟩) 16 c)/\D3 w' w.heap.size (Z7 (aE ⟨g,0,aA⟩) 16 c) zs/\Below w.heap.size w w'
structure NS (w:aC) (g c:Nat) (zs:List Int) (wr:aC):Prop where
 own:D3 wr w.heap.size (Z7 (aE ⟨g,0,aA⟩) 16 c) zs
 below:Below w.heap.size w wr
theorem Dw (a:Option Addr) (cap:Nat) (xs:List Int) (w:aC) (hx:xs.length=16) (ha:At aI w a xs) (M C:Int) (hM:Bd M xs) (hM0:0<=M) (hM1:M<=4611686018427387904) (hC:M<=65535*C) (hC1:C<=140737488355328) :
  Calls tP 116 #[Z7 a 16 cap] w (Ym w (Cj xs)):=by
 obtain⟨b0,off,rfl,hb0,hc⟩:=ha.get AJ;have HN:AO (∀ i,i<16->(w.alloc (.cells #[] 2)).cell? ((⟨b0,off,aA⟩:Addr).add i)=aE (Z8 aI (xs.getD i 0))):=λi hi=>by
  rw[Az,((A9 w.heap.size w).alloc Cl (.cells #[] 2)).cell (p:=⟨b0,off+i,aA⟩) hb0];exact hc i AJ
 have HX:AO (xs.length=16):=hx;have HBD:AO (∀ i,-C<=cy xs i/\cy xs i<=C):=Ln hM hC hM0;have HM:AO (Bd M xs):=hM;clear hc ha hx hM;go_enter func116,ntmps116;go_wp2_with (at_builtin;refine Db _ Vm rfl _ _ rfl w.heap.size _ [] rfl (DR.empty _ _ Cl) ⟨b0,off,aA⟩ 16 _ xs rfl HX.o HN.o ?c2 ?c3 ?_)
 case c2=>decide
 case c3=>simp
 intro v' w1 hown' hbel' _;have hB1:Below w.heap.size w w1:=(Cg.alloc Cl _).trans hbel';obtain⟨g,c,rfl,hg,hg',_⟩:=hown'.at_;rw[HX.o] at hown' |-;have HS:AO (NS w g c (Kx xs 0) w1):=⟨by rw[Qn xs HX.o];exact hown',hB1⟩
 clear hown' hB1 hbel' HN;go_wp2
 go_loopw [4] (λi wr=>∃ k:Nat,k<=16/\i=Z8 aI k/\((k<16/\NS w g c (Kx xs k) wr)\/(k=16/\NS w g c (Cj xs) wr))) (λi _=>16-(intOf i).toNat)
 case atStart=>exact⟨0,AK,rfl,.inl ⟨AK,HS.o⟩⟩
 case round=>
  clear HS;obtain⟨k,hk,rfl,hst⟩:=hrel;by_cases hlt:k<16
  ·have hst':NS w g c (Kx xs k) wr:=by
    rcases hst with⟨_,h⟩|⟨h,_⟩
    ·exact h
    ·omega
   obtain⟨hown,hbel⟩:=hst';clear hst;obtain⟨hcl,hch⟩:=HBD.o k;obtain⟨hcl',hch'⟩:=HBD.o (k+1);obtain⟨hml,hmh⟩:=HM.o k;obtain⟨hml',hmh'⟩:=HM.o (k+1);have hcs:cy xs (k+1)=(xs.getD k 0+cy xs k)/65536:=rfl;have hget:(Kx xs k).getD k 0=xs.getD k 0+cy xs k:=by rw[Fi _ _ _ hlt];unfold Lm;simp
   obtain⟨c0,f0,o0⟩:=DR.set (Dx xs k) hown k ((xs.getD k 0+cy xs k)%65536) hlt;rw[hget] at c0;by_cases hk15:k<15
   ·have hget2:((Kx xs k).set k ((xs.getD k 0+cy xs k)%65536)).getD (k+1) 0=xs.getD (k+1) 0:=by
     rw[Cy _ _ _ _ (by rw[Dx];omega),AQ AJ,Fi _ _ _ AJ];unfold Lm;rw[AQ AJ,AQ AJ]
    obtain⟨c1,f1,o1⟩:=DR.set (by rw[List.length_set,Dx]) o0 (k+1) (xs.getD (k+1) 0+cy xs (k+1)) AJ;rw[hget2] at c1;rw[Qo xs k hk15] at o1;have HO:AO (NS w g c (Kx xs (k+1)) ((wr.setCell ⟨g,k,aA⟩ (Z8 aI ((xs.getD k 0+cy xs k)%65536))).setCell ⟨g,k+1,aA⟩ (Z8 aI (xs.getD (k+1) 0+cy xs (k+1))))):=⟨o1,(hbel.setCell hg _).setCell hg _⟩
    have HCS:AO (cy xs (k+1)=(xs.getD k 0+cy xs k)/65536):=hcs;clear o0 o1 hget hget2 hown hbel hcs;generalize cy xs (k+1)=c' at *;generalize cy xs k=cc at *;generalize xs.getD k 0=x at *;generalize xs.getD (k+1) 0=x' at *;have hq0:x+cc-(x+cc)/65536*65536=(x+cc)%65536:=AJ
    have hlt':(k:Int)<15:=AJ
    have hcs2:c'=(x+cc)/65536:=HCS.o;clear HCS;subst hcs2;go_wp2;exact⟨⟨k+1,AJ,by go_num,.inl ⟨AJ,HO.o⟩⟩,by simp[intOf];omega⟩
   ·have hke:k=15:=AJ
    have hget0:0<=((Kx xs 15).set 15 ((xs.getD 15 0+cy xs 15)%65536)).getD 0 0/\((Kx xs 15).set 15 ((xs.getD 15 0+cy xs 15)%65536)).getD 0 0<65536:=by
     rw[Cy _ _ _ _ (by rw[Dx];decide),AQ AK,Fi _ _ _ AK];unfold Lm;rw[AP AK];omega
    obtain⟨c1,f1,o1⟩:=DR.set (by rw[List.length_set,Dx]) o0 0 (((Kx xs k).set k ((xs.getD k 0+cy xs k)%65536)).getD 0 0+38*cy xs (k+1)) AK;have hl:=Qp xs;have e16:cy xs 16=cy xs (k+1):=by rw[hke]
    rw[e16] at hl;have HK:AO (k=15):=hke;rw[<-hke] at hl hget0;rw[hl] at o1;have HO:AO (NS w g c (Cj xs) ((wr.setCell ⟨g,k,aA⟩ (Z8 aI ((xs.getD k 0+cy xs k)%65536))).setCell ⟨g,0,aA⟩ (Z8 aI (((Kx xs k).set k ((xs.getD k 0+cy xs k)%65536)).getD 0 0+38*cy xs (k+1))))):=⟨o1,(hbel.setCell hg _).setCell hg _⟩
    have HCS:AO (cy xs (k+1)=(xs.getD k 0+cy xs k)/65536):=hcs;clear o0 o1 hget hown hbel hcs hl e16 hke;generalize ((Kx xs k).set k ((xs.getD k 0+cy xs k)%65536)).getD 0 0=y at *;generalize cy xs (k+1)=c' at *;generalize cy xs k=cc at *;generalize xs.getD k 0=x at *;obtain⟨hy0,hy1⟩:=hget0;have hq0:x+cc-(x+cc)/65536*65536=(x+cc)%65536:=AJ
    have hlt':¬ (k:Int)<15:=AJ
    have hcs2:c'=(x+cc)/65536:=HCS.o;clear HCS;subst hcs2;go_wp2;exact⟨⟨k+1,AJ,by go_num,.inr ⟨AG HK.o,HO.o⟩⟩,by simp[intOf];omega⟩
  ·have hst':NS w g c (Cj xs) wr:=by
    rcases hst with⟨_,h⟩|⟨_,h⟩
    ·omega
    ·exact h
   have HP:AO (Ym w (Cj xs) (aK (Z7 (aE ⟨g,0,aA⟩) 16 c)) wr):=⟨g,c,rfl,hst'.own,hst'.below⟩
   clear hst hst';go_wp2
   go_ret
   exact HP.o
theorem KP (w:aC) (m n:Nat):(w.drewN m).drewN n=w.drewN (m+n):=by
 simp[World.drewN,Nat.add_assoc]
def Cu (w:aC) (a:Option Addr) (x:Int):Prop:=∃ zs,At aI w a zs/\R zs/\fv zs=x
def ND (w:aC) (x:Int) (e:Ending) (w':aC):Prop:=
 ∃ g c,e=aK (Z7 (aE ⟨g,0,aA⟩) 16 c)/\w.heap.size<=g/\g<w'.heap.size/\Cu w' (aE ⟨g,0,aA⟩) x/\Below w.heap.size w w'
theorem Cu.below {w w':aC} {a:Option Addr} {x:Int} (h:Cu w a x) (hb:Below w.heap.size w w'):Cu w' a x:=by
 obtain⟨zs,h1,h2⟩:=h;exact⟨zs,h1.below hb,h2⟩
theorem Ym.fe {w:aC} {zs:List Int} {x:Int} {e:Ending} {w':aC} (h:Ym w zs e w') (hR:R zs) (hv:fv zs=x):ND w x e w':=by
 obtain⟨g,c,he,ho,hb⟩:=h;obtain⟨hA,h1,h2⟩:=ho.atS;exact⟨g,c,he,h1,h2,⟨zs,hA,hR,hv⟩,hb⟩
theorem DK (x:Int) (w:aC) (h0:-1048576<=x) (h1:x<=1048576):Calls tP 87 #[Z8 aI x] w (ND w (x%fp)):=by
 obtain⟨t1,t2,t3⟩:=Vk (xs:=Ea x) rfl (KJ (M:=1048576) ⟨h0,h1⟩) AK AK;have HT:AO (R (Cj (Cj (Ea x)))/\fv (Cj (Cj (Ea x)))=x%fp):=⟨t1,by rw[t2];unfold fv;rw[NM]⟩
 have HB2:AO (Bd 20401160191 (Cj (Ea x))):=t3;have HS:AO (D3 (w.alloc (.cells #[Z8 aI x] 2)) w.heap.size (Z7 (aE ⟨w.heap.size,0,aA⟩) 1 1) (x::List.replicate 0 0)):=DR.lit w _ [x] Cl AL;clear t1 t2 t3;go_enter func87,ntmps87;go_wp2
 go_loopw [3,4] (λv i wr=>∃ k:Nat,k<=15/\i=Z8 aI ((k:Int)+1)/\D3 wr w.heap.size v (x::List.replicate k 0)/\Below w.heap.size w wr) (λ_ i _=>16-(intOf i).toNat)
 case atStart=>exact⟨0,AK,rfl,HS.o,Cg.alloc Cl _⟩
 case round=>
  clear HS;obtain⟨k,hk,rfl,hown,hbel⟩:=hrel;by_cases hlt:k<15
  ·have hsz:=hbel.size;have hlt':(k:Int)+1<16:=AJ
   go_wp2_with (at_builtin;refine Db _ Vm rfl _ _ rfl w.heap.size _ _ rfl (hown.alloc _) ⟨wr.heap.size,0,aA⟩ 1 1 [0] rfl rfl ?c1 ?c2 ?c3 ?_);all_goals first|(intro j hj;obtain rfl:j=0:=AJ
                                                                                                                                                              simp[Addr.add];done)|skip
   case c2=>simp;omega
   case c3=>first|omega|(rw[A7];omega)
   intro v' w1 hown' hbel' _;have HO:AO (D3 w1 w.heap.size v' (x::List.replicate (k+1) 0)):=by rw[List.replicate_succ'];exact hown'
   have HB:AO (Below w.heap.size w w1):=(hbel.alloc AJ _).trans hbel';clear hown hown' hbel hbel';go_wp2;go_roundw
   case rel=>exact⟨k+1,AJ,by go_num,HO.o,HB.o⟩
   case measure=>simp[intOf];omega
  ·have hk15:k=15:=AJ
   have ho:D3 wr w.heap.size u3 (Ea x):=by rw[hk15] at hown;exact hown
   obtain⟨g,c,rfl,hg,hg',hA⟩:=ho.at_;have hl:(Ea x).length=16:=rfl;rw[hl];clear ho hown;have hlt':¬ (k:Int)+1<16:=AJ
   go_wp2_with fail;refine(Dw _ c (Ea x) _ rfl hA 1048576 17 (KJ ⟨h0,h1⟩) AK AK AK AK).mono ?_;rintro e w1 ⟨g1,c1,rfl,o1,b1⟩;obtain⟨hA1,_,_⟩:=o1.atS;have s1:=b1.size;have hB1:Below w.heap.size w w1:=hbel.trans (b1.mono hbel.size);clear hA o1 b1 hbel hk15;go_wp2_with fail;refine(Dw _ c1 (Cj (Ea x)) _ (C6 _) hA1 20401160191 311304 HB2.o AK AK AK AK).mono ?_;rintro e w2 h2;have HP:AO (ND w (x%fp) e w2):=by
    obtain⟨g2,c2,rfl,p1,p2,p3,p4⟩:=h2.fe HT.o.1 HT.o.2;exact⟨g2,c2,rfl,AG hB1.size,p2,p3,hB1.trans (p4.mono hB1.size)⟩
   obtain⟨g2,c2,rfl,_⟩:=h2;clear hA1 hB1;go_wp2
   go_ret
   exact HP.o
theorem Cw (a a':Option Addr) (cap cap':Nat) (x y:Int) (w:aC) (ha:Cu w a x) (ha':Cu w a' y) :
  Calls tP 86 #[Z7 a 16 cap,Z7 a' 16 cap'] w (ND w (x*y%fp)):=by
 obtain⟨xs,hA,hR,rfl⟩:=ha;obtain⟨ys,hA',hR',rfl⟩:=ha';obtain⟨b0,off,rfl,hb0,hc⟩:=hA.get (AG hR.1);obtain⟨b1,off',rfl,hb1,hc'⟩:=hA'.get (AG hR'.1);obtain⟨t1,t2,t3⟩:=Vk (E1 xs ys) (OQ hR hR') AK AK;have HT:AO (R (Cj (Cj (FB xs ys)))/\fv (Cj (Cj (FB xs ys)))=fv xs*fv ys%fp):=⟨t1,by rw[t2,Ts _ _ hR.1 hR'.1]⟩
 have HB2:AO (Bd 20401160191 (Cj (FB xs ys))):=t3;have HB1:AO (Bd 17592186044416 (FB xs ys)):=OQ hR hR';have HC:AO (∀ i,i<16->w.cell? ⟨b0,off+i,aA⟩=aE (Z8 aI (xs.getD i 0))):=λi hi=>hc i (AG hR.1)
 have HC':AO (∀ i,i<16->w.cell? ⟨b1,off'+i,aA⟩=aE (Z8 aI (ys.getD i 0))):=λi hi=>hc' i (AG hR'.1)
 have HS:AO (∀ s n:Nat,n<=16->-69063840000<=cs xs ys s n/\cs xs ys s n<=69063840000):=λs n hn=>by
  have:=OP hR.2 hR'.2 AK s n;omega
 have HR:AO (R xs/\R ys):=⟨hR,hR'⟩
 clear t1 t2 t3 hc hc' hA hA' hR hR';go_enter func86,ntmps86;go_wp2
 go_loopw [5,6] (λv i wr=>∃ k:Nat,k<=16/\i=Z8 aI k/\D3 wr w.heap.size v ((FB xs ys).take k)/\Below w.heap.size w wr) (λ_ i _=>16-(intOf i).toNat)
 case atStart=>exact⟨0,AK,rfl,DR.empty _ _ Cl,Cg.alloc Cl _⟩
 case round=>
  obtain⟨k,hk,rfl,hown,hbel⟩:=hrel;by_cases hlt:k<16
  ·have hlt':(k:Int)<16:=AJ
   have HO:AO (D3 wr w.heap.size u5 ((FB xs ys).take k)):=hown;have HBE:AO (Below w.heap.size w wr):=hbel;clear hown hbel;obtain⟨w5,hw5⟩:∃ x,x=wr:=⟨_,rfl⟩
   subst hw5;go_wp2
   go_loopw [7,9] (λl i wq=>∃(n q:Nat),n<=k+1/\i=Z8 aI n/\l=Z8 aI (cs xs ys k n)/\wq=w5.drewN q) (λ_ i _=>17-(intOf i).toNat)
   case atStart=>exact⟨0,0,Au _,rfl,rfl,rfl⟩
   case round=>
    obtain⟨n,q,hn,rfl,rfl,rfl⟩:=hrel;by_cases hnk:n<=k
    ·have hnk':(n:Int)<=(k:Int):=AJ
     have hx:=(HR.o.1).2 n;have hy:=(HR.o.2).2 (k-n);have c0:w5.cell? ⟨b0,off+n,aA⟩=aE (Z8 aI (xs.getD n 0)):=by
      rw[HBE.o.cell (p:=⟨b0,off+n,aA⟩) hb0];exact HC.o n AJ
     have c1:w5.cell? ⟨b1,off'+(k-n),aA⟩=aE (Z8 aI (ys.getD (k-n) 0)):=by
      rw[HBE.o.cell (p:=⟨b1,off'+(k-n),aA⟩) hb1];exact HC'.o (k-n) AJ
     have hsn:=HS.o k n AJ;have hsn1:=HS.o k (n+1) AJ;have hcs:cs xs ys k (n+1)=cs xs ys k n+xs.getD n 0*ys.getD (k-n) 0:=rfl;obtain⟨pr,hpr⟩:∃ pr,pr=xs.getD n 0*ys.getD (k-n) 0:=⟨_,rfl⟩
     rw[<-hpr] at hcs;have hw1:wrap64 (xs.getD n 0*ys.getD (k-n) 0)=pr:=by rw[<-hpr];unfold wrap64;omega
     have hsub:((k:Int)-(n:Int))=((k-n:Nat):Int):=AJ
     have hkn16:((k-n:Nat):Int)<16:=AJ
     have hn16:(n:Int)<16:=AJ
     rw[hcs] at hsn1;have HCS:AO (cs xs ys k (n+1)=cs xs ys k n+pr):=hcs;clear hcs hpr hlt';generalize xs.getD n 0=x at *;generalize ys.getD (k-n) 0=y at *;generalize cs xs ys k n=S at *;obtain⟨s0,s1⟩:=hsn;obtain⟨s2,s3⟩:=hsn1;obtain⟨x0,x1⟩:=hx;obtain⟨y0,y1⟩:=hy;go_wp2
     go_quiet (fail)
     rw[KP];clear c0 c1 hw1 hsub hkn16 x0 x1 y0 y1;go_wp2;go_roundw
     case rel=>exact⟨n+1,q+nq,AJ,by go_num,by rw[HCS.o],rfl⟩
     case measure=>simp[intOf];omega
    ·have hnk':¬ (n:Int)<=(k:Int):=AJ
     obtain rfl:n=k+1:=AJ
     have HL:AO (cs xs ys k (k+1)=Tr xs ys k):=rfl;rw[HL.o];have HLB:AO (-69063840000<=Tr xs ys k/\Tr xs ys k<=69063840000):=HS.o k (k+1) AJ;generalize hlo:Tr xs ys k=lo at *;have HLO:AO (Tr xs ys k=lo):=hlo;clear hlo HL;have O5:D3 (w5.drewN q) w.heap.size u5 ((FB xs ys).take k):=HO.o;have B5:Below w.heap.size w (w5.drewN q):=⟨HBE.o.os,HBE.o.tape,HBE.o.output,HBE.o.size,HBE.o.block⟩
     have HO6:AO (D3 (w5.drewN q) w.heap.size u5 ((FB xs ys).take k)):=O5;have HBE6:AO (Below w.heap.size w (w5.drewN q)):=B5;clear HO HBE O5 B5;generalize w5.drewN q=w6 at *;have hk1:((k+1:Nat):Int)=(k:Int)+1:=AJ
     rw[hk1];clear hk1;go_wp2
     go_loopw [8,10] (λl i wq=>∃(n q:Nat),k+1<=n/\n<=16/\i=Z8 aI n/\l=Z8 aI (cs xs ys (16+k) n)/\wq=w6.drewN q) (λ_ i _=>16-(intOf i).toNat)
     case atStart=>exact⟨k+1,0,Ac _,AJ,by go_num,by rw[Ky HR.o.2.1 k (k+1) Cl],rfl⟩
     case round=>
      obtain⟨n,q,hnl,hnh,rfl,rfl,rfl⟩:=hrel;by_cases hn16:n<16
      ·have hx:=(HR.o.1).2 n;have hy:=(HR.o.2).2 (16+k-n);have c0:w6.cell? ⟨b0,off+n,aA⟩=aE (Z8 aI (xs.getD n 0)):=by
        rw[HBE6.o.cell (p:=⟨b0,off+n,aA⟩) hb0];exact HC.o n AJ
       have c1:w6.cell? ⟨b1,off'+(16+k-n),aA⟩=aE (Z8 aI (ys.getD (16+k-n) 0)):=by
        rw[HBE6.o.cell (p:=⟨b1,off'+(16+k-n),aA⟩) hb1];exact HC'.o (16+k-n) AJ
       have hsn:=HS.o (16+k) n AJ;have hsn1:=HS.o (16+k) (n+1) AJ;have hcs:cs xs ys (16+k) (n+1)=cs xs ys (16+k) n+xs.getD n 0*ys.getD (16+k-n) 0:=rfl;obtain⟨pr,hpr⟩:∃ pr,pr=xs.getD n 0*ys.getD (16+k-n) 0:=⟨_,rfl⟩
       rw[<-hpr] at hcs;have hw1:wrap64 (xs.getD n 0*ys.getD (16+k-n) 0)=pr:=by rw[<-hpr];unfold wrap64;omega
       have hsub:(16+(k:Int)-(n:Int))=((16+k-n:Nat):Int):=AJ
       have hkn16:((16+k-n:Nat):Int)<16:=AJ
       have hn16':(n:Int)<16:=AJ
       rw[hcs] at hsn1;have HCS:AO (cs xs ys (16+k) (n+1)=cs xs ys (16+k) n+pr):=hcs;clear hcs hpr hlt';generalize xs.getD n 0=x at *;generalize ys.getD (16+k-n) 0=y at *;generalize cs xs ys (16+k) n=S at *;obtain⟨s0,s1⟩:=hsn;obtain⟨s2,s3⟩:=hsn1;obtain⟨x0,x1⟩:=hx;obtain⟨y0,y1⟩:=hy;go_wp2
       go_quiet (fail)
       rw[KP];clear c0 c1 hw1 hsub hkn16 x0 x1 y0 y1;go_wp2;go_roundw
       case rel=>exact⟨n+1,q+nq,AJ,AJ,by go_num,by rw[HCS.o],rfl⟩
       case measure=>simp[intOf];omega
      ·obtain rfl:n=16:=AJ
       rw[<-NL HR.o.1.1 k,show((16:Nat):Int)=16 from rfl];have HHB:AO (-69063840000<=Te xs ys k/\Te xs ys k<=69063840000):=by
        rw[NL HR.o.1.1 k];exact HS.o (16+k) 16 AJ
       have HTK:AO ((FB xs ys).take (k+1)=(FB xs ys).take k++[lo+38*Te xs ys k]):=by
        show _=_
        have e:(FB xs ys).getD k 0=lo+38*Te xs ys k:=by rw[<-HLO.o];exact Ig _ k hlt
        rw[<-e,A0 (by rw[E1];exact hlt),AS,Av (by rw[E1];exact hlt)];rfl
       have HTL:AO (((FB xs ys).take k).length=k):=by show _=_;rw[Ap,E1];omega
       have O7:D3 (w6.drewN q) w.heap.size u5 ((FB xs ys).take k):=HO6.o;have B7:Below w.heap.size w (w6.drewN q):=⟨HBE6.o.os,HBE6.o.tape,HBE6.o.output,HBE6.o.size,HBE6.o.block⟩
       clear HO6 HBE6;generalize w6.drewN q=w7 at *;generalize Te xs ys k=hi at *;obtain⟨l0,l1⟩:=HLB.o;obtain⟨h0,h1⟩:=HHB.o;have hsz:=B7.size;go_wp2_with (at_builtin;refine Db _ Vm rfl _ _ rfl w.heap.size _ _ rfl (O7.alloc _) ⟨w7.heap.size,0,aA⟩ 1 1 [lo+38*hi] rfl rfl ?c1 ?c2 ?c3 ?_);all_goals first|(intro j hj;obtain rfl:j=0:=AJ
                                                                                                                                                                                                                                                                                                              simp[Addr.add];done)|skip
       case c2=>rw[HTL.o];omega
       case c3=>first|omega|(rw[A7];omega)
       intro v' w8 hown' hbel' _;have HO8:AO (D3 w8 w.heap.size v' ((FB xs ys).take (k+1))):=by rw[HTK.o];exact hown'
       have HB8:AO (Below w.heap.size w w8):=(B7.alloc AJ _).trans hbel';clear hown' hbel' O7 B7;go_wp2;go_roundw
       case rel=>exact⟨k+1,AJ,by go_num,HO8.o,HB8.o⟩
       case measure=>simp[intOf];omega
  ·have hk16:k=16:=AJ
   have ho:D3 wr w.heap.size u5 (FB xs ys):=by rw[hk16,Ad (by rw[E1];decide)] at hown;exact hown
   obtain⟨g,c,rfl,hg,hg',hA⟩:=ho.at_;rw[E1];clear ho hown;have hlt':¬ (k:Int)<16:=AJ
   go_wp2_with fail;refine(Dw _ c (FB xs ys) _ (E1 _ _) hA 17592186044416 536870912 HB1.o AK AK AK AK).mono ?_;rintro e w1 ⟨g1,c1,rfl,o1,b1'⟩;obtain⟨hA1,_,_⟩:=o1.atS;have hB1:Below w.heap.size w w1:=hbel.trans (b1'.mono hbel.size);clear hA o1 b1' hbel hk16;go_wp2_with fail;refine(Dw _ c1 (Cj (FB xs ys)) _ (C6 _) hA1 20401160191 311304 HB2.o AK AK AK AK).mono ?_;rintro e w2 h2;have HP:AO (ND w (fv xs*fv ys%fp) e w2):=by
    obtain⟨g2,c2,rfl,p1,p2,p3,p4⟩:=h2.fe HT.o.1 HT.o.2;exact⟨g2,c2,rfl,AG hB1.size,p2,p3,hB1.trans (p4.mono hB1.size)⟩
   obtain⟨g2,c2,rfl,_⟩:=h2;clear hA1 hB1;go_wp2
   go_ret
   exact HP.o
theorem Ty (i:Nat) (w:aC) (hi:i<16):Calls tP 117 #[Z8 aI i] w λe w'=>e=aK (Z8 aI (pD.getD i 0))/\w'=w:=by
 rw[WG i hi];by_cases h0:i=0
 ·subst h0;go_enter func117,ntmps117;go_wp2
  go_ret
  exact⟨rfl,rfl⟩
 ·rw[AQ h0];have h0':((i:Int) == 0)=false:=by simp;omega
  by_cases h15:i=15
  ·subst h15;go_enter func117,ntmps117;go_wp2
   go_ret
   exact⟨rfl,rfl⟩
  ·rw[AQ h15];have h15':((i:Int) == 15)=false:=by simp;omega
   go_enter func117,ntmps117;go_wp2
   go_ret
   exact⟨rfl,rfl⟩
def Tf (w:aC) (a:Option Addr) (x:Int):Prop:=∃ zs,At aI w a zs/\zs.length=16/\(∀ i,0<=zs.getD i 0/\zs.getD i 0<65536)/\val 65536 zs=x
def Yw (w:aC) (x:Int) (e:Ending) (w':aC):Prop:=
 ∃ g c,e=aK (Z7 (aE ⟨g,0,aA⟩) 16 c)/\w.heap.size<=g/\g<w'.heap.size/\Tf w' (aE ⟨g,0,aA⟩) x/\Below w.heap.size w w'
theorem Tf.below {w w':aC} {a:Option Addr} {x:Int} (h:Tf w a x) (hb:Below w.heap.size w w'):Tf w' a x:=by
 obtain⟨zs,h1,h2⟩:=h;exact⟨zs,h1.below hb,h2⟩
structure Yn (w:aC) (x:Int) (v:Value) (wr:aC):Prop where
 ls:∃ g c,v=Z7 (aE ⟨g,0,aA⟩) 16 c/\w.heap.size<=g/\g<wr.heap.size/\Tf wr (aE ⟨g,0,aA⟩) x
 below:Below w.heap.size w wr
def JV (x:Int):Int:=if fp<=x then x-fp else x
def GO (x:Int):Nat->Int
 |0=>x
 |k+1=>JV (GO x k)
theorem Pj {x:Int} (h0:0<=x) (h1:x<65536^16):GO x 2=x%fp:=by
 have e:(65536:Int)^16=2*fp+38:=AK
 rw[e] at h1;have e2:GO x 2=JV (JV x):=rfl;rw[e2];unfold JV;unfold fp at *;split<;>(try split)<;>omega
theorem ET (a:Option Addr) (cap:Nat) (x:Int) (w:aC) (ha:Cu w a x):Calls tP 90 #[Z7 a 16 cap] w (Yw w x):=by
 obtain⟨xs,hA,hR,hx⟩:=ha;have hd:=Pf hR;have h1b:Bd 65700 xs:=hR.2;have h2b:Bd 65611 (Cj xs):=by
  have hc:=Ln (C:=2) hR.2 AK AK 16;exact(GV AK hc).1
 have h3b:Bd 65535 (Cj (Cj xs)):=λi=>AG (hd i)
 have hid:=Qy (C6 _) hd;have hfv:val 65536 (Cj (Cj xs))%fp=x:=by
  rw[<-hx];have:=GW (Cj xs) (C6 _);rw[GW xs hR.1] at this;exact this
 have hv0:0<=val 65536 (Cj (Cj xs)):=C0 AK (D2 hd);have hv1:val 65536 (Cj (Cj xs))<65536^16:=by
  have:=EZ (B:=65536) AK (D2 hd)
  rwa [C6] at this
 have hfin:=Pj hv0 hv1;rw[hfv] at hfin;have HD:AO (∀ i,0<=(Cj (Cj xs)).getD i 0/\(Cj (Cj xs)).getD i 0<65536):=hd;have HFIN:AO (GO (val 65536 (Cj (Cj xs))) 2=x):=hfin;have HR:AO (xs.length=16):=hR.1;clear hfv hv0 hv1 hfin hR hx hd;go_enter func90,ntmps90;go_wp2_with fail;refine(Dw _ cap xs _ HR.o hA 65700 2 h1b AK AK AK AK).mono ?_;rintro e w1 ⟨g1,c1,rfl,o1,b1⟩;obtain⟨hA1,_,_⟩:=o1.atS;clear o1 hA;go_wp2_with fail;refine(Dw _ c1 (Cj xs) _ (C6 _) hA1 65611 2 h2b AK AK AK AK).mono ?_;rintro e w2 ⟨g2,c2,rfl,o2,b2⟩;obtain⟨hA2,_,_⟩:=o2.atS;have B2:Below w.heap.size w w2:=b1.trans (b2.mono b1.size);clear o2 hA1 b1 b2 h1b h2b;generalize hys:Cj (Cj xs)=ys at *;have HYL:AO (ys.length=16):=by rw[<-hys];exact C6 _
 clear hys;go_wp2_with fail;refine(Dw _ c2 ys _ HYL.o hA2 65535 1 h3b AK AK AK AK).mono ?_;rintro e w3 ⟨g3,c3,rfl,o3,b3⟩;rw[hid] at o3;obtain⟨hA3,_,_⟩:=o3.atS;have B3:Below w.heap.size w w3:=B2.trans (b3.mono B2.size);clear o3 hA2 b3 B2;go_wp2_with fail;refine(Dw _ c3 ys _ HYL.o hA3 65535 1 h3b AK AK AK AK).mono ?_;rintro e w4 ⟨g4,c4,rfl,o4,b4⟩;rw[hid] at o4;obtain⟨hA4,hg4,hg4'⟩:=o4.atS;have B4:Below w.heap.size w w4:=B3.trans (b4.mono B3.size);have HS:AO (Yn w (GO (val 65536 ys) 0) (Z7 (aE ⟨g4,0,aA⟩) 16 c4) w4):=⟨⟨g4,c4,rfl,AG B3.size,hg4',⟨ys,hA4,HYL.o,HD.o,rfl⟩⟩,B4⟩
 clear o4 hA3 hA4 b4 B3 B4 h3b hid HD HYL;generalize val 65536 ys=V at *;go_wp2
 go_loopw [3,4] (λv i wr=>∃ m:Nat,m<=2/\i=Z8 aI m/\Yn w (GO V m) v wr) (λ_ i _=>2-(intOf i).toNat)
 case atStart=>exact⟨0,AK,rfl,HS.o⟩
 case round=>
  clear HS;obtain⟨m,hm,rfl,⟨⟨g,c,rfl,hg,hg',⟨zs,hzA,hzl,hzd,hzv⟩⟩,hbel⟩⟩:=hrel;by_cases hm2:m<2
  ·have hm2':(m:Int)<2:=AJ
   have HN:AO (GO V (m+1)=JV (GO V m)):=rfl;have HZ:AO (At aI wr (aE ⟨g,0,aA⟩) zs/\zs.length=16/\(∀ i,0<=zs.getD i 0/\zs.getD i 0<65536)/\val 65536 zs=GO V m):=⟨hzA,hzl,hzd,hzv⟩
   have HB:AO (Below w.heap.size w wr):=hbel;clear hzA hzl hzd hzv hbel;generalize GO V m=U at *;obtain⟨w5,hw5⟩:∃ x,x=wr:=⟨_,rfl⟩
   subst hw5;go_wp2
   go_loopw [5,6,7] (λv b i wq=>∃(k:Nat) (ds:List Int) (bb:Int),k<=16/\i=Z8 aI k/\b=Z8 aI bb/\(bb=0\/bb=1)/\ds.length=k/\(∀ i,0<=ds.getD i 0/\ds.getD i 0<65536)/\val 65536 (zs.take k)-val 65536 (pD.take k)=val 65536 ds-bb*65536^k/\D3 wq w5.heap.size v ds/\Below w5.heap.size w5 wq) (λ_ _ i _=>16-(intOf i).toNat)
   case atStart=>exact⟨0,[],0,AK,rfl,rfl,.inl rfl,rfl,λi=>AL,by simp[val],DR.empty _ _ Cl,Cg.alloc Cl _⟩
   case round=>
    obtain⟨k,ds,bb,hk,rfl,rfl,hbb,hdl,hdd,hdv,hown,hbq⟩:=hrel;by_cases hk16:k<16
    ·have hk16':(k:Int)<16:=AJ
     have hsz:=hbq.size;have c0:wr.cell? ⟨g,k,aA⟩=aE (Z8 aI (zs.getD k 0)):=by
      obtain⟨_,_,e,_,hc⟩:=HZ.o.1.get (AG HZ.o.2.1);cases e;rw[hbq.cell (p:=⟨g,k,aA⟩) hg'];have:=hc k (AG HZ.o.2.1)
      rwa [Aq] at this
     have hx:=HZ.o.2.2.1 k;have hy:=WF k;have vx:=DN 65536 zs k (AG HZ.o.2.1);have vy:=DN 65536 pD k (by simpa[pD] using hk16);obtain⟨x',b',hb',hx0',hx1',hx2⟩:∃ x' b':Int,(b'=0\/b'=1)/\0<=x'/\x'<65536/\x'-b'*65536=zs.getD k 0-pD.getD k 0-bb:=by
      by_cases h:zs.getD k 0-pD.getD k 0-bb<0
      ·exact⟨zs.getD k 0-pD.getD k 0-bb+65536,1,.inr rfl,AJ,AJ,AJ⟩
      ·exact⟨zs.getD k 0-pD.getD k 0-bb,0,.inl rfl,AJ,AJ,AJ⟩
     have hstep:=NN _ _ _ _ _ _ _ _ _ _ hdv hx2;rw[<-vx,<-vy,<-Int.pow_succ,<-hdl,<-Fs,hdl] at hstep;have HST:AO (val 65536 (zs.take (k+1))-val 65536 (pD.take (k+1))=val 65536 (ds++[x'])-b'*65536^(k+1)):=hstep;have HDD:AO (∀ i,0<=(ds++[x']).getD i 0/\(ds++[x']).getD i 0<65536):=by
      intro i;rcases Nat.lt_trichotomy i ds.length with h|h|h
      ·rw[AS,BQ h,<-AS];exact hdd i
      ·subst h;rw[AS,BO Cl];simp;omega
      ·rw[DB (by simp;omega)];omega
     have HDL:AO (ds.length=k):=hdl;have LP:=Ty k;clear hstep hdv vx vy hdd hdl;generalize zs.getD k 0=x at *;generalize pD.getD k 0=y at *;obtain⟨hx0,hx1⟩:=hx;obtain⟨hy0,hy1⟩:=hy;go_wp2
     go_quiet (first|(go_at_call 117;refine Calls.quiet_of_same (LP _ hk16)))
     have O2:D3 (wr.drewN nq) w5.heap.size u5 ds:=hown;have B2:Below w5.heap.size w5 (wr.drewN nq):=⟨hbq.os,hbq.tape,hbq.output,hbq.size,hbq.block⟩
     have Z2:w5.heap.size<=(wr.drewN nq).heap.size:=hsz;clear hown hbq hsz c0 LP;generalize wr.drewN nq=w6 at *;have ht0:-65538<x-y-bb:=AJ
     have ht1:x-y-bb<65536:=AJ
     generalize x-y-bb=t at *;by_cases hneg:t<0
     ·obtain rfl:b'=1:=AJ
      obtain rfl:x'=t+65536:=AJ
      clear hx2 hbb hb';go_wp2_with (at_builtin;refine Db _ Vm rfl _ _ rfl w5.heap.size _ _ rfl (O2.alloc _) ⟨w6.heap.size,0,aA⟩ 1 1 [t+65536] rfl rfl ?c1 ?c2 ?c3 ?_);all_goals first|(intro j hj;obtain rfl:j=0:=AJ
                                                                                                                                                                                        simp[Addr.add];done)|skip
      case c2=>rw[HDL.o];omega
      case c3=>first|omega|(rw[A7];omega)
      intro v' w7 hown' hbel' _;have HO:AO (D3 w7 w5.heap.size v' (ds++[t+65536])):=hown';have HB7:AO (Below w5.heap.size w5 w7):=(B2.alloc AJ _).trans hbel';clear O2 hown' B2 hbel';go_wp2;go_roundw
      case rel=>exact⟨k+1,ds++[t+65536],1,AJ,by go_num,rfl,.inr rfl,by rw[Ak,HDL.o];rfl,HDD.o,HST.o,HO.o,HB7.o⟩
      case measure=>simp[intOf];omega
     ·obtain rfl:b'=0:=AJ
      obtain rfl:x'=t:=AJ
      clear hx2 hbb hb';go_wp2_with (at_builtin;refine Db _ Vm rfl _ _ rfl w5.heap.size _ _ rfl (O2.alloc _) ⟨w6.heap.size,0,aA⟩ 1 1 [x'] rfl rfl ?d1 ?d2 ?d3 ?_);all_goals first|(intro j hj;obtain rfl:j=0:=AJ
                                                                                                                                                                                   simp[Addr.add];done)|skip
      case d2=>rw[HDL.o];omega
      case d3=>first|omega|(rw[A7];omega)
      intro v' w7 hown' hbel' _;have HO:AO (D3 w7 w5.heap.size v' (ds++[x'])):=hown';have HB7:AO (Below w5.heap.size w5 w7):=(B2.alloc AJ _).trans hbel';clear O2 hown' B2 hbel';go_wp2;go_roundw
      case rel=>exact⟨k+1,ds++[x'],0,AJ,by go_num,rfl,.inl rfl,by rw[Ak,HDL.o];rfl,HDD.o,HST.o,HO.o,HB7.o⟩
      case measure=>simp[intOf];omega
    ·have hk16e:k=16:=AJ
     rw[hk16e,Ad (AG HZ.o.2.1),Ad (by simp[pD]),WE,HZ.o.2.2.2] at hdv;have z0:0<=val 65536 ds:=C0 AK (D2 hdd);have z1:val 65536 ds<65536^16:=by
      have:=EZ (B:=65536) AK (D2 hdd)
      rwa [hdl,hk16e] at this
     have hk16':¬ (k:Int)<16:=AJ
     have hUl:U<65536^16:=by
      have:=EZ (B:=65536) AK (D2 HZ.o.2.2.1)
      rwa [HZ.o.2.1,HZ.o.2.2.2] at this
     obtain⟨gd,cd,rfl,hgd,hgd',hdA⟩:=hown.at_;have hdl16:ds.length=16:=AJ
     rw[hdl16];have hs5:=HB.o.size;have HB8:AO (Below w.heap.size w wr):=HB.o.trans (hbq.mono hs5);rcases hbb with rfl|rfl
     ·have HP:AO (Yn w (GO V (m+1)) (Z7 (aE ⟨gd,0,aA⟩) 16 cd) wr):=by
       refine⟨⟨gd,cd,rfl,AJ,hgd',⟨ds,hdA,hdl16,hdd,?_⟩⟩,HB8.o⟩;rw[HN.o];unfold JV;rw[AP AJ];omega
      clear hdv z0 z1 hUl hdA hdd hown hbq hdl hdl16 HN HZ hk16e;go_wp2;go_roundw
      case rel=>exact⟨m+1,AJ,by go_num,HP.o⟩
      case measure=>simp[intOf];omega
     ·have HP:AO (Yn w (GO V (m+1)) (Z7 (aE ⟨g,0,aA⟩) 16 c) wr):=by
       obtain⟨q1,q2,q3,q4⟩:=HZ.o;refine⟨⟨g,c,rfl,hg,AG hbq.size,⟨zs,q1.below hbq,q2,q3,?_⟩⟩,HB8.o⟩;rw[HN.o,q4];unfold JV;rw[AQ AJ]
      clear hdv z0 z1 hUl hdA hdd hown hbq hdl hdl16 HN HZ hk16e;go_wp2;go_roundw
      case rel=>exact⟨m+1,AJ,by go_num,HP.o⟩
      case measure=>simp[intOf];omega
  ·have hme:m=2:=AJ
   have HP:AO (Yw w x (aK (Z7 (aE ⟨g,0,aA⟩) 16 c)) wr):=⟨g,c,rfl,hg,hg',⟨zs,hzA,hzl,hzd,by rw[hzv,hme];exact HFIN.o⟩,hbel⟩
   clear hzA hzl hzd hzv hbel hme;go_wp2
   go_ret
   exact HP.o
end Go.Proofs.YtjdhhgaelgemcaaGreatDoor
