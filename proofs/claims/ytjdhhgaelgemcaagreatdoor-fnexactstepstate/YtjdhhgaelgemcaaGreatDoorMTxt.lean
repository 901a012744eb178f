import Derived.Test.YtjdhhgaelgemcaaGreatDoorMRowB
import Derived.Test.YtjdhhgaelgemcaaGreatDoorMOwnB
import Derived.Test.YtjdhhgaelgemcaaGreatDoorMU8i
import Derived.BigRegion
import Derived.Lib.SmallJoins
namespace Go.Proofs.YtjdhhgaelgemcaaGreatDoor
open Go.ChangeShapes Go.WideShapes Go.ChangeAt Go.RowKit Go.Joins
set_option linter.unusedVariables false
theorem pow256 (n:Nat):(256:Int)^n=2^(8*n):=by rw[show(256:Int)=2^8 from rfl,←Int.pow_mul]
theorem Tryz.sizeNum:(Tryz.prog.info? 143).map (·.size)=some 4:=by kernel_rfl
theorem sizeNum {ns:List Int} (h:ns.length=4):(Tryz.prog.info? 143).map (·.size)=some ((ns.map (Value.int .u64)).toArray).size:=by rw[Tryz.sizeNum];simp[h]
theorem text_byte (V y:Int) (k:Nat) (hy:V/18446744073709551616^(k/8)%18446744073709551616=y):y/2^(8*(k%8))%256=V/256^k%256:=by
 have e1:(256:Int)^k=18446744073709551616^(k/8)*256^(k%8):=by
  rw[show(18446744073709551616:Int)=256^8 from by decide,←Int.pow_mul,←Int.pow_add]
  congr 1;omega
 have hp:(0:Int)≤18446744073709551616^(k/8):=Int.pow_nonneg (by decide);rw[e1,←Int.ediv_ediv_of_nonneg hp,←pow256,←hy];generalize V/18446744073709551616^(k/8)=z;have:k%8=0∨k%8=1∨k%8=2∨k%8=3∨k%8=4∨k%8=5∨k%8=6∨k%8=7:=by omega
 rcases this with h|h|h|h|h|h|h|h<;>rw[h]<;>simp only[Int.pow_succ,Int.pow_zero]<;>omega
theorem mod_pow_succ (V B:Int) (k:Nat) (hB:0<B):V%B^(k+1)=V%B^k+V/B^k%B*B^k:=by
 have hp:(0:Int)<B^k:=Int.pow_pos hB;rw[Int.pow_succ];have e1:=Int.emod_add_mul_ediv V (B^k);have e2:=Int.emod_add_mul_ediv (V/B^k) B;have e3:V=(V%B^k+V/B^k%B*B^k)+(B^k*B)*(V/B^k/B):=by grind
 have b0:=Int.emod_nonneg V (show B^k≠0 by omega);have b1:=Int.emod_lt_of_pos V hp;have b2:=Int.emod_nonneg (V/B^k) (show B≠0 by omega);have b3:=Int.emod_lt_of_pos (V/B^k) hB;have m0:0≤V/B^k%B*B^k:=Int.mul_nonneg b2 (by omega);have m1:V/B^k%B*B^k≤(B-1)*B^k:=Int.mul_le_mul_of_nonneg_right (by omega) (by omega)
 conv=>lhs;rw[e3]
 rw[Int.add_mul_emod_self_left];apply Int.emod_eq_of_lt (by omega);have:(B-1)*B^k=B^k*B-B^k:=by grind
 omega
structure TX (w:World) (g:Nat) (ns:List Int) (k:Nat) (wr:World):Prop where
 row:RowW wr g 143 ns
 txt:∃ bs:List Int,bs.length=32∧Byte bs∧val 256 (bs.take k)=val 18446744073709551616 ns%256^k∧wr.ownsRow w.heap.size 5 1 (.slice (some ⟨w.heap.size,0,none⟩) 32 32) 32 (bs.map (Value.int .u8))
 below:Below w.heap.size w wr
def TextPost (w:World) (V:Int) (e:Ending) (w':World):Prop:=
 ∃ bs:List Int,bs.length=32∧Byte bs∧val 256 bs=V∧e=.returned (.slice (some ⟨w.heap.size,0,none⟩) 32 32)∧Own w' w.heap.size (.slice (some ⟨w.heap.size,0,none⟩) 32 32) bs∧Below w.heap.size w w'
set_option maxRecDepth 100000 in
set_option maxHeartbeats 1000000 in
theorem text_any (g:Nat) (ns:List Int) (w:World) (hl:ns.length=4) (hr:RowW w g 143 ns) (hw:Wrd ns) :
  Calls Tryz.prog 129 #[.pointer (some ⟨g,0,none⟩)] w (TextPost w (val 18446744073709551616 ns)):=by
 obtain⟨i0,hi,hz0,hz1,hz2⟩:=info_parts Tryz.infoU8;have HI:Hid (i0.bytes=1):=hz2;clear hz2;have hg:=hr.lt;go_enter Tryz.func129,Tryz.ntmps129;go_wp2_with (first
  |(at_make;refine wpList_make_full _ rfl _ _ 26 rfl w.heap.size 5 i0 (.int .u8 0) 1 Tryz.underlying26 hi hz0 hz1 _ _ _ _ 32 rfl rfl rfl rfl ?c1 ?c2 ?c3 ?_)
  |fail)
 case c1=>rw[HI.out];omega
 case c2=>unfold maxLen;omega
 case c3=>exact Nat.le_refl _
 intro w1 hown hgrow;have hb1:Below w.heap.size w w1:=(Below.refl _ _).grown hgrow (Nat.le_refl _) (by simp);have hown0:w1.ownsRow w.heap.size 5 1 (.slice (some ⟨w.heap.size,0,none⟩) 32 32) 32 ((List.replicate 32 0).map (Value.int .u8)):=by
  have e:(madeCells #[Value.int IntKind.u8 0] 32).toList=(List.replicate 32 0).map (Value.int .u8):=by simp only[toList_madeCells_one,List.map_replicate]
  rw[←e];exact hown
 have HS:Hid (TX w g ns 0 w1):=⟨hr.below hb1 hg,⟨List.replicate 32 0,by simp,fun z hz=>by rw[List.mem_replicate] at hz;omega,by simp[val],hown0⟩,hb1⟩
 clear hown hgrow hown0 hb1 hr;go_wp2
 go_loopw [8] (fun i wr=>∃ k:Nat,k≤32∧i=.int .i64 k∧TX w g ns k wr) (fun i _=>32-(intOf i).toNat)
 case atStart=>exact⟨0,Nat.zero_le _,rfl,HS.out⟩
 case round=>
  clear HS;obtain⟨k,hk,rfl,hrow,⟨bs,hbl,hbb,hbv,hown⟩,hbel⟩:=hrel;by_cases hlt:k<32
  ·have hc:=hrow.cell (k/8) (by omega);have hx:=hw.get (k/8);have hdg:=val_digit (B:=18446744073709551616) (by decide) hw (k/8);have htb:=text_byte _ _ _ hdg;have hst:=hown.stored k (.int .u8 (val 18446744073709551616 ns/256^k%256));have hmem:wr.cell? ⟨w.heap.size,k,none⟩=some (.int .u8 (bs.getD k 0)):=by
    rw[hown.cellAt k (by omega)];simp[show k<bs.length by omega]
   have hfz:=hown.frozenAt k;rw[←List.map_set] at hst;have hd0:0≤val 18446744073709551616 ns/256^k%256:=by omega
   have hd1:val 18446744073709551616 ns/256^k%256<256:=by omega
   have HS:Hid (TX w g ns (k+1) (wr.setCell ⟨w.heap.size,k,none⟩ (.int .u8 (val 18446744073709551616 ns/256^k%256)))):=by
    refine⟨((Wr.refl _ _).setCell k _).rowW hrow (by omega),⟨bs.set k (val 18446744073709551616 ns/256^k%256),by rw[List.length_set];exact hbl,?_,?_,hst.1⟩,hbel.setCell (Nat.le_refl _) _⟩
    ·intro z hz;rcases List.mem_or_eq_of_mem_set hz with h'|rfl
     ·exact hbb z h'
     ·exact⟨hd0,hd1⟩
    ·rw[val_set_succ _ _ _ _ (by omega),hbv,mod_pow_succ _ _ _ (by decide)]
   have HTB:Hid (ns.getD (k/8) 0/2^(8*(k%8))%256=val 18446744073709551616 ns/256^k%256):=htb;clear hst hown hbel hrow hbv hdg htb hd0 hd1;generalize ns.getD (k/8) 0=x at *;generalize bs.getD k 0=y at *;generalize val 18446744073709551616 ns/256^k%256=z at *;obtain⟨hx0,hx1⟩:=hx;have hlt2:(k:Int)/8<4:=by omega
   go_wp2;rw[HTB.out];exact⟨⟨k+1,by omega,by go_num,HS.out⟩,by simp[intOf];omega⟩
  ·have hk32:k=32:=by omega
   subst hk32;rw[List.take_of_length_le (by omega)] at hbv;have n0:0≤val 18446744073709551616 ns:=val_nonneg (by decide) hw;have n1:val 18446744073709551616 ns<256^32:=by
    have:=val_lt (B:=18446744073709551616) (by decide) hw;rw[hl] at this;have e:(18446744073709551616:Int)^4=256^32:=by decide
    rwa [e] at this
   rw[Int.emod_eq_of_lt n0 n1] at hbv;have HP:Hid (TextPost w (val 18446744073709551616 ns) (.returned (.slice (some ⟨w.heap.size,0,none⟩) 32 32)) wr):=
    ⟨bs,hbl,hbb,hbv,rfl,⟨by rw[hbl];exact hown,_,_,by rw[hbl]⟩,hbel⟩
   clear hbv n0 n1 hown hbel hrow hbl hbb;go_wp2
   go_ret
   exact HP.out
end Go.Proofs.YtjdhhgaelgemcaaGreatDoor
namespace Go.Proofs.YtjdhhgaelgemcaaGreatDoor
open Go.ChangeShapes Go.WideShapes Go.ChangeAt Go.RowKit
set_option linter.unusedVariables false
theorem ktI:KT .i64 2 22 8:=⟨by kernel_rfl,Tryz.underlying22,by decide,by decide⟩
abbrev OwnI:=OwnK .i64 2
def FeR (w:World) (zs:List Int) (e:Ending) (w':World):Prop:=
 ∃ g c,e=.returned (.slice (some ⟨g,0,none⟩) 16 c)∧OwnI w' w.heap.size (.slice (some ⟨g,0,none⟩) 16 c) zs∧Below w.heap.size w w'
structure CarS (w:World) (g c:Nat) (zs:List Int) (wr:World):Prop where
 own:OwnI wr w.heap.size (.slice (some ⟨g,0,none⟩) 16 c) zs
 below:Below w.heap.size w wr
set_option maxHeartbeats 1000000 in
theorem carry_any (a:Option Addr) (cap:Nat) (xs:List Int) (w:World) (hx:xs.length=16) (ha:At .i64 w a xs) (M C:Int) (hM:Bd M xs) (hM0:0≤M) (hM1:M≤4611686018427387904) (hC:M≤65535*C) (hC1:C≤140737488355328) :
  Calls Tryz.prog 116 #[.slice a 16 cap] w (FeR w (carryL xs)):=by
 obtain⟨b0,off,rfl,hb0,hc⟩:=ha.get (by omega);have HN:Hid (∀ i,i<16→(w.alloc (.cells #[] 2)).cell? ((⟨b0,off,none⟩:Addr).add i)=some (.int .i64 (xs.getD i 0))):=fun i hi=>by
  rw[Addr.add_lit,((Below.refl w.heap.size w).alloc (Nat.le_refl _) (.cells #[] 2)).cell (p:=⟨b0,off+i,none⟩) hb0];exact hc i (by omega)
 have HX:Hid (xs.length=16):=hx;have HBD:Hid (∀ i,-C≤cy xs i∧cy xs i≤C):=cy_bd hM hC hM0;have HM:Hid (Bd M xs):=hM;clear hc ha hx hM;go_enter Tryz.func116,Tryz.ntmps116;go_wp2_with (at_builtin;refine wpList_appK _ ktI rfl _ _ rfl w.heap.size _ [] rfl (OwnK.empty _ _ (Nat.le_refl _)) ⟨b0,off,none⟩ 16 _ xs rfl HX.out HN.out ?c2 ?c3 ?_)
 case c2=>decide
 case c3=>simp
 intro v' w1 hown' hbel' _;have hB1:Below w.heap.size w w1:=((Below.refl _ _).alloc (Nat.le_refl _) _).trans hbel';obtain⟨g,c,rfl,hg,hg',_⟩:=hown'.at_;rw[HX.out] at hown' ⊢;have HS:Hid (CarS w g c (cst xs 0) w1):=⟨by rw[cst_zero xs HX.out];exact hown',hB1⟩
 clear hown' hB1 hbel' HN;go_wp2
 go_loopw [4] (fun i wr=>∃ k:Nat,k≤16∧i=.int .i64 k∧((k<16∧CarS w g c (cst xs k) wr)∨(k=16∧CarS w g c (carryL xs) wr))) (fun i _=>16-(intOf i).toNat)
 case atStart=>exact⟨0,by decide,rfl,.inl ⟨by decide,HS.out⟩⟩
 case round=>
  clear HS;obtain⟨k,hk,rfl,hst⟩:=hrel;by_cases hlt:k<16
  ·have hst':CarS w g c (cst xs k) wr:=by
    rcases hst with⟨_,h⟩|⟨h,_⟩
    ·exact h
    ·omega
   obtain⟨hown,hbel⟩:=hst';clear hst;obtain⟨hcl,hch⟩:=HBD.out k;obtain⟨hcl',hch'⟩:=HBD.out (k+1);obtain⟨hml,hmh⟩:=HM.out k;obtain⟨hml',hmh'⟩:=HM.out (k+1);have hcs:cy xs (k+1)=(xs.getD k 0+cy xs k)/65536:=rfl;have hget:(cst xs k).getD k 0=xs.getD k 0+cy xs k:=by rw[cst_get _ _ _ hlt];unfold cdig;simp
   obtain⟨c0,f0,o0⟩:=OwnK.set (cst_len xs k) hown k ((xs.getD k 0+cy xs k)%65536) hlt;rw[hget] at c0;by_cases hk15:k<15
   ·have hget2:((cst xs k).set k ((xs.getD k 0+cy xs k)%65536)).getD (k+1) 0=xs.getD (k+1) 0:=by
     rw[getD_set_eq _ _ _ _ (by rw[cst_len];omega),if_neg (by omega),cst_get _ _ _ (by omega)];unfold cdig;rw[if_neg (by omega),if_neg (by omega)]
    obtain⟨c1,f1,o1⟩:=OwnK.set (by rw[List.length_set,cst_len]) o0 (k+1) (xs.getD (k+1) 0+cy xs (k+1)) (by omega);rw[hget2] at c1;rw[cst_step xs k hk15] at o1;have HO:Hid (CarS w g c (cst xs (k+1)) ((wr.setCell ⟨g,k,none⟩ (.int .i64 ((xs.getD k 0+cy xs k)%65536))).setCell ⟨g,k+1,none⟩ (.int .i64 (xs.getD (k+1) 0+cy xs (k+1))))):=⟨o1,(hbel.setCell hg _).setCell hg _⟩
    have HCS:Hid (cy xs (k+1)=(xs.getD k 0+cy xs k)/65536):=hcs;clear o0 o1 hget hget2 hown hbel hcs;generalize cy xs (k+1)=c' at *;generalize cy xs k=cc at *;generalize xs.getD k 0=x at *;generalize xs.getD (k+1) 0=x' at *;have hq0:x+cc-(x+cc)/65536*65536=(x+cc)%65536:=by omega
    have hlt':(k:Int)<15:=by omega
    have hcs2:c'=(x+cc)/65536:=HCS.out;clear HCS;subst hcs2;go_wp2;exact⟨⟨k+1,by omega,by go_num,.inl ⟨by omega,HO.out⟩⟩,by simp[intOf];omega⟩
   ·have hke:k=15:=by omega
    have hget0:0≤((cst xs 15).set 15 ((xs.getD 15 0+cy xs 15)%65536)).getD 0 0∧((cst xs 15).set 15 ((xs.getD 15 0+cy xs 15)%65536)).getD 0 0<65536:=by
     rw[getD_set_eq _ _ _ _ (by rw[cst_len];decide),if_neg (by decide),cst_get _ _ _ (by decide)];unfold cdig;rw[if_pos (by decide)];omega
    obtain⟨c1,f1,o1⟩:=OwnK.set (by rw[List.length_set,cst_len]) o0 0 (((cst xs k).set k ((xs.getD k 0+cy xs k)%65536)).getD 0 0+38*cy xs (k+1)) (by decide);have hl:=cst_last xs;have e16:cy xs 16=cy xs (k+1):=by rw[hke]
    rw[e16] at hl;have HK:Hid (k=15):=hke;rw[←hke] at hl hget0;rw[hl] at o1;have HO:Hid (CarS w g c (carryL xs) ((wr.setCell ⟨g,k,none⟩ (.int .i64 ((xs.getD k 0+cy xs k)%65536))).setCell ⟨g,0,none⟩ (.int .i64 (((cst xs k).set k ((xs.getD k 0+cy xs k)%65536)).getD 0 0+38*cy xs (k+1))))):=⟨o1,(hbel.setCell hg _).setCell hg _⟩
    have HCS:Hid (cy xs (k+1)=(xs.getD k 0+cy xs k)/65536):=hcs;clear o0 o1 hget hown hbel hcs hl e16 hke;generalize ((cst xs k).set k ((xs.getD k 0+cy xs k)%65536)).getD 0 0=y at *;generalize cy xs (k+1)=c' at *;generalize cy xs k=cc at *;generalize xs.getD k 0=x at *;obtain⟨hy0,hy1⟩:=hget0;have hq0:x+cc-(x+cc)/65536*65536=(x+cc)%65536:=by omega
    have hlt':¬ (k:Int)<15:=by omega
    have hcs2:c'=(x+cc)/65536:=HCS.out;clear HCS;subst hcs2;go_wp2;exact⟨⟨k+1,by omega,by go_num,.inr ⟨by have:=HK.out;omega,HO.out⟩⟩,by simp[intOf];omega⟩
  ·have hst':CarS w g c (carryL xs) wr:=by
    rcases hst with⟨_,h⟩|⟨_,h⟩
    ·omega
    ·exact h
   have HP:Hid (FeR w (carryL xs) (.returned (.slice (some ⟨g,0,none⟩) 16 c)) wr):=⟨g,c,rfl,hst'.own,hst'.below⟩
   clear hst hst';go_wp2
   go_ret
   exact HP.out
theorem dN_dN (w:World) (m n:Nat):(w.drewN m).drewN n=w.drewN (m+n):=by
 simp[World.drewN,Nat.add_assoc]
def FeA (w:World) (a:Option Addr) (x:Int):Prop:=∃ zs,At .i64 w a zs∧R zs∧fv zs=x
def FeP (w:World) (x:Int) (e:Ending) (w':World):Prop:=
 ∃ g c,e=.returned (.slice (some ⟨g,0,none⟩) 16 c)∧w.heap.size≤g∧g<w'.heap.size∧FeA w' (some ⟨g,0,none⟩) x∧Below w.heap.size w w'
theorem FeA.below {w w':World} {a:Option Addr} {x:Int} (h:FeA w a x) (hb:Below w.heap.size w w'):FeA w' a x:=by
 obtain⟨zs,h1,h2⟩:=h;exact⟨zs,h1.below hb,h2⟩
theorem FeR.fe {w:World} {zs:List Int} {x:Int} {e:Ending} {w':World} (h:FeR w zs e w') (hR:R zs) (hv:fv zs=x):FeP w x e w':=by
 obtain⟨g,c,he,ho,hb⟩:=h;obtain⟨hA,h1,h2⟩:=ho.atS;exact⟨g,c,he,h1,h2,⟨zs,hA,hR,hv⟩,hb⟩
set_option maxHeartbeats 400000 in
theorem small_any (x:Int) (w:World) (h0:-1048576≤x) (h1:x≤1048576):Calls Tryz.prog 87 #[.int .i64 x] w (FeP w (x%fp)):=by
 obtain⟨t1,t2,t3⟩:=two_R (xs:=smallL x) rfl (smallL_bd (M:=1048576) ⟨h0,h1⟩) (by decide) (by decide);have HT:Hid (R (carryL (carryL (smallL x)))∧fv (carryL (carryL (smallL x)))=x%fp):=⟨t1,by rw[t2];unfold fv;rw[smallL_val]⟩
 have HB2:Hid (Bd 20401160191 (carryL (smallL x))):=t3;have HS:Hid (OwnI (w.alloc (.cells #[.int .i64 x] 2)) w.heap.size (.slice (some ⟨w.heap.size,0,none⟩) 1 1) (x::List.replicate 0 0)):=OwnK.lit w _ [x] (Nat.le_refl _) (by simp);clear t1 t2 t3;go_enter Tryz.func87,Tryz.ntmps87;go_wp2
 go_loopw [3,4] (fun v i wr=>∃ k:Nat,k≤15∧i=.int .i64 ((k:Int)+1)∧OwnI wr w.heap.size v (x::List.replicate k 0)∧Below w.heap.size w wr) (fun _ i _=>16-(intOf i).toNat)
 case atStart=>exact⟨0,by decide,rfl,HS.out,(Below.refl _ _).alloc (Nat.le_refl _) _⟩
 case round=>
  clear HS;obtain⟨k,hk,rfl,hown,hbel⟩:=hrel;by_cases hlt:k<15
  ·have hsz:=hbel.size;have hlt':(k:Int)+1<16:=by omega
   go_wp2_with (at_builtin;refine wpList_appK _ ktI rfl _ _ rfl w.heap.size _ _ rfl (hown.alloc _) ⟨wr.heap.size,0,none⟩ 1 1 [0] rfl rfl ?c1 ?c2 ?c3 ?_);all_goals first|(intro j hj;obtain rfl:j=0:=by omega
                                                                                                                                                                          simp[Addr.add];done)|skip
   case c2=>simp;omega
   case c3=>first|omega|(rw[World.size_alloc];omega)
   intro v' w1 hown' hbel' _;have HO:Hid (OwnI w1 w.heap.size v' (x::List.replicate (k+1) 0)):=by rw[List.replicate_succ'];exact hown'
   have HB:Hid (Below w.heap.size w w1):=(hbel.alloc (by omega) _).trans hbel';clear hown hown' hbel hbel';go_wp2;go_roundw
   case rel=>exact⟨k+1,by omega,by go_num,HO.out,HB.out⟩
   case measure=>simp[intOf];omega
  ·have hk15:k=15:=by omega
   have ho:OwnI wr w.heap.size u3 (smallL x):=by rw[hk15] at hown;exact hown
   obtain⟨g,c,rfl,hg,hg',hA⟩:=ho.at_;have hl:(smallL x).length=16:=rfl;rw[hl];clear ho hown;have hlt':¬ (k:Int)+1<16:=by omega
   go_wp2_with fail;refine(carry_any _ c (smallL x) _ rfl hA 1048576 17 (smallL_bd ⟨h0,h1⟩) (by decide) (by decide) (by decide) (by decide)).mono ?_;rintro e w1 ⟨g1,c1,rfl,o1,b1⟩;obtain⟨hA1,_,_⟩:=o1.atS;have s1:=b1.size;have hB1:Below w.heap.size w w1:=hbel.trans (b1.mono hbel.size);clear hA o1 b1 hbel hk15;go_wp2_with fail;refine(carry_any _ c1 (carryL (smallL x)) _ (carryL_len _) hA1 20401160191 311304 HB2.out (by decide) (by decide) (by decide) (by decide)).mono ?_;rintro e w2 h2;have HP:Hid (FeP w (x%fp) e w2):=by
    obtain⟨g2,c2,rfl,p1,p2,p3,p4⟩:=h2.fe HT.out.1 HT.out.2;exact⟨g2,c2,rfl,by have:=hB1.size;omega,p2,p3,hB1.trans (p4.mono hB1.size)⟩
   obtain⟨g2,c2,rfl,_⟩:=h2;clear hA1 hB1;go_wp2
   go_ret
   exact HP.out
set_option maxHeartbeats 1000000 in
theorem fmul_any (a a':Option Addr) (cap cap':Nat) (x y:Int) (w:World) (ha:FeA w a x) (ha':FeA w a' y) :
  Calls Tryz.prog 86 #[.slice a 16 cap,.slice a' 16 cap'] w (FeP w (x*y%fp)):=by
 obtain⟨xs,hA,hR,rfl⟩:=ha;obtain⟨ys,hA',hR',rfl⟩:=ha';obtain⟨b0,off,rfl,hb0,hc⟩:=hA.get (by have:=hR.1;omega);obtain⟨b1,off',rfl,hb1,hc'⟩:=hA'.get (by have:=hR'.1;omega);obtain⟨t1,t2,t3⟩:=two_R (mulL_len xs ys) (mulL_bd hR hR') (by decide) (by decide);have HT:Hid (R (carryL (carryL (mulL xs ys)))∧fv (carryL (carryL (mulL xs ys)))=fv xs*fv ys%fp):=⟨t1,by rw[t2,fv_mulL _ _ hR.1 hR'.1]⟩
 have HB2:Hid (Bd 20401160191 (carryL (mulL xs ys))):=t3;have HB1:Hid (Bd 17592186044416 (mulL xs ys)):=mulL_bd hR hR';have HC:Hid (∀ i,i<16→w.cell? ⟨b0,off+i,none⟩=some (.int .i64 (xs.getD i 0))):=fun i hi=>hc i (by have:=hR.1;omega)
 have HC':Hid (∀ i,i<16→w.cell? ⟨b1,off'+i,none⟩=some (.int .i64 (ys.getD i 0))):=fun i hi=>hc' i (by have:=hR'.1;omega)
 have HS:Hid (∀ s n:Nat,n≤16→-69063840000≤cs xs ys s n∧cs xs ys s n≤69063840000):=fun s n hn=>by
  have:=cs_bd hR.2 hR'.2 (by decide) s n;omega
 have HR:Hid (R xs∧R ys):=⟨hR,hR'⟩
 clear t1 t2 t3 hc hc' hA hA' hR hR';go_enter Tryz.func86,Tryz.ntmps86;go_wp2
 go_loopw [5,6] (fun v i wr=>∃ k:Nat,k≤16∧i=.int .i64 k∧OwnI wr w.heap.size v ((mulL xs ys).take k)∧Below w.heap.size w wr) (fun _ i _=>16-(intOf i).toNat)
 case atStart=>exact⟨0,by decide,rfl,OwnK.empty _ _ (Nat.le_refl _),(Below.refl _ _).alloc (Nat.le_refl _) _⟩
 case round=>
  obtain⟨k,hk,rfl,hown,hbel⟩:=hrel;by_cases hlt:k<16
  ·have hlt':(k:Int)<16:=by omega
   have HO:Hid (OwnI wr w.heap.size u5 ((mulL xs ys).take k)):=hown;have HBE:Hid (Below w.heap.size w wr):=hbel;clear hown hbel;obtain⟨w5,hw5⟩:∃ x,x=wr:=⟨_,rfl⟩
   subst hw5;go_wp2
   go_loopw [7,9] (fun l i wq=>∃(n q:Nat),n≤k+1∧i=.int .i64 n∧l=.int .i64 (cs xs ys k n)∧wq=w5.drewN q) (fun _ i _=>17-(intOf i).toNat)
   case atStart=>exact⟨0,0,Nat.zero_le _,rfl,rfl,rfl⟩
   case round=>
    obtain⟨n,q,hn,rfl,rfl,rfl⟩:=hrel;by_cases hnk:n≤k
    ·have hnk':(n:Int)≤(k:Int):=by omega
     have hx:=(HR.out.1).2 n;have hy:=(HR.out.2).2 (k-n);have c0:w5.cell? ⟨b0,off+n,none⟩=some (.int .i64 (xs.getD n 0)):=by
      rw[HBE.out.cell (p:=⟨b0,off+n,none⟩) hb0];exact HC.out n (by omega)
     have c1:w5.cell? ⟨b1,off'+(k-n),none⟩=some (.int .i64 (ys.getD (k-n) 0)):=by
      rw[HBE.out.cell (p:=⟨b1,off'+(k-n),none⟩) hb1];exact HC'.out (k-n) (by omega)
     have hsn:=HS.out k n (by omega);have hsn1:=HS.out k (n+1) (by omega);have hcs:cs xs ys k (n+1)=cs xs ys k n+xs.getD n 0*ys.getD (k-n) 0:=rfl;obtain⟨pr,hpr⟩:∃ pr,pr=xs.getD n 0*ys.getD (k-n) 0:=⟨_,rfl⟩
     rw[←hpr] at hcs;have hw1:wrap64 (xs.getD n 0*ys.getD (k-n) 0)=pr:=by rw[←hpr];unfold wrap64;omega
     have hsub:((k:Int)-(n:Int))=((k-n:Nat):Int):=by omega
     have hkn16:((k-n:Nat):Int)<16:=by omega
     have hn16:(n:Int)<16:=by omega
     rw[hcs] at hsn1;have HCS:Hid (cs xs ys k (n+1)=cs xs ys k n+pr):=hcs;clear hcs hpr hlt';generalize xs.getD n 0=x at *;generalize ys.getD (k-n) 0=y at *;generalize cs xs ys k n=S at *;obtain⟨s0,s1⟩:=hsn;obtain⟨s2,s3⟩:=hsn1;obtain⟨x0,x1⟩:=hx;obtain⟨y0,y1⟩:=hy;go_wp2
     go_quiet (fail)
     rw[dN_dN];clear c0 c1 hw1 hsub hkn16 x0 x1 y0 y1;go_wp2;go_roundw
     case rel=>exact⟨n+1,q+nq,by omega,by go_num,by rw[HCS.out],rfl⟩
     case measure=>simp[intOf];omega
    ·have hnk':¬ (n:Int)≤(k:Int):=by omega
     obtain rfl:n=k+1:=by omega
     have HL:Hid (cs xs ys k (k+1)=loS xs ys k):=rfl;rw[HL.out];have HLB:Hid (-69063840000≤loS xs ys k∧loS xs ys k≤69063840000):=HS.out k (k+1) (by omega);generalize hlo:loS xs ys k=lo at *;have HLO:Hid (loS xs ys k=lo):=hlo;clear hlo HL;have O5:OwnI (w5.drewN q) w.heap.size u5 ((mulL xs ys).take k):=HO.out;have B5:Below w.heap.size w (w5.drewN q):=⟨HBE.out.os,HBE.out.tape,HBE.out.output,HBE.out.size,HBE.out.block⟩
     have HO6:Hid (OwnI (w5.drewN q) w.heap.size u5 ((mulL xs ys).take k)):=O5;have HBE6:Hid (Below w.heap.size w (w5.drewN q)):=B5;clear HO HBE O5 B5;generalize w5.drewN q=w6 at *;have hk1:((k+1:Nat):Int)=(k:Int)+1:=by omega
     rw[hk1];clear hk1;go_wp2
     go_loopw [8,10] (fun l i wq=>∃(n q:Nat),k+1≤n∧n≤16∧i=.int .i64 n∧l=.int .i64 (cs xs ys (16+k) n)∧wq=w6.drewN q) (fun _ i _=>16-(intOf i).toNat)
     case atStart=>exact⟨k+1,0,Nat.le_refl _,by omega,by go_num,by rw[cs_zero_from HR.out.2.1 k (k+1) (Nat.le_refl _)],rfl⟩
     case round=>
      obtain⟨n,q,hnl,hnh,rfl,rfl,rfl⟩:=hrel;by_cases hn16:n<16
      ·have hx:=(HR.out.1).2 n;have hy:=(HR.out.2).2 (16+k-n);have c0:w6.cell? ⟨b0,off+n,none⟩=some (.int .i64 (xs.getD n 0)):=by
        rw[HBE6.out.cell (p:=⟨b0,off+n,none⟩) hb0];exact HC.out n (by omega)
       have c1:w6.cell? ⟨b1,off'+(16+k-n),none⟩=some (.int .i64 (ys.getD (16+k-n) 0)):=by
        rw[HBE6.out.cell (p:=⟨b1,off'+(16+k-n),none⟩) hb1];exact HC'.out (16+k-n) (by omega)
       have hsn:=HS.out (16+k) n (by omega);have hsn1:=HS.out (16+k) (n+1) (by omega);have hcs:cs xs ys (16+k) (n+1)=cs xs ys (16+k) n+xs.getD n 0*ys.getD (16+k-n) 0:=rfl;obtain⟨pr,hpr⟩:∃ pr,pr=xs.getD n 0*ys.getD (16+k-n) 0:=⟨_,rfl⟩
       rw[←hpr] at hcs;have hw1:wrap64 (xs.getD n 0*ys.getD (16+k-n) 0)=pr:=by rw[←hpr];unfold wrap64;omega
       have hsub:(16+(k:Int)-(n:Int))=((16+k-n:Nat):Int):=by omega
       have hkn16:((16+k-n:Nat):Int)<16:=by omega
       have hn16':(n:Int)<16:=by omega
       rw[hcs] at hsn1;have HCS:Hid (cs xs ys (16+k) (n+1)=cs xs ys (16+k) n+pr):=hcs;clear hcs hpr hlt';generalize xs.getD n 0=x at *;generalize ys.getD (16+k-n) 0=y at *;generalize cs xs ys (16+k) n=S at *;obtain⟨s0,s1⟩:=hsn;obtain⟨s2,s3⟩:=hsn1;obtain⟨x0,x1⟩:=hx;obtain⟨y0,y1⟩:=hy;go_wp2
       go_quiet (fail)
       rw[dN_dN];clear c0 c1 hw1 hsub hkn16 x0 x1 y0 y1;go_wp2;go_roundw
       case rel=>exact⟨n+1,q+nq,by omega,by omega,by go_num,by rw[HCS.out],rfl⟩
       case measure=>simp[intOf];omega
      ·obtain rfl:n=16:=by omega
       rw[←hiS_eq HR.out.1.1 k,show((16:Nat):Int)=16 from rfl];have HHB:Hid (-69063840000≤hiS xs ys k∧hiS xs ys k≤69063840000):=by
        rw[hiS_eq HR.out.1.1 k];exact HS.out (16+k) 16 (by omega)
       have HTK:Hid ((mulL xs ys).take (k+1)=(mulL xs ys).take k++[lo+38*hiS xs ys k]):=by
        show _=_
        have e:(mulL xs ys).getD k 0=lo+38*hiS xs ys k:=by rw[←HLO.out];exact rget _ k hlt
        rw[←e,List.take_succ_eq_append_getElem (by rw[mulL_len];exact hlt),List.getD_eq_getElem?_getD,List.getElem?_eq_getElem (by rw[mulL_len];exact hlt)];rfl
       have HTL:Hid (((mulL xs ys).take k).length=k):=by show _=_;rw[List.length_take,mulL_len];omega
       have O7:OwnI (w6.drewN q) w.heap.size u5 ((mulL xs ys).take k):=HO6.out;have B7:Below w.heap.size w (w6.drewN q):=⟨HBE6.out.os,HBE6.out.tape,HBE6.out.output,HBE6.out.size,HBE6.out.block⟩
       clear HO6 HBE6;generalize w6.drewN q=w7 at *;generalize hiS xs ys k=hi at *;obtain⟨l0,l1⟩:=HLB.out;obtain⟨h0,h1⟩:=HHB.out;have hsz:=B7.size;go_wp2_with (at_builtin;refine wpList_appK _ ktI rfl _ _ rfl w.heap.size _ _ rfl (O7.alloc _) ⟨w7.heap.size,0,none⟩ 1 1 [lo+38*hi] rfl rfl ?c1 ?c2 ?c3 ?_);all_goals first|(intro j hj;obtain rfl:j=0:=by omega
                                                                                                                                                                                                                                                                                                                               simp[Addr.add];done)|skip
       case c2=>rw[HTL.out];omega
       case c3=>first|omega|(rw[World.size_alloc];omega)
       intro v' w8 hown' hbel' _;have HO8:Hid (OwnI w8 w.heap.size v' ((mulL xs ys).take (k+1))):=by rw[HTK.out];exact hown'
       have HB8:Hid (Below w.heap.size w w8):=(B7.alloc (by omega) _).trans hbel';clear hown' hbel' O7 B7;go_wp2;go_roundw
       case rel=>exact⟨k+1,by omega,by go_num,HO8.out,HB8.out⟩
       case measure=>simp[intOf];omega
  ·have hk16:k=16:=by omega
   have ho:OwnI wr w.heap.size u5 (mulL xs ys):=by rw[hk16,List.take_of_length_le (by rw[mulL_len];decide)] at hown;exact hown
   obtain⟨g,c,rfl,hg,hg',hA⟩:=ho.at_;rw[mulL_len];clear ho hown;have hlt':¬ (k:Int)<16:=by omega
   go_wp2_with fail;refine(carry_any _ c (mulL xs ys) _ (mulL_len _ _) hA 17592186044416 536870912 HB1.out (by decide) (by decide) (by decide) (by decide)).mono ?_;rintro e w1 ⟨g1,c1,rfl,o1,b1'⟩;obtain⟨hA1,_,_⟩:=o1.atS;have hB1:Below w.heap.size w w1:=hbel.trans (b1'.mono hbel.size);clear hA o1 b1' hbel hk16;go_wp2_with fail;refine(carry_any _ c1 (carryL (mulL xs ys)) _ (carryL_len _) hA1 20401160191 311304 HB2.out (by decide) (by decide) (by decide) (by decide)).mono ?_;rintro e w2 h2;have HP:Hid (FeP w (fv xs*fv ys%fp) e w2):=by
    obtain⟨g2,c2,rfl,p1,p2,p3,p4⟩:=h2.fe HT.out.1 HT.out.2;exact⟨g2,c2,rfl,by have:=hB1.size;omega,p2,p3,hB1.trans (p4.mono hB1.size)⟩
   obtain⟨g2,c2,rfl,_⟩:=h2;clear hA1 hB1;go_wp2
   go_ret
   exact HP.out
set_option maxHeartbeats 400000 in
theorem l4P_any (i:Nat) (w:World) (hi:i<16):Calls Tryz.prog 117 #[.int .i64 i] w fun e w'=>e=.returned (.int .i64 (pD.getD i 0))∧w'=w:=by
 rw[pD_get i hi];by_cases h0:i=0
 ·subst h0;go_enter Tryz.func117,Tryz.ntmps117;go_wp2
  go_ret
  exact⟨rfl,rfl⟩
 ·rw[if_neg h0];have h0':((i:Int) == 0)=false:=by simp;omega
  by_cases h15:i=15
  ·subst h15;go_enter Tryz.func117,Tryz.ntmps117;go_wp2
   go_ret
   exact⟨rfl,rfl⟩
  ·rw[if_neg h15];have h15':((i:Int) == 15)=false:=by simp;omega
   go_enter Tryz.func117,Tryz.ntmps117;go_wp2
   go_ret
   exact⟨rfl,rfl⟩
def LsA (w:World) (a:Option Addr) (x:Int):Prop:=∃ zs,At .i64 w a zs∧zs.length=16∧(∀ i,0≤zs.getD i 0∧zs.getD i 0<65536)∧val 65536 zs=x
def LsP (w:World) (x:Int) (e:Ending) (w':World):Prop:=
 ∃ g c,e=.returned (.slice (some ⟨g,0,none⟩) 16 c)∧w.heap.size≤g∧g<w'.heap.size∧LsA w' (some ⟨g,0,none⟩) x∧Below w.heap.size w w'
theorem LsA.below {w w':World} {a:Option Addr} {x:Int} (h:LsA w a x) (hb:Below w.heap.size w w'):LsA w' a x:=by
 obtain⟨zs,h1,h2⟩:=h;exact⟨zs,h1.below hb,h2⟩
structure LsS (w:World) (x:Int) (v:Value) (wr:World):Prop where
 ls:∃ g c,v=.slice (some ⟨g,0,none⟩) 16 c∧w.heap.size≤g∧g<wr.heap.size∧LsA wr (some ⟨g,0,none⟩) x
 below:Below w.heap.size w wr
def less1 (x:Int):Int:=if fp≤x then x-fp else x
def lessN (x:Int):Nat→Int
 |0=>x
 |k+1=>less1 (lessN x k)
theorem lessN_two {x:Int} (h0:0≤x) (h1:x<65536^16):lessN x 2=x%fp:=by
 have e:(65536:Int)^16=2*fp+38:=by decide
 rw[e] at h1;have e2:lessN x 2=less1 (less1 x):=rfl;rw[e2];unfold less1;unfold fp at *;split<;>(try split)<;>omega
set_option maxHeartbeats 1000000 in
theorem least_any (a:Option Addr) (cap:Nat) (x:Int) (w:World) (ha:FeA w a x):Calls Tryz.prog 90 #[.slice a 16 cap] w (LsP w x):=by
 obtain⟨xs,hA,hR,hx⟩:=ha;have hd:=least_dig hR;have h1b:Bd 65700 xs:=hR.2;have h2b:Bd 65611 (carryL xs):=by
  have hc:=cy_bd (C:=2) hR.2 (by decide) (by decide) 16;exact(carry_bd (by decide) hc).1
 have h3b:Bd 65535 (carryL (carryL xs)):=fun i=>by have:=hd i;omega
 have hid:=carry_id (carryL_len _) hd;have hfv:val 65536 (carryL (carryL xs))%fp=x:=by
  rw[←hx];have:=fv_carry (carryL xs) (carryL_len _);rw[fv_carry xs hR.1] at this;exact this
 have hv0:0≤val 65536 (carryL (carryL xs)):=val_nonneg (by decide) (dig_of_get hd);have hv1:val 65536 (carryL (carryL xs))<65536^16:=by
  have:=val_lt (B:=65536) (by decide) (dig_of_get hd)
  rwa [carryL_len] at this
 have hfin:=lessN_two hv0 hv1;rw[hfv] at hfin;have HD:Hid (∀ i,0≤(carryL (carryL xs)).getD i 0∧(carryL (carryL xs)).getD i 0<65536):=hd;have HFIN:Hid (lessN (val 65536 (carryL (carryL xs))) 2=x):=hfin;have HR:Hid (xs.length=16):=hR.1;clear hfv hv0 hv1 hfin hR hx hd;go_enter Tryz.func90,Tryz.ntmps90;go_wp2_with fail;refine(carry_any _ cap xs _ HR.out hA 65700 2 h1b (by decide) (by decide) (by decide) (by decide)).mono ?_;rintro e w1 ⟨g1,c1,rfl,o1,b1⟩;obtain⟨hA1,_,_⟩:=o1.atS;clear o1 hA;go_wp2_with fail;refine(carry_any _ c1 (carryL xs) _ (carryL_len _) hA1 65611 2 h2b (by decide) (by decide) (by decide) (by decide)).mono ?_;rintro e w2 ⟨g2,c2,rfl,o2,b2⟩;obtain⟨hA2,_,_⟩:=o2.atS;have B2:Below w.heap.size w w2:=b1.trans (b2.mono b1.size);clear o2 hA1 b1 b2 h1b h2b;generalize hys:carryL (carryL xs)=ys at *;have HYL:Hid (ys.length=16):=by rw[←hys];exact carryL_len _
 clear hys;go_wp2_with fail;refine(carry_any _ c2 ys _ HYL.out hA2 65535 1 h3b (by decide) (by decide) (by decide) (by decide)).mono ?_;rintro e w3 ⟨g3,c3,rfl,o3,b3⟩;rw[hid] at o3;obtain⟨hA3,_,_⟩:=o3.atS;have B3:Below w.heap.size w w3:=B2.trans (b3.mono B2.size);clear o3 hA2 b3 B2;go_wp2_with fail;refine(carry_any _ c3 ys _ HYL.out hA3 65535 1 h3b (by decide) (by decide) (by decide) (by decide)).mono ?_;rintro e w4 ⟨g4,c4,rfl,o4,b4⟩;rw[hid] at o4;obtain⟨hA4,hg4,hg4'⟩:=o4.atS;have B4:Below w.heap.size w w4:=B3.trans (b4.mono B3.size);have HS:Hid (LsS w (lessN (val 65536 ys) 0) (.slice (some ⟨g4,0,none⟩) 16 c4) w4):=⟨⟨g4,c4,rfl,by have:=B3.size;omega,hg4',⟨ys,hA4,HYL.out,HD.out,rfl⟩⟩,B4⟩
 clear o4 hA3 hA4 b4 B3 B4 h3b hid HD HYL;generalize val 65536 ys=V at *;go_wp2
 go_loopw [3,4] (fun v i wr=>∃ m:Nat,m≤2∧i=.int .i64 m∧LsS w (lessN V m) v wr) (fun _ i _=>2-(intOf i).toNat)
 case atStart=>exact⟨0,by decide,rfl,HS.out⟩
 case round=>
  clear HS;obtain⟨m,hm,rfl,⟨⟨g,c,rfl,hg,hg',⟨zs,hzA,hzl,hzd,hzv⟩⟩,hbel⟩⟩:=hrel;by_cases hm2:m<2
  ·have hm2':(m:Int)<2:=by omega
   have HN:Hid (lessN V (m+1)=less1 (lessN V m)):=rfl;have HZ:Hid (At .i64 wr (some ⟨g,0,none⟩) zs∧zs.length=16∧(∀ i,0≤zs.getD i 0∧zs.getD i 0<65536)∧val 65536 zs=lessN V m):=⟨hzA,hzl,hzd,hzv⟩
   have HB:Hid (Below w.heap.size w wr):=hbel;clear hzA hzl hzd hzv hbel;generalize lessN V m=U at *;obtain⟨w5,hw5⟩:∃ x,x=wr:=⟨_,rfl⟩
   subst hw5;go_wp2
   go_loopw [5,6,7] (fun v b i wq=>∃(k:Nat) (ds:List Int) (bb:Int),k≤16∧i=.int .i64 k∧b=.int .i64 bb∧(bb=0∨bb=1)∧ds.length=k∧(∀ i,0≤ds.getD i 0∧ds.getD i 0<65536)∧val 65536 (zs.take k)-val 65536 (pD.take k)=val 65536 ds-bb*65536^k∧OwnI wq w5.heap.size v ds∧Below w5.heap.size w5 wq) (fun _ _ i _=>16-(intOf i).toNat)
   case atStart=>exact⟨0,[],0,by decide,rfl,rfl,.inl rfl,rfl,fun i=>by simp,by simp[val],OwnK.empty _ _ (Nat.le_refl _),(Below.refl _ _).alloc (Nat.le_refl _) _⟩
   case round=>
    obtain⟨k,ds,bb,hk,rfl,rfl,hbb,hdl,hdd,hdv,hown,hbq⟩:=hrel;by_cases hk16:k<16
    ·have hk16':(k:Int)<16:=by omega
     have hsz:=hbq.size;have c0:wr.cell? ⟨g,k,none⟩=some (.int .i64 (zs.getD k 0)):=by
      obtain⟨_,_,e,_,hc⟩:=HZ.out.1.get (by have:=HZ.out.2.1;omega);cases e;rw[hbq.cell (p:=⟨g,k,none⟩) hg'];have:=hc k (by have:=HZ.out.2.1;omega)
      rwa [Nat.zero_add] at this
     have hx:=HZ.out.2.2.1 k;have hy:=pD_dig k;have vx:=val_take 65536 zs k (by have:=HZ.out.2.1;omega);have vy:=val_take 65536 pD k (by simpa[pD] using hk16);obtain⟨x',b',hb',hx0',hx1',hx2⟩:∃ x' b':Int,(b'=0∨b'=1)∧0≤x'∧x'<65536∧x'-b'*65536=zs.getD k 0-pD.getD k 0-bb:=by
      by_cases h:zs.getD k 0-pD.getD k 0-bb<0
      ·exact⟨zs.getD k 0-pD.getD k 0-bb+65536,1,.inr rfl,by omega,by omega,by omega⟩
      ·exact⟨zs.getD k 0-pD.getD k 0-bb,0,.inl rfl,by omega,by omega,by omega⟩
     have hstep:=sub_step16 _ _ _ _ _ _ _ _ _ _ hdv hx2;rw[←vx,←vy,←Int.pow_succ,←hdl,←val_snoc,hdl] at hstep;have HST:Hid (val 65536 (zs.take (k+1))-val 65536 (pD.take (k+1))=val 65536 (ds++[x'])-b'*65536^(k+1)):=hstep;have HDD:Hid (∀ i,0≤(ds++[x']).getD i 0∧(ds++[x']).getD i 0<65536):=by
      intro i;rcases Nat.lt_trichotomy i ds.length with h|h|h
      ·rw[List.getD_eq_getElem?_getD,List.getElem?_append_left h,←List.getD_eq_getElem?_getD];exact hdd i
      ·subst h;rw[List.getD_eq_getElem?_getD,List.getElem?_append_right (Nat.le_refl _)];simp;omega
      ·rw[getD_past (by simp;omega)];omega
     have HDL:Hid (ds.length=k):=hdl;have LP:=l4P_any k;clear hstep hdv vx vy hdd hdl;generalize zs.getD k 0=x at *;generalize pD.getD k 0=y at *;obtain⟨hx0,hx1⟩:=hx;obtain⟨hy0,hy1⟩:=hy;go_wp2
     go_quiet (first|(go_at_call 117;refine Calls.quiet_of_same (LP _ hk16)))
     have O2:OwnI (wr.drewN nq) w5.heap.size u5 ds:=hown;have B2:Below w5.heap.size w5 (wr.drewN nq):=⟨hbq.os,hbq.tape,hbq.output,hbq.size,hbq.block⟩
     have Z2:w5.heap.size≤(wr.drewN nq).heap.size:=hsz;clear hown hbq hsz c0 LP;generalize wr.drewN nq=w6 at *;have ht0:-65538<x-y-bb:=by omega
     have ht1:x-y-bb<65536:=by omega
     generalize x-y-bb=t at *;by_cases hneg:t<0
     ·obtain rfl:b'=1:=by omega
      obtain rfl:x'=t+65536:=by omega
      clear hx2 hbb hb';go_wp2_with (at_builtin;refine wpList_appK _ ktI rfl _ _ rfl w5.heap.size _ _ rfl (O2.alloc _) ⟨w6.heap.size,0,none⟩ 1 1 [t+65536] rfl rfl ?c1 ?c2 ?c3 ?_);all_goals first|(intro j hj;obtain rfl:j=0:=by omega
                                                                                                                                                                                                    simp[Addr.add];done)|skip
      case c2=>rw[HDL.out];omega
      case c3=>first|omega|(rw[World.size_alloc];omega)
      intro v' w7 hown' hbel' _;have HO:Hid (OwnI w7 w5.heap.size v' (ds++[t+65536])):=hown';have HB7:Hid (Below w5.heap.size w5 w7):=(B2.alloc (by omega) _).trans hbel';clear O2 hown' B2 hbel';go_wp2;go_roundw
      case rel=>exact⟨k+1,ds++[t+65536],1,by omega,by go_num,rfl,.inr rfl,by rw[List.length_append,HDL.out];rfl,HDD.out,HST.out,HO.out,HB7.out⟩
      case measure=>simp[intOf];omega
     ·obtain rfl:b'=0:=by omega
      obtain rfl:x'=t:=by omega
      clear hx2 hbb hb';go_wp2_with (at_builtin;refine wpList_appK _ ktI rfl _ _ rfl w5.heap.size _ _ rfl (O2.alloc _) ⟨w6.heap.size,0,none⟩ 1 1 [x'] rfl rfl ?d1 ?d2 ?d3 ?_);all_goals first|(intro j hj;obtain rfl:j=0:=by omega
                                                                                                                                                                                               simp[Addr.add];done)|skip
      case d2=>rw[HDL.out];omega
      case d3=>first|omega|(rw[World.size_alloc];omega)
      intro v' w7 hown' hbel' _;have HO:Hid (OwnI w7 w5.heap.size v' (ds++[x'])):=hown';have HB7:Hid (Below w5.heap.size w5 w7):=(B2.alloc (by omega) _).trans hbel';clear O2 hown' B2 hbel';go_wp2;go_roundw
      case rel=>exact⟨k+1,ds++[x'],0,by omega,by go_num,rfl,.inl rfl,by rw[List.length_append,HDL.out];rfl,HDD.out,HST.out,HO.out,HB7.out⟩
      case measure=>simp[intOf];omega
    ·have hk16e:k=16:=by omega
     rw[hk16e,List.take_of_length_le (by have:=HZ.out.2.1;omega),List.take_of_length_le (by simp[pD]),pD_val,HZ.out.2.2.2] at hdv;have z0:0≤val 65536 ds:=val_nonneg (by decide) (dig_of_get hdd);have z1:val 65536 ds<65536^16:=by
      have:=val_lt (B:=65536) (by decide) (dig_of_get hdd)
      rwa [hdl,hk16e] at this
     have hk16':¬ (k:Int)<16:=by omega
     have hUl:U<65536^16:=by
      have:=val_lt (B:=65536) (by decide) (dig_of_get HZ.out.2.2.1)
      rwa [HZ.out.2.1,HZ.out.2.2.2] at this
     obtain⟨gd,cd,rfl,hgd,hgd',hdA⟩:=hown.at_;have hdl16:ds.length=16:=by omega
     rw[hdl16];have hs5:=HB.out.size;have HB8:Hid (Below w.heap.size w wr):=HB.out.trans (hbq.mono hs5);rcases hbb with rfl|rfl
     ·have HP:Hid (LsS w (lessN V (m+1)) (.slice (some ⟨gd,0,none⟩) 16 cd) wr):=by
       refine⟨⟨gd,cd,rfl,by omega,hgd',⟨ds,hdA,hdl16,hdd,?_⟩⟩,HB8.out⟩;rw[HN.out];unfold less1;rw[if_pos (by omega)];omega
      clear hdv z0 z1 hUl hdA hdd hown hbq hdl hdl16 HN HZ hk16e;go_wp2;go_roundw
      case rel=>exact⟨m+1,by omega,by go_num,HP.out⟩
      case measure=>simp[intOf];omega
     ·have HP:Hid (LsS w (lessN V (m+1)) (.slice (some ⟨g,0,none⟩) 16 c) wr):=by
       obtain⟨q1,q2,q3,q4⟩:=HZ.out;refine⟨⟨g,c,rfl,hg,by have:=hbq.size;omega,⟨zs,q1.below hbq,q2,q3,?_⟩⟩,HB8.out⟩;rw[HN.out,q4];unfold less1;rw[if_neg (by omega)]
      clear hdv z0 z1 hUl hdA hdd hown hbq hdl hdl16 HN HZ hk16e;go_wp2;go_roundw
      case rel=>exact⟨m+1,by omega,by go_num,HP.out⟩
      case measure=>simp[intOf];omega
  ·have hme:m=2:=by omega
   have HP:Hid (LsP w x (.returned (.slice (some ⟨g,0,none⟩) 16 c)) wr):=⟨g,c,rfl,hg,hg',⟨zs,hzA,hzl,hzd,by rw[hzv,hme];exact HFIN.out⟩,hbel⟩
   clear hzA hzl hzd hzv hbel hme;go_wp2
   go_ret
   exact HP.out
end Go.Proofs.YtjdhhgaelgemcaaGreatDoor
