import Derived.Test.YtncomnkdlpoelaaGreatDoorMBase
import Derived.Test.YtncomnkdlpoelaaGreatDoorMU8i
import Derived.BigRegion
import Derived.Lib.SmallJoins
import Derived.Shelf.Bits.Mul64
import Derived.Laws.Externs
import Derived.Deep.MidRow
namespace Go.Proofs.YtncomnkdlpoelaaGreatDoor
open Go.ChangeShapes Go.WideShapes Go.ChangeAt Go.RowKit Go.Joins
set_option linter.unusedVariables false
theorem pow256 (n:Nat):(256:Int)^n=2^(8*n):=by rw[show(256:Int)=2^8 from rfl,←Int.pow_mul]
theorem Tryz.sizeNum:(Tryz.prog.info? 146).map (·.size)=some 4:=by kernel_rfl
theorem sizeNum {ns:List Int} (h:ns.length=4):(Tryz.prog.info? 146).map (·.size)=some ((ns.map (Value.int .u64)).toArray).size:=by rw[Tryz.sizeNum];simp[h]
theorem text_byte (V y:Int) (k:Nat) (hy:V/18446744073709551616^(k/8)%18446744073709551616=y):y/2^(8*(k%8))%256=V/256^k%256:=by
 have e1:(256:Int)^k=18446744073709551616^(k/8)*256^(k%8):=by
  rw[show(18446744073709551616:Int)=256^8 from by decide,←Int.pow_mul,←Int.pow_add]
  congr 1;omega
 have hp:(0:Int)≤18446744073709551616^(k/8):=Int.pow_nonneg (by decide);rw[e1,←Int.ediv_ediv_of_nonneg hp,←pow256,←hy];generalize V/18446744073709551616^(k/8)=z;have:k%8=0∨k%8=1∨k%8=2∨k%8=3∨k%8=4∨k%8=5∨k%8=6∨k%8=7:=by omega
 rcases this with h|h|h|h|h|h|h|h<;>rw[h]<;>simp only[Int.pow_succ,Int.pow_zero]<;>omega
theorem mod_pow_succ (V B:Int) (k:Nat) (hB:0<B):V%B^(k+1)=V%B^k+V/B^k%B*B^k:=by
 have hp:(0:Int)<B^k:=Int.pow_pos hB;rw[Int.pow_succ];have e1:=Int.emod_add_mul_ediv V (B^k);have e2:=Int.emod_add_mul_ediv (V/B^k) B;have e3:V=(V%B^k+V/B^k%B*B^k)+(B^k*B)*(V/B^k/B):=by grind
 have b0:=Int.emod_nonneg V (show B^k≠0 by omega);have b1:=Int.emod_lt_of_pos V hp;have b2:=Int.emod_nonneg (V/B^k) (show B≠0 by omega);have b3:=Int.emod_lt_of_pos (V/B^k) hB;have m0:0≤V/B^k%B*B^k:=Int.mul_nonneg b2 (by omega);have m1:V/B^k%B*B^k≤(B-1)*B^k:=Int.mul_le_mul_of_nonneg_right (by omega) (by omega)
 conv=>lhs;rw[e3]
 rw[Int.add_mul_emod_self_left];apply Int.emod_eq_of_lt (by omega);have:(B-1)*B^k=B^k*B-B^k:=by grind
 omega
structure TX (w:World) (g:Nat) (ns:List Int) (k:Nat) (wr:World):Prop where
 row:RowW wr g 146 ns
 txt:∃ bs:List Int,bs.length=32∧Byte bs∧val 256 (bs.take k)=val 18446744073709551616 ns%256^k∧wr.ownsRow w.heap.size 5 1 (.slice (some ⟨w.heap.size,0,none⟩) 32 32) 32 (bs.map (Value.int .u8))
 below:Below w.heap.size w wr
def TextPost (w:World) (V:Int) (e:Ending) (w':World):Prop:=
 ∃ bs:List Int,bs.length=32∧Byte bs∧val 256 bs=V∧e=.returned (.slice (some ⟨w.heap.size,0,none⟩) 32 32)∧Own w' w.heap.size (.slice (some ⟨w.heap.size,0,none⟩) 32 32) bs∧Below w.heap.size w w'
set_option maxRecDepth 100000 in
set_option maxHeartbeats 1000000 in
theorem text_any (g:Nat) (ns:List Int) (w:World) (hl:ns.length=4) (hr:RowW w g 146 ns) (hw:Wrd ns) :
  Calls Tryz.prog 128 #[.pointer (some ⟨g,0,none⟩)] w (TextPost w (val 18446744073709551616 ns)):=by
 obtain⟨i0,hi,hz0,hz1,hz2⟩:=info_parts Tryz.infoU8;have HI:=hdI <| hz2
 clear hz2;have hg:=hr.lt;go_enter Tryz.func128,Tryz.ntmps128;go_wp2_with (first
  |(at_make;refine wpList_make_full _ rfl _ _ 22 rfl w.heap.size 5 i0 (.int .u8 0) 1 Tryz.underlying22 hi hz0 hz1 _ _ _ _ 32 rfl rfl rfl rfl ?c1 ?c2 ?c3 ?_)
  |fail)
 case c1=>rw[HI.out];omega
 case c2=>unfold maxLen;omega
 case c3=>exact Nat.le_refl _
 intro w1 hown hgrow;have hb1:=(Below.refl _ _).grown hgrow (Nat.le_refl _) (by simp);have hown0:w1.ownsRow w.heap.size 5 1 (.slice (some ⟨w.heap.size,0,none⟩) 32 32) 32 ((List.replicate 32 0).map (Value.int .u8)):=by
  have e:(madeCells #[Value.int IntKind.u8 0] 32).toList=(List.replicate 32 0).map (Value.int .u8):=by simp only[toList_madeCells_one,List.map_replicate]
  rw[←e];exact hown
 have HS:Hid (TX w g ns 0 w1):=⟨hr.below hb1 hg,⟨List.replicate 32 0,by simp,fun z hz=>by rw[List.mem_replicate] at hz;omega,by simp[val],hown0⟩,hb1⟩
 clear hown hgrow hown0 hb1 hr;go_wp2
 go_loopw [8] (fun i wr=>∃ k:Nat,k≤32∧i=.int .i64 k∧TX w g ns k wr) (fun i _=>32-(intOf i).toNat)
 case atStart=>exact⟨0,Nat.zero_le _,rfl,HS.out⟩
 case round=>
  clear HS;obtain⟨k,hk,rfl,hrow,⟨bs,hbl,hbb,hbv,hown⟩,hbel⟩:=hrel;by_cases hlt:k<32
  ·have hc:=hrow.cell (k/8) (by omega);have hx:=hw.get (k/8);have hdg:=val_digit (B:=18446744073709551616) (by decide) hw (k/8);have htb:=text_byte _ _ _ hdg;have hst:=hown.stored k (.int .u8 (val 18446744073709551616 ns/256^k%256));have hmem:wr.cell? ⟨w.heap.size,k,none⟩=some (.int .u8 (bs.getD k 0)):=by
    rw[hown.cellAt k (by omega)];simp[show k<bs.length by omega]
   have hfz:=hown.frozenAt k;rw[←List.map_set] at hst;have hd0:0≤val 18446744073709551616 ns/256^k%256:=by omega
   have hd1:val 18446744073709551616 ns/256^k%256<256:=by omega
   have HS:Hid (TX w g ns (k+1) (wr.setCell ⟨w.heap.size,k,none⟩ (.int .u8 (val 18446744073709551616 ns/256^k%256)))):=by
    refine⟨((Wr.refl _ _).setCell k _).rowW hrow (by omega),⟨bs.set k (val 18446744073709551616 ns/256^k%256),by rw[List.length_set];exact hbl,?_,?_,hst.1⟩,hbel.setCell (Nat.le_refl _) _⟩
    ·intro z hz;rcases List.mem_or_eq_of_mem_set hz with h'|rfl
     ·exact hbb z h'
     ·exact⟨hd0,hd1⟩
    ·rw[val_set_succ _ _ _ _ (by omega),hbv,mod_pow_succ _ _ _ (by decide)]
   have HTB:=hdI <| htb
   clear hst hown hbel hrow hbv hdg htb hd0 hd1;generalize ns.getD (k/8) 0=x at *;generalize bs.getD k 0=y at *;generalize val 18446744073709551616 ns/256^k%256=z at *;obtain⟨hx0,hx1⟩:=hx;have hlt2:(k:Int)/8<4:=by omega
   go_wp2;rw[HTB.out];exact⟨⟨k+1,by omega,by go_num,HS.out⟩,by simp[intOf];omega⟩
  ·have hk32:k=32:=by omega
   subst hk32;rw[List.take_of_length_le (by omega)] at hbv;have n0:=val_nonneg (by decide) hw;have n1:val 18446744073709551616 ns<256^32:=by
    have:=val_lt (B:=18446744073709551616) (by decide) hw;rw[hl] at this;have e:(18446744073709551616:Int)^4=256^32:=by decide
    rwa [e] at this
   rw[Int.emod_eq_of_lt n0 n1] at hbv;have HP:Hid (TextPost w (val 18446744073709551616 ns) (.returned (.slice (some ⟨w.heap.size,0,none⟩) 32 32)) wr):=
    ⟨bs,hbl,hbb,hbv,rfl,⟨by rw[hbl];exact hown,_,_,by rw[hbl]⟩,hbel⟩
   clear hbv n0 n1 hown hbel hrow hbl hbb;go_wp2
   go_ret
   exact HP.out
end Go.Proofs.YtncomnkdlpoelaaGreatDoor
namespace Go.Proofs.YtncomnkdlpoelaaGreatDoor
open Go.ChangeShapes Go.WideShapes Go.ChangeAt Go.RowKit
set_option linter.unusedVariables false
def EAt (w:World) (g o:Nat) (es:List Int):Prop:=g<w.heap.size∧EOk es∧∀ i,i<5→w.cell? ⟨g,o+i,none⟩=some (.int .u64 (es.getD i 0))
theorem EAt.below {w w':World} {g o:Nat} {es:List Int} (h:EAt w g o es) (hb:Below w.heap.size w w'):EAt w' g o es:=
 ⟨by have:=hb.size;have:=h.1;omega,h.2.1,fun i hi=>by rw[hb.cell (p:=⟨g,o+i,none⟩) h.1];exact h.2.2 i hi⟩
def EP (w:World) (x:Int) (e:Ending) (w':World):Prop:=
 ∃ es:List Int,EOk es∧ev es=x∧e=.returned (.agg (es.map (Value.int .u64)).toArray)∧Below w.heap.size w w'
theorem Tryz.sizeEl:(Tryz.prog.info? 141).map (·.size)=some 5:=by kernel_rfl
theorem sizeEl {ns:List Int} (h:ns.length=5):(Tryz.prog.info? 141).map (·.size)=some ((ns.map (Value.int .u64)).toArray).size:=by rw[Tryz.sizeEl];simp[h]
def mixE (f:Nat→Int) (zs:List Int) (k:Nat):List Int:=(List.range 5).map fun i=>if i<k then f i else zs.getD i 0
theorem mixE_len (f:Nat→Int) (zs:List Int) (k:Nat):(mixE f zs k).length=5:=by simp[mixE]
theorem mixE_get (f:Nat→Int) (zs:List Int) (k i:Nat) (h:i<5):(mixE f zs k).getD i 0=if i<k then f i else zs.getD i 0:=rget5 _ i h
theorem mixE_zero (f:Nat→Int) (zs:List Int) (h:zs.length=5):mixE f zs 0=zs:=by
 apply list5 (mixE_len _ _ _) h;intro i hi;rw[mixE_get _ _ _ _ hi];simp
theorem mixE_step (f:Nat→Int) (zs:List Int) (k:Nat) (h:k<5):(mixE f zs k).set k (f k)=mixE f zs (k+1):=by
 apply list5 (by simp[mixE_len]) (mixE_len _ _ _);intro i hi;rw[getD_set_eq _ _ _ _ (by simp[mixE_len];omega),mixE_get _ _ _ _ hi,mixE_get _ _ _ _ hi];by_cases h2:i=k
 ·subst h2;simp
 ·have h3:(i<k)↔(i<k+1):=by omega
  simp[h2,h3]
theorem val5 (B:Int) (f:Nat→Int) (zs:List Int):val B (mixE f zs 5)=val B ((List.range 5).map f):=by
 congr 1
theorem val_sub5 (B:Int) (f g:Nat→Int) (n:Nat):val B ((List.range n).map fun i=>f i-g i)=val B ((List.range n).map f)-val B ((List.range n).map g):=by
 have:=val_lin B f g n (-1);rw[show(fun i=>f i-g i)=fun i=>f i+-1*g i from by funext i;omega,this];omega
structure PlS (w:World) (zs:List Int) (wr:World):Prop where
 res:RowW wr w.heap.size 141 [0,0,0,0,0]
 row:RowW wr (w.heap.size+1) 141 zs
 below:Below w.heap.size w wr
theorem PlS.set {w:World} {zs:List Int} {wr:World} (h:PlS w zs wr) (k:Nat) (x:Int):PlS w (zs.set k x) ((wr.setCell ⟨w.heap.size+1,k,none⟩ (.int .u64 x)).drew):=
 ⟨((Wr.refl _ _).setCell k _).rowW h.res (by omega),h.row.set k x,(h.below.setCell (by simp) _).drew⟩
theorem PlS.carry {w:World} {zs ys:List Int} {wr w':World} (h:PlS w zs wr) (hs:StS wr (w.heap.size+1) ys w'):PlS w ys w':=
 ⟨hs.wr.rowW h.res (by omega),hs.row,h.below.trans (hs.wr.below (by omega))⟩
def addL (xs ys:List Int):List Int:=mixE (fun i=>xs.getD i 0+ys.getD i 0) [0,0,0,0,0] 5
theorem addL_ok {xs ys:List Int} (hx:EOk xs) (hy:EOk ys):U62 (addL xs ys)∧EOk (carryE (addL xs ys))∧ev (carryE (addL xs ys))=(ev xs+ev ys)%fp:=by
 have hb:∀ i,0≤(addL xs ys).getD i 0∧(addL xs ys).getD i 0<4503599627371008:=fun i=>by
  by_cases h:i<5
  ·unfold addL;rw[mixE_get _ _ _ _ h,if_pos h];have a0:=hx.2.1 i;have b0:=hy.2.1 i;rcases Nat.eq_zero_or_pos i with rfl|hi
   ·have:=hx.2.2.2;have:=hy.2.2.2;omega
   ·have:=hx.2.2.1 i hi;have:=hy.2.2.1 i hi;omega
  ·rw[getD_past (by unfold addL;rw[mixE_len];omega)];omega
 have hc:=gcy_le (C:=2) hb (by decide) (by decide) 5;refine⟨fun i=>by have:=hb i;omega,carryE_ok hc.1 (by omega),?_⟩;rw[ev_carryE (addL xs ys) (mixE_len _ _ _)];unfold ev addL;rw[val5,val_eq_range B51 xs 5 hx.1,val_eq_range B51 ys 5 hy.1,←Int.add_emod]
 congr 1
 have:=val_lin B51 (fun i=>xs.getD i 0) (fun i=>ys.getD i 0) 5 1;rw[show(fun i=>xs.getD i 0+ys.getD i 0)=fun i=>xs.getD i 0+1*ys.getD i 0 from by funext i;omega,this];omega
def twoP:List Int:=[4503599627370458,4503599627370494,4503599627370494,4503599627370494,4503599627370494]
theorem twoP_val:val B51 twoP=2*fp:=by decide
def subL (xs ys:List Int):List Int:=mixE (fun i=>twoP.getD i 0+xs.getD i 0-ys.getD i 0) twoP 5
theorem twoP_get (i:Nat) (h:i<5):4503599627370458≤twoP.getD i 0∧twoP.getD i 0≤4503599627370494:=by
 have:i=0∨i=1∨i=2∨i=3∨i=4:=by omega
 rcases this with rfl|rfl|rfl|rfl|rfl<;>decide
theorem subL_ok {xs ys:List Int} (hx:EOk xs) (hy:EOk ys):U62 (subL xs ys)∧EOk (carryE (subL xs ys))∧ev (carryE (subL xs ys))=(ev xs-ev ys)%fp:=by
 have hb:∀ i,0≤(subL xs ys).getD i 0∧(subL xs ys).getD i 0<6755399441056000:=fun i=>by
  by_cases h:i<5
  ·unfold subL;rw[mixE_get _ _ _ _ h,if_pos h];have a0:=hx.2.1 i;have b0:=hy.2.1 i;have t:=twoP_get i h;rcases Nat.eq_zero_or_pos i with rfl|hi
   ·have:=hx.2.2.2;have:=hy.2.2.2;omega
   ·have:=hx.2.2.1 i hi;have:=hy.2.2.1 i hi;omega
  ·rw[getD_past (by unfold subL;rw[mixE_len];omega)];omega
 have hc:=gcy_le (C:=3) hb (by decide) (by decide) 5;refine⟨fun i=>by have:=hb i;omega,carryE_ok hc.1 (by omega),?_⟩;rw[ev_carryE (subL xs ys) (mixE_len _ _ _)];unfold ev subL;have e0:=twoP_val;rw[val_eq_range B51 twoP 5 rfl] at e0;rw[val5,val_sub5 B51 (fun i=>twoP.getD i 0+xs.getD i 0) (fun i=>ys.getD i 0) 5];have:=val_lin B51 (fun i=>twoP.getD i 0) (fun i=>xs.getD i 0) 5 1;rw[show(fun i=>twoP.getD i 0+xs.getD i 0)=fun i=>twoP.getD i 0+1*xs.getD i 0 from by funext i;omega,this,e0,←val_eq_range B51 xs 5 hx.1,←val_eq_range B51 ys 5 hy.1,←Int.sub_emod];rw[show 2*fp+1*val B51 xs-val B51 ys=(val B51 xs-val B51 ys)+fp*2 by omega,Int.add_mul_emod_self_left]
set_option maxHeartbeats 1000000 in
theorem plus_any (g1 o1 g2 o2:Nat) (xs ys:List Int) (w:World) (h1:EAt w g1 o1 xs) (h2:EAt w g2 o2 ys) :
  Calls Tryz.prog 139 #[.pointer (some ⟨g1,o1,none⟩),.pointer (some ⟨g2,o2,none⟩)] w (EP w ((ev xs+ev ys)%fp)):=by
 obtain⟨q1,q2,q3⟩:=addL_ok h1.2.1 h2.2.1;have HQ:Hid (U62 (addL xs ys)∧EOk (carryE (addL xs ys))∧ev (carryE (addL xs ys))=(ev xs+ev ys)%fp):=⟨q1,q2,q3⟩
 have HS:Hid (PlS w (mixE (fun i=>xs.getD i 0+ys.getD i 0) [0,0,0,0,0] 0) ((w.alloc (.cells #[.int .u64 0,.int .u64 0,.int .u64 0,.int .u64 0,.int .u64 0] 141)).alloc (.cells #[.int .u64 0,.int .u64 0,.int .u64 0,.int .u64 0,.int .u64 0] 141))):=by
  rw[mixE_zero _ _ rfl];exact⟨heap_alloc2_old _ _ _,heap_alloc2_new _ _ _,((Below.refl _ _).alloc (Nat.le_refl _) _).alloc (by simp) _⟩
 have H1:=hdI <| h1
 have H2:=hdI <| h2
 clear q1 q2 q3 h1 h2;go_enter Tryz.func139,Tryz.ntmps139;go_wp2
 go_loopw [7] (fun i wr=>∃ k:Nat,k≤5∧i=.int .i64 k∧PlS w (mixE (fun i=>xs.getD i 0+ys.getD i 0) [0,0,0,0,0] k) wr) (fun i _=>5-(intOf i).toNat)
 case atStart=>exact⟨0,by decide,rfl,HS.out⟩
 case round=>
  clear HS;obtain⟨k,hk,rfl,hst⟩:=hrel;by_cases hlt:k<5
  ·have hlt':(k:Int)<5:=by omega
   have c1:=(H1.out.below hst.below).2.2 k hlt;have c2:=(H2.out.below hst.below).2.2 k hlt;have a0:=H1.out.2.1.2.1 k;have b0:=H2.out.2.1.2.1 k;have ab:xs.getD k 0<2251799813685504:=by
    rcases Nat.eq_zero_or_pos k with rfl|hi
    ·exact H1.out.2.1.2.2.2
    ·have:=H1.out.2.1.2.2.1 k hi;omega
   have bb:ys.getD k 0<2251799813685504:=by
    rcases Nat.eq_zero_or_pos k with rfl|hi
    ·exact H2.out.2.1.2.2.2
    ·have:=H2.out.2.1.2.2.1 k hi;omega
   have c3:=hst.row.cell k (by rw[mixE_len];exact hlt);have f3:=hst.row.frozen k;have s1:=hst.set k (xs.getD k 0+ys.getD k 0);rw[mixE_step (fun i=>xs.getD i 0+ys.getD i 0) _ k hlt] at s1;have HS1:=hdI <| s1
   clear s1 hst;generalize (mixE (fun i=>xs.getD i 0+ys.getD i 0) [0,0,0,0,0] k).getD k 0=z at *;generalize xs.getD k 0=x at *;generalize ys.getD k 0=y at *;go_wp2
   go_region
   clear c1 c2 c3 f3;generalize (wr.setCell ⟨w.heap.size+1,k,none⟩ (.int .u64 (x+y))).drew=w1 at *;go_wp2;go_roundw
   case rel=>exact⟨k+1,by omega,by go_num,HS1.out⟩
   case measure=>simp[intOf];omega
  ·obtain rfl:k=5:=by omega
   go_wp2_with fail;refine(carryE_any _ (addL xs ys) _ (mixE_len _ _ _) hst.row HQ.out.1).mono ?_;rintro e w1 ⟨rfl,hs⟩;have s1:=hst.carry hs;have hl:=HQ.out.2.1.1;have HSZ:=hdI <| sizeEl hl
   have HZ4:Hid (([0,0,0,0,0].map (Value.int .u64)).toArray.size=(((carryE (addL xs ys)).map (Value.int .u64)).toArray).size):=by show _=_;simp[hl]
   have HRS:=hdI <| s1.res
   have HRO:=hdI <| s1.row
   have HBE:=hdI <| s1.below
   clear s1 hs hst hl;generalize carryE (addL xs ys)=es at *;go_wp2_with (first
    |(refine wpList_load_row rfl 141 (.tmp 5) rfl (w.heap.size+1) rfl 141 _ (0,0) _ HRO.out Tryz.underlying141 rfl HSZ.out ?_)
    |(refine wpList_store_row rfl 141 (.tmp 4) (.tmp 25) rfl w.heap.size ((es.map (Value.int .u64)).toArray) rfl rfl 141 _ HRS.out HSZ.out HZ4.out (all_oneCell_toArray (ints_oneCell _ _)) ?_))
   refine bodyPost_ret (v:=.agg (es.map (Value.int .u64)).toArray) (results_cell_row rfl _ _ w.heap.size 141 _ (0,0) _ rfl (setRow_heap _ _ _ _ _ _ HRS.out) Tryz.underlying141 rfl HSZ.out) rfl ⟨es,HQ.out.2.1,HQ.out.2.2,rfl,?_⟩;exact HBE.out.trans ((Wr.setRow _ _ _).below (Nat.le_refl _))
set_option maxHeartbeats 1000000 in
theorem minus_any (g1 o1 g2 o2:Nat) (xs ys:List Int) (w:World) (h1:EAt w g1 o1 xs) (h2:EAt w g2 o2 ys) :
  Calls Tryz.prog 138 #[.pointer (some ⟨g1,o1,none⟩),.pointer (some ⟨g2,o2,none⟩)] w (EP w ((ev xs-ev ys)%fp)):=by
 obtain⟨q1,q2,q3⟩:=subL_ok h1.2.1 h2.2.1;have HQ:Hid (U62 (subL xs ys)∧EOk (carryE (subL xs ys))∧ev (carryE (subL xs ys))=(ev xs-ev ys)%fp):=⟨q1,q2,q3⟩
 have H1:=hdI <| h1
 have H2:=hdI <| h2
 clear q1 q2 q3 h1 h2;go_enter Tryz.func138,Tryz.ntmps138;have HR0:Hid (RowW ((w.alloc (.cells #[.int .u64 0,.int .u64 0,.int .u64 0,.int .u64 0,.int .u64 0] 141)).alloc (.cells #[.int .u64 0,.int .u64 0,.int .u64 0,.int .u64 0,.int .u64 0] 141)) w.heap.size 141 [0,0,0,0,0]):=heap_alloc2_old _ _ _;have HBB:Hid (Below w.heap.size w ((w.alloc (.cells #[.int .u64 0,.int .u64 0,.int .u64 0,.int .u64 0,.int .u64 0] 141)).alloc (.cells #[.int .u64 0,.int .u64 0,.int .u64 0,.int .u64 0,.int .u64 0] 141))):=((Below.refl _ _).alloc (Nat.le_refl _) _).alloc (by simp) _;have HR1:Hid (RowW ((w.alloc (.cells #[.int .u64 0,.int .u64 0,.int .u64 0,.int .u64 0,.int .u64 0] 141)).alloc (.cells #[.int .u64 0,.int .u64 0,.int .u64 0,.int .u64 0,.int .u64 0] 141)) (w.heap.size+1) 141 [0,0,0,0,0]):=heap_alloc2_new _ _ _;have HSZ:Hid ((Tryz.prog.info? 141).map (·.size)=some ((twoP.map (Value.int .u64)).toArray).size):=sizeEl rfl;go_wp2_with (first
  |(refine wpList_store_row rfl 141 (.tmp 5) (.tmp 7) rfl (w.heap.size+1) ((twoP.map (Value.int .u64)).toArray) rfl rfl 141 _ HR1.out HSZ.out rfl (all_oneCell_toArray (ints_oneCell _ _)) ?_)
  |fail)
 have HS:Hid (PlS w (mixE (fun i=>twoP.getD i 0+xs.getD i 0-ys.getD i 0) twoP 0) (((w.alloc (.cells #[.int .u64 0,.int .u64 0,.int .u64 0,.int .u64 0,.int .u64 0] 141)).alloc (.cells #[.int .u64 0,.int .u64 0,.int .u64 0,.int .u64 0,.int .u64 0] 141)).setRow (w.heap.size+1) (twoP.map (Value.int .u64)).toArray)):=by
  rw[mixE_zero _ _ rfl];have r0:=HR0.out;have r1:=HR1.out;have bb:=HBB.out;generalize (w.alloc (.cells #[.int .u64 0,.int .u64 0,.int .u64 0,.int .u64 0,.int .u64 0] 141)).alloc (.cells #[.int .u64 0,.int .u64 0,.int .u64 0,.int .u64 0,.int .u64 0] 141)=wz at *;exact⟨r0.setRow_other _ (by omega),r1.setRow twoP,bb.trans ((Wr.setRow _ _ _).below (by omega))⟩
 clear HR0 HR1 HSZ HBB;generalize ((w.alloc (.cells #[.int .u64 0,.int .u64 0,.int .u64 0,.int .u64 0,.int .u64 0] 141)).alloc (.cells #[.int .u64 0,.int .u64 0,.int .u64 0,.int .u64 0,.int .u64 0] 141)).setRow (w.heap.size+1) (twoP.map (Value.int .u64)).toArray=w0 at *
 go_loopw [8] (fun i wr=>∃ k:Nat,k≤5∧i=.int .i64 k∧PlS w (mixE (fun i=>twoP.getD i 0+xs.getD i 0-ys.getD i 0) twoP k) wr) (fun i _=>5-(intOf i).toNat)
 case atStart=>exact⟨0,by decide,rfl,HS.out⟩
 case round=>
  clear HS;obtain⟨k,hk,rfl,hst⟩:=hrel;by_cases hlt:k<5
  ·have hlt':(k:Int)<5:=by omega
   have c1:=(H1.out.below hst.below).2.2 k hlt;have c2:=(H2.out.below hst.below).2.2 k hlt;have a0:=H1.out.2.1.2.1 k;have b0:=H2.out.2.1.2.1 k;have ab:xs.getD k 0<2251799813685504:=by
    rcases Nat.eq_zero_or_pos k with rfl|hi
    ·exact H1.out.2.1.2.2.2
    ·have:=H1.out.2.1.2.2.1 k hi;omega
   have bb:ys.getD k 0<2251799813685504:=by
    rcases Nat.eq_zero_or_pos k with rfl|hi
    ·exact H2.out.2.1.2.2.2
    ·have:=H2.out.2.1.2.2.1 k hi;omega
   have c3:=hst.row.cell k (by rw[mixE_len];exact hlt);have f3:=hst.row.frozen k;have ht:=twoP_get k hlt;have hz:(mixE (fun i=>twoP.getD i 0+xs.getD i 0-ys.getD i 0) twoP k).getD k 0=twoP.getD k 0:=by rw[mixE_get _ _ _ _ hlt];simp
   rw[hz] at c3;have s1:=hst.set k (twoP.getD k 0+xs.getD k 0-ys.getD k 0);rw[mixE_step (fun i=>twoP.getD i 0+xs.getD i 0-ys.getD i 0) _ k hlt] at s1;have HS1:=hdI <| s1
   have HW:Hid (IntKind.u64.wrap (twoP.getD k 0+IntKind.u64.wrap (xs.getD k 0-ys.getD k 0))=twoP.getD k 0+xs.getD k 0-ys.getD k 0):=by
    show _=_
    rw[IntKind.wrap_u64,IntKind.wrap_u64];omega
   clear s1 hst hz;obtain⟨ht0,ht1⟩:=ht;generalize twoP.getD k 0=z at *;generalize xs.getD k 0=x at *;generalize ys.getD k 0=y at *;go_wp2
   go_region
   rw[HW.out];clear c1 c2 c3 f3;generalize (wr.setCell ⟨w.heap.size+1,k,none⟩ (.int .u64 (z+x-y))).drew=w1 at *;go_wp2;go_roundw
   case rel=>exact⟨k+1,by omega,by go_num,HS1.out⟩
   case measure=>simp[intOf];omega
  ·obtain rfl:k=5:=by omega
   go_wp2_with fail;refine(carryE_any _ (subL xs ys) _ (mixE_len _ _ _) hst.row HQ.out.1).mono ?_;rintro e w1 ⟨rfl,hs⟩;have s1:=hst.carry hs;have hl:=HQ.out.2.1.1;have HSZ:=hdI <| sizeEl hl
   have HZ4:Hid (([0,0,0,0,0].map (Value.int .u64)).toArray.size=(((carryE (subL xs ys)).map (Value.int .u64)).toArray).size):=by show _=_;simp[hl]
   have HRS:Hid (RowW w1 w.heap.size 141 [0,0,0,0,0]):=s1.res;have HRO:Hid (RowW w1 (w.heap.size+1) 141 (carryE (subL xs ys))):=s1.row;have HBE:Hid (Below w.heap.size w w1):=s1.below;clear s1 hs hst hl;generalize carryE (subL xs ys)=es at *;go_wp2_with (first
    |(refine wpList_load_row rfl 141 (.tmp 5) rfl (w.heap.size+1) rfl 141 _ (0,0) _ HRO.out Tryz.underlying141 rfl HSZ.out ?_)
    |(refine wpList_store_row rfl 141 (.tmp 4) (.tmp 29) rfl w.heap.size ((es.map (Value.int .u64)).toArray) rfl rfl 141 _ HRS.out HSZ.out HZ4.out (all_oneCell_toArray (ints_oneCell _ _)) ?_))
   refine bodyPost_ret (v:=.agg (es.map (Value.int .u64)).toArray) (results_cell_row rfl _ _ w.heap.size 141 _ (0,0) _ rfl (setRow_heap _ _ _ _ _ _ HRS.out) Tryz.underlying141 rfl HSZ.out) rfl ⟨es,HQ.out.2.1,HQ.out.2.2,rfl,?_⟩;exact HBE.out.trans ((Wr.setRow _ _ _).below (Nat.le_refl _))
end Go.Proofs.YtncomnkdlpoelaaGreatDoor
namespace Go.Proofs.YtncomnkdlpoelaaGreatDoor
open Go.ChangeShapes Go.WideShapes Go.ChangeAt Go.RowKit Go.Shelf Go.Lib
set_option linter.unusedVariables false
set_option maxHeartbeats 1000000 in
theorem mul64_nat (x y:Nat) (hx:x<18446744073709551616) (hy:y<18446744073709551616) (w:World) :
  Calls Tryz.prog 164 #[.int .u64 x,.int .u64 y] w fun e w'=>e=.returned (.tuple #[.int .u64 ((x*y/18446744073709551616:Nat):Int),.int .u64 ((x*y%18446744073709551616:Nat):Int)])∧w'=w:=by
 obtain⟨b1,b2,b3,hhi⟩:=Lib.mul64_hi x y hx hy;have p1:=Lib.half_mul_le (a:=x/4294967296) (b:=y/4294967296) (by omega) (by omega);have p2:=Lib.half_mul_le (a:=x/4294967296) (b:=y%4294967296) (by omega) (by omega);have p3:=Lib.half_mul_le (a:=x%4294967296) (b:=y/4294967296) (by omega) (by omega);have q1:x/4294967296*(y/4294967296)<18446744073709551616:=by omega
 have q2:x/4294967296*(y%4294967296)<18446744073709551616:=by omega
 have q3:x%4294967296*(y/4294967296)<18446744073709551616:=by omega
 have q4:x/4294967296*(y/4294967296)+(x/4294967296*(y%4294967296)+x%4294967296*(y%4294967296)/4294967296)/4294967296<18446744073709551616:=by omega
 have q5:x/4294967296*(y/4294967296)+(x/4294967296*(y%4294967296)+x%4294967296*(y%4294967296)/4294967296)/4294967296+((x/4294967296*(y%4294967296)+x%4294967296*(y%4294967296)/4294967296)%4294967296+x%4294967296*(y/4294967296))/4294967296<18446744073709551616:=by omega
 go_enter Tryz.func164,Tryz.ntmps164;go_wp2;simp only[Mul64.maskN x hx,Mul64.maskN y hy,Mul64.divN,Mul64.mulN,Mul64.addN,Mul64.wrapN _ b1,Mul64.wrapN _ q2,Mul64.wrapN _ b2,Mul64.maskN _ b2,Mul64.wrapN _ q3,Mul64.wrapN _ b3,Mul64.wrapN _ q1,Mul64.wrapN _ q4,Mul64.wrapN _ q5,Mul64.wrapM (x*y)];rw[hhi]
 go_ret2
 exact⟨rfl,rfl⟩
theorem mul64_any (x y:Int) (hx:0≤x) (hx':x<18446744073709551616) (hy:0≤y) (hy':y<18446744073709551616) (w:World) :
  Calls Tryz.prog 164 #[.int .u64 x,.int .u64 y] w fun e w'=>e=.returned (.tuple #[.int .u64 (x*y/18446744073709551616),.int .u64 (x*y%18446744073709551616)])∧w'=w:=by
 obtain⟨x,rfl⟩:=Int.eq_ofNat_of_zero_le hx;obtain⟨y,rfl⟩:=Int.eq_ofNat_of_zero_le hy;refine(mul64_nat x y (by omega) (by omega) w).mono ?_;rintro e w' ⟨rfl,rfl⟩;refine⟨?_,rfl⟩;rw[Int.natCast_ediv,Int.natCast_emod,Int.natCast_mul];rfl
def add64E:Array Value→Sem Value:=fun args=>do
 let (x, y, c) ← Extern.MathBitsCarry.three "Add64" args
 pure (Extern.MathBitsCarry.pair ((x+y+c)%Extern.MathBitsCarry.m64) ((x+y+c)/Extern.MathBitsCarry.m64))
theorem run_add64E (x y:Nat) (w:World) :
  (add64E #[.int .u64 x,.int .u64 y,.int .u64 0]).run Tryz.prog w=
   .ok (.tuple #[.int .u64 (((x+y)%18446744073709551616:Nat):Int),.int .u64 (((x+y)/18446744073709551616:Nat):Int)]) w:=rfl
theorem add64_0 (x y:Int) (hx:0≤x) (hy:0≤y) (w:World):(callFunc 165 #[.int .u64 x,.int .u64 y,.int .u64 0]).run Tryz.prog w=
  .ok (.value (.tuple #[.int .u64 ((x+y)%18446744073709551616),.int .u64 ((x+y)/18446744073709551616)])) w:=by
 obtain⟨x,rfl⟩:=Int.eq_ofNat_of_zero_le hx;obtain⟨y,rfl⟩:=Int.eq_ofNat_of_zero_le hy;have e1:(((x+y)%18446744073709551616:Nat):Int)=((x:Int)+y)%18446744073709551616:=by omega
 have e2:(((x+y)/18446744073709551616:Nat):Int)=((x:Int)+y)/18446744073709551616:=by omega
 rw[run_callFunc_extern Tryz.func165 (by kernel_rfl) (by kernel_rfl) (by kernel_rfl) (e:=add64E) (by kernel_rfl),run_add64E x y,e1,e2];rfl
structure WdS (w:World) (g:Nat) (S:Int) (wr:World):Prop where
 row:wr.heap[g]?=some (.cells #[.int .u64 (S/18446744073709551616),.int .u64 (S%18446744073709551616)] 206 (0,0))
 wr:Wr g w wr
set_option maxHeartbeats 1000000 in
theorem addP_any (g:Nat) (S a b:Int) (w:World) (hS:0≤S) (hr:w.heap[g]?=some (.cells #[.int .u64 (S/18446744073709551616),.int .u64 (S%18446744073709551616)] 206 (0,0))) (ha:0≤a) (ha':a<18446744073709551616) (hb:0≤b) (hb':b<18446744073709551616) (hT:S+a*b<340282366920938463463374607431768211456) :
  Calls Tryz.prog 152 #[.pointer (some ⟨g,0,none⟩),.int .u64 a,.int .u64 b] w fun e w'=>e=.returned (.tuple #[])∧WdS w g (S+a*b) w':=by
 obtain⟨p,hp⟩:∃ p,p=a*b:=⟨_,rfl⟩
 have hp0:0≤p:=by rw[hp];exact Int.mul_nonneg ha hb
 have M:=mul64_any a b ha ha' hb hb';rw[←hp] at M hT ⊢;clear hp;have c0:w.cell? ⟨g,0,none⟩=some (.int .u64 (S/18446744073709551616)):=cell_of_row _ _ _ _ _ _ hr;have c1:w.cell? ⟨g,1,none⟩=some (.int .u64 (S%18446744073709551616)):=cell_of_row _ _ _ _ _ _ hr;have f0:=frozen_of_row w g 0 _ _ hr;have f1:=frozen_of_row w g 1 _ _ hr;have r1:=heap_setCell_same w g 1 _ 206 (.int .u64 ((S%18446744073709551616+p%18446744073709551616)%18446744073709551616)) hr;have r2:=heap_setCell_same _ g 0 _ 206 (.int .u64 (S/18446744073709551616+(p/18446744073709551616+(S%18446744073709551616+p%18446744073709551616)/18446744073709551616))) r1;have HP:Hid (WdS w g (S+p) ((w.setCell ⟨g,1,none⟩ (.int .u64 ((S%18446744073709551616+p%18446744073709551616)%18446744073709551616))).setCell ⟨g,0,none⟩ (.int .u64 (S/18446744073709551616+(p/18446744073709551616+(S%18446744073709551616+p%18446744073709551616)/18446744073709551616))))):=by
  refine⟨?_,((Wr.refl _ _).setCell 1 _).setCell 0 _⟩;rw[r2];have e1:(S+p)/18446744073709551616=S/18446744073709551616+(p/18446744073709551616+(S%18446744073709551616+p%18446744073709551616)/18446744073709551616):=by omega
  have e2:(S+p)%18446744073709551616=(S%18446744073709551616+p%18446744073709551616)%18446744073709551616:=by omega
  rw[e1,e2];rfl
 have b0:0≤S/18446744073709551616:=by omega
 have b1:0≤S%18446744073709551616:=by omega
 have b2:0≤p/18446744073709551616:=by omega
 have b3:0≤p%18446744073709551616:=by omega
 have b4:S/18446744073709551616+(p/18446744073709551616+(S%18446744073709551616+p%18446744073709551616)/18446744073709551616)<18446744073709551616:=by omega
 have b5:S%18446744073709551616<18446744073709551616:=by omega
 have b6:p%18446744073709551616<18446744073709551616:=by omega
 clear r1 r2 hr hT;generalize S/18446744073709551616=hi at *;generalize S%18446744073709551616=lo at *;generalize p/18446744073709551616=ph at *;generalize p%18446744073709551616=pl at *;go_enter Tryz.func152,Tryz.ntmps152;go_wp2_with fail;refine(M _).mono ?_;rintro e w1 ⟨rfl,rfl⟩;clear M;go_wp2_with (simp only[add64_0 lo pl b1 b3])
 go_end0
 exact⟨rfl,HP.out⟩
end Go.Proofs.YtncomnkdlpoelaaGreatDoor
namespace Go.Proofs.YtncomnkdlpoelaaGreatDoor
open Go.ChangeShapes Go.WideShapes Go.ChangeAt Go.RowKit
set_option linter.unusedVariables false
def prodF (xs ys:List Int) (i:Nat):Int:=((tl xs ys).getD i 0+gcy B51 (tl xs ys) i)%B51
theorem prod_all (xs ys:List Int):mixE (prodF xs ys) [0,0,0,0,0] 5=sst (tl xs ys) 5:=by
 apply list5 (mixE_len _ _ _) (sst_len _ _);intro i hi;rw[mixE_get _ _ _ _ hi,if_pos hi,sst_get _ _ _ hi];unfold sdig prodF;rw[if_pos hi]
structure TmS (w:World) (zs:List Int) (G:Nat) (S:Int) (wr:World):Prop where
 pl:PlS w zs wr
 sum:wr.heap[G]?=some (.cells #[.int .u64 (S/18446744073709551616),.int .u64 (S%18446744073709551616)] 206 (0,0))
 hG:w.heap.size+1<G
theorem TmS.drew {w:World} {zs:List Int} {G:Nat} {S:Int} {wr:World} (h:TmS w zs G S wr):TmS w zs G S wr.drew:=
 ⟨⟨h.pl.res,h.pl.row,h.pl.below.drew⟩,h.sum,h.hG⟩
theorem TmS.add {w:World} {zs:List Int} {G:Nat} {S S':Int} {wr w':World} (h:TmS w zs G S wr) (hs:WdS wr G S' w'):TmS w zs G S' w':=
 ⟨⟨hs.wr.rowW h.pl.res (by have:=h.hG;omega),hs.wr.rowW h.pl.row (by have:=h.hG;omega),h.pl.below.trans (hs.wr.below (by have:=h.hG;omega))⟩,hs.row,h.hG⟩
set_option maxHeartbeats 2000000 in
set_option maxRecDepth 100000 in
theorem times_any (g1 o1 g2 o2:Nat) (xs ys:List Int) (w:World) (h1:EAt w g1 o1 xs) (h2:EAt w g2 o2 ys) :
  Calls Tryz.prog 127 #[.pointer (some ⟨g1,o1,none⟩),.pointer (some ⟨g2,o2,none⟩)] w (EP w (ev xs*ev ys%fp)):=by
 obtain⟨q1,q2,q3⟩:=times_ok h1.2.1 h2.2.1;obtain⟨t1,t2,t3,t4⟩:=tl_bd h1.2.1 h2.2.1;have HQ:Hid (U62' (carryE (tl xs ys))∧EOk (carryE (carryE (tl xs ys)))∧ev (carryE (carryE (tl xs ys)))=ev xs*ev ys%fp):=⟨q1,q2,q3⟩
 have HT1:=hdI <| t1
 have HT3:=hdI <| t3
 have HT4:=hdI <| t4
 have HS:Hid (PlS w (mixE (prodF xs ys) [0,0,0,0,0] 0) ((w.alloc (.cells #[.int .u64 0,.int .u64 0,.int .u64 0,.int .u64 0,.int .u64 0] 141)).alloc (.cells #[.int .u64 0,.int .u64 0,.int .u64 0,.int .u64 0,.int .u64 0] 141))):=by
  rw[mixE_zero _ _ rfl];exact⟨heap_alloc2_old _ _ _,heap_alloc2_new _ _ _,((Below.refl _ _).alloc (Nat.le_refl _) _).alloc (by simp) _⟩
 have HL:Hid (w.heap.size+1<((w.alloc (.cells #[.int .u64 0,.int .u64 0,.int .u64 0,.int .u64 0,.int .u64 0] 141)).alloc (.cells #[.int .u64 0,.int .u64 0,.int .u64 0,.int .u64 0,.int .u64 0] 141)).heap.size):=by show _<_;simp
 have H1:=hdI <| h1
 have H2:=hdI <| h2
 have hy5:=h2.2.1.1;have HY5:=hdI <| hy5
 clear q1 q2 q3 t1 t2 t3 t4 h1 h2 hy5;go_enter Tryz.func127,Tryz.ntmps127;go_wp2
 go_loopw [6,11] (fun v i wr=>∃ k:Nat,k≤5∧i=.int .i64 k∧v=.int .u64 (gcy B51 (tl xs ys) k)∧PlS w (mixE (prodF xs ys) [0,0,0,0,0] k) wr∧w.heap.size+1<wr.heap.size) (fun _ i _=>5-(intOf i).toNat)
 case atStart=>exact⟨0,by decide,rfl,rfl,HS.out,HL.out⟩
 case round=>
  clear HS HL;obtain⟨k,hk,rfl,rfl,hst,hlz⟩:=hrel;by_cases hlt:k<5
  ·have hlt':(k:Int)<5:=by omega
   obtain⟨hc0,hc1⟩:=HT3.out k;have hst2:TmS w (mixE (prodF xs ys) [0,0,0,0,0] k) wr.heap.size (gcy B51 (tl xs ys) k) (wr.alloc (.cells #[.int .u64 0,.int .u64 (gcy B51 (tl xs ys) k)] 206)):=by
    have b0:Below wr.heap.size wr (wr.alloc (.cells #[.int .u64 0,.int .u64 (gcy B51 (tl xs ys) k)] 206)):=below_new2 _ _;refine⟨⟨hst.res.below b0 (by omega),hst.row.below b0 (by omega),hst.below.trans (b0.mono hst.below.size)⟩,?_,hlz⟩;rw[heap_alloc_new];have e1:gcy B51 (tl xs ys) k/18446744073709551616=0:=by omega
    have e2:gcy B51 (tl xs ys) k%18446744073709551616=gcy B51 (tl xs ys) k:=by omega
    rw[e1,e2]
   have HST:Hid (TmS w (mixE (prodF xs ys) [0,0,0,0,0] k) wr.heap.size (gcy B51 (tl xs ys) k+cs xs ys k 0) (wr.alloc (.cells #[.int .u64 0,.int .u64 (gcy B51 (tl xs ys) k)] 206))):=by
    rw[show cs xs ys k 0=0 from rfl,Int.add_zero];exact hst2
   clear hst hst2;generalize hgk:gcy B51 (tl xs ys) k=ov at *;have HGK:=hdI <| hgk
   clear hgk;go_wp2;generalize hG:wr.heap.size=G at *;clear hG;generalize wr.alloc (.cells #[.int .u64 0,.int .u64 ov] 206)=w3 at *
   go_loopw [18] (fun i wq=>∃ n:Nat,n≤k+1∧i=.int .i64 n∧TmS w (mixE (prodF xs ys) [0,0,0,0,0] k) G (ov+cs xs ys k n) wq) (fun i _=>k+1-(intOf i).toNat)
   case atStart=>exact⟨0,Nat.zero_le _,rfl,HST.out⟩
   case round=>
    clear HST;obtain⟨n,hn,rfl,hts⟩:=hrel;by_cases hnk:n<k+1
    ·have hnk':(n:Int)<(k:Int)+1:=by omega
     have HCX:Hid (∀ w',Below w.heap.size w w'→w'.cell? ⟨g1,o1+n,none⟩=some (.int .u64 (xs.getD n 0))):=fun w' hb=>(H1.out.below hb).2.2 n (by omega)
     have HCY:Hid (∀ w',Below w.heap.size w w'→w'.cell? ⟨g2,o2+(k-n),none⟩=some (.int .u64 (ys.getD (k-n) 0))):=fun w' hb=>(H2.out.below hb).2.2 (k-n) (by omega)
     have bx:=H1.out.2.1.bd;have by_:=H2.out.2.1.bd;have hx0:=bx.2 n;have hx1:=(bx.1 n).2;have hy0:=by_.2 (k-n);have hy1:=(by_.1 (k-n)).2;have hcs:cs xs ys k (n+1)=cs xs ys k n+xs.getD n 0*ys.getD (k-n) 0:=rfl;have hsn:=HT1.out k n (by omega);have hsn1:=HT1.out k (n+1) (by omega);rw[hcs] at hsn1;have HTS:=hdI <| hts.drew
     have HCS:=hdI <| hcs
     have hsub:((k:Int)-(n:Int))=((k-n:Nat):Int):=by omega
     have hwsub:IntKind.i64.wrap ((k:Int)-(n:Int))=((k-n:Nat):Int):=by rw[IntKind.wrap_i64];omega
     have hwsub2:IntKind.i64.wrap ((k-n:Nat):Int)=((k-n:Nat):Int):=by rw[IntKind.wrap_i64];omega
     have hn5:(n:Int)<5:=by omega
     have hkn5:((k-n:Nat):Int)<5:=by omega
     clear hts hcs bx by_;generalize xs.getD n 0=x at *;generalize ys.getD (k-n) 0=y at *;generalize cs xs ys k n=C at *;obtain⟨s0,s1⟩:=hsn;obtain⟨s2,s3⟩:=hsn1;obtain⟨C',hC'⟩:∃ C',C'=C+x*y:=⟨_,rfl⟩
     have HEQ:Hid (ov+C+x*y=ov+C'):=by show _=_;omega
     have HCE:Hid (cs xs ys k (n+1)=C'):=by show _=_;rw[HCS.out,hC']
     have hSz:0≤ov+C:=by omega
     have hTT:(ov+C)+x*y<340282366920938463463374607431768211456:=by omega
     clear hC' s2 s3;go_wp2_with fail;refine wp_region_any (by kernel_rfl) ?_;refine wpAny_slotsE (fun _ _ _=>True) (frame:=(fun (a b c d e f g h i j k l m n o p q r s u v w x y z A B C D E F G H I J K L M N O P Q R S T U V W X Y Z a0 a1 a2 a3 a4 a5 a6 a7 a8 a9 b0 b1 b2:Value)=>fun (t:Nat→Value)=>({ tmps:=List.toArray [a,b,c,d,e,f,g,h,i,j,k,l,m,n,o,p,q,r,s,u,v,t 0,t 1,t 2,t 3,t 4,t 5,t 6,t 7,t 8,t 9,t 10,t 11,t 12,w,x,y,z,A,B,C,D,E,F,G,H,I,J,K,L,M,N,O,P,Q,R,S,T,U,V,W,X,Y,Z,a0,a1,a2,a3,a4,a5,a6,a7,a8,a9,b0,b1,b2],defers:=[] }:Act)) _ _ _ _ _ _ _ _ _ _ _ _ _ _ _ _ _ _ _ _ _ _ _ _ _ _ _ _ _ _ _ _ _ _ _ _ _ _ _ _ _ _ _ _ _ _ _ _ _ _ _ _ _ _ _ _ _ _ _ _ _ _ _ _)
      (Ext:=fun L w'=>TmS w (mixE (prodF xs ys) [0,0,0,0,0] k) G (if L 12=true then(ov+C') else(ov+C)) w') (Good:=fun i L _ v=>if i=0 then v=(.pointer (some ⟨g1,o1,none⟩)) else if i=1 then v=(.int .i64 (n:Int)) else if i=2 then v=(.pointer (some ⟨g1,o1,none⟩)) else if i=3 then v=(.pointer (some ⟨g1,o1+n,none⟩)) else if i=4 then v=(.int .u64 x) else if i=5 then v=(.pointer (some ⟨g2,o2,none⟩)) else if i=6 then v=(.int .i64 (k:Int)) else if i=7 then v=(.int .i64 (n:Int)) else if i=8 then v=(.int .i64 ((k-n:Nat):Int)) else if i=9 then v=(.pointer (some ⟨g2,o2,none⟩)) else if i=10 then v=(.pointer (some ⟨g2,o2+(k-n),none⟩)) else if i=11 then v=(.int .u64 y) else(v=.tuple #[]∧L 12=true)) ?hstab (by kernel_rfl) (by kernel_rfl) ?hop ?hdone _ _ ((fun (x0 x1 x2 x3 x4 x5 x6 x7 x8 x9 x10 x11 x12:Value)=>fun (i:Nat)=>if i=0 then x0 else if i=1 then x1 else if i=2 then x2 else if i=3 then x3 else if i=4 then x4 else if i=5 then x5 else if i=6 then x6 else if i=7 then x7 else if i=8 then x8 else if i=9 then x9 else if i=10 then x10 else if i=11 then x11 else if i=12 then x12 else undef) _ _ _ _ _ _ _ _ _ _ _ _ _) _ (by simp) ?ext ?start (by simp)
     case start=>intro i hi h;exact absurd h (by rw[Array.getD_eq_getD_getElem?,Array.getElem?_replicate];split<;>simp)
     case hstab=>
      intro j L w w' i v _ hij hL h;by_cases hj:j<12
      ·obtain rfl|rfl|rfl|rfl|rfl|rfl|rfl|rfl|rfl|rfl|rfl|rfl:j=0∨j=1∨j=2∨j=3∨j=4∨j=5∨j=6∨j=7∨j=8∨j=9∨j=10∨j=11:=by omega
       all_goals exact h
      ·have hj':=hj;have e:(updK L i 12)=true∨L 12=false:=by unfold updK;by_cases h9:12=i<;>simp[h9]
       revert h;simp only[if_neg (show ¬ j=0 by omega),if_neg (show ¬ j=1 by omega),if_neg (show ¬ j=2 by omega),if_neg (show ¬ j=3 by omega),if_neg (show ¬ j=4 by omega),if_neg (show ¬ j=5 by omega),if_neg (show ¬ j=6 by omega),if_neg (show ¬ j=7 by omega),if_neg (show ¬ j=8 by omega),if_neg (show ¬ j=9 by omega),if_neg (show ¬ j=10 by omega),if_neg (show ¬ j=11 by omega)];rintro⟨h1,h2⟩;exact⟨h1,by rcases e with e|e;exact e;rw[h2] at e;cases e⟩
     case ext=>exact HTS.out
     case hop=>
      intro i o L t w' ho hLi hx hdep K hK;have hi:i<13:=(Array.getElem?_eq_some_iff.1 ho).1;have cA:w'.cell? ⟨g1,o1+n,none⟩=some (.int .u64 x):=HCX.out _ hx.pl.below;have cB:w'.cell? ⟨g2,o2+(k-n),none⟩=some (.int .u64 y):=HCY.out _ hx.pl.below;have REF:Hid (∀ j,j≠12→TmS w (mixE (prodF xs ys) [0,0,0,0,0] k) G (if updK L j 12=true then(ov+C') else(ov+C)) w'):=fun j hj=>by
       have:updK L j 12=L 12:=by unfold updK;rw[if_neg (Ne.symm hj)]
       rw[this];exact hx
      have HX:Hid (TmS w (mixE (prodF xs ys) [0,0,0,0,0] k) G (if L 12=true then(ov+C') else(ov+C)) w'):=hx;clear hx;obtain rfl|rfl|rfl|rfl|rfl|rfl|rfl|rfl|rfl|rfl|rfl|rfl|rfl:i=0∨i=1∨i=2∨i=3∨i=4∨i=5∨i=6∨i=7∨i=8∨i=9∨i=10∨i=11∨i=12:=by omega
      all_goals(simp at ho;subst ho)
      ·clear hdep;have hK':=hK w' (.pointer (some ⟨g1,o1,none⟩)) (by simp) (REF.out 0 (by decide)) trivial;clear hK;go_simp;simpa[upd,hsub,hwsub,hwsub2] using hK'
      ·clear hdep;have hK':=hK w' (.int .i64 (n:Int)) (by simp) (REF.out 1 (by decide)) trivial;clear hK;go_simp;simpa[upd,hsub,hwsub,hwsub2] using hK'
      ·have d0:t 0=(.pointer (some ⟨g1,o1,none⟩)):=by simpa using hdep ⟨0,.data⟩ (by simp) rfl
       clear hdep;have hK':=hK w' (.pointer (some ⟨g1,o1,none⟩)) (by simp) (REF.out 2 (by decide)) trivial;clear hK;go_simp;simpa[upd,d0,hsub,hwsub,hwsub2] using hK'
      ·have d2:t 2=(.pointer (some ⟨g1,o1,none⟩)):=by simpa using hdep ⟨2,.data⟩ (by simp) rfl
       have d1:t 1=(.int .i64 (n:Int)):=by simpa using hdep ⟨1,.data⟩ (by simp) rfl
       clear hdep;have hK':=hK w' (.pointer (some ⟨g1,o1+n,none⟩)) (by simp) (REF.out 3 (by decide)) trivial;clear hK;go_simp;simpa[upd,d2,d1,hsub,hwsub,hwsub2] using hK'
      ·have d3:t 3=(.pointer (some ⟨g1,o1+n,none⟩)):=by simpa using hdep ⟨3,.data⟩ (by simp) rfl
       clear hdep;have hK':=hK w' (.int .u64 x) (by simp) (REF.out 4 (by decide)) trivial;clear hK;go_simp;simpa[upd,d3,hsub,hwsub,hwsub2] using hK'
      ·clear hdep;have hK':=hK w' (.pointer (some ⟨g2,o2,none⟩)) (by simp) (REF.out 5 (by decide)) trivial;clear hK;go_simp;simpa[upd,hsub,hwsub,hwsub2] using hK'
      ·clear hdep;have hK':=hK w' (.int .i64 (k:Int)) (by simp) (REF.out 6 (by decide)) trivial;clear hK;go_simp;simpa[upd,hsub,hwsub,hwsub2] using hK'
      ·clear hdep;have hK':=hK w' (.int .i64 (n:Int)) (by simp) (REF.out 7 (by decide)) trivial;clear hK;go_simp;simpa[upd,hsub,hwsub,hwsub2] using hK'
      ·have d6:t 6=(.int .i64 (k:Int)):=by simpa using hdep ⟨6,.data⟩ (by simp) rfl
       have d7:t 7=(.int .i64 (n:Int)):=by simpa using hdep ⟨7,.data⟩ (by simp) rfl
       clear hdep;have hK':=hK w' (.int .i64 ((k-n:Nat):Int)) (by simp) (REF.out 8 (by decide)) trivial;clear hK;go_simp;simpa[upd,d6,d7,hsub,hwsub,hwsub2] using hK'
      ·have d5:t 5=(.pointer (some ⟨g2,o2,none⟩)):=by simpa using hdep ⟨5,.data⟩ (by simp) rfl
       clear hdep;have hK':=hK w' (.pointer (some ⟨g2,o2,none⟩)) (by simp) (REF.out 9 (by decide)) trivial;clear hK;go_simp;simpa[upd,d5,hsub,hwsub,hwsub2] using hK'
      ·have d9:t 9=(.pointer (some ⟨g2,o2,none⟩)):=by simpa using hdep ⟨9,.data⟩ (by simp) rfl
       have d8:t 8=(.int .i64 ((k-n:Nat):Int)):=by simpa using hdep ⟨8,.data⟩ (by simp) rfl
       clear hdep;have hK':=hK w' (.pointer (some ⟨g2,o2+(k-n),none⟩)) (by simp) (REF.out 10 (by decide)) trivial;clear hK;go_simp;simpa[upd,d9,d8,hsub,hwsub,hwsub2] using hK'
      ·have d10:t 10=(.pointer (some ⟨g2,o2+(k-n),none⟩)):=by simpa using hdep ⟨10,.data⟩ (by simp) rfl
       clear hdep;have hK':=hK w' (.int .u64 y) (by simp) (REF.out 11 (by decide)) trivial;clear hK;go_simp;simpa[upd,d10,hsub,hwsub,hwsub2] using hK'
      ·have d4:t 4=(.int .u64 x):=by simpa using hdep ⟨4,.data⟩ (by simp) rfl
       have d11:t 11=(.int .u64 y):=by simpa using hdep ⟨11,.data⟩ (by simp) rfl
       clear hdep;have hts:=HX.out;rw[if_neg (by rw[hLi];decide)] at hts;have A:=addP_any G ((ov+C)) x y w' hSz hts.sum hx0 (by omega) (by omega) (by omega) hTT;have hK':∀ ww,WdS w' G ((ov+C)+x*y) ww→K _ ww:=fun ww hs=>hK ww (.tuple #[]) (by simp[updK]) (by rw[if_pos (by simp[updK])];have:=hts.add hs;rw[HEQ.out] at this;exact this) trivial
       clear hK;go_simp;refine A.mono ?_;rintro e w9 ⟨rfl,hs⟩;have hK2:=hK' w9 hs;clear hK' A hs;go_simp;simpa[upd,d4,d11] using hK2
     case hdone=>
      intro L t w' hx hg;have d0:t 0=(.pointer (some ⟨g1,o1,none⟩)):=by simpa using hg 0 (by decide)
      have d1:t 1=(.int .i64 (n:Int)):=by simpa using hg 1 (by decide)
      have d2:t 2=(.pointer (some ⟨g1,o1,none⟩)):=by simpa using hg 2 (by decide)
      have d3:t 3=(.pointer (some ⟨g1,o1+n,none⟩)):=by simpa using hg 3 (by decide)
      have d4:t 4=(.int .u64 x):=by simpa using hg 4 (by decide)
      have d5:t 5=(.pointer (some ⟨g2,o2,none⟩)):=by simpa using hg 5 (by decide)
      have d6:t 6=(.int .i64 (k:Int)):=by simpa using hg 6 (by decide)
      have d7:t 7=(.int .i64 (n:Int)):=by simpa using hg 7 (by decide)
      have d8:t 8=(.int .i64 ((k-n:Nat):Int)):=by simpa using hg 8 (by decide)
      have d9:t 9=(.pointer (some ⟨g2,o2,none⟩)):=by simpa using hg 9 (by decide)
      have d10:t 10=(.pointer (some ⟨g2,o2+(k-n),none⟩)):=by simpa using hg 10 (by decide)
      have d11:t 11=(.int .u64 y):=by simpa using hg 11 (by decide)
      have d12:t 12=.tuple #[]∧L 12=true:=by simpa using hg 12 (by decide)
      clear hg;rw[if_pos d12.2] at hx;have HP:Hid (TmS w (mixE (prodF xs ys) [0,0,0,0,0] k) G (ov+cs xs ys k (n+1)) w'):=by rw[HCE.out];exact hx
      clear hx HTS HCX HCY HEQ HCE;dsimp only;rw[d0,d1,d2,d3,d4,d5,d6,d7,d8,d9,d10,d11,d12.1];clear d0 d1 d2 d3 d4 d5 d6 d7 d8 d9 d10 d11 d12;go_wp2;go_roundw
      case rel=>exact⟨n+1,by omega,by go_num,HP.out⟩
      case measure=>simp[intOf];omega
    ·obtain rfl:n=k+1:=by omega
     have HLO:Hid (cs xs ys k (k+1)=loE xs ys k):=rfl;have hlo:=HT1.out k (k+1) (by omega);rw[HLO.out] at hts hlo;have HTL:Hid ((tl xs ys).getD k 0=loE xs ys k+19*hiE xs ys k):=tl_get _ _ _ hlt;generalize loE xs ys k=lo at *;have HTS0:Hid (TmS w (mixE (prodF xs ys) [0,0,0,0,0] k) G (ov+lo+19*cs xs ys (5+k) (k+1)) wr):=by
      show TmS w _ G _ wr
      rw[cs_zero5 xs HY5.out k (k+1) (Nat.le_refl _)];simpa using hts
     obtain⟨l0,l1⟩:=hlo;obtain⟨L0,hL0⟩:∃ L0,L0=ov+lo:=⟨_,rfl⟩
     rw[←hL0] at HTS0;have hLz:0≤L0:=by omega
     have hLm:L0≤40564819207304493769399109419008:=by omega
     have HL0:=hdI <| hL0
     clear hts hL0;have hk1:((k+1:Nat):Int)=(k:Int)+1:=by omega
     rw[hk1];clear hk1;go_wp2
     go_loopw [10] (fun i wq=>∃ n:Nat,k+1≤n∧n≤5∧i=.int .i64 n∧TmS w (mixE (prodF xs ys) [0,0,0,0,0] k) G (L0+19*cs xs ys (5+k) n) wq) (fun i _=>5-(intOf i).toNat)
     case atStart=>exact⟨k+1,Nat.le_refl _,by omega,by go_num,HTS0.out⟩
     case round=>
      clear HTS0;obtain⟨n,hnl,hnh,rfl,hts⟩:=hrel;by_cases hn5:n<5
      ·have hn5':(n:Int)<5:=by omega
       have HCX:Hid (∀ w',Below w.heap.size w w'→w'.cell? ⟨g1,o1+n,none⟩=some (.int .u64 (xs.getD n 0))):=fun w' hb=>(H1.out.below hb).2.2 n (by omega)
       have HCY:Hid (∀ w',Below w.heap.size w w'→w'.cell? ⟨g2,o2+(k+5-n),none⟩=some (.int .u64 (ys.getD (k+5-n) 0))):=fun w' hb=>(H2.out.below hb).2.2 (k+5-n) (by omega)
       have bx:=H1.out.2.1.bd;have by_:=H2.out.2.1.bd;have hx0:=bx.2 n;have hx1:=(bx.1 n).2;have hy0:=by_.2 (k+5-n);have hy1:=(by_.1 (k+5-n)).2;have hcs:cs xs ys (5+k) (n+1)=cs xs ys (5+k) n+xs.getD n 0*ys.getD (k+5-n) 0:=by rw[cs,show 5+k-n=k+5-n by omega]
       have hsn:=HT1.out (5+k) n (by omega);have hsn1:=HT1.out (5+k) (n+1) (by omega);rw[hcs] at hsn1;have HTS:=hdI <| hts.drew
       have HCS:=hdI <| hcs
       have hsub:((k:Int)+5-(n:Int))=((k+5-n:Nat):Int):=by omega
       have hwsub:IntKind.i64.wrap ((k:Int)+5-(n:Int))=((k+5-n:Nat):Int):=by rw[IntKind.wrap_i64];omega
       have hwsub2:IntKind.i64.wrap ((k+5-n:Nat):Int)=((k+5-n:Nat):Int):=by rw[IntKind.wrap_i64];omega
       have hw5:IntKind.i64.wrap ((k:Int)+5)=(k:Int)+5:=by rw[IntKind.wrap_i64];omega
       have hkn5:((k+5-n:Nat):Int)<5:=by omega
       clear hts hcs bx by_;generalize xs.getD n 0=x at *;generalize ys.getD (k+5-n) 0=y at *;generalize cs xs ys (5+k) n=C at *;obtain⟨s0,s1⟩:=hsn;obtain⟨s2,s3⟩:=hsn1;have hm19:IntKind.u64.wrap (19*y)=19*y:=by rw[IntKind.wrap_u64];omega
       have e19:x*(19*y)=19*(x*y):=by grind
       obtain⟨C',hC'⟩:∃ C',C'=C+x*y:=⟨_,rfl⟩
       have HEQ:Hid (L0+19*C+x*(19*y)=L0+19*C'):=by show _=_;rw[e19];omega
       have HCE:Hid (cs xs ys (5+k) (n+1)=C'):=by show _=_;rw[HCS.out,hC']
       have hSz:0≤L0+19*C:=by omega
       have hTT:(L0+19*C)+x*(19*y)<340282366920938463463374607431768211456:=by rw[e19];omega
       clear hC' s2 s3 e19;go_wp2_with fail;refine wp_region_any (by kernel_rfl) ?_;refine wpAny_slotsE (fun _ _ _=>True) (frame:=(fun (a b c d e f g h i j k l m n o p q r s u v w x y z A B C D E F G H I J K L M N O P Q R S T U V W X Y Z a0 a1 a2 a3 a4 a5 a6 a7 a8 a9 b0:Value)=>fun (t:Nat→Value)=>({ tmps:=List.toArray [a,b,c,d,e,f,g,h,i,j,k,l,m,n,o,p,q,r,s,u,v,w,x,y,z,A,B,C,D,E,F,G,H,I,J,K,L,M,N,O,P,t 0,t 1,t 2,t 3,t 4,t 5,t 6,t 7,t 8,t 9,t 10,t 11,t 12,t 13,t 14,Q,R,S,T,U,V,W,X,Y,Z,a0,a1,a2,a3,a4,a5,a6,a7,a8,a9,b0],defers:=[] }:Act)) _ _ _ _ _ _ _ _ _ _ _ _ _ _ _ _ _ _ _ _ _ _ _ _ _ _ _ _ _ _ _ _ _ _ _ _ _ _ _ _ _ _ _ _ _ _ _ _ _ _ _ _ _ _ _ _ _ _ _ _ _ _)
        (Ext:=fun L w'=>TmS w (mixE (prodF xs ys) [0,0,0,0,0] k) G (if L 14=true then(L0+19*C') else(L0+19*C)) w') (Good:=fun i L _ v=>if i=0 then v=(.pointer (some ⟨g1,o1,none⟩)) else if i=1 then v=(.int .i64 (n:Int)) else if i=2 then v=(.pointer (some ⟨g1,o1,none⟩)) else if i=3 then v=(.pointer (some ⟨g1,o1+n,none⟩)) else if i=4 then v=(.int .u64 x) else if i=5 then v=(.pointer (some ⟨g2,o2,none⟩)) else if i=6 then v=(.int .i64 (k:Int)) else if i=7 then v=(.int .i64 ((k:Int)+5)) else if i=8 then v=(.int .i64 (n:Int)) else if i=9 then v=(.int .i64 ((k+5-n:Nat):Int)) else if i=10 then v=(.pointer (some ⟨g2,o2,none⟩)) else if i=11 then v=(.pointer (some ⟨g2,o2+(k+5-n),none⟩)) else if i=12 then v=(.int .u64 y) else if i=13 then v=(.int .u64 (19*y)) else(v=.tuple #[]∧L 14=true)) ?hstab (by kernel_rfl) (by kernel_rfl) ?hop ?hdone _ _ ((fun (x0 x1 x2 x3 x4 x5 x6 x7 x8 x9 x10 x11 x12 x13 x14:Value)=>fun (i:Nat)=>if i=0 then x0 else if i=1 then x1 else if i=2 then x2 else if i=3 then x3 else if i=4 then x4 else if i=5 then x5 else if i=6 then x6 else if i=7 then x7 else if i=8 then x8 else if i=9 then x9 else if i=10 then x10 else if i=11 then x11 else if i=12 then x12 else if i=13 then x13 else if i=14 then x14 else undef) _ _ _ _ _ _ _ _ _ _ _ _ _ _ _) _ (by simp) ?ext ?start (by simp)
       case start=>intro i hi h;exact absurd h (by rw[Array.getD_eq_getD_getElem?,Array.getElem?_replicate];split<;>simp)
       case hstab=>
        intro j L w w' i v _ hij hL h;by_cases hj:j<14
        ·obtain rfl|rfl|rfl|rfl|rfl|rfl|rfl|rfl|rfl|rfl|rfl|rfl|rfl|rfl:j=0∨j=1∨j=2∨j=3∨j=4∨j=5∨j=6∨j=7∨j=8∨j=9∨j=10∨j=11∨j=12∨j=13:=by omega
         all_goals exact h
        ·have hj':=hj;have e:(updK L i 14)=true∨L 14=false:=by unfold updK;by_cases h9:14=i<;>simp[h9]
         revert h;simp only[if_neg (show ¬ j=0 by omega),if_neg (show ¬ j=1 by omega),if_neg (show ¬ j=2 by omega),if_neg (show ¬ j=3 by omega),if_neg (show ¬ j=4 by omega),if_neg (show ¬ j=5 by omega),if_neg (show ¬ j=6 by omega),if_neg (show ¬ j=7 by omega),if_neg (show ¬ j=8 by omega),if_neg (show ¬ j=9 by omega),if_neg (show ¬ j=10 by omega),if_neg (show ¬ j=11 by omega),if_neg (show ¬ j=12 by omega),if_neg (show ¬ j=13 by omega)];rintro⟨h1,h2⟩;exact⟨h1,by rcases e with e|e;exact e;rw[h2] at e;cases e⟩
       case ext=>exact HTS.out
       case hop=>
        intro i o L t w' ho hLi hx hdep K hK;have hi:i<15:=(Array.getElem?_eq_some_iff.1 ho).1;have cA:w'.cell? ⟨g1,o1+n,none⟩=some (.int .u64 x):=HCX.out _ hx.pl.below;have cB:w'.cell? ⟨g2,o2+(k+5-n),none⟩=some (.int .u64 y):=HCY.out _ hx.pl.below;have REF:Hid (∀ j,j≠14→TmS w (mixE (prodF xs ys) [0,0,0,0,0] k) G (if updK L j 14=true then(L0+19*C') else(L0+19*C)) w'):=fun j hj=>by
         have:updK L j 14=L 14:=by unfold updK;rw[if_neg (Ne.symm hj)]
         rw[this];exact hx
        have HX:Hid (TmS w (mixE (prodF xs ys) [0,0,0,0,0] k) G (if L 14=true then(L0+19*C') else(L0+19*C)) w'):=hx;clear hx;obtain rfl|rfl|rfl|rfl|rfl|rfl|rfl|rfl|rfl|rfl|rfl|rfl|rfl|rfl|rfl:i=0∨i=1∨i=2∨i=3∨i=4∨i=5∨i=6∨i=7∨i=8∨i=9∨i=10∨i=11∨i=12∨i=13∨i=14:=by omega
        all_goals(simp at ho;subst ho)
        ·clear hdep;have hK':=hK w' (.pointer (some ⟨g1,o1,none⟩)) (by simp) (REF.out 0 (by decide)) trivial;clear hK;go_simp;simpa[upd,hsub,hwsub,hwsub2,hm19,hw5] using hK'
        ·clear hdep;have hK':=hK w' (.int .i64 (n:Int)) (by simp) (REF.out 1 (by decide)) trivial;clear hK;go_simp;simpa[upd,hsub,hwsub,hwsub2,hm19,hw5] using hK'
        ·have d0:t 0=(.pointer (some ⟨g1,o1,none⟩)):=by simpa using hdep ⟨0,.data⟩ (by simp) rfl
         clear hdep;have hK':=hK w' (.pointer (some ⟨g1,o1,none⟩)) (by simp) (REF.out 2 (by decide)) trivial;clear hK;go_simp;simpa[upd,d0,hsub,hwsub,hwsub2,hm19,hw5] using hK'
        ·have d2:t 2=(.pointer (some ⟨g1,o1,none⟩)):=by simpa using hdep ⟨2,.data⟩ (by simp) rfl
         have d1:t 1=(.int .i64 (n:Int)):=by simpa using hdep ⟨1,.data⟩ (by simp) rfl
         clear hdep;have hK':=hK w' (.pointer (some ⟨g1,o1+n,none⟩)) (by simp) (REF.out 3 (by decide)) trivial;clear hK;go_simp;simpa[upd,d2,d1,hsub,hwsub,hwsub2,hm19,hw5] using hK'
        ·have d3:t 3=(.pointer (some ⟨g1,o1+n,none⟩)):=by simpa using hdep ⟨3,.data⟩ (by simp) rfl
         clear hdep;have hK':=hK w' (.int .u64 x) (by simp) (REF.out 4 (by decide)) trivial;clear hK;go_simp;simpa[upd,d3,hsub,hwsub,hwsub2,hm19,hw5] using hK'
        ·clear hdep;have hK':=hK w' (.pointer (some ⟨g2,o2,none⟩)) (by simp) (REF.out 5 (by decide)) trivial;clear hK;go_simp;simpa[upd,hsub,hwsub,hwsub2,hm19,hw5] using hK'
        ·clear hdep;have hK':=hK w' (.int .i64 (k:Int)) (by simp) (REF.out 6 (by decide)) trivial;clear hK;go_simp;simpa[upd,hsub,hwsub,hwsub2,hm19,hw5] using hK'
        ·have d6:t 6=(.int .i64 (k:Int)):=by simpa using hdep ⟨6,.data⟩ (by simp) rfl
         clear hdep;have hK':=hK w' (.int .i64 ((k:Int)+5)) (by simp) (REF.out 7 (by decide)) trivial;clear hK;go_simp;simpa[upd,d6,hsub,hwsub,hwsub2,hm19,hw5] using hK'
        ·clear hdep;have hK':=hK w' (.int .i64 (n:Int)) (by simp) (REF.out 8 (by decide)) trivial;clear hK;go_simp;simpa[upd,hsub,hwsub,hwsub2,hm19,hw5] using hK'
        ·have d7:t 7=(.int .i64 ((k:Int)+5)):=by simpa using hdep ⟨7,.data⟩ (by simp) rfl
         have d8:t 8=(.int .i64 (n:Int)):=by simpa using hdep ⟨8,.data⟩ (by simp) rfl
         clear hdep;have hK':=hK w' (.int .i64 ((k+5-n:Nat):Int)) (by simp) (REF.out 9 (by decide)) trivial;clear hK;go_simp;simpa[upd,d7,d8,hsub,hwsub,hwsub2,hm19,hw5] using hK'
        ·have d5:t 5=(.pointer (some ⟨g2,o2,none⟩)):=by simpa using hdep ⟨5,.data⟩ (by simp) rfl
         clear hdep;have hK':=hK w' (.pointer (some ⟨g2,o2,none⟩)) (by simp) (REF.out 10 (by decide)) trivial;clear hK;go_simp;simpa[upd,d5,hsub,hwsub,hwsub2,hm19,hw5] using hK'
        ·have d10:t 10=(.pointer (some ⟨g2,o2,none⟩)):=by simpa using hdep ⟨10,.data⟩ (by simp) rfl
         have d9:t 9=(.int .i64 ((k+5-n:Nat):Int)):=by simpa using hdep ⟨9,.data⟩ (by simp) rfl
         clear hdep;have hK':=hK w' (.pointer (some ⟨g2,o2+(k+5-n),none⟩)) (by simp) (REF.out 11 (by decide)) trivial;clear hK;go_simp;simpa[upd,d10,d9,hsub,hwsub,hwsub2,hm19,hw5] using hK'
        ·have d11:t 11=(.pointer (some ⟨g2,o2+(k+5-n),none⟩)):=by simpa using hdep ⟨11,.data⟩ (by simp) rfl
         clear hdep;have hK':=hK w' (.int .u64 y) (by simp) (REF.out 12 (by decide)) trivial;clear hK;go_simp;simpa[upd,d11,hsub,hwsub,hwsub2,hm19,hw5] using hK'
        ·have d12:t 12=(.int .u64 y):=by simpa using hdep ⟨12,.data⟩ (by simp) rfl
         clear hdep;have hK':=hK w' (.int .u64 (19*y)) (by simp) (REF.out 13 (by decide)) trivial;clear hK;go_simp;simpa[upd,d12,hsub,hwsub,hwsub2,hm19,hw5] using hK'
        ·have d4:t 4=(.int .u64 x):=by simpa using hdep ⟨4,.data⟩ (by simp) rfl
         have d13:t 13=(.int .u64 (19*y)):=by simpa using hdep ⟨13,.data⟩ (by simp) rfl
         clear hdep;have hts:=HX.out;rw[if_neg (by rw[hLi];decide)] at hts;have A:=addP_any G ((L0+19*C)) x (19*y) w' hSz hts.sum hx0 (by omega) (by omega) (by omega) hTT;have hK':∀ ww,WdS w' G ((L0+19*C)+x*(19*y)) ww→K _ ww:=fun ww hs=>hK ww (.tuple #[]) (by simp[updK]) (by rw[if_pos (by simp[updK])];have:=hts.add hs;rw[HEQ.out] at this;exact this) trivial
         clear hK;go_simp;refine A.mono ?_;rintro e w9 ⟨rfl,hs⟩;have hK2:=hK' w9 hs;clear hK' A hs;go_simp;simpa[upd,d4,d13] using hK2
       case hdone=>
        intro L t w' hx hg;have d0:t 0=(.pointer (some ⟨g1,o1,none⟩)):=by simpa using hg 0 (by decide)
        have d1:t 1=(.int .i64 (n:Int)):=by simpa using hg 1 (by decide)
        have d2:t 2=(.pointer (some ⟨g1,o1,none⟩)):=by simpa using hg 2 (by decide)
        have d3:t 3=(.pointer (some ⟨g1,o1+n,none⟩)):=by simpa using hg 3 (by decide)
        have d4:t 4=(.int .u64 x):=by simpa using hg 4 (by decide)
        have d5:t 5=(.pointer (some ⟨g2,o2,none⟩)):=by simpa using hg 5 (by decide)
        have d6:t 6=(.int .i64 (k:Int)):=by simpa using hg 6 (by decide)
        have d7:t 7=(.int .i64 ((k:Int)+5)):=by simpa using hg 7 (by decide)
        have d8:t 8=(.int .i64 (n:Int)):=by simpa using hg 8 (by decide)
        have d9:t 9=(.int .i64 ((k+5-n:Nat):Int)):=by simpa using hg 9 (by decide)
        have d10:t 10=(.pointer (some ⟨g2,o2,none⟩)):=by simpa using hg 10 (by decide)
        have d11:t 11=(.pointer (some ⟨g2,o2+(k+5-n),none⟩)):=by simpa using hg 11 (by decide)
        have d12:t 12=(.int .u64 y):=by simpa using hg 12 (by decide)
        have d13:t 13=(.int .u64 (19*y)):=by simpa using hg 13 (by decide)
        have d14:t 14=.tuple #[]∧L 14=true:=by simpa using hg 14 (by decide)
        clear hg;rw[if_pos d14.2] at hx;have HP:Hid (TmS w (mixE (prodF xs ys) [0,0,0,0,0] k) G (L0+19*cs xs ys (5+k) (n+1)) w'):=by rw[HCE.out];exact hx
        clear hx HTS HCX HCY HEQ HCE;dsimp only;rw[d0,d1,d2,d3,d4,d5,d6,d7,d8,d9,d10,d11,d12,d13,d14.1];clear d0 d1 d2 d3 d4 d5 d6 d7 d8 d9 d10 d11 d12 d13 d14;go_wp2;go_roundw
        case rel=>exact⟨n+1,by omega,by omega,by go_num,HP.out⟩
        case measure=>simp[intOf];omega
      ·obtain rfl:n=5:=by omega
       rw[show((5:Nat):Int)=5 from rfl];have hhi:=HT1.out (5+k) 5 (by omega);have HHI:Hid (cs xs ys (5+k) 5=hiE xs ys k):=rfl;rw[HHI.out] at hts hhi;obtain⟨S,hS⟩:∃ S,S=L0+19*hiE xs ys k:=⟨_,rfl⟩
       rw[←hS] at hts;have hSt:S=(tl xs ys).getD k 0+ov:=by rw[hS,HL0.out,HTL.out];omega
       have hS0:0≤S:=by omega
       have hS1:S<41538374868278621028243970633760768:=by omega
       have hov:=HT3.out (k+1);have hgk1:gcy B51 (tl xs ys) (k+1)=S/2251799813685248:=by
        show((tl xs ys).getD k 0+gcy B51 (tl xs ys) k)/B51=_
        rw[HGK.out,←hSt];rfl
       have hpr:prodF xs ys k=S%2251799813685248:=by unfold prodF;rw[HGK.out,←hSt];rfl
       have c0:wr.cell? ⟨G,0,none⟩=some (.int .u64 (S/18446744073709551616)):=cell_of_row _ _ _ _ _ _ hts.sum;have c1:wr.cell? ⟨G,1,none⟩=some (.int .u64 (S%18446744073709551616)):=cell_of_row _ _ _ _ _ _ hts.sum;have c3:=hts.pl.row.cell k (by rw[mixE_len];exact hlt);have f3:=hts.pl.row.frozen k;have s1:PlS w (mixE (prodF xs ys) [0,0,0,0,0] (k+1)) (wr.setCell ⟨w.heap.size+1,k,none⟩ (.int .u64 (S%2251799813685248))):=by
        rw[←mixE_step _ _ _ hlt,hpr];exact⟨((Wr.refl _ _).setCell k _).rowW hts.pl.res (by omega),hts.pl.row.set k _,hts.pl.below.setCell (by simp) _⟩
       have hGne:G≠w.heap.size+1:=by have:=hts.hG;omega
       have hsz:w.heap.size+1<(wr.setCell ⟨w.heap.size+1,k,none⟩ (.int .u64 (S%2251799813685248))).heap.size:=by
        have:=(Array.getElem?_eq_some_iff.1 hts.sum).1;have:=hts.hG;simp[World.setCell];omega
       have c0':(wr.setCell ⟨w.heap.size+1,k,none⟩ (.int .u64 (S%2251799813685248))).cell? ⟨G,0,none⟩=some (.int .u64 (S/18446744073709551616)):=by
        rw[World.cell?_setCell_other _ _ _ _ (by first|(simp;done)|(simp;omega))];exact c0
       have c1':(wr.setCell ⟨w.heap.size+1,k,none⟩ (.int .u64 (S%2251799813685248))).cell? ⟨G,1,none⟩=some (.int .u64 (S%18446744073709551616)):=by
        rw[World.cell?_setCell_other _ _ _ _ (by first|(simp;done)|(simp;omega))];exact c1
       have HS1:Hid (PlS w (mixE (prodF xs ys) [0,0,0,0,0] (k+1)) (wr.setCell ⟨w.heap.size+1,k,none⟩ (.int .u64 (S%2251799813685248)))∧w.heap.size+1<(wr.setCell ⟨w.heap.size+1,k,none⟩ (.int .u64 (S%2251799813685248))).heap.size):=⟨s1,hsz⟩
       have hand:bits .and .u64 (S%18446744073709551616) 2251799813685247=S%2251799813685248:=by
        rw[u64_and_mask _ 51 (by omega) (by omega) _ (by decide) (by decide)];show S%18446744073709551616%2251799813685248=_
        omega
       have hor:bits .or .u64 (S/18446744073709551616*8192) (S%18446744073709551616/2251799813685248)=S/2251799813685248:=by
        rw[u64_or_add _ _ 13 (by omega) (by omega) (by omega) (by show _<(8192:Int);omega) (by omega) (S/18446744073709551616) (by rfl)];omega
       have HAND:=hdI <| hand
       have HOR:=hdI <| hor
       have HGK1:=hdI <| hgk1
       have b0:0≤S/18446744073709551616:=by omega
       have b1:0≤S%18446744073709551616:=by omega
       have b2:S%18446744073709551616<18446744073709551616:=by omega
       have b3:S/18446744073709551616<2251799813685248:=by omega
       clear hts hS hSt hgk1 hpr s1 hsz hand hor hhi hov HL0 HTL HGK;generalize (mixE (prodF xs ys) [0,0,0,0,0] k).getD k 0=z at *;generalize S/18446744073709551616=sh at *;generalize S%18446744073709551616=sl at *;generalize S%2251799813685248=sr at *;generalize S/2251799813685248=sq at *;go_wp2;rw[HOR.out,HAND.out];exact⟨⟨k+1,by omega,by go_num,by rw[HGK1.out],HS1.out.1,HS1.out.2⟩,by simp[intOf];omega⟩
  ·obtain rfl:k=5:=by omega
   rw[prod_all] at hst;rw[show((5:Nat):Int)=5 from rfl];have hc:=HT3.out 5;have hc4:=HT4.out;have hb:=sst_bd (tl xs ys) 0;have c0:=hst.row.cell 0 (by rw[sst_len];decide);have f0:=hst.row.frozen 0;have s1:PlS w (carryE (tl xs ys)) (wr.setCell ⟨w.heap.size+1,0,none⟩ (.int .u64 ((sst (tl xs ys) 5).getD 0 0+19*gcy B51 (tl xs ys) 5))):=
    ⟨((Wr.refl _ _).setCell 0 _).rowW hst.res (by omega),hst.row.set 0 _,hst.below.setCell (by simp) _⟩
   have HS1:=hdI <| s1
   clear s1 hst HT3 HT4 HT1;generalize (sst (tl xs ys) 5).getD 0 0=y0 at *;generalize gcy B51 (tl xs ys) 5=cc at *;obtain⟨hc0,hc1⟩:=hc;obtain⟨hb0,hb1⟩:=hb;go_wp2_with fail;have hst:=HS1.out;clear HS1 c0 f0;generalize wr.setCell ⟨w.heap.size+1,0,none⟩ (.int .u64 (y0+19*cc))=w4 at *;refine(carryE_any _ (carryE (tl xs ys)) _ (carryE_len _) hst.row HQ.out.1).mono ?_;rintro e w1 ⟨rfl,hs⟩;have s1:=hst.carry hs;have hl:=HQ.out.2.1.1;have HSZ:=hdI <| sizeEl hl
   have HZ4:Hid (([0,0,0,0,0].map (Value.int .u64)).toArray.size=(((carryE (carryE (tl xs ys))).map (Value.int .u64)).toArray).size):=by show _=_;simp[hl]
   have HRS:=hdI <| s1.res
   have HRO:=hdI <| s1.row
   have HBE:=hdI <| s1.below
   clear s1 hs hst hl;generalize carryE (carryE (tl xs ys))=es at *;go_wp2_with (first
    |(refine wpList_load_row rfl 141 (.tmp 5) rfl (w.heap.size+1) rfl 141 _ (0,0) _ HRO.out Tryz.underlying141 rfl HSZ.out ?_)
    |(refine wpList_store_row rfl 141 (.tmp 4) (.tmp 76) rfl w.heap.size ((es.map (Value.int .u64)).toArray) rfl rfl 141 _ HRS.out HSZ.out HZ4.out (all_oneCell_toArray (ints_oneCell _ _)) ?_))
   refine bodyPost_ret (v:=.agg (es.map (Value.int .u64)).toArray) (results_cell_row rfl _ _ w.heap.size 141 _ (0,0) _ rfl (setRow_heap _ _ _ _ _ _ HRS.out) Tryz.underlying141 rfl HSZ.out) rfl ⟨es,HQ.out.2.1,HQ.out.2.2,rfl,?_⟩;exact HBE.out.trans ((Wr.setRow _ _ _).below (Nat.le_refl _))
theorem wpList_loadE {w:World} {ops:Array Oper} {rest:List Oper} {o:Oper} {a:Act} {Q:Exit→Act→World→Prop} (hgd:o.guard=none) (x:Operand) (ho:o.op=.load 141 x)
  (g p:Nat) (es:List Int) (hx:a.eval x=.pointer (some ⟨g,p,none⟩)) (h:EAt w g p es) (hK:wpList Tryz.prog ops Q rest (a.put o.dst (.agg (es.map (Value.int .u64)).toArray)) w) :
  wpList Tryz.prog ops Q (o::rest) a w:=by
 have hr:w.rangeAt g p (es.map (Value.int .u64)):=fun j v hv=>by
  have hj:j<es.length:=by have:=(List.getElem?_eq_some_iff.1 hv).1;simpa using this
  rw[h.2.2 j (by have:=h.2.1.1;omega)];simp[hj] at hv;simp[hj,hv]
 have hl:=h.2.1.1;exact wpList_load_mid hgd 141 x ho g p hx (es.map (Value.int .u64)) _ hr Tryz.underlying141 rfl (by rw[Tryz.sizeEl];simp[hl]) hK
theorem wpList_storeE {w:World} {ops:Array Oper} {rest:List Oper} {o:Oper} {a:Act} {Q:Exit→Act→World→Prop} (hgd:o.guard=none) (x y:Operand) (ho:o.op=.store 141 x y)
  (G:Nat) (es zs:List Int) (hx:a.eval x=.pointer (some ⟨G,0,none⟩)) (hy:a.eval y=.agg (es.map (Value.int .u64)).toArray) (hl:es.length=5) (hz:zs.length=5) (hr:RowW w G 141 zs)
  (hK:∀ w',RowW w' G 141 es→Wr G w w'→wpList Tryz.prog ops Q rest (a.put o.dst undef) w') :
  wpList Tryz.prog ops Q (o::rest) a w:=
 wpList_store_row hgd 141 x y ho G ((es.map (Value.int .u64)).toArray) hx hy 141 _ hr (sizeEl hl) (by simp[hl,hz]) (all_oneCell_toArray (ints_oneCell _ _)) (hK _ (hr.setRow es) (Wr.setRow _ _ _))
theorem EAt.of_row {w:World} {g:Nat} {es:List Int} (h:RowW w g 141 es) (hk:EOk es):EAt w g 0 es:=
 ⟨h.lt,hk,fun i hi=>by rw[Nat.zero_add];exact h.cell i (by have:=hk.1;omega)⟩
theorem row0 (w:World):RowW (w.alloc (.cells #[.int .u64 0,.int .u64 0,.int .u64 0,.int .u64 0,.int .u64 0] 141)) w.heap.size 141 [0,0,0,0,0]:=heap_alloc_new w _
theorem resE {fn:Func} {p:Tmp} (h:fn.results=#[.cell p 141]) (tmps:Array Value) (w:World) (g:Nat) (es:List Int) (hl:es.length=5) (hp:tmps.getD p undef=.pointer (some ⟨g,0,none⟩)) (hr:RowW w g 141 es) :
  (results fn tmps).run Tryz.prog w=.ok (.agg (es.map (Value.int .u64)).toArray) w:=
 results_cell_row h tmps w g 141 _ (0,0) _ hp hr Tryz.underlying141 rfl (sizeEl hl)
def sqN (x:Int):Nat→Int
 |0=>x
 |n+1=>sqN x n*sqN x n%fp
structure SqS (w:World) (x:Int) (wr:World):Prop where
 res:RowW wr w.heap.size 141 [0,0,0,0,0]
 row:∃ es,RowW wr (w.heap.size+1) 141 es∧EOk es∧ev es=x
 below:Below w.heap.size w wr
set_option maxHeartbeats 1000000 in
theorem squared_any (g o:Nat) (xs:List Int) (n:Nat) (w:World) (hn:n≤1048576) (h:EAt w g o xs) :
  Calls Tryz.prog 150 #[.pointer (some ⟨g,o,none⟩),.int .i64 n] w (EP w (sqN (ev xs) n)):=by
 have HX:Hid (EAt (w.alloc (.cells #[.int .u64 0,.int .u64 0,.int .u64 0,.int .u64 0,.int .u64 0] 141)) g o xs):=h.below (below_new2 _ _);have HK:=hdI <| h.2.1
 clear h;go_enter Tryz.func150,Tryz.ntmps150;go_wp2_with (first
  |(refine wpList_loadE rfl (.tmp 7) rfl g o xs rfl HX.out ?_)
  |(refine wpList_storeE rfl (.tmp 5) (.tmp 8) rfl (w.heap.size+1) xs [0,0,0,0,0] rfl rfl HK.out.1 rfl (heap_alloc2_new _ _ _) ?_)
  |fail)
 intro w1 hr1 hw1;have HS:Hid (SqS w (sqN (ev xs) 0) w1):=by
  refine⟨hw1.rowW (heap_alloc2_old _ _ _) (by omega),⟨xs,hr1,HK.out,rfl⟩,?_⟩;exact(((Below.refl _ _).alloc (Nat.le_refl _) _).alloc (by simp) _).trans (hw1.below (by omega))
 clear hr1 hw1 HX;go_wp2
 go_loopw [10] (fun i wr=>∃ k:Nat,k≤n∧i=.int .i64 k∧SqS w (sqN (ev xs) k) wr) (fun i _=>n-(intOf i).toNat)
 case atStart=>exact⟨0,Nat.zero_le _,rfl,HS.out⟩
 case round=>
  clear HS;obtain⟨k,hk,rfl,hst⟩:=hrel;obtain⟨hres,⟨es,hrow,hok,hev⟩,hbel⟩:=hst;by_cases hlt:k<n
  ·have hlt':(k:Int)<(n:Int):=by omega
   have E:=EAt.of_row hrow hok;go_wp2_with fail;refine(times_any _ _ _ _ es es _ E E).mono ?_;rintro e w2 ⟨fs,hfk,hfv,rfl,b2⟩;have s2:=hbel.size;have hl1:=hrow.lt;have HR2:=hdI <| hrow.below b2 hl1
   have HRS:=hdI <| hres.below b2 hres.lt
   have HB2:=hdI <| hbel.trans (b2.mono s2)
   have HF:Hid (EOk fs∧ev fs=sqN (ev xs) (k+1)):=⟨hfk,by rw[hfv,hev];rfl⟩
   have HL:=hdI <| hok.1
   clear E hrow hok hev hres hbel b2 hfk hfv;go_wp2_with (first
    |(refine wpList_storeE rfl (.tmp 5) (.tmp 12) rfl (w.heap.size+1) fs es rfl rfl HF.out.1.1 HL.out HR2.out ?_)
    |fail)
   intro w3 hr3 hw3;have HS3:Hid (SqS w (sqN (ev xs) (k+1)) w3):=⟨hw3.rowW HRS.out (by omega),⟨fs,hr3,HF.out.1,HF.out.2⟩,HB2.out.trans (hw3.below (by omega))⟩
   clear hr3 hw3 HR2 HRS HB2;go_wp2;go_roundw
   case rel=>exact⟨k+1,by omega,by go_num,HS3.out⟩
   case measure=>simp[intOf];omega
  ·obtain rfl:k=n:=by omega
   have HR2:=hdI <| EAt.of_row hrow hok
   have HRS:=hdI <| hres
   have HB2:=hdI <| hbel
   have HF:Hid (EOk es∧ev es=sqN (ev xs) k):=⟨hok,hev⟩
   clear hrow hok hev hres hbel;go_wp2_with (first
    |(refine wpList_loadE rfl (.tmp 5) rfl (w.heap.size+1) 0 es rfl HR2.out ?_)
    |(refine wpList_storeE rfl (.tmp 4) (.tmp 14) rfl w.heap.size es [0,0,0,0,0] rfl rfl HF.out.1.1 rfl HRS.out ?_)
    |fail)
   intro w3 hr3 hw3;have HB3:=hdI <| HB2.out.trans (hw3.below (Nat.le_refl _))
   have HR3:Hid (RowW w3 w.heap.size 141 es):=hr3;clear hr3 hw3 HR2 HRS HB2;go_wp2;exact bodyPost_ret (v:=.agg (es.map (Value.int .u64)).toArray) (resE rfl _ _ w.heap.size es HF.out.1.1 rfl HR3.out) rfl ⟨es,HF.out.1,HF.out.2,rfl,HB3.out⟩
end Go.Proofs.YtncomnkdlpoelaaGreatDoor
