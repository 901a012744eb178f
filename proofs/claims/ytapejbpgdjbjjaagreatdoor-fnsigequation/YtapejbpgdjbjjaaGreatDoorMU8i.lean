import Derived.Test.YtapejbpgdjbjjaaGreatDoorMBase
import Derived.Test.YtapejbpgdjbjjaaGreatDoorMVal
import Derived.BigRegion
import Derived.Lib.SmallJoins
import Derived.Test.YtapejbpgdjbjjaaGreatDoorMIPt
import Derived.Test.YtapejbpgdjbjjaaGreatDoorMReg
namespace Go.Proofs.YtapejbpgdjbjjaaGreatDoor
open Go.ChangeShapes Go.WideShapes Go.ChangeAt Go.RowKit
set_option linter.unusedVariables false
theorem Tryz.infoU8:(Tryz.prog.info? 5).map (fun i=>(i.zero,i.size,i.bytes))=some (some (.int .u8 0),1,1):=by kernel_rfl
end Go.Proofs.YtapejbpgdjbjjaaGreatDoor
namespace Go.Proofs.YtapejbpgdjbjjaaGreatDoor
open Go.ChangeShapes Go.WideShapes Go.ChangeAt Go.RowKit
set_option linter.unusedVariables false
structure WrO (a:Option Addr) (w w':World):Prop where
 os:w'.os=w.os
 tape:w'.tape=w.tape
 output:w'.output=w.output
 size:w'.heap.size=w.heap.size
 block:∀ k,(∀ ad,a=some ad→k≠ad.block)→w'.heap[k]?=w.heap[k]?
theorem WrO.refl (a:Option Addr) (w:World):WrO a w w:=⟨rfl,rfl,rfl,rfl,fun _ _=>rfl⟩
theorem WrO.setCell {a:Option Addr} {w w':World} (h:WrO a w w') (ad:Addr) (ha:a=some ad) (o:Nat) (v:Value):WrO a w (w'.setCell ⟨ad.block,o,none⟩ v):=
 ⟨h.os,h.tape,h.output,by simp[World.setCell];exact h.size,fun k hk=>(heap_setCell_other w' ⟨ad.block,o,none⟩ k v (hk ad ha)).trans (h.block k hk)⟩
theorem WrO.below {a:Option Addr} {w w':World} (h:WrO a w w') (B:Nat) (hB:∀ ad,a=some ad→B≤ad.block):Below B w w':=
 ⟨h.os,h.tape,h.output,by rw[h.size];exact Nat.le_refl _,fun k hk=>h.block k (fun ad e=>by have:=hB ad e;omega)⟩
def Open (w:World) (a:Option Addr) (n:Nat):Prop:=
 n=0∨∃ g o,a=some ⟨g,o,none⟩∧g<w.heap.size∧∀ i,i<n→(w.cell? ⟨g,o+i,none⟩).isSome=true∧w.frozen? ⟨g,o+i,none⟩=false
end Go.Proofs.YtapejbpgdjbjjaaGreatDoor
namespace Go.Proofs.YtapejbpgdjbjjaaGreatDoor
open Go.ChangeShapes Go.WideShapes Go.ChangeAt Go.RowKit Go.Joins
set_option linter.unusedVariables false
theorem pow256 (n:Nat):(256:Int)^n=2^(8*n):=by rw[show(256:Int)=2^8 from rfl,←Int.pow_mul]
theorem Tryz.sizeNum:(Tryz.prog.info? 57).map (·.size)=some 4:=by kernel_rfl
theorem sizeNum {ns:List Int} (h:ns.length=4):(Tryz.prog.info? 57).map (·.size)=some ((ns.map (Value.int .u64)).toArray).size:=by rw[Tryz.sizeNum];simp[h]
theorem text_byte (V y:Int) (k:Nat) (hy:V/18446744073709551616^(k/8)%18446744073709551616=y):y/2^(8*(k%8))%256=V/256^k%256:=by
 have e1:(256:Int)^k=18446744073709551616^(k/8)*256^(k%8):=by
  rw[show(18446744073709551616:Int)=256^8 from by decide,←Int.pow_mul,←Int.pow_add]
  congr 1;omega
 have hp:(0:Int)≤18446744073709551616^(k/8):=Int.pow_nonneg (by decide)
 rw[e1,←Int.ediv_ediv_of_nonneg hp,←pow256,←hy]
 generalize V/18446744073709551616^(k/8)=z
 have:k%8=0∨k%8=1∨k%8=2∨k%8=3∨k%8=4∨k%8=5∨k%8=6∨k%8=7:=by omega
 rcases this with h|h|h|h|h|h|h|h<;>rw[h]<;>simp only[Int.pow_succ,Int.pow_zero]<;>omega
theorem mod_pow_succ (V B:Int) (k:Nat) (hB:0<B):V%B^(k+1)=V%B^k+V/B^k%B*B^k:=by
 have hp:(0:Int)<B^k:=Int.pow_pos hB
 rw[Int.pow_succ]
 have e1:=Int.emod_add_mul_ediv V (B^k)
 have e2:=Int.emod_add_mul_ediv (V/B^k) B
 have e3:V=(V%B^k+V/B^k%B*B^k)+(B^k*B)*(V/B^k/B):=by grind
 have b0:=Int.emod_nonneg V (show B^k≠0 by omega)
 have b1:=Int.emod_lt_of_pos V hp
 have b2:=Int.emod_nonneg (V/B^k) (show B≠0 by omega)
 have b3:=Int.emod_lt_of_pos (V/B^k) hB
 have m0:0≤V/B^k%B*B^k:=Int.mul_nonneg b2 (by omega)
 have m1:V/B^k%B*B^k≤(B-1)*B^k:=Int.mul_le_mul_of_nonneg_right (by omega) (by omega)
 conv=>lhs;rw[e3]
 rw[Int.add_mul_emod_self_left]
 apply Int.emod_eq_of_lt (by omega)
 have:(B-1)*B^k=B^k*B-B^k:=by grind
 omega
structure TX (w:World) (g:Nat) (ns:List Int) (k:Nat) (wr:World):Prop where
 row:RowW wr g 57 ns
 txt:∃ bs:List Int,bs.length=32∧Byte bs∧val 256 (bs.take k)=val 18446744073709551616 ns%256^k∧wr.ownsRow w.heap.size 5 1 (.slice (some ⟨w.heap.size,0,none⟩) 32 32) 32 (bs.map (Value.int .u8))
 below:Below w.heap.size w wr
def TextPost (w:World) (V:Int) (e:Ending) (w':World):Prop:=
 ∃ bs:List Int,bs.length=32∧Byte bs∧val 256 bs=V∧e=.returned (.slice (some ⟨w.heap.size,0,none⟩) 32 32)∧Own w' w.heap.size (.slice (some ⟨w.heap.size,0,none⟩) 32 32) bs∧Below w.heap.size w w'
set_option maxRecDepth 100000 in
set_option maxHeartbeats 1000000 in
theorem text_any (g:Nat) (ns:List Int) (w:World) (hl:ns.length=4) (hr:RowW w g 57 ns) (hw:Wrd ns) :
  Calls Tryz.prog 43 #[.pointer (some ⟨g,0,none⟩)] w (TextPost w (val 18446744073709551616 ns)):=by
 obtain⟨i0,hi,hz0,hz1,hz2⟩:=info_parts Tryz.infoU8
 have HI:Hid (i0.bytes=1):=hz2
 clear hz2
 have hg:=hr.lt
 go_enter Tryz.func43,Tryz.ntmps43
 go_wp2_with (first
  |(at_make;refine wpList_make_full _ rfl _ _ 22 rfl w.heap.size 5 i0 (.int .u8 0) 1 Tryz.underlying22 hi hz0 hz1 _ _ _ _ 32 rfl rfl rfl rfl ?c1 ?c2 ?c3 ?_)
  |fail)
 case c1=>rw[HI.out];omega
 case c2=>unfold maxLen;omega
 case c3=>exact Nat.le_refl _
 intro w1 hown hgrow
 have hb1:Below w.heap.size w w1:=(Below.refl _ _).grown hgrow (Nat.le_refl _) (by simp)
 have hown0:w1.ownsRow w.heap.size 5 1 (.slice (some ⟨w.heap.size,0,none⟩) 32 32) 32 ((List.replicate 32 0).map (Value.int .u8)):=by
  have e:(madeCells #[Value.int IntKind.u8 0] 32).toList=(List.replicate 32 0).map (Value.int .u8):=by simp only[toList_madeCells_one,List.map_replicate]
  rw[←e];exact hown
 have HS:Hid (TX w g ns 0 w1):=⟨hr.below hb1 hg,⟨List.replicate 32 0,by simp,fun z hz=>by rw[List.mem_replicate] at hz;omega,by simp[val],hown0⟩,hb1⟩
 clear hown hgrow hown0 hb1 hr
 go_wp2
 go_loopw [8] (fun i wr=>∃ k:Nat,k≤32∧i=.int .i64 k∧TX w g ns k wr) (fun i _=>32-(intOf i).toNat)
 case atStart=>exact⟨0,Nat.zero_le _,rfl,HS.out⟩
 case round=>
  clear HS;obtain⟨k,hk,rfl,hrow,⟨bs,hbl,hbb,hbv,hown⟩,hbel⟩:=hrel;by_cases hlt:k<32
  ·have hc:=hrow.cell (k/8) (by omega);have hx:=hw.get (k/8);have hdg:=val_digit (B:=18446744073709551616) (by decide) hw (k/8);have htb:=text_byte _ _ _ hdg;have hst:=hown.stored k (.int .u8 (val 18446744073709551616 ns/256^k%256));have hmem:wr.cell? ⟨w.heap.size,k,none⟩=some (.int .u8 (bs.getD k 0)):=by
    rw[hown.cellAt k (by omega)];simp[show k<bs.length by omega]
   have hfz:=hown.frozenAt k;rw[←List.map_set] at hst;have hd0:0≤val 18446744073709551616 ns/256^k%256:=by omega
   have hd1:val 18446744073709551616 ns/256^k%256<256:=by omega
   have HS:Hid (TX w g ns (k+1) (wr.setCell ⟨w.heap.size,k,none⟩ (.int .u8 (val 18446744073709551616 ns/256^k%256)))):=by
    refine⟨((Wr.refl _ _).setCell k _).rowW hrow (by omega),⟨bs.set k (val 18446744073709551616 ns/256^k%256),by rw[List.length_set];exact hbl,?_,?_,hst.1⟩,hbel.setCell (Nat.le_refl _) _⟩
    ·intro z hz;rcases List.mem_or_eq_of_mem_set hz with h'|rfl
     ·exact hbb z h'
     ·exact⟨hd0,hd1⟩
    ·rw[val_set_succ _ _ _ _ (by omega),hbv,mod_pow_succ _ _ _ (by decide)]
   have HTB:Hid (ns.getD (k/8) 0/2^(8*(k%8))%256=val 18446744073709551616 ns/256^k%256):=htb;clear hst hown hbel hrow hbv hdg htb hd0 hd1;generalize ns.getD (k/8) 0=x at *;generalize bs.getD k 0=y at *;generalize val 18446744073709551616 ns/256^k%256=z at *;obtain⟨hx0,hx1⟩:=hx;have hlt2:(k:Int)/8<4:=by omega
   go_wp2;rw[HTB.out];exact⟨⟨k+1,by omega,by go_num,HS.out⟩,by simp[intOf];omega⟩
  ·have hk32:k=32:=by omega
   subst hk32;rw[List.take_of_length_le (by omega)] at hbv;have n0:0≤val 18446744073709551616 ns:=val_nonneg (by decide) hw;have n1:val 18446744073709551616 ns<256^32:=by
    have:=val_lt (B:=18446744073709551616) (by decide) hw;rw[hl] at this;have e:(18446744073709551616:Int)^4=256^32:=by decide
    rwa [e] at this
   rw[Int.emod_eq_of_lt n0 n1] at hbv;have HP:Hid (TextPost w (val 18446744073709551616 ns) (.returned (.slice (some ⟨w.heap.size,0,none⟩) 32 32)) wr):=
    ⟨bs,hbl,hbb,hbv,rfl,⟨by rw[hbl];exact hown,_,_,by rw[hbl]⟩,hbel⟩
   clear hbv n0 n1 hown hbel hrow hbl hbb;go_wp2
   go_ret
   exact HP.out
end Go.Proofs.YtapejbpgdjbjjaaGreatDoor
namespace Go.Proofs.YtapejbpgdjbjjaaGreatDoor
open Go.ChangeShapes Go.WideShapes Go.ChangeAt Go.RowKit
set_option linter.unusedVariables false
def NumPost (w:World) (v:Int) (e:Ending) (w':World):Prop:=
 ∃ ms:List Int,ms.length=4∧Wrd ms∧val 18446744073709551616 ms=v∧e=.returned (.agg (ms.map (Value.int .u64)).toArray)∧Below w.heap.size w w'
structure NO (w:World) (zs:List Int) (k:Nat) (wr:World):Prop where
 res:RowW wr w.heap.size 57 [0,0,0,0]
 row:∃ ns,ns.length=4∧RowW wr (w.heap.size+1) 57 ns∧Wrd ns∧val 18446744073709551616 ns=val 256 (zs.take k)
 below:Below w.heap.size w wr
theorem u64_or_add' (a b:Int) (k:Nat) (ha:0≤a) (ha':a<18446744073709551616) (hb:0≤b) (hb':b<2^k) (hb'':b<18446744073709551616) (q:Int) (hd:a=q*2^k):bits .or .u64 b a=b+a:=by
 have:=u64_or_add a b k ha ha' hb hb' hb'' q hd
 obtain⟨a,rfl⟩:=Int.eq_ofNat_of_zero_le ha
 obtain⟨b,rfl⟩:=Int.eq_ofNat_of_zero_le hb
 rw[u64_or_nat a b (by omega) (by omega)] at this
 rw[u64_or_nat b a (by omega) (by omega),Nat.or_comm];omega
theorem nof_word (V y x:Int) (j:Nat) (hj:j<32) (hV0:0≤V) (hV:V<256^j) (hy:V/18446744073709551616^(j/8)%18446744073709551616=y) (hx0:0≤x) (hx1:x<256) :
  bits .or .u64 y (IntKind.u64.wrap (x*2^(8*(j%8))))=y+x*256^(j%8)∧0≤y+x*256^(j%8)∧y+x*256^(j%8)<18446744073709551616∧x*256^(j%8)*18446744073709551616^(j/8)=x*256^j:=by
 have e1:(256:Int)^j=18446744073709551616^(j/8)*256^(j%8):=by
  rw[show(18446744073709551616:Int)=256^8 from by decide,←Int.pow_mul,←Int.pow_add]
  congr 1;omega
 have hp:(0:Int)<18446744073709551616^(j/8):=Int.pow_pos (by decide)
 have a0:0≤V/18446744073709551616^(j/8):=Int.ediv_nonneg hV0 (by omega)
 have a1:V/18446744073709551616^(j/8)<256^(j%8):=Int.ediv_lt_of_lt_mul hp (by rw[Int.mul_comm,←e1];exact hV)
 have e2:(2:Int)^(8*(j%8))=256^(j%8):=(pow256 _).symm
 have e3:x*256^(j%8)*18446744073709551616^(j/8)=x*256^j:=by rw[e1];grind
 have hr:j%8<8:=Nat.mod_lt _ (by decide)
 have hle:(256:Int)^(j%8)≤256^7:=by
  have:j%8=0∨j%8=1∨j%8=2∨j%8=3∨j%8=4∨j%8=5∨j%8=6∨j%8=7:=by omega
  rcases this with h|h|h|h|h|h|h|h<;>rw[h]<;>decide
 have hP0:(0:Int)<256^(j%8):=Int.pow_pos (by decide)
 have e7:(256:Int)^7=72057594037927936:=by decide
 rw[e7] at hle
 refine⟨?_,?_,?_,e3⟩
 all_goals
  generalize V/18446744073709551616^(j/8)=z at *;have hzy:z=y:=by rw[←hy];exact(Int.emod_eq_of_lt a0 (by omega)).symm
  subst hzy;have m0:0≤x*256^(j%8):=Int.mul_nonneg hx0 (by omega);have m1:x*256^(j%8)≤255*256^(j%8):=Int.mul_le_mul_of_nonneg_right (by omega) (by omega)
 ·rw[e2,IntKind.wrap_u64,Int.emod_eq_of_lt m0 (by omega)];exact u64_or_add' _ _ (8*(j%8)) m0 (by omega) a0 (by rw[e2];exact a1) (by omega) x (by rw[e2])
 ·omega
 ·omega
set_option maxHeartbeats 1000000 in
theorem nof_any (a:Option Addr) (n cap:Nat) (zs:List Int) (w:World) (hn:zs.length=n) (hm:32≤n) (hm':n≤1048576) (ha:At .u8 w a zs) (hz:Byte zs) :
  Calls Tryz.prog 37 #[.slice a n cap] w (NumPost w (val 256 (zs.take 32))):=by
 have HS:Hid (NO w zs 0 ((w.alloc (.cells #[.int .u64 0,.int .u64 0,.int .u64 0,.int .u64 0] 57)).alloc (.cells #[.int .u64 0,.int .u64 0,.int .u64 0,.int .u64 0] 57))):=
  ⟨heap_alloc2_old _ _ _,⟨[0,0,0,0],rfl,heap_alloc2_new _ _ _,by unfold Wrd;decide,by rw[List.take_zero];decide⟩,((Below.refl _ _).alloc (Nat.le_refl _) _).alloc (by simp) _⟩
 go_enter Tryz.func37,Tryz.ntmps37
 go_wp2
 go_loopw [5] (fun i wr=>∃(j:Nat),j≤32∧i=.int .i64 j∧NO w zs j wr) (fun i _=>32-(intOf i).toNat)
 case atStart=>exact⟨0,Nat.zero_le _,rfl,HS.out⟩
 case round=>
  clear HS;obtain⟨j,hj,rfl,hres,⟨ns,hl,hrow,hw,hv⟩,hbel⟩:=hrel;by_cases hj0:j<32
  ·obtain⟨b0,off,rfl,hb0,hc⟩:=(ha.below hbel).get (by omega);have c0:=hc j (by omega);have hx:=hz.get j;have hV:=val_take 256 zs j (by omega);have ht0:0≤val 256 (zs.take j):=val_nonneg (by decide) (fun z hz'=>hz z (List.mem_of_mem_take hz'));have ht1:val 256 (zs.take j)<256^j:=by
    have:=val_lt (B:=256) (by decide) (xs:=zs.take j) (fun z hz'=>hz z (List.mem_of_mem_take hz'))
    rwa [List.length_take,Nat.min_eq_left (by omega)] at this
   have hdg:=val_digit (B:=18446744073709551616) (by decide) hw (j/8);rw[hv] at hdg;obtain⟨n1,n2,n3,n4⟩:=nof_word _ _ _ j hj0 ht0 ht1 hdg hx.1 hx.2;have S1:=hrow.set (j/8) (ns.getD (j/8) 0+zs.getD j 0*256^(j%8));have S2:=hw.set (j/8) _ n2 n3;have S3:=val_set 18446744073709551616 ns (j/8) (ns.getD (j/8) 0+zs.getD j 0*256^(j%8)) (by omega);rw[show ns.getD (j/8) 0+zs.getD j 0*256^(j%8)-ns.getD (j/8) 0=zs.getD j 0*256^(j%8) by omega,n4,hv,←hV] at S3;have c1:=hrow.cell (j/8) (by omega);have f1:=hrow.frozen (j/8);have HS:Hid (NO w zs (j+1) (wr.setCell ⟨w.heap.size+1,j/8,none⟩ (.int .u64 (ns.getD (j/8) 0+zs.getD j 0*256^(j%8))))):=
    ⟨((Wr.refl _ _).setCell (j/8) _).rowW hres (by omega),⟨_,by rw[List.length_set];exact hl,S1,S2,S3⟩,hbel.setCell (by simp) _⟩
   have HN1:Hid (bits .or .u64 (ns.getD (j/8) 0) (IntKind.u64.wrap (zs.getD j 0*2^(8*(j%8))))=ns.getD (j/8) 0+zs.getD j 0*256^(j%8)):=n1;clear hV ht0 ht1 hdg n1 n2 n3 n4 S1 S2 S3 hv hrow hres hbel hw;generalize zs.getD j 0=x at *;obtain⟨hx0,hx1⟩:=hx;clear hc;have hlt:(j:Int)<n:=by omega
   have hlt2:(j:Int)/8<4:=by omega
   generalize ns.getD (j/8) 0=y at *;go_wp2
   go_region
   rw[HN1.out];have HS2:Hid (NO w zs (j+1) ((wr.setCell ⟨w.heap.size+1,j/8,none⟩ (.int .u64 (y+x*256^(j%8)))).drew)):=
    ⟨HS.out.res,HS.out.row,⟨HS.out.below.os,HS.out.below.tape,HS.out.below.output,HS.out.below.size,HS.out.below.block⟩⟩
   clear HS c0 c1 f1;generalize (wr.setCell ⟨w.heap.size+1,j/8,none⟩ (.int .u64 (y+x*256^(j%8)))).drew=w2 at *;go_wp2;go_roundw
   case rel=>exact⟨j+1,by omega,by go_num,HS2.out⟩
   case measure=>simp[intOf];omega
  ·have hj32:j=32:=by omega
   subst hj32;have HSZ:Hid ((Tryz.prog.info? 57).map (·.size)=some ((ns.map (Value.int .u64)).toArray).size):=sizeNum hl;have HZ4:Hid (([0,0,0,0].map (Value.int .u64)).toArray.size=((ns.map (Value.int .u64)).toArray).size):=by show _=_;simp[hl]
   have HRS:Hid (RowW wr w.heap.size 57 [0,0,0,0]):=hres;have HRO:Hid (RowW wr (w.heap.size+1) 57 ns):=hrow;have HBE:Hid (Below w.heap.size w wr):=hbel;have HV:Hid (val 18446744073709551616 ns=val 256 (zs.take 32)):=hv;clear hres hrow hbel hv;go_wp2_with (first
    |(refine wpList_load_row rfl 57 (.tmp 3) rfl (w.heap.size+1) rfl 57 _ (0,0) _ HRO.out Tryz.underlying57 rfl HSZ.out ?_)
    |(refine wpList_store_row rfl 57 (.tmp 2) (.tmp 24) rfl w.heap.size ((ns.map (Value.int .u64)).toArray) rfl rfl 57 _ HRS.out HSZ.out HZ4.out (all_oneCell_toArray (ints_oneCell _ _)) ?_))
   refine bodyPost_ret (v:=.agg (ns.map (Value.int .u64)).toArray) (results_cell_row rfl _ _ w.heap.size 57 _ (0,0) _ rfl (setRow_heap _ _ _ _ _ _ HRS.out) Tryz.underlying57 rfl HSZ.out) rfl ⟨ns,hl,hw,HV.out,rfl,?_⟩;exact HBE.out.trans ((Wr.setRow _ _ _).below (Nat.le_refl _))
end Go.Proofs.YtapejbpgdjbjjaaGreatDoor
namespace Go.Proofs.YtapejbpgdjbjjaaGreatDoor
open Go.ChangeShapes Go.WideShapes Go.ChangeAt Go.RowKit
set_option linter.unusedVariables false
theorem lm1 (a b:Int) (ha:0≤a) (ha':a<18446744073709551616) (hb:0≤b) (hb':b<18446744073709551616) :
  bits .and .u64 (bits .or .u64 (a/2251799813685248) (IntKind.u64.wrap (b*8192))) 2251799813685247=(a/2251799813685248+b%2251799813685248*8192)%2251799813685248:=by
 have e:IntKind.u64.wrap (b*8192)=b%2251799813685248*8192:=by rw[IntKind.wrap_u64];omega
 rw[e,u64_or_add' (b%2251799813685248*8192) (a/2251799813685248) 13 (by omega) (by omega) (by omega) (by rw[show(2:Int)^13=8192 from by decide];omega) (by omega) (b%2251799813685248) (by rw[show(2:Int)^13=8192 from by decide])]
 exact u64_and_mask _ 51 (by omega) (by omega) _ (by decide) (by decide)
theorem lm2 (a b:Int) (ha:0≤a) (ha':a<18446744073709551616) (hb:0≤b) (hb':b<18446744073709551616) :
  bits .and .u64 (bits .or .u64 (a/274877906944) (IntKind.u64.wrap (b*67108864))) 2251799813685247=(a/274877906944+b%274877906944*67108864)%2251799813685248:=by
 have e:IntKind.u64.wrap (b*67108864)=b%274877906944*67108864:=by rw[IntKind.wrap_u64];omega
 rw[e,u64_or_add' (b%274877906944*67108864) (a/274877906944) 26 (by omega) (by omega) (by omega) (by rw[show(2:Int)^26=67108864 from by decide];omega) (by omega) (b%274877906944) (by rw[show(2:Int)^26=67108864 from by decide])]
 exact u64_and_mask _ 51 (by omega) (by omega) _ (by decide) (by decide)
theorem lm3 (a b:Int) (ha:0≤a) (ha':a<18446744073709551616) (hb:0≤b) (hb':b<18446744073709551616) :
  bits .and .u64 (bits .or .u64 (a/33554432) (IntKind.u64.wrap (b*549755813888))) 2251799813685247=(a/33554432+b%33554432*549755813888)%2251799813685248:=by
 have e:IntKind.u64.wrap (b*549755813888)=b%33554432*549755813888:=by rw[IntKind.wrap_u64];omega
 rw[e,u64_or_add' (b%33554432*549755813888) (a/33554432) 39 (by omega) (by omega) (by omega) (by rw[show(2:Int)^39=549755813888 from by decide];omega) (by omega) (b%33554432) (by rw[show(2:Int)^39=549755813888 from by decide])]
 exact u64_and_mask _ 51 (by omega) (by omega) _ (by decide) (by decide)
def lmb (a b c d:Int):List Int:=[a%2251799813685248,(a/2251799813685248+b%2251799813685248*8192)%2251799813685248,(b/274877906944+c%274877906944*67108864)%2251799813685248,(c/33554432+d%33554432*549755813888)%2251799813685248,d/4096%2251799813685248]
theorem lmb_ok (a b c d:Int):EOk (lmb a b c d):=ok5 _ _ _ _ _ (by omega) (by omega) (by omega) (by omega) (by omega)
theorem lmb_dig (a b c d:Int):Dig B51 (lmb a b c d):=by
 intro z hz
 unfold B51
 simp only[lmb,List.mem_cons,List.not_mem_nil,or_false] at hz
 rcases hz with rfl|rfl|rfl|rfl|rfl<;>omega
theorem lmb_val (a b c d:Int) (ha:0≤a) (ha':a<18446744073709551616) (hb:0≤b) (hb':b<18446744073709551616) (hc:0≤c) (hc':c<18446744073709551616) (hd:0≤d) (hd':d<18446744073709551616) :
  val B51 (lmb a b c d)=val 18446744073709551616 [a,b,c,d]%(fp+19):=by
 simp only[lmb,val,B51,fp_lit]
 omega
theorem lmb_least (a b c d:Int):lsE (lmb a b c d)=lmb a b c d↔val B51 (lmb a b c d)<fp:=by
 have h:=lsE_all (lmb_ok a b c d)
 have hb:=ev_bd (lmb a b c d)
 constructor
 ·intro e;have e2:=h.2.2;rw[e] at e2;rw[e2];exact hb.2
 ·intro e;refine val_inj (B:=B51) (by decide) (sst_dig _) (lmb_dig _ _ _ _) (by rw[lsE_len];rfl) ?_;rw[h.2.2];exact Int.emod_eq_of_lt (val_nonneg (by decide) (lmb_dig _ _ _ _)) e
set_option maxHeartbeats 1000000 in
theorem elementOf_any (a b c d:Int) (w:World) (ha:0≤a) (ha':a<18446744073709551616) (hb:0≤b) (hb':b<18446744073709551616) (hc:0≤c) (hc':c<18446744073709551616) (hd:0≤d) (hd':d<18446744073709551616) :
  Calls Tryz.prog 68 #[.agg #[.int .u64 a,.int .u64 b,.int .u64 c,.int .u64 d]] w fun e w'=>e=.returned (.agg ((lmb a b c d).map (Value.int .u64)).toArray)∧Below w.heap.size w w':=by
 have l0:bits .and .u64 a 2251799813685247=a%2251799813685248:=u64_and_mask _ 51 (by omega) (by omega) _ (by decide) (by decide)
 have l1:=lm1 a b ha ha' hb hb'
 have l2:=lm2 b c hb hb' hc hc'
 have l3:=lm3 c d hc hc' hd hd'
 have l4:bits .and .u64 (d/4096) 2251799813685247=d/4096%2251799813685248:=u64_and_mask _ 51 (by omega) (by omega) _ (by decide) (by decide)
 have H0:Hid (bits .and .u64 a 2251799813685247=a%2251799813685248∧bits .and .u64 (bits .or .u64 (a/2251799813685248) (IntKind.u64.wrap (b*8192))) 2251799813685247=(a/2251799813685248+b%2251799813685248*8192)%2251799813685248∧bits .and .u64 (bits .or .u64 (b/274877906944) (IntKind.u64.wrap (c*67108864))) 2251799813685247=(b/274877906944+c%274877906944*67108864)%2251799813685248∧bits .and .u64 (bits .or .u64 (c/33554432) (IntKind.u64.wrap (d*549755813888))) 2251799813685247=(c/33554432+d%33554432*549755813888)%2251799813685248∧bits .and .u64 (d/4096) 2251799813685247=d/4096%2251799813685248):=⟨l0,l1,l2,l3,l4⟩
 clear l0 l1 l2 l3 l4
 go_enter Tryz.func68,Tryz.ntmps68
 go_wp2_with fail
 obtain⟨l0,l1,l2,l3,l4⟩:=H0.out
 rw[l0,l1,l2,l3,l4]
 exact bodyPost_ret (v:=.agg ((lmb a b c d).map (Value.int .u64)).toArray) (resE rfl _ _ (w.heap.size+1) (lmb a b c d) rfl rfl (heap_alloc2_new _ _ _)) rfl ⟨rfl,((Below.refl _ _).alloc (Nat.le_refl _) _).alloc (by simp) _⟩
set_option maxHeartbeats 1000000 in
theorem bit255_any (g:Nat) (ns:List Int) (w:World) (hl:ns.length=4) (hr:RowW w g 57 ns) (hw:Wrd ns) :
  Calls Tryz.prog 67 #[.pointer (some ⟨g,0,none⟩),.int .i64 255] w fun e w'=>e=.returned (.int .u64 (ns.getD 3 0/9223372036854775808))∧w'=w:=by
 have c3:=hr.cell 3 (by omega)
 obtain⟨h0,h1⟩:=hw.get 3
 have HA:Hid (bits .and .u64 (ns.getD 3 0/9223372036854775808) 1=ns.getD 3 0/9223372036854775808):=by
  show _=_
  rw[u64_and_mask _ 1 (by omega) (by omega) 1 (by decide) (by decide)];omega
 clear hr hw hl
 generalize ns.getD 3 0=x at *
 go_enter Tryz.func67,Tryz.ntmps67
 go_wp2
 rw[HA.out]
 go_ret
 exact⟨rfl,rfl⟩
end Go.Proofs.YtapejbpgdjbjjaaGreatDoor
namespace Go.Proofs.YtapejbpgdjbjjaaGreatDoor
open Go.ChangeShapes Go.WideShapes Go.ChangeAt Go.RowKit
set_option linter.unusedVariables false
section
variable {P:Program} {ops:Array Oper} {Q:Exit→Act→World→Prop} {md:Region.Mode}
theorem wpAny_slotsG (M:Nat→World→World→Prop) (frame:(Nat→Value)→Act) (Ext:(Nat→Bool)→World→Prop) (Good:Nat→(Nat→Bool)→World→Value→Prop)
  (hstab:∀ j L w w' i v,M i w w'→i≠j→L i=false→Good j L w v→Good j (updK L i) w' v)
  (hback:(List.range ops.size).all (fun i=>((ops[i]?).map (fun o=>o.after.all (fun e=>decide (e.on<i)))).getD false)=true)
  (hop:∀(i:Nat) (o:Oper) (L:Nat→Bool) (u:Nat→Value) (w:World),ops[i]?=some o→L i=false→Ext L w→(∀ e∈o.after,Region.binds md e=true→Good e.on L w (u e.on))→
   ∀ K:Act→World→Prop,(∀ w' v,Good i (updK L i) w' v→Ext (updK L i) w'→M i w w'→K (frame (upd u i v)) w')→(if Region.wanted o (yielded ops (frame u).tmps)=true then Oper.wp P o (frame u) w K Q else K ((frame u).put o.dst undef) w))
  (hdone:∀ L u w,Ext L w→(∀ i,i<ops.size→Good i L w (u i))→Q .normal (frame u) w) :
  ∀(fuel:Nat) (listed:Array Bool) (u:Nat→Value) (w:World),listed.size=ops.size→Ext (fun n=>listed.getD n false) w→(∀ i,i<ops.size→listed.getD i false=true→Good i (fun n=>listed.getD n false) w (u i))→
   (listed.toList.filter (!·)).length≤fuel→wpAny P md ops Q fuel listed (frame u) w:=by
 have hb:∀(i:Nat) (o:Oper),ops[i]?=some o→∀ e∈o.after,e.on<i:=fun i o ho e he=>by
  have hi:i<ops.size:=(Array.getElem?_eq_some_iff.1 ho).1;have:=List.all_eq_true.1 hback i (List.mem_range.2 hi);rw[ho] at this;simp at this;obtain⟨k,hk,rfl⟩:=Array.mem_iff_getElem.1 he;exact this k hk
 have hfin:∀(listed:Array Bool) (u:Nat→Value) (w:World),listed.size=ops.size→Ext (fun n=>listed.getD n false) w→(∀ i,i<ops.size→listed.getD i false=true→Good i (fun n=>listed.getD n false) w (u i))→Region.ready md ops listed=[]→Q .normal (frame u) w:=by
  intro listed u w hs he hgd hr;refine hdone _ u w he fun i hi=>hgd i hi ?_
  have hall:∀ n i,i<n→i<ops.size→listed.getD i false=true:=by
   intro n
   induction n with
   |zero=>intro i h;omega
   |succ n ih=>
    intro i hin hi;by_cases hlt:i<n
    ·exact ih i hlt hi
    ·cases hl:listed.getD i false with
     |true=>rfl
     |false=>
      exfalso
      have hl':listed.getD i true=false:=by
       have hil:i<listed.size:=by omega
       simp[hil] at hl ⊢;exact hl
      have:i∈Region.ready md ops listed:=mem_ready.2 ⟨hi,hl',ops[i],by simp[hi],fun e hee _=>ih e.on (by have:=hb i ops[i] (by simp[hi]) e hee;omega) (by have:=hb i ops[i] (by simp[hi]) e hee;omega)⟩;rw[hr] at this;cases this
  exact hall (i+1) i (by omega) hi
 intro fuel
 induction fuel with
 |zero=>
  intro listed u w hs he hgd hc;have hr:Region.ready md ops listed=[]:=by
   apply List.eq_nil_iff_forall_not_mem.2;intro i hi;obtain⟨h1,h2,_⟩:=mem_ready.1 hi;have hil:i<listed.size:=by omega
   have h3:listed[i]=false:=by simpa[hil] using h2
   have:listed[i]∈listed.toList.filter (!·):=by
    rw[List.mem_filter];exact⟨by simp,by rw[h3];rfl⟩
   have:=List.length_pos_of_mem this;omega
  exact⟨hr,hfin listed u w hs he hgd hr⟩
 |succ fuel ih=>
  intro listed u w hs he hgd hc;refine⟨fun hr=>hfin listed u w hs he hgd hr,fun i hi=>?_⟩;obtain⟨h1,h2,o,ho,h3⟩:=mem_ready.1 hi;refine wpOp_step ho fun K hK=>?_
  have hil:i<listed.size:=by omega
  have hnl:listed.getD i false=false:=by simp[hil] at h2 ⊢;exact h2
  have hupd:(fun n=>(listed.setIfInBounds i true).getD n false)=updK (fun n=>listed.getD n false) i:=by
   funext n;rw[getD_set listed i n hil];rfl
  refine hop i o (fun n=>listed.getD n false) u w ho hnl he (fun e hee hbd=>hgd e.on (by have:=hb i o ho e hee;omega) (h3 e hee hbd)) K fun w' v hgv hext hm=>hK _ _ ?_
  refine ih _ _ w' (by simpa using hs) (by rw[hupd];exact hext) (fun j hj hlj=>?_) ?_
  ·rw[getD_set listed i j hil] at hlj;unfold upd;by_cases hji:j=i
   ·subst hji;rw[hupd];simpa using hgv
   ·rw[if_neg hji] at hlj;rw[if_neg hji,hupd];exact hstab j _ w w' i _ hm (Ne.symm hji) hnl (hgd j hj hlj)
  ·have:listed.toList[i]?=some false:=by simp[hil] at h2;simp[hil,h2]
   have:=count_set listed.toList i this;rw[Array.toList_setIfInBounds];omega
end
end Go.Proofs.YtapejbpgdjbjjaaGreatDoor
