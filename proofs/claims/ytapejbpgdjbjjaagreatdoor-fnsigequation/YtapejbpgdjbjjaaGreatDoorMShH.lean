import Derived.Test.YtapejbpgdjbjjaaGreatDoorMRConS
import Derived.OwnWalk
namespace Go.Proofs.YtapejbpgdjbjjaaGreatDoor
open Go.ChangeShapes Go.WideShapes Go.ChangeAt Go.RowKit
set_option linter.unusedVariables false
def blkOf (zs:List Int):List Int:=zs.take 128++List.replicate (128-zs.length) 0
theorem blkOf_len (zs:List Int):(blkOf zs).length=128:=by unfold blkOf;simp;omega
theorem blkOf_byte {zs:List Int} (h:Byte zs):Byte (blkOf zs):=fun z hz=>by
 unfold blkOf at hz
 rcases List.mem_append.1 hz with h'|h'
 ·exact h z (List.mem_of_mem_take h')
 ·rw[(List.mem_replicate.1 h').2];exact⟨by decide,by decide⟩
theorem Tryz.sizeU8:(Tryz.prog.info? 5).map (·.size)=some 1:=by kernel_rfl
theorem splice_blk (zs:List Int):splice ((List.replicate 128 (0:Int)).map (Value.int .u8)) 0 ((zs.take 128).map (Value.int .u8))=(blkOf zs).map (Value.int .u8):=by
 unfold splice blkOf
 rw[List.take_zero,List.nil_append,List.map_append,←List.map_drop,List.drop_replicate,Nat.zero_add,List.length_map,List.length_take,show 128-min 128 zs.length=128-zs.length by omega]
theorem run_sliceAll (w:World) (g:Nat):(Instr.sliceAt 69 (.pointer (some ⟨g,0,none⟩)) none none none).run Tryz.prog w=.ok (.slice (some ⟨g,0,none⟩) 128 128) w:=by
 unfold Instr.sliceAt
 simp[run_underlying Tryz.underlying69,go_sem,Instr.sliceBounds,Addr.add]
set_option maxRecDepth 100000 in
set_option maxHeartbeats 1000000 in
theorem blk_any (a:Option Addr) (n cap:Nat) (zs:List Int) (w:World) (hn:zs.length=n) (ha:At .u8 w a zs) (hm:n≤2097152) :
  Calls Tryz.prog 45 #[.slice a n cap] w fun e w'=>e=.returned (.agg ((blkOf zs).map (Value.int .u8)).toArray)∧Below w.heap.size w w':=by
 have z1:=zvBlk
 have z2:=zsBlk
 have z3:=znBlk
 have hsl:=fun w=>run_sliceAll w
 obtain⟨w2,hw2⟩:∃ w2,w2=(w.alloc (.cells zBlk 69)).alloc (.cells zBlk 69):=⟨_,rfl⟩
 have HB:Hid (Below w.heap.size w w2):=by rw[hw2];exact((Below.refl _ _).alloc (Nat.le_refl _) _).alloc (by simp) _
 have HR0:Hid (Row w2 w.heap.size 69 (List.replicate 128 0)):=by show _=_;rw[hw2,heap_alloc2_old,zcBlk]
 have HR1:Hid (Row w2 (w.heap.size+1) 69 (List.replicate 128 0)):=by show _=_;rw[hw2,heap_alloc2_new,zcBlk]
 have HA:=hid_ofS ha
 have HN:=hid_ofS hn
 have HW:=hid_ofS hw2
 obtain⟨zz,hzz⟩:∃ zz,zz=(List.replicate 128 (0:Int)).map (Value.int .u8):=⟨_,rfl⟩
 have HSP:Hid (splice zz 0 ((zs.take 128).map (Value.int .u8))=(blkOf zs).map (Value.int .u8)):=by show _=_;rw[hzz];exact splice_blk zs
 have HR1:Hid (w2.heap[w.heap.size+1]?=some (.cells zz.toArray 69 (0,0))):=by rw[hzz];exact HR1
 have HLn:Hid (((zs.take 128).map (Value.int .u8)).length=Nat.min n 128):=by show _=_;rw[List.length_map,List.length_take,hn];exact Nat.min_comm _ _
 have HLm:Hid (0+((zs.take 128).map (Value.int .u8)).length≤zz.length):=by show _≤_;rw[hzz,List.length_map,List.length_take,List.length_map,List.length_replicate];omega
 clear hzz
 have HP:Hid (0<((zs.take 128).map (Value.int .u8)).length→some (⟨w.heap.size+1,0,none⟩:Addr)=some ⟨w.heap.size+1,0,none⟩∧∃ ad,a=some ad∧∀ j v,((zs.take 128).map (Value.int .u8))[j]?=some v→w2.cell? (ad.add j)=some v):=by
  intro hp;refine⟨rfl,?_⟩;rw[List.length_map,List.length_take] at hp;obtain⟨b,o,rfl,hb,hc⟩:=(HA.out.below HB.out).get (by omega);refine⟨_,rfl,fun j v hv=>?_⟩;have hj:j<128∧j<zs.length:=by have:=(List.getElem?_eq_some_iff.1 hv).1;rw[List.length_map,List.length_take] at this;omega
  rw[Addr.add_lit,hc j hj.2];rw[List.getElem?_map,List.getElem?_take_of_lt hj.1] at hv;simp[hj.2] at hv ⊢;exact hv
 clear ha hn hw2
 go_enter Tryz.func45,Tryz.ntmps45
 go_upto_region 2 with fail
 rw[←HW.out]
 go_wp2_with (first
  |(refine wpList_copy_splice rfl (.tmp 4) (.tmp 5) 22 22 rfl 5 Tryz.underlying22 Tryz.sizeU8 (some ⟨w.heap.size+1,0,none⟩) a 128 128 n cap rfl rfl (w.heap.size+1) 0 zz 69 HR1.out ((zs.take 128).map (Value.int .u8)) HLn.out HP.out HLm.out (ints_oneCell _ _) (w.heap.size+1) w2 (Below.refl _ _) (Nat.le_refl _) ?_)
  |fail)
 rw[←List.map_take,HSP.out]
 intro w3 hr3 hb3
 have HR3:Hid (Row w3 (w.heap.size+1) 69 (blkOf zs)):=hr3.out
 have HR03:Hid (Row w3 w.heap.size 69 (List.replicate 128 0)):=HR0.out.below hb3 (by omega)
 have HB3:Hid (Below w.heap.size w w3):=HB.out.trans (hb3.mono (by omega))
 have HL:=hid_ofS (blkOf_len zs)
 clear hr3 hb3 HR0 HR1 HB HA HN HW z1 z2 z3 hsl
 go_wp2_with (first
  |(refine wpList_loadB rfl (.tmp 3) rfl Tryz.underlying69 Tryz.sizeBlk (w.heap.size+1) (blkOf zs) rfl HL.out HR3.out ?_)
  |(refine wpList_storeB rfl (.tmp 2) (.tmp 7) rfl Tryz.sizeBlk w.heap.size (blkOf zs) (List.replicate 128 0) rfl rfl HL.out (by simp) HR03.out ?_)
  |fail)
 intro w4 hr4 hw4
 have HB4:Hid (Below w.heap.size w w4):=HB3.out.trans (hw4.below (Nat.le_refl _))
 have HR4:=hid_ofS hr4
 clear hr4 hw4
 go_wp2
 exact bodyPost_ret (v:=.agg ((blkOf zs).map (Value.int .u8)).toArray) (results_cell_row rfl _ _ w.heap.size 69 _ (0,0) _ rfl HR4.out Tryz.underlying69 rfl (by rw[Tryz.sizeBlk];simp[HL.out])) rfl ⟨rfl,HB4.out⟩
def ivL:List Int:=(List.range 8).map fun i=>kt (80+i)
theorem ivL_get (i:Nat) (h:i<8):ivL.getD i 0=kt (80+i):=by unfold ivL;simp[List.getD,h]
theorem ivL_w8:W8 ivL:=⟨by simp[ivL],fun i=>by
 by_cases h:i<8
 ·rw[ivL_get i h];exact kt_u64 _
 ·rw[List.getD_eq_getElem?_getD,List.getElem?_eq_none (by unfold ivL;simp;omega)];exact u64_zero⟩
def ivK (k:Nat):List Int:=(List.range 8).map fun i=>if i<k then kt (80+i) else 0
theorem ivK_len (k:Nat):(ivK k).length=8:=by simp[ivK]
theorem ivK_set (k:Nat) (h:k<8):(ivK k).set k (kt (80+k))=ivK (k+1):=by
 apply List.ext_getElem?
 intro i
 rw[List.getElem?_set]
 unfold ivK
 by_cases h1:k=i
 ·subst h1;simp[h]
 ·rw[if_neg h1];by_cases h2:i<8
  ·have e:(i<k+1)=(i<k):=by apply propext;omega
   simp[h2,e]
  ·simp[h2]
theorem ivK_8:ivK 8=ivL:=by
 unfold ivK ivL
 apply List.map_congr_left
 intro i hi
 rw[if_pos (List.mem_range.1 hi)]
theorem ivK_0:ivK 0=[0,0,0,0,0,0,0,0]:=rfl
structure IV (w:World) (k:Nat) (y:World):Prop where
 res:RowW y w.heap.size 66 [0,0,0,0,0,0,0,0]
 row:RowW y (w.heap.size+1) 66 (ivK k)
 below:Below w.heap.size w y
set_option maxHeartbeats 1000000 in
theorem first_any (w:World) (hT:TabIn w) (hz:0<w.heap.size) :
  Calls Tryz.prog 44 #[] w fun e w'=>e=.returned (.agg (ivL.map (Value.int .u64)).toArray)∧Below w.heap.size w w':=by
 have HT:=hid_ofS hT
 have HS:Hid (IV w 0 ((w.alloc (.cells #[.int .u64 0,.int .u64 0,.int .u64 0,.int .u64 0,.int .u64 0,.int .u64 0,.int .u64 0,.int .u64 0] 66)).alloc (.cells #[.int .u64 0,.int .u64 0,.int .u64 0,.int .u64 0,.int .u64 0,.int .u64 0,.int .u64 0,.int .u64 0] 66))):=
  ⟨heap_alloc2_old _ _ _,heap_alloc2_new _ _ _,((Below.refl _ _).alloc (Nat.le_refl _) _).alloc (by simp) _⟩
 clear hT
 go_enter Tryz.func44,Tryz.ntmps44
 go_wp2
 go_loopw [3] (fun i wr=>∃ k:Nat,k≤8∧i=.int .i64 k∧IV w k wr) (fun i _=>8-(intOf i).toNat)
 case atStart=>exact⟨0,by omega,rfl,HS.out⟩
 case round=>
  clear HS;obtain⟨k,hk,rfl,hs⟩:=hrel;by_cases hlt:k<8
  ·have hlt':(k:Int)<8:=by omega
   have hc:wr.cell? ⟨0,80+k,none⟩=some (.int .u64 (kt (80+k))):=by
    rw[World.cell?_of_block (w:=w) (hs.below.block 0 hz)];exact HT.out (80+k) (by omega)
   have hc2:=hs.row.cell k (by rw[ivK_len];exact hlt);have hf:=hs.row.frozen k;have hN:Hid (IV w (k+1) (wr.setCell ⟨w.heap.size+1,k,none⟩ (.int .u64 (kt (80+k))))):=
    ⟨((Wr.refl _ _).setCell k _).rowW hs.res (by omega),by rw[←ivK_set k hlt];exact hs.row.set k _,hs.below.setCell (by simp) _⟩
   have he:((80:Int)+(k:Int)).toNat=80+k:=by omega
   clear hs;generalize kt (80+k)=c at *;go_wp2;go_roundw
   case rel=>exact⟨k+1,by omega,by go_num,hN.out⟩
   case measure=>simp[intOf];omega
  ·obtain rfl:k=8:=by omega
   have H1:=hid_ofS hs.row;rw[ivK_8] at H1;have H2:=hid_ofS hs.res;have H3:=hid_ofS hs.below;have HL:=hid_ofS ivL_w8.1;clear hs;go_wp2_with (first
    |(refine wpList_loadW rfl (.tmp 1) rfl Tryz.underlying66 Tryz.sizeWds (w.heap.size+1) ivL rfl HL.out H1.out ?_)
    |(refine wpList_storeW rfl (.tmp 0) (.tmp 13) rfl Tryz.sizeWds w.heap.size ivL [0,0,0,0,0,0,0,0] rfl rfl HL.out rfl H2.out ?_)
    |fail)
   intro w3 hr3 hw3;have HB3:Hid (Below w.heap.size w w3):=H3.out.trans (hw3.below (Nat.le_refl _));have HR3:=hid_ofS hr3;clear hr3 hw3 H1 H2 H3;go_wp2;exact bodyPost_ret (v:=.agg (ivL.map (Value.int .u64)).toArray) (results_cell_row rfl _ _ w.heap.size 66 _ (0,0) _ rfl HR3.out Tryz.underlying66 rfl (by rw[Tryz.sizeWds];simp[HL.out])) rfl ⟨rfl,HB3.out⟩
end Go.Proofs.YtapejbpgdjbjjaaGreatDoor
namespace Go.Proofs.YtapejbpgdjbjjaaGreatDoor
open Go.ChangeShapes Go.WideShapes Go.ChangeAt Go.RowKit
set_option linter.unusedVariables false
def txtW (hs:List Int):List Int:=hs.flatMap by8
theorem txtW_snoc (hs:List Int) (k:Nat) (h:k<hs.length):txtW (hs.take (k+1))=txtW (hs.take k)++by8 (hs.getD k 0):=by
 unfold txtW;rw[take_snocI hs k h,List.flatMap_append];simp
theorem by8_take (v:Int) (i:Nat) (h:i<8):(by8 v).take (i+1)=(by8 v).take i++[v/2^(56-8*i)%256]:=by
 rw[take_snocI _ _ (by rw[by8_len];exact h),by8_get v i h]
theorem txtW_len (hs:List Int):(txtW hs).length=8*hs.length:=by
 unfold txtW
 induction hs with
 |nil=>rfl
 |cons a l ih=>rw[List.flatMap_cons,List.length_append,by8_len,ih,List.length_cons];omega
theorem txtW_byte (hs:List Int):Byte (txtW hs):=fun z hz=>by
 unfold txtW at hz
 obtain⟨v,_,h⟩:=List.mem_flatMap.1 hz
 exact by8_byte v z h
set_option maxRecDepth 100000 in
set_option maxHeartbeats 2000000 in
theorem textI_any (g:Nat) (hs:List Int) (w:World) (hr:RowW w g 66 hs) (h8:W8 hs) :
  Calls Tryz.prog 48 #[.pointer (some ⟨g,0,none⟩)] w fun e w'=>∃ v,e=.returned v∧Own w' w.heap.size v (txtW hs)∧Below w.heap.size w w':=by
 have hgl:=hr.lt
 have HR:=hid_ofS hr
 have H8:=hid_ofS h8
 clear hr h8
 obtain⟨i0,hi,hz0,hz1,hz2⟩:=info_parts Tryz.infoU8'
 have HI:=hid_ofS (And.intro hi (And.intro hz0 (And.intro hz1 hz2)))
 clear hi hz0 hz1 hz2
 go_enter Tryz.func48,Tryz.ntmps48
 go_wp2_with (refine wpList_make_own _ rfl _ _ 22 rfl w.heap.size 5 i0 (.int .u8 0) 1 Tryz.underlying22 HI.out.1 HI.out.2.1 HI.out.2.2.1 .i64 .i64 64 64 rfl rfl rfl (by rw[HI.out.2.2.2];decide) (by decide) (Nat.le_refl _) ?_)
 intro w1 o1 b1
 have HO1:Hid (Own w1 w.heap.size (.slice (some ⟨w.heap.size,0,none⟩) 0 64) (txtW (hs.take 0))):=⟨o1,_,_,rfl⟩
 have HB1:Hid (Below w.heap.size w w1):=(Below.refl _ _).grown b1 (Nat.le_refl _) (fun k hk=>by cases hk)
 clear o1 b1
 go_wp2
 go_loopw [3,9] (fun v i wr=>∃ k:Nat,k≤8∧i=.int .i64 k∧Own wr w.heap.size v (txtW (hs.take k))∧Below w.heap.size w wr) (fun _ i _=>8-(intOf i).toNat)
 case atStart=>exact⟨0,by omega,rfl,HO1.out,HB1.out⟩
 case round=>
  clear HO1 HB1;obtain⟨k,hk,rfl,hown,hbel⟩:=hrel;by_cases hlt:k<8
  ·have hlt':(k:Int)<8:=by omega
   have hc:=(HR.out.below hbel hgl).cell k (by rw[H8.out.1];exact hlt);have hu:=H8.out.2 k;have HSN:=hid_ofS (txtW_snoc hs k (by rw[H8.out.1];exact hlt));have HPL:=hid_ofS (txtW_len (hs.take k));rw[List.length_take,H8.out.1] at HPL;have HO:=hid_ofS hown;have HB:=hid_ofS hbel;clear hown hbel;obtain⟨x,hx⟩:∃ x,x=hs.getD k 0:=⟨_,rfl⟩
   rw[←hx] at hc hu HSN;clear hx;obtain⟨p,hp⟩:∃ p,p=txtW (hs.take k):=⟨_,rfl⟩
   rw[←hp] at HO HSN HPL;clear hp;obtain⟨hu0,hu1⟩:=hu;have hlp:p.length≤64:=by have:=HPL.out;omega
   go_wp2
   go_loopw [3,14] (fun v i wr=>∃ j:Nat,j≤8∧i=.int .i64 j∧Own wr w.heap.size v (p++(by8 x).take j)∧Below w.heap.size w wr) (fun _ i _=>8-(intOf i).toNat)
   case atStart=>exact⟨0,by omega,rfl,by simpa using HO.out,HB.out⟩
   case round=>
    clear HO HB hc;obtain⟨j,hj,rfl,hown,hbel⟩:=hrel;by_cases hlj:j<8
    ·have hlj':(j:Int)<8:=by omega
     have hsz:=hbel.size;have HE:=hid_ofS (by8_take x j hlj);have HLJ:Hid ((p++(by8 x).take j).length+1≤1099511627776):=by show _≤_;rw[List.length_append,List.length_take,by8_len];omega
     have HO:=hid_ofS hown;have HB:=hid_ofS hbel;clear hown hbel;go_wp2_with (at_builtin;refine wpList_app _ rfl _ _ rfl w.heap.size _ _ rfl (HO.out.alloc _) ⟨wr.heap.size,0,none⟩ 1 1 [x/2^(56-8*j)%256] rfl rfl ?c1 HLJ.out ?c3 ?_);all_goals first|(intro j' hj';obtain rfl:j'=0:=by omega
                                                                                                                                                                                                                                                        simp[Addr.add];done)|skip
     case c3=>rw[World.size_alloc];omega
     intro v' w2 hown' hbel' _;have HO2:Hid (Own w2 w.heap.size v' (p++(by8 x).take (j+1))):=by rw[HE.out];exact hown'
     have HB2:Hid (Below w.heap.size w w2):=(HB.out.alloc hsz _).trans hbel';clear hown' hbel' HO HB HE HLJ;go_wp2;go_roundw
     case rel=>exact⟨j+1,by omega,by go_num,HO2.out,HB2.out⟩
     case measure=>simp[intOf];omega
    ·obtain rfl:j=8:=by omega
     rw[List.take_of_length_le (by rw[by8_len];exact Nat.le_refl _),←HSN.out] at hown;have HOW:=hid_ofS hown;have HBE:=hid_ofS hbel;clear hown hbel;go_wp2;go_roundw
     case rel=>exact⟨k+1,by omega,by go_num,HOW.out,HBE.out⟩
     case measure=>simp[intOf];omega
  ·obtain rfl:k=8:=by omega
   have HOW:=hid_ofS hown;rw[List.take_of_length_le (by rw[H8.out.1];exact Nat.le_refl _)] at HOW;have HBE:=hid_ofS hbel;clear hown hbel;go_wp2
   go_ret
   exact⟨_,rfl,HOW.out,HBE.out⟩
end Go.Proofs.YtapejbpgdjbjjaaGreatDoor
