import Derived.Test.YtapejbpgdjbjjaaGreatDoorMShB
import Derived.Test.YtapejbpgdjbjjaaGreatDoorMVal
import Derived.Deep.WholeRow
namespace Go.Proofs.YtapejbpgdjbjjaaGreatDoor
open Go.ChangeShapes Go.WideShapes Go.ChangeAt Go.RowKit
set_option linter.unusedVariables false
/-! Rows read whole and stored whole. -/
theorem wpList_loadW {w:World} {ops:Array Oper} {rest:List Oper} {o:Oper} {a:Act} {Q:Exit→Act→World→Prop} {T e t':TypeId} {n:Nat} (hgd:o.guard=none) (x:Operand) (ho:o.op=.load T x)
  (hu:Tryz.prog.underlying T=some (.array n e)) (hz:(Tryz.prog.info? T).map (·.size)=some n) (g:Nat) (es:List Int) (hx:a.eval x=.pointer (some ⟨g,0,none⟩)) (hl:es.length=n) (hr:RowW w g t' es)
  (hK:wpList Tryz.prog ops Q rest (a.put o.dst (.agg (es.map (Value.int .u64)).toArray)) w):wpList Tryz.prog ops Q (o::rest) a w:=
 wpList_load_row hgd T x ho g hx t' _ (0,0) _ hr hu rfl (by rw[hz];simp[hl]) hK
theorem wpList_storeW {w:World} {ops:Array Oper} {rest:List Oper} {o:Oper} {a:Act} {Q:Exit→Act→World→Prop} {T t':TypeId} {n:Nat} (hgd:o.guard=none) (x y:Operand) (ho:o.op=.store T x y)
  (hz:(Tryz.prog.info? T).map (·.size)=some n) (g:Nat) (es zs:List Int) (hx:a.eval x=.pointer (some ⟨g,0,none⟩)) (hy:a.eval y=.agg (es.map (Value.int .u64)).toArray) (hl:es.length=n) (hl':zs.length=n) (hr:RowW w g t' zs)
  (hK:∀ w',RowW w' g t' es→Wr g w w'→wpList Tryz.prog ops Q rest (a.put o.dst undef) w'):wpList Tryz.prog ops Q (o::rest) a w:=
 wpList_store_row hgd T x y ho g ((es.map (Value.int .u64)).toArray) hx hy t' _ hr (by rw[hz];simp[hl]) (by simp[hl,hl']) (all_oneCell_toArray (ints_oneCell _ _)) (hK _ (hr.setRow es) (Wr.setRow _ _ _))
theorem wpList_loadB {w:World} {ops:Array Oper} {rest:List Oper} {o:Oper} {a:Act} {Q:Exit→Act→World→Prop} {T e t':TypeId} {n:Nat} (hgd:o.guard=none) (x:Operand) (ho:o.op=.load T x)
  (hu:Tryz.prog.underlying T=some (.array n e)) (hz:(Tryz.prog.info? T).map (·.size)=some n) (g:Nat) (es:List Int) (hx:a.eval x=.pointer (some ⟨g,0,none⟩)) (hl:es.length=n) (hr:Row w g t' es)
  (hK:wpList Tryz.prog ops Q rest (a.put o.dst (.agg (es.map (Value.int .u8)).toArray)) w):wpList Tryz.prog ops Q (o::rest) a w:=
 wpList_load_row hgd T x ho g hx t' _ (0,0) _ hr hu rfl (by rw[hz];simp[hl]) hK
theorem wpList_storeB {w:World} {ops:Array Oper} {rest:List Oper} {o:Oper} {a:Act} {Q:Exit→Act→World→Prop} {T t':TypeId} {n:Nat} (hgd:o.guard=none) (x y:Operand) (ho:o.op=.store T x y)
  (hz:(Tryz.prog.info? T).map (·.size)=some n) (g:Nat) (es zs:List Int) (hx:a.eval x=.pointer (some ⟨g,0,none⟩)) (hy:a.eval y=.agg (es.map (Value.int .u8)).toArray) (hl:es.length=n) (hl':zs.length=n) (hr:Row w g t' zs)
  (hK:∀ w',Row w' g t' es→Wr g w w'→wpList Tryz.prog ops Q rest (a.put o.dst undef) w'):wpList Tryz.prog ops Q (o::rest) a w:=
 wpList_store_row hgd T x y ho g ((es.map (Value.int .u8)).toArray) hx hy t' _ hr (by rw[hz];simp[hl]) (by simp[hl,hl']) (all_oneCell_toArray (ints_oneCell _ _)) (hK _ (by unfold Row;rw[setRow_heap _ _ _ _ _ _ hr]) (Wr.setRow _ _ _))
theorem RowW.drew {w:World} {g:Nat} {e:TypeId} {zs:List Int} (h:RowW w g e zs):RowW w.drew g e zs:=h
theorem Row.below {w w':World} {g:Nat} {e:TypeId} {zs:List Int} {B:Nat} (h:Row w g e zs) (hb:Below B w w') (hg:g<B):Row w' g e zs:=by
 unfold Row;rw[hb.block g hg];exact h
theorem Tryz.sizeSch:(Tryz.prog.info? 105).map (·.size)=some 80:=by kernel_rfl
theorem Tryz.sizeWds:(Tryz.prog.info? 66).map (·.size)=some 8:=by kernel_rfl
theorem Tryz.sizeBlk:(Tryz.prog.info? 69).map (·.size)=some 128:=by kernel_rfl
def zSch:Array Value:=((List.replicate 80 (0:Int)).map (Value.int .u64)).toArray
theorem zcSch:zSch=((List.replicate 80 (0:Int)).map (Value.int .u64)).toArray:=rfl
theorem zvSch:∀ w,(zeroValue 105).run Tryz.prog w=.ok (.agg zSch) w:=(zero_of_info (n:=80) (by kernel_rfl)).1
theorem zsSch:zSch.size=80:=by unfold zSch;simp
theorem znSch:¬ zSch=#[]:=by intro h;have:=zsSch;rw[h] at this;simp at this
def zBlk:Array Value:=((List.replicate 128 (0:Int)).map (Value.int .u8)).toArray
theorem zcBlk:zBlk=((List.replicate 128 (0:Int)).map (Value.int .u8)).toArray:=rfl
theorem zvBlk:∀ w,(zeroValue 69).run Tryz.prog w=.ok (.agg zBlk) w:=(zero_of_info (n:=128) (by kernel_rfl)).1
theorem zsBlk:zBlk.size=128:=by unfold zBlk;simp
theorem znBlk:¬ zBlk=#[]:=by intro h;have:=zsBlk;rw[h] at this;simp at this
/-! The schedule. -/
def wtN (bs l:List Int) (t:Nat):Int:=
 if t<16 then beV ((bs.drop (8*t)).take 8)
 else IntKind.u64.wrap (IntKind.u64.wrap (IntKind.u64.wrap (sg1 (l.getD (t-2) 0)+l.getD (t-7) 0)+sg0 (l.getD (t-15) 0))+l.getD (t-16) 0)
def schN (bs:List Int):Nat→List Int
 |0=>[]
 |n+1=>schN bs n++[wtN bs (schN bs n) n]
def wd (bs:List Int) (t:Nat):Int:=wtN bs (schN bs t) t
theorem schN_len (bs:List Int) (n:Nat):(schN bs n).length=n:=by
 induction n with
 |zero=>rfl
 |succ n ih=>simp[schN,ih]
theorem schN_get (bs:List Int) (n t:Nat) (h:t<n):(schN bs n).getD t 0=wd bs t:=by
 induction n with
 |zero=>omega
 |succ n ih=>
  have hl:=schN_len bs n;unfold schN;rcases Nat.lt_or_ge t n with h'|h'
  ·rw[List.getD_eq_getElem?_getD,List.getElem?_append_left (by omega),←List.getD_eq_getElem?_getD];exact ih h'
  ·obtain rfl:t=n:=by omega
   rw[List.getD_eq_getElem?_getD,List.getElem?_append_right (by omega),hl];simp[wd]
theorem wd_lo (bs:List Int) (t:Nat) (h:t<16):wd bs t=beV ((bs.drop (8*t)).take 8):=by unfold wd wtN;rw[if_pos h]
theorem wd_hi (bs:List Int) (j:Nat):wd bs (j+16)=IntKind.u64.wrap (IntKind.u64.wrap (IntKind.u64.wrap (sg1 (wd bs (j+14))+wd bs (j+9))+sg0 (wd bs (j+1)))+wd bs j):=by
 have e:wd bs (j+16)=wtN bs (schN bs (j+16)) (j+16):=rfl
 rw[e,wtN,if_neg (by omega),schN_get _ _ _ (by omega),schN_get _ _ _ (by omega),schN_get _ _ _ (by omega),schN_get _ _ _ (by omega)]
 rfl
theorem wd_hi' (bs:List Int) (k:Nat) (h:16≤k):wd bs k=IntKind.u64.wrap (IntKind.u64.wrap (IntKind.u64.wrap (sg1 (wd bs (k-2))+wd bs (k-7))+sg0 (wd bs (k-15)))+wd bs (k-16)):=by
 obtain⟨j,rfl⟩:∃ j,k=j+16:=⟨k-16,by omega⟩
 exact wd_hi bs j
theorem wd_u64 {bs:List Int} (hz:Byte bs) (hl:bs.length=128) (t:Nat):U64 (wd bs t):=by
 rcases Nat.lt_or_ge t 16 with h|h
 ·rw[wd_lo bs t h];have hz':Byte ((bs.drop (8*t)).take 8):=fun z h=>hz z (List.mem_of_mem_drop (List.mem_of_mem_take h))
  have hl':((bs.drop (8*t)).take 8).length=8:=by simp;omega
  have hb:=beV_bd hz' 8 (by omega);rw[List.take_of_length_le (by omega)] at hb;exact⟨hb.1,by have:=hb.2;simpa using this⟩
 ·obtain⟨j,rfl⟩:∃ j,t=j+16:=⟨t-16,by omega⟩
  rw[wd_hi];exact u64_wrap _
def schA (bs:List Int) (m:Nat):List Int:=(List.range 80).map fun j=>if j<m then wd bs j else 0
theorem schA_len (bs:List Int) (m:Nat):(schA bs m).length=80:=by simp[schA]
theorem schA_get (bs:List Int) (m j:Nat) (h:j<80):(schA bs m).getD j 0=if j<m then wd bs j else 0:=by unfold schA;simp[List.getD,h]
theorem schA_zero (bs:List Int):schA bs 0=List.replicate 80 0:=by
 unfold schA;simp only[Nat.not_lt_zero,if_false];rw[List.map_const'];simp
theorem schA_set (bs:List Int) (m:Nat) (h:m<80):(schA bs m).set m (wd bs m)=schA bs (m+1):=by
 apply List.ext_getElem?
 intro i
 rw[List.getElem?_set]
 unfold schA
 by_cases h1:m=i
 ·subst h1;simp[h]
 ·rw[if_neg h1];by_cases h2:i<80
  ·have e:(i<m+1)=(i<m):=by apply propext;omega
   simp[h2,e]
  ·simp[h2]
structure SC (w:World) (bs:List Int) (m:Nat) (y:World):Prop where
 res:RowW y w.heap.size 105 (List.replicate 80 0)
 row:RowW y (w.heap.size+1) 105 (schA bs m)
 below:Below w.heap.size w y
theorem SC.drew {w:World} {bs:List Int} {m:Nat} {y:World} (h:SC w bs m y):SC w bs m y.drew:=⟨h.res.drew,h.row.drew,h.below.drew⟩
theorem SC.cellAt {w:World} {bs:List Int} {m:Nat} {y:World} (h:SC w bs m y) (j:Nat) (hj:j<m) (h8:j<80):y.cell? ⟨w.heap.size+1,j,none⟩=some (.int .u64 (wd bs j)):=by
 rw[h.row.cell j (by rw[schA_len];exact h8),schA_get _ _ _ h8,if_pos hj]
theorem SC.cell0 {w:World} {bs:List Int} {m:Nat} {y:World} (h:SC w bs m y) (j:Nat) (hj:m≤j) (h8:j<80):y.cell? ⟨w.heap.size+1,j,none⟩=some (.int .u64 0):=by
 rw[h.row.cell j (by rw[schA_len];exact h8),schA_get _ _ _ h8,if_neg (by omega)]
theorem SC.set {w:World} {bs:List Int} {m:Nat} {y:World} (h:SC w bs m y) (hm:m<80):SC w bs (m+1) (y.setCell ⟨w.heap.size+1,m,none⟩ (.int .u64 (wd bs m))):=
 ⟨((Wr.refl _ _).setCell m _).rowW h.res (by omega),by rw[←schA_set bs m hm];exact h.row.set m _,h.below.setCell (by simp) _⟩
theorem ite_sc {w:World} {bs:List Int} {m:Nat} {y:World} {b:Bool} (h:if b=true then SC w bs (m+1) y else SC w bs m y) (j:Nat) (hj:j<m) (h8:j<80):y.cell? ⟨w.heap.size+1,j,none⟩=some (.int .u64 (wd bs j)):=by
 cases b
 ·exact SC.cellAt (by simpa using h) j hj h8
 ·exact SC.cellAt (m:=m+1) (by simpa using h) j (by omega) h8
set_option maxHeartbeats 400000 in
theorem setL_any (g:Nat) (n:Int) (bs:List Int) (w:World) (hr:Row w g 69 bs) (hl:bs.length=128) (hn:U64 n) :
  Calls Tryz.prog 84 #[.pointer (some ⟨g,0,none⟩),.int .u64 n] w fun e w'=>e=.returned (.tuple #[])∧Row w' g 69 (ov8 (ov8 bs 112 (n/2^61) 8) 120 (IntKind.u64.wrap (n*8)) 8)∧Wr g w w':=by
 obtain⟨n0,n1⟩:=hn
 have A:=hid_ofS (setW_any g 112 (n/2305843009213693952) bs w hr hl (by omega) ⟨by omega,by omega⟩)
 have B:=hid_ofS (fun w1 (h:Row w1 g 69 (ov8 bs 112 (n/2305843009213693952) 8))=>setW_any g 120 (IntKind.u64.wrap (n*8)) _ w1 h (by rw[ov8_len];exact hl) (by omega) (u64_wrap _))
 have HD:=hid_ofS (show n/2^61=n/2305843009213693952 from rfl)
 clear hr
 go_enter Tryz.func84,Tryz.ntmps84
 go_wp2_with fail
 refine A.out.mono ?_
 rintro e w1 ⟨rfl,r1,b1⟩
 have B':=B.out w1 r1
 clear A B r1
 have HB1:=hid_ofS b1
 clear b1
 have HB:=hid_ofS B'
 clear B'
 go_wp2_with fail
 refine HB.out.mono ?_
 rintro e w2 ⟨rfl,r2,b2⟩
 have H2:=hid_ofS r2
 have HB2:=hid_ofS b2
 clear r2 b2 HB
 go_wp2
 go_end0
 rw[HD.out]
 exact⟨rfl,H2.out,HB1.out.trans HB2.out⟩
end Go.Proofs.YtapejbpgdjbjjaaGreatDoor
namespace Go.Proofs.YtapejbpgdjbjjaaGreatDoor
open Go.ChangeShapes Go.WideShapes Go.ChangeAt Go.RowKit
set_option linter.unusedVariables false
set_option maxRecDepth 100000 in
set_option maxHeartbeats 4000000 in
theorem sched_any (g:Nat) (bs:List Int) (w:World) (hr:Row w g 69 bs) (hl:bs.length=128) (hz:Byte bs) :
  Calls Tryz.prog 82 #[.pointer (some ⟨g,0,none⟩)] w fun e w'=>e=.returned (.agg ((schA bs 80).map (Value.int .u64)).toArray)∧Below w.heap.size w w':=by
 have HR:=hid_ofS hr
 have HL:=hid_ofS hl
 have HZ:=hid_ofS hz
 have HU:=hid_ofS (fun t=>wd_u64 hz hl t)
 have hlt:=hr.lt
 clear hr hl hz
 have HS:Hid (SC w bs 0 ((w.alloc (.cells zSch 105)).alloc (.cells zSch 105))):=by
  refine⟨?_,?_,((Below.refl _ _).alloc (Nat.le_refl _) _).alloc (by simp) _⟩
  ·unfold RowW;rw[heap_alloc2_old,zcSch]
  ·unfold RowW;rw[heap_alloc2_new,zcSch,schA_zero]
 have z1:=zvSch
 have z2:=zsSch
 have z3:=znSch
 go_enter Tryz.func82,Tryz.ntmps82
 go_wp2
 go_loopw [5] (fun i wr=>∃ k:Nat,k≤80∧i=.int .i64 k∧SC w bs k wr) (fun i _=>80-(intOf i).toNat)
 case atStart=>exact⟨0,by omega,rfl,HS.out⟩
 case round=>
  clear HS;obtain⟨k,hk,rfl,hst⟩:=hrel;by_cases h80:k<80
  ·have h80':(k:Int)<80:=by omega
   by_cases h16:k<16
   ·have h16':(k:Int)<16:=by omega
    have A:=hid_ofS (wordI_any g (8*k) bs wr (HR.out.below hst.below hlt) HL.out HZ.out (by omega));have hc:=hst.cell0 k (Nat.le_refl _) h80;have hf:=hst.row.frozen k;have e8:=hid_ofS (show((8*k:Nat):Int)=8*(k:Int) by omega);have HN:=hst.set h80;rw[wd_lo _ _ h16] at HN;have HX:=hid_ofS HN;clear HN hst;go_wp2_with fail;rw[←e8.out];refine A.out.mono ?_;rintro e w9 ⟨rfl,h9⟩;subst h9;clear A;generalize beV ((bs.drop (8*k)).take 8)=v at *;go_wp2;go_roundw
    case rel=>exact⟨k+1,by omega,by go_num,HX.out⟩
    case measure=>simp[intOf];omega
   ·have h16':¬ ((k:Int)<16):=by omega
    have HS0:=hid_ofS hst;have HWD:=wd_hi' bs k (by omega);have HST:Hid (∀ y,SC w bs k y→SC w bs (k+1) (y.setCell ⟨w.heap.size+1,k,none⟩ (.int .u64 (wd bs k)))):=fun y h=>h.set h80
    have HCE:Hid (∀ y (L:Nat→Bool),(if L 23=true then SC w bs (k+1) y else SC w bs k y)→∀ i,i<k→y.cell? ⟨w.heap.size+1,i,none⟩=some (.int .u64 (wd bs i))):=fun y L h i hi=>ite_sc h i hi (by omega)
    obtain⟨j0,hj0⟩:∃ i,i=k-16:=⟨_,rfl⟩
    obtain⟨j1,hj1⟩:∃ i,i=k-15:=⟨_,rfl⟩
    obtain⟨j9,hj9⟩:∃ i,i=k-7:=⟨_,rfl⟩
    obtain⟨j14,hj14⟩:∃ i,i=k-2:=⟨_,rfl⟩
    rw[←hj0,←hj1,←hj9,←hj14] at HWD;have hJ0:Hid ((k:Int)-16=(j0:Int)∧j0<k):=⟨by omega,by omega⟩
    have hJ1:Hid ((k:Int)-15=(j1:Int)∧j1<k):=⟨by omega,by omega⟩
    have hJ9:Hid ((k:Int)-7=(j9:Int)∧j9<k):=⟨by omega,by omega⟩
    have hJ14:Hid ((k:Int)-2=(j14:Int)∧j14<k):=⟨by omega,by omega⟩
    clear hj0 hj1 hj9 hj14;obtain⟨x0,hx0⟩:∃ x,x=wd bs j0:=⟨_,rfl⟩
    obtain⟨x1,hx1⟩:∃ x,x=wd bs j1:=⟨_,rfl⟩
    obtain⟨x9,hx9⟩:∃ x,x=wd bs j9:=⟨_,rfl⟩
    obtain⟨x14,hx14⟩:∃ x,x=wd bs j14:=⟨_,rfl⟩
    have U1:=hid_ofS (HU.out j1);rw[←hx1] at U1;have U14:=hid_ofS (HU.out j14);rw[←hx14] at U14;rw[←hx0,←hx1,←hx9,←hx14] at HWD;have hWD:=hid_ofS HWD;have hX0:=hid_ofS hx0;have hX1:=hid_ofS hx1;have hX9:=hid_ofS hx9;have hX14:=hid_ofS hx14;clear HWD hx0 hx1 hx9 hx14 hst
    go_upto_region 7 with fail
    refine wp_region_any (by kernel_rfl) ?_;refine wpAny_slotsU (fun _ _ _=>True) (frame:=(fun (a b c d e f g h i j k l m n o p q r:Value)=>fun (t:Nat→Value)=>({ tmps:=List.toArray [a,b,c,d,e,f,g,h,i,j,k,l,m,n,o,p,t 0,t 1,t 2,t 3,t 4,t 5,t 6,t 7,t 8,t 9,t 10,t 11,t 12,t 13,t 14,t 15,t 16,t 17,t 18,t 19,t 20,t 21,t 22,q,r],defers:=[] }:Act)) _ _ _ _ _ _ _ _ _ _ _ _ _ _ _ _ _ _)
     (Ext:=fun L u w'=>if L 23=true then SC w bs (k+1) w' else SC w bs k w') (Good:=fun i L w' v=>if i=0 then v=.int .i64 (k:Int) else if i=1 then v=.int .i64 (k:Int) else if i=2 then v=.int .i64 (j14:Int) else if i=3 then v=.pointer (some ⟨w.heap.size+1,j14,none⟩) else if i=4 then v=.int .u64 (x14) else if i=5 then v=.int .u64 (sg1 x14) else if i=6 then v=.int .i64 (k:Int) else if i=7 then v=.int .i64 (j9:Int) else if i=8 then v=.pointer (some ⟨w.heap.size+1,j9,none⟩) else if i=9 then v=.int .u64 (x9) else if i=10 then v=.int .u64 (IntKind.u64.wrap (sg1 x14+x9)) else if i=11 then v=.int .i64 (k:Int) else if i=12 then v=.int .i64 (j1:Int) else if i=13 then v=.pointer (some ⟨w.heap.size+1,j1,none⟩) else if i=14 then v=.int .u64 (x1) else if i=15 then v=.int .u64 (sg0 x1) else if i=16 then v=.int .u64 (IntKind.u64.wrap (IntKind.u64.wrap (sg1 x14+x9)+sg0 x1)) else if i=17 then v=.int .i64 (k:Int) else if i=18 then v=.int .i64 (j0:Int) else if i=19 then v=.pointer (some ⟨w.heap.size+1,j0,none⟩) else if i=20 then v=.int .u64 (x0) else if i=21 then v=.int .u64 (IntKind.u64.wrap (IntKind.u64.wrap (IntKind.u64.wrap (sg1 x14+x9)+sg0 x1)+x0)) else if i=22 then v=.pointer (some ⟨w.heap.size+1,k,none⟩) else if i=23 then L 23=true else True) ?hstab (by kernel_rfl) ?hop ?hdone _ _ ((fun (x0 x1 x2 x3 x4 x5 x6 x7 x8 x9 x10 x11 x12 x13 x14 x15 x16 x17 x18 x19 x20 x21 x22:Value)=>fun (i:Nat)=>if i=0 then x0 else if i=1 then x1 else if i=2 then x2 else if i=3 then x3 else if i=4 then x4 else if i=5 then x5 else if i=6 then x6 else if i=7 then x7 else if i=8 then x8 else if i=9 then x9 else if i=10 then x10 else if i=11 then x11 else if i=12 then x12 else if i=13 then x13 else if i=14 then x14 else if i=15 then x15 else if i=16 then x16 else if i=17 then x17 else if i=18 then x18 else if i=19 then x19 else if i=20 then x20 else if i=21 then x21 else if i=22 then x22 else undef) _ _ _ _ _ _ _ _ _ _ _ _ _ _ _ _ _ _ _ _ _ _ _) _ (by simp) ?ext ?start (by simp)
    case start=>intro i hi h;exact absurd h (by rw[Array.getD_eq_getD_getElem?,Array.getElem?_replicate];split<;>simp)
    case ext=>
     rw[if_neg (by show ¬ (Array.getD _ _ _=true);rw[Array.getD_eq_getD_getElem?,Array.getElem?_replicate];split<;>simp)];exact HS0.out.drew
    case hstab=>
     intro j L w9 w' i v hM hij hLi h;by_cases hl:j=23
     ·subst hl;simp at h ⊢;unfold updK;simp[h]
     ·simp only[if_neg hl] at h ⊢;exact h
    case hop=>
     intro i o L t w' ho hLi hx hdep K hK;have hi:i<24:=(Array.getElem?_eq_some_iff.1 ho).1;obtain rfl|rfl|rfl|rfl|rfl|rfl|rfl|rfl|rfl|rfl|rfl|rfl|rfl|rfl|rfl|rfl|rfl|rfl|rfl|rfl|rfl|rfl|rfl|rfl:i=0∨i=1∨i=2∨i=3∨i=4∨i=5∨i=6∨i=7∨i=8∨i=9∨i=10∨i=11∨i=12∨i=13∨i=14∨i=15∨i=16∨i=17∨i=18∨i=19∨i=20∨i=21∨i=22∨i=23:=by omega
     all_goals(simp at ho;subst ho)
     ·clear hdep;have hK':=hK w' (.int .i64 (k:Int)) (by simp) (by simpa[updK] using hx) trivial;clear hK;rw[if_pos (by rfl)];go_simp;simpa[upd] using hK'
     ·clear hdep;have hK':=hK w' (.int .i64 (k:Int)) (by simp) (by simpa[updK] using hx) trivial;clear hK;rw[if_pos (by rfl)];go_simp;simpa[upd] using hK'
     ·have d1:t 1=.int .i64 (k:Int):=by simpa using(hdep ⟨1,.data⟩ (by simp) rfl).2
      clear hdep;have e1:(k:Int)-2=(j14:Int):=hJ14.out.1;have e4:IntKind.i64.wrap (j14:Int)=(j14:Int):=by have:=hJ14.out.2;rw[IntKind.wrap_i64];omega
      have hK':=hK w' (.int .i64 (j14:Int)) (by simp) (by simpa[updK] using hx) trivial;clear hK;rw[if_pos (by rfl)];go_simp;simpa[upd,d1,e1,e4] using hK'
     ·have d2:t 2=.int .i64 (j14:Int):=by simpa using(hdep ⟨2,.data⟩ (by simp) rfl).2
      clear hdep;have e2:(j14:Int)<80:=by have:=hJ14.out.2;omega
      have hK':=hK w' (.pointer (some ⟨w.heap.size+1,j14,none⟩)) (by simp) (by simpa[updK] using hx) trivial;clear hK;rw[if_pos (by rfl)];go_simp;simpa[upd,d2] using hK'
     ·have d3:t 3=.pointer (some ⟨w.heap.size+1,j14,none⟩):=by simpa using(hdep ⟨3,.data⟩ (by simp) rfl).2
      clear hdep;have hc:w'.cell? ⟨w.heap.size+1,j14,none⟩=some (.int .u64 (x14)):=by rw[hX14.out];exact HCE.out w' L hx j14 (hJ14.out.2)
      have hK':=hK w' (.int .u64 (x14)) (by simp) (by simpa[updK] using hx) trivial;clear hK;rw[if_pos (by rfl)];go_simp;simpa[upd,d3] using hK'
     ·have d4:t 4=.int .u64 (x14):=by simpa using(hdep ⟨4,.data⟩ (by simp) rfl).2
      clear hdep;have A:=s1_any x14 w' U14.out;have hK':=hK w' (.int .u64 (sg1 x14)) (by simp) (by simpa[updK] using hx) trivial;clear hK hx;rw[if_pos (by rfl)];go_simp;try simp only[d4]
      refine A.mono ?_;rintro e w9 ⟨rfl,h9⟩;subst h9;clear A;go_simp;simpa[upd,d4] using hK'
     ·clear hdep;have hK':=hK w' (.int .i64 (k:Int)) (by simp) (by simpa[updK] using hx) trivial;clear hK;rw[if_pos (by rfl)];go_simp;simpa[upd] using hK'
     ·have d6:t 6=.int .i64 (k:Int):=by simpa using(hdep ⟨6,.data⟩ (by simp) rfl).2
      clear hdep;have e1:(k:Int)-7=(j9:Int):=hJ9.out.1;have e4:IntKind.i64.wrap (j9:Int)=(j9:Int):=by have:=hJ9.out.2;rw[IntKind.wrap_i64];omega
      have hK':=hK w' (.int .i64 (j9:Int)) (by simp) (by simpa[updK] using hx) trivial;clear hK;rw[if_pos (by rfl)];go_simp;simpa[upd,d6,e1,e4] using hK'
     ·have d7:t 7=.int .i64 (j9:Int):=by simpa using(hdep ⟨7,.data⟩ (by simp) rfl).2
      clear hdep;have e2:(j9:Int)<80:=by have:=hJ9.out.2;omega
      have hK':=hK w' (.pointer (some ⟨w.heap.size+1,j9,none⟩)) (by simp) (by simpa[updK] using hx) trivial;clear hK;rw[if_pos (by rfl)];go_simp;simpa[upd,d7] using hK'
     ·have d8:t 8=.pointer (some ⟨w.heap.size+1,j9,none⟩):=by simpa using(hdep ⟨8,.data⟩ (by simp) rfl).2
      clear hdep;have hc:w'.cell? ⟨w.heap.size+1,j9,none⟩=some (.int .u64 (x9)):=by rw[hX9.out];exact HCE.out w' L hx j9 (hJ9.out.2)
      have hK':=hK w' (.int .u64 (x9)) (by simp) (by simpa[updK] using hx) trivial;clear hK;rw[if_pos (by rfl)];go_simp;simpa[upd,d8] using hK'
     ·have d5:t 5=.int .u64 (sg1 x14):=by simpa using(hdep ⟨5,.data⟩ (by simp) rfl).2
      have d9:t 9=.int .u64 (x9):=by simpa using(hdep ⟨9,.data⟩ (by simp) rfl).2
      clear hdep;have hK':=hK w' (.int .u64 (IntKind.u64.wrap (sg1 x14+x9))) (by simp) (by simpa[updK] using hx) trivial;clear hK;rw[if_pos (by rfl)];go_simp;simpa[upd,d5,d9] using hK'
     ·clear hdep;have hK':=hK w' (.int .i64 (k:Int)) (by simp) (by simpa[updK] using hx) trivial;clear hK;rw[if_pos (by rfl)];go_simp;simpa[upd] using hK'
     ·have d11:t 11=.int .i64 (k:Int):=by simpa using(hdep ⟨11,.data⟩ (by simp) rfl).2
      clear hdep;have e1:(k:Int)-15=(j1:Int):=hJ1.out.1;have e4:IntKind.i64.wrap (j1:Int)=(j1:Int):=by have:=hJ1.out.2;rw[IntKind.wrap_i64];omega
      have hK':=hK w' (.int .i64 (j1:Int)) (by simp) (by simpa[updK] using hx) trivial;clear hK;rw[if_pos (by rfl)];go_simp;simpa[upd,d11,e1,e4] using hK'
     ·have d12:t 12=.int .i64 (j1:Int):=by simpa using(hdep ⟨12,.data⟩ (by simp) rfl).2
      clear hdep;have e2:(j1:Int)<80:=by have:=hJ1.out.2;omega
      have hK':=hK w' (.pointer (some ⟨w.heap.size+1,j1,none⟩)) (by simp) (by simpa[updK] using hx) trivial;clear hK;rw[if_pos (by rfl)];go_simp;simpa[upd,d12] using hK'
     ·have d13:t 13=.pointer (some ⟨w.heap.size+1,j1,none⟩):=by simpa using(hdep ⟨13,.data⟩ (by simp) rfl).2
      clear hdep;have hc:w'.cell? ⟨w.heap.size+1,j1,none⟩=some (.int .u64 (x1)):=by rw[hX1.out];exact HCE.out w' L hx j1 (hJ1.out.2)
      have hK':=hK w' (.int .u64 (x1)) (by simp) (by simpa[updK] using hx) trivial;clear hK;rw[if_pos (by rfl)];go_simp;simpa[upd,d13] using hK'
     ·have d14:t 14=.int .u64 (x1):=by simpa using(hdep ⟨14,.data⟩ (by simp) rfl).2
      clear hdep;have A:=s0_any x1 w' U1.out;have hK':=hK w' (.int .u64 (sg0 x1)) (by simp) (by simpa[updK] using hx) trivial;clear hK hx;rw[if_pos (by rfl)];go_simp;try simp only[d14]
      refine A.mono ?_;rintro e w9 ⟨rfl,h9⟩;subst h9;clear A;go_simp;simpa[upd,d14] using hK'
     ·have d10:t 10=.int .u64 (IntKind.u64.wrap (sg1 x14+x9)):=by simpa using(hdep ⟨10,.data⟩ (by simp) rfl).2
      have d15:t 15=.int .u64 (sg0 x1):=by simpa using(hdep ⟨15,.data⟩ (by simp) rfl).2
      clear hdep;have hK':=hK w' (.int .u64 (IntKind.u64.wrap (IntKind.u64.wrap (sg1 x14+x9)+sg0 x1))) (by simp) (by simpa[updK] using hx) trivial;clear hK;rw[if_pos (by rfl)];go_simp;simpa[upd,d10,d15] using hK'
     ·clear hdep;have hK':=hK w' (.int .i64 (k:Int)) (by simp) (by simpa[updK] using hx) trivial;clear hK;rw[if_pos (by rfl)];go_simp;simpa[upd] using hK'
     ·have d17:t 17=.int .i64 (k:Int):=by simpa using(hdep ⟨17,.data⟩ (by simp) rfl).2
      clear hdep;have e1:(k:Int)-16=(j0:Int):=hJ0.out.1;have e4:IntKind.i64.wrap (j0:Int)=(j0:Int):=by have:=hJ0.out.2;rw[IntKind.wrap_i64];omega
      have hK':=hK w' (.int .i64 (j0:Int)) (by simp) (by simpa[updK] using hx) trivial;clear hK;rw[if_pos (by rfl)];go_simp;simpa[upd,d17,e1,e4] using hK'
     ·have d18:t 18=.int .i64 (j0:Int):=by simpa using(hdep ⟨18,.data⟩ (by simp) rfl).2
      clear hdep;have e2:(j0:Int)<80:=by have:=hJ0.out.2;omega
      have hK':=hK w' (.pointer (some ⟨w.heap.size+1,j0,none⟩)) (by simp) (by simpa[updK] using hx) trivial;clear hK;rw[if_pos (by rfl)];go_simp;simpa[upd,d18] using hK'
     ·have d19:t 19=.pointer (some ⟨w.heap.size+1,j0,none⟩):=by simpa using(hdep ⟨19,.data⟩ (by simp) rfl).2
      clear hdep;have hc:w'.cell? ⟨w.heap.size+1,j0,none⟩=some (.int .u64 (x0)):=by rw[hX0.out];exact HCE.out w' L hx j0 (hJ0.out.2)
      have hK':=hK w' (.int .u64 (x0)) (by simp) (by simpa[updK] using hx) trivial;clear hK;rw[if_pos (by rfl)];go_simp;simpa[upd,d19] using hK'
     ·have d16:t 16=.int .u64 (IntKind.u64.wrap (IntKind.u64.wrap (sg1 x14+x9)+sg0 x1)):=by simpa using(hdep ⟨16,.data⟩ (by simp) rfl).2
      have d20:t 20=.int .u64 (x0):=by simpa using(hdep ⟨20,.data⟩ (by simp) rfl).2
      clear hdep;have hK':=hK w' (.int .u64 (IntKind.u64.wrap (IntKind.u64.wrap (IntKind.u64.wrap (sg1 x14+x9)+sg0 x1)+x0))) (by simp) (by simpa[updK] using hx) trivial;clear hK;rw[if_pos (by rfl)];go_simp;simpa[upd,d16,d20] using hK'
     ·have d0:t 0=.int .i64 (k:Int):=by simpa using(hdep ⟨0,.data⟩ (by simp) rfl).2
      clear hdep;have hK':=hK w' (.pointer (some ⟨w.heap.size+1,k,none⟩)) (by simp) (by simpa[updK] using hx) trivial;clear hK;rw[if_pos (by rfl)];go_simp;simpa[upd,d0] using hK'
     ·have d21:t 21=.int .u64 (IntKind.u64.wrap (IntKind.u64.wrap (IntKind.u64.wrap (sg1 x14+x9)+sg0 x1)+x0)):=by simpa using(hdep ⟨21,.data⟩ (by simp) rfl).2
      have d22:t 22=.pointer (some ⟨w.heap.size+1,k,none⟩):=by simpa using(hdep ⟨22,.data⟩ (by simp) rfl).2
      clear hdep;rw[hLi,if_neg (by decide)] at hx;have hc:w'.cell? ⟨w.heap.size+1,k,none⟩=some (.int .u64 0):=hx.cell0 k (Nat.le_refl _) (by omega);have hf:w'.frozen? ⟨w.heap.size+1,k,none⟩=false:=hx.row.frozen _;have hn:=HST.out w' hx;rw[hWD.out] at hn;have hK':=hK _ undef (by simp[updK]) (by rw[if_pos (by simp[updK])];exact hn) trivial;clear hK hx hn;rw[if_pos (by rfl)];go_simp;simpa[upd,d21,d22] using hK'
    case hdone=>
     intro L t w4 hx hg;have hlast:L 23=true:=by simpa using hg 23 (by decide)
     rw[if_pos hlast] at hx;clear hg hlast;have HX:=hid_ofS hx;clear hx;go_wp2;go_roundw
     case rel=>exact⟨k+1,by omega,by go_num,HX.out⟩
     case measure=>simp[intOf];omega
  ·obtain rfl:k=80:=by omega
   have H1:=hid_ofS hst.row;have H2:=hid_ofS hst.res;have H3:=hid_ofS hst.below;clear hst;go_wp2_with (first
    |(refine wpList_loadW rfl (.tmp 3) rfl Tryz.underlying105 Tryz.sizeSch (w.heap.size+1) (schA bs 80) rfl (schA_len _ _) H1.out ?_)
    |(refine wpList_storeW rfl (.tmp 2) (.tmp 40) rfl Tryz.sizeSch w.heap.size (schA bs 80) (List.replicate 80 0) rfl rfl (schA_len _ _) (by simp) H2.out ?_)
    |fail)
   intro w3 hr3 hw3;have HB3:Hid (Below w.heap.size w w3):=H3.out.trans (hw3.below (Nat.le_refl _));have HR3:=hid_ofS hr3;clear hr3 hw3 H1 H2 H3;go_wp2;exact bodyPost_ret (v:=.agg ((schA bs 80).map (Value.int .u64)).toArray) (results_cell_row rfl _ _ w.heap.size 105 _ (0,0) _ rfl HR3.out Tryz.underlying105 rfl (by rw[Tryz.sizeSch];simp[schA_len])) rfl ⟨rfl,HB3.out⟩
end Go.Proofs.YtapejbpgdjbjjaaGreatDoor
