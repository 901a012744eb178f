import Derived.Test.YtilpkdnoaldfmaaGreatDoorMCnC
import Derived.Test.YtilpkdnoaldfmaaGreatDoorSvK
import Derived.Test.YtilpkdnoaldfmaaGreatDoorMArgDev
import Derived.Deep.Cut
namespace Go.Proofs.YtilpkdnoaldfmaaGreatDoor
open Go.ChangeShapes Go.WideShapes Go.ChangeAt Go.RowKit
set_option linter.unusedVariables false
theorem Tryz.infoI64q:(Tryz.prog.info? 2).map (fun i=>(i.zero,i.size,i.bytes))=some (some (.int .i64 0),1,8):=by kernel_rfl
def Iow (B:Nat) (w:World) (v:Value) (xs:List Int):Prop:=w.ownsRow B 2 1 v xs.length (xs.map (Value.int .i64))
theorem Iow.nil (B:Nat) (w:World):Iow B w (.slice none 0 0) []:=⟨by simp,.inl ⟨rfl,rfl⟩⟩
theorem Iow.ownBlock {B:Nat} {w:World} {v:Value} {xs:List Int} (h:Iow B w v xs):∀ k,v.ownBlock=some k→B≤k:=fun k hk=>by
 rcases h.2 with⟨h',_⟩|⟨g,c,cur,h',hb,_⟩
 ·rw[h'] at hk;simp[Value.ownBlock] at hk
 ·rw[h'] at hk;simp[Value.ownBlock] at hk;omega
theorem wpList_app1 (w:World) {ops:Array Oper} {rest:List Oper} {o:Oper} {a:Act} {Q:Exit→Act→World→Prop} (hg:o.guard=none) (sx x:Operand)
  (hop:o.op=Op.call { callee:=Callee.builtin Builtin.append,args:=#[sx,x],argTypes:=#[24,24] }) (B:Nat) (v:Value) (xs:List Int) (hs:a.eval sx=v) (hown:Iow B w v xs)
  (wb:World) (z:Int) (hw:w=wb.alloc (.cells #[.int .i64 z] 2)) (hx:a.eval x=.slice (some ⟨wb.heap.size,0,none⟩) 1 1) (hm:xs.length≤1048576) (hB:B≤w.heap.size)
  (hK:∀ v' w',Iow B w' v' (xs++[z])→Below B w w'→wpList Tryz.prog ops Q rest (a.put o.dst v') w') :
  wpList Tryz.prog ops Q (o::rest) a w:=by
 obtain⟨i0,hi,hz0,hz1,hz2⟩:=info_parts Tryz.infoI64q;refine wpList_append_own_at w hg sx x 24 hop B 2 i0 (.int .i64 0) 1 8 Tryz.underlying24 hi hz0 hz1 hz2 rfl (by decide) v xs.length _ hs hown ⟨wb.heap.size,0,none⟩ 1 1 [.int .i64 z] hx rfl (by rw[hw];exact cell_one_new wb _ _) (by simp[Value.oneCell']) (by unfold maxLen;omega) (by omega) hB ?_;intro v' w' h1 h2 _ _;refine hK v' w' ?_ ((Below.refl _ _).grown h2 hB hown.ownBlock);unfold Iow;rw[List.map_append,List.length_append];exact h1
theorem Iow.alloc {B:Nat} {w:World} {v:Value} {xs:List Int} (h:Iow B w v xs) (o:Obj):Iow B (w.alloc o) v xs:=World.ownsRow.alloc h _
structure LIS (w:World) (P:Nat→Bool) (k:Nat) (v:Value) (wr:World):Prop where
 own:Iow w.heap.size wr v (upTo P k)
 below:Below w.heap.size w wr
set_option maxRecDepth 100000 in
set_option maxHeartbeats 1000000 in
theorem list_any (g o:Nat) (bs:List Int) (P:Nat→Bool) (w:World) (hb:∀ w',Below w.heap.size w w'→BAt w' g o bs) (hs:SetB bs (fun v=>P v=true)) :
  Calls Tryz.prog 78 #[.pointer (some ⟨g,o,none⟩)] w fun e w'=>∃ v,e=.returned v∧Iow w.heap.size w' v (upTo P 256)∧Below w.heap.size w w':=by
 have HB:Hid (∀ w',Below w.heap.size w w'→BAt w' g o bs):=hb;have HS:Hid (SetB bs (fun v=>P v=true)):=hs;have H0:Hid (LIS w P 0 (.slice none 0 0) w):=⟨Iow.nil _ _,Below.refl _ _⟩
 clear hb hs;go_enter Tryz.func78,Tryz.ntmps78;go_wp2_with fail
 go_loopw [3,5] (fun l i wr=>∃(k:Nat) (v:Value),k≤256∧i=.int .i64 k∧v=l∧LIS w P k v wr) (fun _ i _=>256-(intOf i).toNat)
 case atStart=>exact⟨0,_,by omega,rfl,rfl,H0.out⟩
 case round=>
  clear H0;obtain⟨k,l,hk,rfl,rfl,hst⟩:=hrel;by_cases hlt:k<256
  ·have hlt':(k:Int)<256:=by omega
   have HST:Hid (LIS w P k l wr):=hst;have HQ:Hid (P k=true↔(0≤(k:Int)∧(k:Int)<256∧P (k:Int).toNat=true)):=by
    show _↔_
    rw[Int.toNat_natCast];exact⟨fun h=>⟨by omega,by omega,h⟩,fun h=>h.2.2⟩
   clear hst;go_wp2_with fail;refine(hasS_any g o k bs _ (P k) _ (HB.out _ HST.out.below) HS.out HQ.out).mono ?_;rintro e w2 ⟨rfl,rfl⟩;by_cases hp:P k=true
   ·have HN:Hid (upTo P (k+1)=upTo P k++[(k:Int)]):=by show _=_;rw[upTo_succ,if_pos hp]
    rw[hp];have HL:Hid ((upTo P k).length≤1048576):=Nat.le_trans (upTo_len P k) (by omega);have HO:Hid (Iow w.heap.size (w2.alloc (.cells #[.int .i64 (k:Int)] 2)) l (upTo P k)):=HST.out.own.alloc _;have HZ:Hid (w.heap.size≤(w2.alloc (.cells #[.int .i64 (k:Int)] 2)).heap.size):=by
     show _≤_
     have:=HST.out.below.size;simp;omega
    clear hp HQ;go_wp2_with (first
     |(refine wpList_app1 _ rfl (.tmp 11) (.tmp 13) rfl w.heap.size _ (upTo P k) rfl HO.out w2 k rfl rfl HL.out HZ.out ?_)
     |fail)
    intro v' w3 h1 h2;have HF:Hid (LIS w P (k+1) v' w3):=⟨by rw[HN.out];exact h1,(HST.out.below.alloc HST.out.below.size _).trans h2⟩
    clear h1 h2 HO HZ HL;go_wp2;go_roundw
    case rel=>exact⟨k+1,_,by omega,by go_num,rfl,HF.out⟩
    case measure=>simp[intOf];omega
   ·have HF:Hid (LIS w P (k+1) l w2):=⟨by rw[upTo_succ,if_neg hp];exact HST.out.own,HST.out.below⟩
    rw[Bool.not_eq_true] at hp;rw[hp];clear hp HQ;go_wp2;go_roundw
    case rel=>exact⟨k+1,_,by omega,by go_num,rfl,HF.out⟩
    case measure=>simp[intOf];omega
  ·have hke:k=256:=by omega
   subst hke;have HF:Hid (∃ v,Ending.returned l=.returned v∧Iow w.heap.size wr v (upTo P 256)∧Below w.heap.size w wr):=⟨l,rfl,hst.own,hst.below⟩
   clear hst;go_wp2
   go_ret
   exact HF.out
theorem pop8_le (x:Nat):pop8 x≤8:=by
 unfold pop8;exact Nat.le_trans (List.length_filter_le _ _) (by simp)
theorem tab_pop (T:ByteArray) (h:∀ y:Fin T.size,(T[y.val]).toNat=pop8 y.val) (x:Nat) (hx:x<T.size):wrap64 ((T[x]).toNat:Int)=pop8 x:=by
 have e:(T[x]).toNat=pop8 x:=h ⟨x,hx⟩;rw[e];have:=pop8_le x;unfold wrap64;omega
set_option maxRecDepth 100000 in
set_option maxHeartbeats 1000000 in
theorem ones8_any (x:Nat) (hx:x<256) (w:World):Calls Tryz.prog 124 #[.int .u8 x] w fun e w'=>e=.returned (.int .i64 (pop8 x))∧w'=w:=by
 have hx':(x:Int)<256:=by omega
 go_enter Tryz.func124,Tryz.ntmps124;go_wp2
 go_ret
 exact⟨congrArg (fun z=>Ending.returned (Value.int .i64 z)) (tab_pop _ (by decide +kernel) x _),rfl⟩
set_option maxRecDepth 100000 in
set_option maxHeartbeats 1000000 in
theorem size_any (g o:Nat) (bs:List Int) (w:World) (hb:BAt w g o bs) :
  Calls Tryz.prog 110 #[.pointer (some ⟨g,o,none⟩)] w fun e w'=>e=.returned (.int .i64 (popS bs 32))∧w'=w:=by
 have HB:Hid (BAt w g o bs):=hb;clear hb;go_enter Tryz.func110,Tryz.ntmps110;go_wp2_with fail
 go_loopw [3,7] (fun s i wr=>∃ k:Nat,k≤32∧i=.int .i64 k∧s=.int .i64 (popS bs k)∧popS bs k≤8*k∧wr=w) (fun _ i _=>32-(intOf i).toNat)
 case atStart=>exact⟨0,by omega,rfl,rfl,Nat.le_refl _,rfl⟩
 case round=>
  obtain⟨k,hk,rfl,rfl,hle,rfl⟩:=hrel;by_cases hlt:k<32
  ·have hlt':(k:Int)<32:=by omega
   obtain⟨h1,h2,h3⟩:=HB.out;obtain⟨c0,f0⟩:=h3 k hlt;obtain⟨x0,x1⟩:=h2.get k;have HS:Hid (popS bs (k+1)=popS bs k+pop8 (bs.getD k 0).toNat):=popS_succ bs k;obtain⟨x,hx⟩:=Int.eq_ofNat_of_zero_le x0;rw[hx] at c0 x1;have HX:Hid ((bs.getD k 0).toNat=x):=by show _=_;rw[hx];exact Int.toNat_natCast x
   have hx256:x<256:=by omega
   have hp8:pop8 x≤8:=pop8_le x;rw[HX.out] at HS;clear h1 h2 h3 hx x0 HX f0 x1;generalize popS bs k=s at *;go_wp2_with fail;refine(ones8_any x hx256 _).mono ?_;rintro e w2 ⟨rfl,rfl⟩;generalize pop8 x=p at *;go_wp2;go_roundw
   case rel=>exact⟨k+1,by omega,by go_num,by rw[HS.out,Int.natCast_add],by have:=HS.out;omega,trivial⟩
   case measure=>simp[intOf];omega
  ·have hke:k=32:=by omega
   subst hke;go_wp2
   go_ret
   exact⟨rfl,rfl⟩
end Go.Proofs.YtilpkdnoaldfmaaGreatDoor
namespace Go.Proofs.YtilpkdnoaldfmaaGreatDoor
open Go.ChangeShapes Go.WideShapes Go.ChangeAt Go.RowKit
set_option linter.unusedVariables false
theorem bkC_get (d u:List Int) (k:Int) (v:Value) (i:Nat):(bkC d u k v)[i]?=(d.map (Value.int .u8)++u.map (Value.int .u8)++[.int .i64 k,v])[i]?:=by unfold bkC;simp
theorem bkC_d {d u:List Int} (hd:d.length=32) (hu:u.length=32) (k:Int) (v:Value) (i:Nat) (hi:i<32):(bkC d u k v)[i]?=some (.int .u8 (d.getD i 0)):=by
 rw[bkC_get,List.append_assoc,List.getElem?_append_left (by simp[hd,hi])];simp[hd,hi]
theorem bkC_u {d u:List Int} (hd:d.length=32) (hu:u.length=32) (k:Int) (v:Value) (i:Nat) (hi:i<32):(bkC d u k v)[32+i]?=some (.int .u8 (u.getD i 0)):=by
 rw[bkC_get,List.getElem?_append_left (by simp[hd,hu];omega),List.getElem?_append_right (by simp[hd])];simp[hd,hu,hi]
theorem bkC_k {d u:List Int} (hd:d.length=32) (hu:u.length=32) (k:Int) (v:Value):(bkC d u k v)[64]?=some (.int .i64 k):=by
 rw[bkC_get,List.getElem?_append_right (by simp[hd,hu])];simp[hd,hu]
theorem bkC_v {d u:List Int} (hd:d.length=32) (hu:u.length=32) (k:Int) (v:Value):(bkC d u k v)[65]?=some v:=by
 rw[bkC_get,List.getElem?_append_right (by simp[hd,hu])];simp[hd,hu]
theorem bkC_set_d {d u:List Int} (hd:d.length=32) (k:Int) (v:Value) (i:Nat) (hi:i<32) (x:Int):(bkC d u k v).setIfInBounds i (.int .u8 x)=bkC (d.set i x) u k v:=by
 unfold bkC;rw[List.setIfInBounds_toArray,List.append_assoc,List.set_append_left _ _ (by simp[hd,hi]),←List.append_assoc,←List.map_set]
theorem bkC_set_u {d u:List Int} (hd:d.length=32) (hu:u.length=32) (k:Int) (v:Value) (i:Nat) (hi:i<32) (x:Int):(bkC d u k v).setIfInBounds (32+i) (.int .u8 x)=bkC d (u.set i x) k v:=by
 unfold bkC;rw[List.setIfInBounds_toArray,List.set_append_left _ _ (by simp[hd,hu];omega),List.set_append_right _ _ (by simp[hd]),List.length_map,hd,Nat.add_sub_cancel_left,←List.map_set]
theorem bkC_set_k {d u:List Int} (hd:d.length=32) (hu:u.length=32) (k:Int) (v:Value) (k':Int):(bkC d u k v).setIfInBounds 64 (.int .i64 k')=bkC d u k' v:=by
 unfold bkC;rw[List.setIfInBounds_toArray,List.set_append_right _ _ (by simp[hd,hu])];simp[hd,hu]
theorem bkC_set_v {d u:List Int} (hd:d.length=32) (hu:u.length=32) (k:Int) (v v':Value):(bkC d u k v).setIfInBounds 65 v'=bkC d u k v':=by
 unfold bkC;rw[List.setIfInBounds_toArray,List.set_append_right _ _ (by simp[hd,hu])];simp[hd,hu]
structure Bk (w:World) (g:Nat) (d u:List Int) (k:Int) (v:Value):Prop where
 row:w.heap[g]?=some (.cells (bkC d u k v) 110 (0,0))
 ld:d.length=32
 lu:u.length=32
 bd:Byte d
 bu:Byte u
variable {w w':World} {g:Nat} {d u:List Int} {k:Int} {v:Value}
theorem Bk.lt (h:Bk w g d u k v):g<w.heap.size:=(Array.getElem?_eq_some_iff.1 h.row).1
theorem Bk.batd (h:Bk w g d u k v):BAt w g 0 d:=⟨h.ld,h.bd,fun i hi=>by
 rw[Nat.zero_add];exact⟨(cell_of_row _ _ _ _ _ _ h.row).trans (bkC_d h.ld h.lu k v i hi),frozen_of_row _ _ _ _ _ h.row⟩⟩
theorem Bk.batu (h:Bk w g d u k v):BAt w g 32 u:=⟨h.lu,h.bu,fun i hi=>⟨(cell_of_row _ _ _ _ _ _ h.row).trans (bkC_u h.ld h.lu k v i hi),frozen_of_row _ _ _ _ _ h.row⟩⟩
theorem Bk.ck (h:Bk w g d u k v):w.cell? ⟨g,64,none⟩=some (.int .i64 k):=(cell_of_row _ _ _ _ _ _ h.row).trans (bkC_k h.ld h.lu k v)
theorem Bk.cv (h:Bk w g d u k v):w.cell? ⟨g,65,none⟩=some v:=(cell_of_row _ _ _ _ _ _ h.row).trans (bkC_v h.ld h.lu k v)
theorem Bk.fz (h:Bk w g d u k v) (i:Nat):w.frozen? ⟨g,i,none⟩=false:=frozen_of_row _ _ _ _ _ h.row
theorem Bk.below (h:Bk w g d u k v) {B:Nat} (b:Below B w w') (hg:g<B):Bk w' g d u k v:=⟨by rw[b.block g hg];exact h.row,h.ld,h.lu,h.bd,h.bu⟩
theorem Bk.drew (h:Bk w g d u k v) (q:Nat):Bk (w.drewN q) g d u k v:=⟨h.row,h.ld,h.lu,h.bd,h.bu⟩
theorem addB_len (bs:List Int) (i:Nat):(addB bs i).length=bs.length:=by unfold addB;simp
theorem remB_len (bs:List Int) (i:Nat):(remB bs i).length=bs.length:=by unfold remB;simp
theorem addB_byte {bs:List Int} (h:Byte bs) (i:Nat):Byte (addB bs i):=by
 have hx:=h.get (i/8);obtain⟨a,b,c⟩:=u8_or_bit _ (i%8) hx.1 hx.2 (by omega);exact byte_set h _ _ a b
theorem remB_byte {bs:List Int} (h:Byte bs) (i:Nat):Byte (remB bs i):=by
 have hx:=h.get (i/8);obtain⟨a,b,c⟩:=u8_not_bit _ (i%8) hx.1 hx.2 (by omega);exact byte_set h _ _ a b
theorem addB_cell (bs:List Int) (i:Nat) (h:i/8<bs.length):bs.set (i/8) ((addB bs i).getD (i/8) 0)=addB bs i:=by
 unfold addB;rw[getD_set8 _ _ _ _ h,if_pos rfl]
theorem remB_cell (bs:List Int) (i:Nat) (h:i/8<bs.length):bs.set (i/8) ((remB bs i).getD (i/8) 0)=remB bs i:=by
 unfold remB;rw[getD_set8 _ _ _ _ h,if_pos rfl]
theorem Bk.addD (h:Bk w g d u k v) (i:Nat) (hi:i<256):Bk (w.setCell ⟨g,0+i/8,none⟩ (.int .u8 ((addB d i).getD (i/8) 0))) g (addB d i) u k v:=
 ⟨by rw[Nat.zero_add,heap_setCell_same _ _ _ _ _ _ h.row,bkC_set_d h.ld _ _ _ (by omega),addB_cell _ _ (by have:=h.ld;omega)],by rw[addB_len];exact h.ld,h.lu,addB_byte h.bd i,h.bu⟩
theorem Bk.remD (h:Bk w g d u k v) (i:Nat) (hi:i<256):Bk (w.setCell ⟨g,0+i/8,none⟩ (.int .u8 ((remB d i).getD (i/8) 0))) g (remB d i) u k v:=
 ⟨by rw[Nat.zero_add,heap_setCell_same _ _ _ _ _ _ h.row,bkC_set_d h.ld _ _ _ (by omega),remB_cell _ _ (by have:=h.ld;omega)],by rw[remB_len];exact h.ld,h.lu,remB_byte h.bd i,h.bu⟩
theorem Bk.addU (h:Bk w g d u k v) (i:Nat) (hi:i<256):Bk (w.setCell ⟨g,32+i/8,none⟩ (.int .u8 ((addB u i).getD (i/8) 0))) g d (addB u i) k v:=
 ⟨by rw[heap_setCell_same _ _ _ _ _ _ h.row,bkC_set_u h.ld h.lu _ _ _ (by omega),addB_cell _ _ (by have:=h.lu;omega)],h.ld,by rw[addB_len];exact h.lu,h.bd,addB_byte h.bu i⟩
theorem Bk.setK (h:Bk w g d u k v) (k':Int):Bk (w.setCell ⟨g,64,none⟩ (.int .i64 k')) g d u k' v:=
 ⟨by rw[heap_setCell_same _ _ _ _ _ _ h.row,bkC_set_k h.ld h.lu],h.ld,h.lu,h.bd,h.bu⟩
theorem Bk.setV (h:Bk w g d u k v) (v':Value):Bk (w.setCell ⟨g,65,none⟩ v') g d u k v':=
 ⟨by rw[heap_setCell_same _ _ _ _ _ _ h.row,bkC_set_v h.ld h.lu],h.ld,h.lu,h.bd,h.bu⟩
set_option maxRecDepth 100000 in
set_option maxHeartbeats 1000000 in
theorem admitted_any (a:Option Addr) (n c:Nat) (hb:Bk w g d u k (.slice a n c)) (h0:0≤k) (h1:k≤1048576) (hn:n≤1048576) :
  Calls Tryz.prog 104 #[.pointer (some ⟨g,0,none⟩)] w fun e w'=>e=.returned (.int .i64 (k+n))∧∃ q,w'=w.drewN q:=by
 have c0:=hb.ck;have c1:=hb.cv;clear hb;go_enter Tryz.func104,Tryz.ntmps104;go_wp2_with fail
 go_region
 go_wp2
 go_ret
 exact⟨rfl,1,rfl⟩
set_option maxRecDepth 100000 in
set_option maxHeartbeats 1000000 in
theorem full_any (hb:Bk w g d u k v) :
  Calls Tryz.prog 103 #[.pointer (some ⟨g,0,none⟩)] w fun e w'=>e=.returned (.bool (decide (popS d 32=16)))∧w'=w:=by
 have HB:Hid (BAt w g 0 d):=hb.batd;clear hb;go_enter Tryz.func103,Tryz.ntmps103;go_wp2_with fail;refine(size_any g 0 d _ HB.out).mono ?_;rintro e w2 ⟨rfl,rfl⟩;clear HB;by_cases hs:popS d 32=16
 ·have HD:Hid (decide (popS d 32=16)=true):=decide_eq_true hs;rw[hs];go_wp2
  go_ret
  exact⟨by rw[HD.out];rfl,rfl⟩
 ·have HD:Hid (decide (popS d 32=16)=false):=decide_eq_false hs;have HE:Hid ((((popS d 32:Nat):Int) == 16)=false):=by
   show _=_
   have:¬ (((popS d 32:Nat):Int)=16):=by omega
   simpa using this
  clear hs;go_wp2
  go_ret
  exact⟨by rw[HD.out,←HE.out];rfl,rfl⟩
end Go.Proofs.YtilpkdnoaldfmaaGreatDoor
namespace Go.Proofs.YtilpkdnoaldfmaaGreatDoor
open Go.ChangeShapes Go.WideShapes Go.ChangeAt Go.RowKit
set_option linter.unusedVariables false
variable {w w':World} {g:Nat} {d u:List Int} {k:Int} {v:Value}
set_option maxRecDepth 100000 in
set_option maxHeartbeats 1000000 in
theorem ackN_any (hb:Bk w g d u k (.slice none 0 0)) (h0:0≤k) (h1:k≤1048576) :
  Calls Tryz.prog 105 #[.pointer (some ⟨g,0,none⟩),.int .i64 k] w fun e w'=>e=.returned (.tuple #[])∧∃ q,w'=(((w.setCell ⟨g,65,none⟩ (.slice none 0 0)).drewN q).setCell ⟨g,64,none⟩ (.int .i64 k)):=by
 have c0:=hb.ck;have c1:=hb.cv;have f0:=hb.fz 64;have f1:=hb.fz 65;have hb2:=hb.setV (.slice none 0 0);have c2:=hb2.ck;have f2:=hb2.fz 64;clear hb hb2;go_enter Tryz.func105,Tryz.ntmps105;go_wp2_with fail
 go_region
 go_wp2
 go_end0
 exact⟨rfl,1,rfl⟩
def ackV (t o n c m:Nat):Value:=.slice (if c=m then some ⟨t,o,none⟩ else some ⟨t,o+m*2,none⟩) (n-m:Nat) (c-m:Nat)
set_option maxRecDepth 100000 in
set_option maxHeartbeats 1000000 in
theorem ackS_any (t o n c m:Nat) (hb:Bk w g d u k (.slice (some ⟨t,o,none⟩) n c)) (h0:0≤k) (h1:k≤1048576) (hm:m≤n) (hc:n≤c) (hn:n≤1048576) (hcm:c≤9223372036854775807) :
  Calls Tryz.prog 105 #[.pointer (some ⟨g,0,none⟩),.int .i64 (k+m)] w fun e w'=>e=.returned (.tuple #[])∧∃ q,w'=(((w.setCell ⟨g,65,none⟩ (ackV t o n c m)).drewN q).setCell ⟨g,64,none⟩ (.int .i64 (k+m))):=by
 have c0:=hb.ck;have c1:=hb.cv;have f0:=hb.fz 64;have f1:=hb.fz 65;have hb2:=hb.setV (ackV t o n c m);have c2:=hb2.ck;have f2:=hb2.fz 64;have HK:Hid ((k+(m:Int)-k).toNat=m):=by show _=_;omega
 have HV:Hid (Value.slice (if c=m then some ⟨t,o,none⟩ else some ⟨t,o+m*2,none⟩) (n-m:Nat) (c-m:Nat)=ackV t o n c m):=rfl;clear hb hb2;go_enter Tryz.func105,Tryz.ntmps105;go_wp2_with fail
 go_region
 rw[HK.out,HV.out];clear HK HV;go_wp2
 go_end0
 exact⟨rfl,1,rfl⟩
end Go.Proofs.YtilpkdnoaldfmaaGreatDoor
namespace Go.Proofs.YtilpkdnoaldfmaaGreatDoor
open Go.ChangeShapes Go.WideShapes Go.ChangeAt Go.RowKit
set_option linter.unusedVariables false
set_option maxHeartbeats 4000000 in
set_option maxRecDepth 100000 in
theorem snEq_any (g o h p:Nat) (gn gn' tl tl':Int) (aD bD aU bU:Option Addr) (nD cD mD dD nU cU mU dU:Nat) (D D' U U':List Int) (w:World) (hg:g<w.heap.size) (hh:h<w.heap.size)
  (x0:w.cell? ⟨g,o,none⟩=some (.int .u32 gn)) (x1:w.cell? ⟨g,o+1,none⟩=some (.int .u32 tl)) (x2:w.cell? ⟨g,o+2,none⟩=some (.slice aD nD cD)) (x3:w.cell? ⟨g,o+3,none⟩=some (.slice aU nU cU))
  (y0:w.cell? ⟨h,p,none⟩=some (.int .u32 gn')) (y1:w.cell? ⟨h,p+1,none⟩=some (.int .u32 tl')) (y2:w.cell? ⟨h,p+2,none⟩=some (.slice bD mD dD)) (y3:w.cell? ⟨h,p+3,none⟩=some (.slice bU mU dU))
  (hl:D.length=nD∧D'.length=mD∧U.length=nU∧U'.length=mU) (hb:nD≤1048576∧mD≤1048576∧nU≤1048576∧mU≤1048576) (hA:At .i64 w aD D∧At .i64 w bD D'∧At .i64 w aU U∧At .i64 w bU U') :
  Calls Tryz.prog 56 #[.pointer (some ⟨g,o,none⟩),.pointer (some ⟨h,p,none⟩)] w fun e w'=>e=.returned (.bool (decide (gn=gn'∧tl=tl'∧D=D'∧U=U')))∧∃ q,w'=w.drewN q:=by
 have HL:=hid_ofV hl;have HN:=hid_ofV hb;have HA:=hid_ofV hA;obtain⟨V,hV⟩:∃ V,V=decide (gn=gn'∧tl=tl'∧D=D'∧U=U'):=⟨_,rfl⟩
 rw[←hV];have HV:=hid_ofV hV;clear hV hl hb hA;by_cases e1:gn=gn';rotate_left
 ·have z1:(gn == gn')=false:=by simpa using e1
  have z2:decide (gn=gn')=false:=by simpa using e1
  have HF:Hid (V=false):=by
   show _=_
   rw[HV.out];exact decide_eq_false (by intro h;exact e1 h.1)
  clear HV HL HN HA;go_enter Tryz.func56,Tryz.ntmps56;go_wp2
  go_quiet (fail)
  go_wp2
  go_ret
  exact⟨by rw[HF.out];rfl,_,rfl⟩
 by_cases e2:tl=tl';rotate_left
 ·have z1:(tl == tl')=false:=by simpa using e2
  have z2:decide (tl=tl')=false:=by simpa using e2
  have HF:Hid (V=false):=by
   show _=_
   rw[HV.out];exact decide_eq_false (by intro h;exact e2 h.2.1)
  subst e1;clear HV HL HN HA;go_enter Tryz.func56,Tryz.ntmps56;go_wp2
  go_quiet (fail)
  go_wp2
  go_ret
  exact⟨by rw[HF.out];rfl,_,rfl⟩
 by_cases e3:D=D';rotate_left
 ·have z1:=decide_eq_false e3;have HF:Hid (V=false):=by
   show _=_
   rw[HV.out];exact decide_eq_false (by intro h;exact e3 h.2.2.1)
  have HQ:Hid (∀ n,Calls Tryz.prog 62 #[.slice aD nD cD,.slice bD mD dD] (w.drewN n) fun e w'=>e=.returned (.bool false)∧∃ q,w'=(w.drewN n).drewN q):=fun n=>by
   have:=slEq_any aD bD nD cD mD dD D D' (w.drewN n) HL.out.1 HL.out.2.1 (by have:=HN.out;omega) (by have:=HN.out;omega) (HA.out.1.below (belD (Below.refl _ _) _)) (HA.out.2.1.below (belD (Below.refl _ _) _));rw[z1] at this;exact this
  subst e1 e2;clear HV HL HN HA z1;go_enter Tryz.func56,Tryz.ntmps56;go_wp2
  go_quiet ((go_at_call 62;exact Calls.quiet_of (HQ.out _)))
  go_wp2
  go_ret
  exact⟨by rw[HF.out];rfl,_,rfl⟩
 have HQ:Hid (∀ n,Calls Tryz.prog 62 #[.slice aD nD cD,.slice bD mD dD] (w.drewN n) fun e w'=>e=.returned (.bool true)∧∃ q,w'=(w.drewN n).drewN q):=fun n=>by
  have:=slEq_any aD bD nD cD mD dD D D' (w.drewN n) HL.out.1 HL.out.2.1 (by have:=HN.out;omega) (by have:=HN.out;omega) (HA.out.1.below (belD (Below.refl _ _) _)) (HA.out.2.1.below (belD (Below.refl _ _) _));rw[decide_eq_true e3] at this;exact this
 have HF:Hid (V=decide (U=U')):=by
  show _=_
  rw[HV.out];simp[e1,e2,e3]
 have HQ2:Hid (∀ n,Calls Tryz.prog 62 #[.slice aU nU cU,.slice bU mU dU] (w.drewN n) fun e w'=>e=.returned (.bool (decide (U=U')))∧∃ q,w'=(w.drewN n).drewN q):=fun n=>slEq_any aU bU nU cU mU dU U U' (w.drewN n) HL.out.2.2.1 HL.out.2.2.2 (by have:=HN.out;omega) (by have:=HN.out;omega) (HA.out.2.2.1.below (belD (Below.refl _ _) _)) (HA.out.2.2.2.below (belD (Below.refl _ _) _))
 rw[←HF.out] at HQ2;subst e1 e2;clear HV HL HN HA e3 HF;go_enter Tryz.func56,Tryz.ntmps56;go_wp2
 go_quiet ((go_at_call 62;first|with_reducible exact Calls.quiet_of (HQ.out _)|with_reducible exact Calls.quiet_of (HQ2.out _)))
 go_wp2
 go_ret
 exact⟨rfl,_,rfl⟩
set_option maxHeartbeats 8000000 in
set_option maxRecDepth 100000 in
theorem stEq_any (g o h p:Nat) (k k':Int) (aD bD aU bU aT bT:Option Addr) (nD cD mD dD nU cU mU dU nT cT mT dT:Nat) (D D' U U' T T':List Int) (w:World) (hg:g<w.heap.size) (hh:h<w.heap.size)
  (x0:w.cell? ⟨g,o,none⟩=some (.slice aD nD cD)) (x1:w.cell? ⟨g,o+1,none⟩=some (.slice aU nU cU)) (x2:w.cell? ⟨g,o+2,none⟩=some (.int .i64 k)) (x3:w.cell? ⟨g,o+3,none⟩=some (.slice aT nT cT))
  (y0:w.cell? ⟨h,p,none⟩=some (.slice bD mD dD)) (y1:w.cell? ⟨h,p+1,none⟩=some (.slice bU mU dU)) (y2:w.cell? ⟨h,p+2,none⟩=some (.int .i64 k')) (y3:w.cell? ⟨h,p+3,none⟩=some (.slice bT mT dT))
  (hl:D.length=nD∧D'.length=mD∧U.length=nU∧U'.length=mU∧T.length=nT*2∧T'.length=mT*2) (hb:nD≤1048576∧mD≤1048576∧nU≤1048576∧mU≤1048576∧nT≤1048576∧mT≤1048576) (hA:At .i64 w aD D∧At .i64 w bD D'∧At .i64 w aU U∧At .i64 w bU U'∧At .i64 w aT T∧At .i64 w bT T') :
  Calls Tryz.prog 38 #[.pointer (some ⟨g,o,none⟩),.pointer (some ⟨h,p,none⟩)] w fun e w'=>e=.returned (.bool (decide (k=k'∧D=D'∧U=U'∧T=T')))∧∃ q,w'=w.drewN q:=by
 have HL:=hid_ofV hl;have HN:=hid_ofV hb;have HA:=hid_ofV hA;obtain⟨V,hV⟩:∃ V,V=decide (k=k'∧D=D'∧U=U'∧T=T'):=⟨_,rfl⟩
 rw[←hV];have HV:=hid_ofV hV;clear hV hl hb hA;by_cases e0:k=k';rotate_left
 ·have HF:Hid (V=false):=by
   show _=_
   rw[HV.out];exact decide_eq_false (by intro h;exact e0 h.1)
  have z1:(k == k')=false:=by simpa using e0
  have z2:decide (k=k')=false:=by simpa using e0
  clear HV HL HN HA;go_enter Tryz.func38,Tryz.ntmps38;go_wp2
  go_quiet (fail)
  go_wp2
  go_ret
  exact⟨by rw[HF.out];rfl,_,rfl⟩
 by_cases e1:D=D';rotate_left
 ·have HF:Hid (V=false):=by
   show _=_
   rw[HV.out];exact decide_eq_false (by intro h;exact e1 h.2.1)
  have HQ1:Hid (∀ n,Calls Tryz.prog 62 #[.slice aD nD cD,.slice bD mD dD] (w.drewN n) fun e w'=>e=.returned (.bool false)∧∃ q,w'=(w.drewN n).drewN q):=fun n=>by
   have:=slEq_any aD bD nD cD mD dD D D' (w.drewN n) HL.out.1 HL.out.2.1 (by have:=HN.out;omega) (by have:=HN.out;omega) (HA.out.1.below (belD (Below.refl _ _) _)) (HA.out.2.1.below (belD (Below.refl _ _) _));rw[decide_eq_false e1] at this;exact this
  subst e0;clear HV HL HN HA;go_enter Tryz.func38,Tryz.ntmps38;go_wp2
  go_quiet ((first|(go_at_call 62;first|with_reducible exact Calls.quiet_of (HQ1.out _))))
  go_wp2
  go_ret
  exact⟨by rw[HF.out];rfl,_,rfl⟩
 have HQ1:Hid (∀ n,Calls Tryz.prog 62 #[.slice aD nD cD,.slice bD mD dD] (w.drewN n) fun e w'=>e=.returned (.bool true)∧∃ q,w'=(w.drewN n).drewN q):=fun n=>by
  have:=slEq_any aD bD nD cD mD dD D D' (w.drewN n) HL.out.1 HL.out.2.1 (by have:=HN.out;omega) (by have:=HN.out;omega) (HA.out.1.below (belD (Below.refl _ _) _)) (HA.out.2.1.below (belD (Below.refl _ _) _));rw[decide_eq_true e1] at this;exact this
 by_cases e2:U=U';rotate_left
 ·have HF:Hid (V=false):=by
   show _=_
   rw[HV.out];exact decide_eq_false (by intro h;exact e2 h.2.2.1)
  have HQ2:Hid (∀ n,Calls Tryz.prog 62 #[.slice aU nU cU,.slice bU mU dU] (w.drewN n) fun e w'=>e=.returned (.bool false)∧∃ q,w'=(w.drewN n).drewN q):=fun n=>by
   have:=slEq_any aU bU nU cU mU dU U U' (w.drewN n) HL.out.2.2.1 HL.out.2.2.2.1 (by have:=HN.out;omega) (by have:=HN.out;omega) (HA.out.2.2.1.below (belD (Below.refl _ _) _)) (HA.out.2.2.2.1.below (belD (Below.refl _ _) _));rw[decide_eq_false e2] at this;exact this
  subst e0;clear HV HL HN HA;go_enter Tryz.func38,Tryz.ntmps38;go_wp2
  go_quiet ((first|(go_at_call 62;first|with_reducible exact Calls.quiet_of (HQ1.out _)|with_reducible exact Calls.quiet_of (HQ2.out _))))
  go_wp2
  go_ret
  exact⟨by rw[HF.out];rfl,_,rfl⟩
 have HQ2:Hid (∀ n,Calls Tryz.prog 62 #[.slice aU nU cU,.slice bU mU dU] (w.drewN n) fun e w'=>e=.returned (.bool true)∧∃ q,w'=(w.drewN n).drewN q):=fun n=>by
  have:=slEq_any aU bU nU cU mU dU U U' (w.drewN n) HL.out.2.2.1 HL.out.2.2.2.1 (by have:=HN.out;omega) (by have:=HN.out;omega) (HA.out.2.2.1.below (belD (Below.refl _ _) _)) (HA.out.2.2.2.1.below (belD (Below.refl _ _) _));rw[decide_eq_true e2] at this;exact this
 have HF:V=decide (T=T'):=by
  rw[HV.out];simp[e0,e1,e2]
 have HQ3:Hid (∀ n,Calls Tryz.prog 63 #[.slice aT nT cT,.slice bT mT dT] (w.drewN n) fun e w'=>e=.returned (.bool V)∧∃ q,w'=(w.drewN n).drewN q):=fun n=>by
  have:=slEqT_any aT bT nT cT mT dT T T' (w.drewN n) HL.out.2.2.2.2.1 HL.out.2.2.2.2.2 (by have:=HN.out;omega) (by have:=HN.out;omega) (HA.out.2.2.2.2.1.below (belD (Below.refl _ _) _)) (HA.out.2.2.2.2.2.below (belD (Below.refl _ _) _));rw[←HF] at this;exact this
 clear HF;subst e0;clear HV HL HN HA;go_enter Tryz.func38,Tryz.ntmps38;go_wp2
 go_quiet ((first|(go_at_call 62;first|with_reducible exact Calls.quiet_of (HQ1.out _)|with_reducible exact Calls.quiet_of (HQ2.out _))|(go_at_call 63;first|with_reducible exact Calls.quiet_of (HQ3.out _))))
 go_wp2
 go_ret
 exact⟨rfl,_,rfl⟩
end Go.Proofs.YtilpkdnoaldfmaaGreatDoor
