import Derived.Test.YthmeoilbmfdhfaaGreatMSvP
import Derived.Test.YthmeoilbmfdhfaaGreatSvK
import Derived.BigQuiet
namespace Go.Proofs.YthmeoilbmfdhfaaGreat
open Go.ChangeShapes Go.WideShapes Go.ChangeAt Go.RowKit
set_option linter.unusedVariables false
theorem Tryz.infoI64q:(Tryz.prog.info? 2).map (fun i=>(i.zero,i.size,i.bytes))=some (some (.int .i64 0),1,8):=by kernel_rfl
def IO (B:Nat) (w:World) (v:Value) (xs:List Int):Prop:=w.ownsRow B 2 1 v xs.length (xs.map (Value.int .i64))
theorem IO.nil (B:Nat) (w:World):IO B w (.slice none 0 0) []:=⟨by simp,.inl ⟨rfl,rfl⟩⟩
theorem IO.ownBlock {B:Nat} {w:World} {v:Value} {xs:List Int} (h:IO B w v xs):∀ k,v.ownBlock=some k→B≤k:=fun k hk=>by
 rcases h.2 with⟨h',_⟩|⟨g,c,cur,h',hb,_⟩
 ·rw[h'] at hk;simp[Value.ownBlock] at hk
 ·rw[h'] at hk;simp[Value.ownBlock] at hk;omega
theorem IO.one {B:Nat} {w:World} {v:Value} {xs:List Int} (h:IO B w v xs):v.oneCell'=true:=by
 rcases h.2 with⟨h,_⟩|⟨g,c,cur,h,_⟩
 ·rw[h];rfl
 ·rw[h];rfl
theorem wpList_app1 (w:World) {ops:Array Oper} {rest:List Oper} {o:Oper} {a:Act} {Q:Exit→Act→World→Prop} (hg:o.guard=none) (sx x:Operand)
  (hop:o.op=Op.call { callee:=Callee.builtin Builtin.append,args:=#[sx,x],argTypes:=#[28,28] }) (B:Nat) (v:Value) (xs:List Int) (hs:a.eval sx=v) (hown:IO B w v xs)
  (wb:World) (z:Int) (hw:w=wb.alloc (.cells #[.int .i64 z] 2)) (hx:a.eval x=.slice (some ⟨wb.heap.size,0,none⟩) 1 1) (hm:xs.length≤1048576) (hB:B≤w.heap.size)
  (hK:∀ v' w',IO B w' v' (xs++[z])→Below B w w'→wpList Tryz.prog ops Q rest (a.put o.dst v') w') :
  wpList Tryz.prog ops Q (o::rest) a w:=by
 obtain⟨i0,hi,hz0,hz1,hz2⟩:=info_parts Tryz.infoI64q;refine wpList_append_own_at w hg sx x 28 hop B 2 i0 (.int .i64 0) 1 8 Tryz.underlying28 hi hz0 hz1 hz2 rfl (by decide) v xs.length _ hs hown ⟨wb.heap.size,0,none⟩ 1 1 [.int .i64 z] hx rfl (by rw[hw];exact cell_one_new wb _ _) (by simp[Value.oneCell']) (by unfold maxLen;omega) (by omega) hB ?_;intro v' w' h1 h2 _ _;refine hK v' w' ?_ ((Below.refl _ _).grown h2 hB hown.ownBlock);unfold IO;rw[List.map_append,List.length_append];exact h1
theorem IO.alloc {B:Nat} {w:World} {v:Value} {xs:List Int} (h:IO B w v xs) (o:Obj):IO B (w.alloc o) v xs:=World.ownsRow.alloc h _
structure LIS (w:World) (P:Nat→Bool) (k:Nat) (v:Value) (wr:World):Prop where
 own:IO w.heap.size wr v (upTo P k)
 below:Below w.heap.size w wr
set_option maxRecDepth 100000 in
set_option maxHeartbeats 1000000 in
theorem list_any (g o:Nat) (bs:List Int) (P:Nat→Bool) (w:World) (hb:∀ w',Below w.heap.size w w'→BAt w' g o bs) (hs:SetB bs (fun v=>P v=true)) :
  Calls Tryz.prog 87 #[.pointer (some ⟨g,o,none⟩)] w fun e w'=>∃ v,e=.returned v∧IO w.heap.size w' v (upTo P 256)∧Below w.heap.size w w':=by
 have HB:Hid (∀ w',Below w.heap.size w w'→BAt w' g o bs):=hb;have HS:Hid (SetB bs (fun v=>P v=true)):=hs;have H0:Hid (LIS w P 0 (.slice none 0 0) w):=⟨IO.nil _ _,Below.refl _ _⟩
 clear hb hs;go_enter Tryz.func87,Tryz.ntmps87;go_wp2_with fail
 go_loopw [3,5] (fun l i wr=>∃(k:Nat) (v:Value),k≤256∧i=.int .i64 k∧v=l∧LIS w P k v wr) (fun _ i _=>256-(intOf i).toNat)
 case atStart=>exact⟨0,_,by omega,rfl,rfl,H0.out⟩
 case round=>
  clear H0;obtain⟨k,l,hk,rfl,rfl,hst⟩:=hrel;by_cases hlt:k<256
  ·have hlt':(k:Int)<256:=by omega
   have HST:Hid (LIS w P k l wr):=hst;have HQ:Hid (P k=true↔(0≤(k:Int)∧(k:Int)<256∧P (k:Int).toNat=true)):=by
    show _↔_
    rw[Int.toNat_natCast];exact⟨fun h=>⟨by omega,by omega,h⟩,fun h=>h.2.2⟩
   clear hst;go_wp2_with fail;refine(hasS_any g o k bs _ (P k) _ (HB.out _ HST.out.below) HS.out HQ.out).mono ?_;rintro e w2 ⟨rfl,rfl⟩;by_cases hp:P k=true
   ·have HN:Hid (upTo P (k+1)=upTo P k++[(k:Int)]):=by show _=_;rw[upTo_succ,if_pos hp]
    rw[hp];have HL:Hid ((upTo P k).length≤1048576):=Nat.le_trans (upTo_len P k) (by omega);have HO:Hid (IO w.heap.size (w2.alloc (.cells #[.int .i64 (k:Int)] 2)) l (upTo P k)):=HST.out.own.alloc _;have HZ:Hid (w.heap.size≤(w2.alloc (.cells #[.int .i64 (k:Int)] 2)).heap.size):=by
     show _≤_
     have:=HST.out.below.size;simp;omega
    clear hp HQ;go_wp2_with (first
     |(refine wpList_app1 _ rfl (.tmp 11) (.tmp 13) rfl w.heap.size _ (upTo P k) rfl HO.out w2 k rfl rfl HL.out HZ.out ?_)
     |fail)
    intro v' w3 h1 h2;have HF:Hid (LIS w P (k+1) v' w3):=⟨by rw[HN.out];exact h1,(HST.out.below.alloc HST.out.below.size _).trans h2⟩
    clear h1 h2 HO HZ HL;go_wp2;go_roundw
    case rel=>exact⟨k+1,_,by omega,by go_num,rfl,HF.out⟩
    case measure=>simp[intOf];omega
   ·have HF:Hid (LIS w P (k+1) l w2):=⟨by rw[upTo_succ,if_neg hp];exact HST.out.own,HST.out.below⟩
    rw[Bool.not_eq_true] at hp;rw[hp];clear hp HQ;go_wp2;go_roundw
    case rel=>exact⟨k+1,_,by omega,by go_num,rfl,HF.out⟩
    case measure=>simp[intOf];omega
  ·have hke:k=256:=by omega
   subst hke;have HF:Hid (∃ v,Ending.returned l=.returned v∧IO w.heap.size wr v (upTo P 256)∧Below w.heap.size w wr):=⟨l,rfl,hst.own,hst.below⟩
   clear hst;go_wp2
   go_ret
   exact HF.out
theorem pop8_le (x:Nat):pop8 x≤8:=by
 unfold pop8;exact Nat.le_trans (List.length_filter_le _ _) (by simp)
theorem tab_pop (T:ByteArray) (h:∀ y:Fin T.size,(T[y.val]).toNat=pop8 y.val) (x:Nat) (hx:x<T.size):wrap64 ((T[x]).toNat:Int)=pop8 x:=by
 have e:(T[x]).toNat=pop8 x:=h ⟨x,hx⟩;rw[e];have:=pop8_le x;unfold wrap64;omega
set_option maxRecDepth 100000 in
set_option maxHeartbeats 1000000 in
theorem ones8_any (x:Nat) (hx:x<256) (w:World):Calls Tryz.prog 169 #[.int .u8 x] w fun e w'=>e=.returned (.int .i64 (pop8 x))∧w'=w:=by
 have hx':(x:Int)<256:=by omega
 go_enter Tryz.func169,Tryz.ntmps169;go_wp2
 go_ret
 exact⟨congrArg (fun z=>Ending.returned (Value.int .i64 z)) (tab_pop _ (by decide +kernel) x _),rfl⟩
set_option maxRecDepth 100000 in
set_option maxHeartbeats 1000000 in
theorem size_any (g o:Nat) (bs:List Int) (w:World) (hb:BAt w g o bs) :
  Calls Tryz.prog 164 #[.pointer (some ⟨g,o,none⟩)] w fun e w'=>e=.returned (.int .i64 (popS bs 32))∧w'=w:=by
 have HB:Hid (BAt w g o bs):=hb;clear hb;go_enter Tryz.func164,Tryz.ntmps164;go_wp2_with fail
 go_loopw [3,7] (fun s i wr=>∃ k:Nat,k≤32∧i=.int .i64 k∧s=.int .i64 (popS bs k)∧popS bs k≤8*k∧wr=w) (fun _ i _=>32-(intOf i).toNat)
 case atStart=>exact⟨0,by omega,rfl,rfl,Nat.le_refl _,rfl⟩
 case round=>
  obtain⟨k,hk,rfl,rfl,hle,rfl⟩:=hrel;by_cases hlt:k<32
  ·have hlt':(k:Int)<32:=by omega
   obtain⟨h1,h2,h3⟩:=HB.out;obtain⟨c0,f0⟩:=h3 k hlt;obtain⟨x0,x1⟩:=h2.get k;have HS:Hid (popS bs (k+1)=popS bs k+pop8 (bs.getD k 0).toNat):=popS_succ bs k;obtain⟨x,hx⟩:=Int.eq_ofNat_of_zero_le x0;rw[hx] at c0 x1;have HX:Hid ((bs.getD k 0).toNat=x):=by show _=_;rw[hx];exact Int.toNat_natCast x
   have hx256:x<256:=by omega
   have hp8:pop8 x≤8:=pop8_le x;rw[HX.out] at HS;clear h1 h2 h3 hx x0 HX f0 x1;generalize popS bs k=s at *;go_wp2_with fail;refine(ones8_any x hx256 _).mono ?_;rintro e w2 ⟨rfl,rfl⟩;generalize pop8 x=p at *;go_wp2;go_roundw
   case rel=>exact⟨k+1,by omega,by go_num,by rw[HS.out,Int.natCast_add],by have:=HS.out;omega,trivial⟩
   case measure=>simp[intOf];omega
  ·have hke:k=32:=by omega
   subst hke;go_wp2
   go_ret
   exact⟨rfl,rfl⟩
end Go.Proofs.YthmeoilbmfdhfaaGreat
namespace Go.Proofs.YthmeoilbmfdhfaaGreat
open Go.ChangeShapes Go.WideShapes Go.ChangeAt Go.RowKit
set_option linter.unusedVariables false
theorem bkC_get (d u:List Int) (k:Int) (v:Value) (i:Nat):(bkC d u k v)[i]?=(d.map (Value.int .u8)++u.map (Value.int .u8)++[.int .i64 k,v])[i]?:=by unfold bkC;simp
theorem bkC_d {d u:List Int} (hd:d.length=32) (hu:u.length=32) (k:Int) (v:Value) (i:Nat) (hi:i<32):(bkC d u k v)[i]?=some (.int .u8 (d.getD i 0)):=by
 rw[bkC_get,List.append_assoc,List.getElem?_append_left (by simp[hd,hi])];simp[hd,hi]
theorem bkC_u {d u:List Int} (hd:d.length=32) (hu:u.length=32) (k:Int) (v:Value) (i:Nat) (hi:i<32):(bkC d u k v)[32+i]?=some (.int .u8 (u.getD i 0)):=by
 rw[bkC_get,List.getElem?_append_left (by simp[hd,hu];omega),List.getElem?_append_right (by simp[hd])];simp[hd,hu,hi]
theorem bkC_k {d u:List Int} (hd:d.length=32) (hu:u.length=32) (k:Int) (v:Value):(bkC d u k v)[64]?=some (.int .i64 k):=by
 rw[bkC_get,List.getElem?_append_right (by simp[hd,hu])];simp[hd,hu]
theorem bkC_v {d u:List Int} (hd:d.length=32) (hu:u.length=32) (k:Int) (v:Value):(bkC d u k v)[65]?=some v:=by
 rw[bkC_get,List.getElem?_append_right (by simp[hd,hu])];simp[hd,hu]
theorem bkC_set_d {d u:List Int} (hd:d.length=32) (k:Int) (v:Value) (i:Nat) (hi:i<32) (x:Int):(bkC d u k v).setIfInBounds i (.int .u8 x)=bkC (d.set i x) u k v:=by
 unfold bkC;rw[List.setIfInBounds_toArray,List.append_assoc,List.set_append_left _ _ (by simp[hd,hi]),←List.append_assoc,←List.map_set]
theorem bkC_set_u {d u:List Int} (hd:d.length=32) (hu:u.length=32) (k:Int) (v:Value) (i:Nat) (hi:i<32) (x:Int):(bkC d u k v).setIfInBounds (32+i) (.int .u8 x)=bkC d (u.set i x) k v:=by
 unfold bkC;rw[List.setIfInBounds_toArray,List.set_append_left _ _ (by simp[hd,hu];omega),List.set_append_right _ _ (by simp[hd]),List.length_map,hd,Nat.add_sub_cancel_left,←List.map_set]
theorem bkC_set_k {d u:List Int} (hd:d.length=32) (hu:u.length=32) (k:Int) (v:Value) (k':Int):(bkC d u k v).setIfInBounds 64 (.int .i64 k')=bkC d u k' v:=by
 unfold bkC;rw[List.setIfInBounds_toArray,List.set_append_right _ _ (by simp[hd,hu])];simp[hd,hu]
theorem bkC_set_v {d u:List Int} (hd:d.length=32) (hu:u.length=32) (k:Int) (v v':Value):(bkC d u k v).setIfInBounds 65 v'=bkC d u k v':=by
 unfold bkC;rw[List.setIfInBounds_toArray,List.set_append_right _ _ (by simp[hd,hu])];simp[hd,hu]
structure Bk (w:World) (g:Nat) (d u:List Int) (k:Int) (v:Value):Prop where
 row:w.heap[g]?=some (.cells (bkC d u k v) 77 (0,0))
 ld:d.length=32
 lu:u.length=32
 bd:Byte d
 bu:Byte u
variable {w w':World} {g:Nat} {d u:List Int} {k:Int} {v:Value}
theorem Bk.lt (h:Bk w g d u k v):g<w.heap.size:=(Array.getElem?_eq_some_iff.1 h.row).1
theorem Bk.batd (h:Bk w g d u k v):BAt w g 0 d:=⟨h.ld,h.bd,fun i hi=>by
 rw[Nat.zero_add];exact⟨(cell_of_row _ _ _ _ _ _ h.row).trans (bkC_d h.ld h.lu k v i hi),frozen_of_row _ _ _ _ _ h.row⟩⟩
theorem Bk.batu (h:Bk w g d u k v):BAt w g 32 u:=⟨h.lu,h.bu,fun i hi=>⟨(cell_of_row _ _ _ _ _ _ h.row).trans (bkC_u h.ld h.lu k v i hi),frozen_of_row _ _ _ _ _ h.row⟩⟩
theorem Bk.ck (h:Bk w g d u k v):w.cell? ⟨g,64,none⟩=some (.int .i64 k):=(cell_of_row _ _ _ _ _ _ h.row).trans (bkC_k h.ld h.lu k v)
theorem Bk.cv (h:Bk w g d u k v):w.cell? ⟨g,65,none⟩=some v:=(cell_of_row _ _ _ _ _ _ h.row).trans (bkC_v h.ld h.lu k v)
theorem Bk.fz (h:Bk w g d u k v) (i:Nat):w.frozen? ⟨g,i,none⟩=false:=frozen_of_row _ _ _ _ _ h.row
theorem Bk.below (h:Bk w g d u k v) {B:Nat} (b:Below B w w') (hg:g<B):Bk w' g d u k v:=⟨by rw[b.block g hg];exact h.row,h.ld,h.lu,h.bd,h.bu⟩
theorem Bk.drew (h:Bk w g d u k v) (q:Nat):Bk (w.drewN q) g d u k v:=⟨h.row,h.ld,h.lu,h.bd,h.bu⟩
theorem addB_len (bs:List Int) (i:Nat):(addB bs i).length=bs.length:=by unfold addB;simp
theorem remB_len (bs:List Int) (i:Nat):(remB bs i).length=bs.length:=by unfold remB;simp
theorem addB_byte {bs:List Int} (h:Byte bs) (i:Nat):Byte (addB bs i):=by
 have hx:=h.get (i/8);obtain⟨a,b,c⟩:=u8_or_bit _ (i%8) hx.1 hx.2 (by omega);exact byte_set h _ _ a b
theorem remB_byte {bs:List Int} (h:Byte bs) (i:Nat):Byte (remB bs i):=by
 have hx:=h.get (i/8);obtain⟨a,b,c⟩:=u8_not_bit _ (i%8) hx.1 hx.2 (by omega);exact byte_set h _ _ a b
theorem addB_cell (bs:List Int) (i:Nat) (h:i/8<bs.length):bs.set (i/8) ((addB bs i).getD (i/8) 0)=addB bs i:=by
 unfold addB;rw[getD_set8 _ _ _ _ h,if_pos rfl]
theorem remB_cell (bs:List Int) (i:Nat) (h:i/8<bs.length):bs.set (i/8) ((remB bs i).getD (i/8) 0)=remB bs i:=by
 unfold remB;rw[getD_set8 _ _ _ _ h,if_pos rfl]
theorem Bk.addD (h:Bk w g d u k v) (i:Nat) (hi:i<256):Bk (w.setCell ⟨g,0+i/8,none⟩ (.int .u8 ((addB d i).getD (i/8) 0))) g (addB d i) u k v:=
 ⟨by rw[Nat.zero_add,heap_setCell_same _ _ _ _ _ _ h.row,bkC_set_d h.ld _ _ _ (by omega),addB_cell _ _ (by have:=h.ld;omega)],by rw[addB_len];exact h.ld,h.lu,addB_byte h.bd i,h.bu⟩
theorem Bk.remD (h:Bk w g d u k v) (i:Nat) (hi:i<256):Bk (w.setCell ⟨g,0+i/8,none⟩ (.int .u8 ((remB d i).getD (i/8) 0))) g (remB d i) u k v:=
 ⟨by rw[Nat.zero_add,heap_setCell_same _ _ _ _ _ _ h.row,bkC_set_d h.ld _ _ _ (by omega),remB_cell _ _ (by have:=h.ld;omega)],by rw[remB_len];exact h.ld,h.lu,remB_byte h.bd i,h.bu⟩
theorem Bk.addU (h:Bk w g d u k v) (i:Nat) (hi:i<256):Bk (w.setCell ⟨g,32+i/8,none⟩ (.int .u8 ((addB u i).getD (i/8) 0))) g d (addB u i) k v:=
 ⟨by rw[heap_setCell_same _ _ _ _ _ _ h.row,bkC_set_u h.ld h.lu _ _ _ (by omega),addB_cell _ _ (by have:=h.lu;omega)],h.ld,by rw[addB_len];exact h.lu,h.bd,addB_byte h.bu i⟩
theorem Bk.setK (h:Bk w g d u k v) (k':Int):Bk (w.setCell ⟨g,64,none⟩ (.int .i64 k')) g d u k' v:=
 ⟨by rw[heap_setCell_same _ _ _ _ _ _ h.row,bkC_set_k h.ld h.lu],h.ld,h.lu,h.bd,h.bu⟩
theorem Bk.setV (h:Bk w g d u k v) (v':Value):Bk (w.setCell ⟨g,65,none⟩ v') g d u k v':=
 ⟨by rw[heap_setCell_same _ _ _ _ _ _ h.row,bkC_set_v h.ld h.lu],h.ld,h.lu,h.bd,h.bu⟩
set_option maxRecDepth 100000 in
set_option maxHeartbeats 1000000 in
theorem admitted_any (a:Option Addr) (n c:Nat) (hb:Bk w g d u k (.slice a n c)) (h0:0≤k) (h1:k≤1048576) (hn:n≤1048576) :
  Calls Tryz.prog 160 #[.pointer (some ⟨g,0,none⟩)] w fun e w'=>e=.returned (.int .i64 (k+n))∧∃ q,w'=w.drewN q:=by
 have c0:=hb.ck;have c1:=hb.cv;clear hb;go_enter Tryz.func160,Tryz.ntmps160;go_wp2_with fail
 go_region
 go_wp2
 go_ret
 exact⟨rfl,1,rfl⟩
set_option maxRecDepth 100000 in
set_option maxHeartbeats 1000000 in
theorem full_any (hb:Bk w g d u k v) :
  Calls Tryz.prog 159 #[.pointer (some ⟨g,0,none⟩)] w fun e w'=>e=.returned (.bool (decide (popS d 32=16)))∧w'=w:=by
 have HB:Hid (BAt w g 0 d):=hb.batd;clear hb;go_enter Tryz.func159,Tryz.ntmps159;go_wp2_with fail;refine(size_any g 0 d _ HB.out).mono ?_;rintro e w2 ⟨rfl,rfl⟩;clear HB;by_cases hs:popS d 32=16
 ·have HD:Hid (decide (popS d 32=16)=true):=decide_eq_true hs;rw[hs];go_wp2
  go_ret
  exact⟨by rw[HD.out];rfl,rfl⟩
 ·have HD:Hid (decide (popS d 32=16)=false):=decide_eq_false hs;have HE:Hid ((((popS d 32:Nat):Int) == 16)=false):=by
   show _=_
   have:¬ (((popS d 32:Nat):Int)=16):=by omega
   simpa using this
  clear hs;go_wp2
  go_ret
  exact⟨by rw[HD.out,←HE.out];rfl,rfl⟩
end Go.Proofs.YthmeoilbmfdhfaaGreat
namespace Go.Proofs.YthmeoilbmfdhfaaGreat
open Go.ChangeShapes Go.WideShapes Go.ChangeAt Go.RowKit
set_option linter.unusedVariables false
variable {w w':World} {g:Nat} {d u:List Int} {k:Int} {v:Value}
set_option maxRecDepth 100000 in
set_option maxHeartbeats 1000000 in
theorem ackN_any (hb:Bk w g d u k (.slice none 0 0)) (h0:0≤k) (h1:k≤1048576) :
  Calls Tryz.prog 161 #[.pointer (some ⟨g,0,none⟩),.int .i64 k] w fun e w'=>e=.returned (.tuple #[])∧∃ q,w'=(((w.setCell ⟨g,65,none⟩ (.slice none 0 0)).drewN q).setCell ⟨g,64,none⟩ (.int .i64 k)):=by
 have c0:=hb.ck;have c1:=hb.cv;have f0:=hb.fz 64;have f1:=hb.fz 65;have hb2:=hb.setV (.slice none 0 0);have c2:=hb2.ck;have f2:=hb2.fz 64;clear hb hb2;go_enter Tryz.func161,Tryz.ntmps161;go_wp2_with fail
 go_region
 go_wp2
 go_end0
 exact⟨rfl,1,rfl⟩
def ackV (t o n c m:Nat):Value:=.slice (if c=m then some ⟨t,o,none⟩ else some ⟨t,o+m*2,none⟩) (n-m:Nat) (c-m:Nat)
set_option maxRecDepth 100000 in
set_option maxHeartbeats 1000000 in
theorem ackS_any (t o n c m:Nat) (hb:Bk w g d u k (.slice (some ⟨t,o,none⟩) n c)) (h0:0≤k) (h1:k≤1048576) (hm:m≤n) (hc:n≤c) (hn:n≤1048576) (hcm:c≤9223372036854775807) :
  Calls Tryz.prog 161 #[.pointer (some ⟨g,0,none⟩),.int .i64 (k+m)] w fun e w'=>e=.returned (.tuple #[])∧∃ q,w'=(((w.setCell ⟨g,65,none⟩ (ackV t o n c m)).drewN q).setCell ⟨g,64,none⟩ (.int .i64 (k+m))):=by
 have c0:=hb.ck;have c1:=hb.cv;have f0:=hb.fz 64;have f1:=hb.fz 65;have hb2:=hb.setV (ackV t o n c m);have c2:=hb2.ck;have f2:=hb2.fz 64;have HK:Hid ((k+(m:Int)-k).toNat=m):=by show _=_;omega
 have HV:Hid (Value.slice (if c=m then some ⟨t,o,none⟩ else some ⟨t,o+m*2,none⟩) (n-m:Nat) (c-m:Nat)=ackV t o n c m):=rfl;clear hb hb2;go_enter Tryz.func161,Tryz.ntmps161;go_wp2_with fail
 go_region
 rw[HK.out,HV.out];clear HK HV;go_wp2
 go_end0
 exact⟨rfl,1,rfl⟩
end Go.Proofs.YthmeoilbmfdhfaaGreat
namespace Go.Proofs.YthmeoilbmfdhfaaGreat
open Go.ChangeShapes Go.WideShapes Go.ChangeAt Go.RowKit
set_option linter.unusedVariables false
variable {w w':World} {g:Nat} {d u:List Int} {k:Int} {v:Value}
def NeG (g:Nat) (v:Value):Prop:=∀ t,v.ownBlock=some t→t≠g
def TapV (B:Nat) (w:World) (v:Value) (T:List Int) (n:Nat):Prop:=
 T.length=n*2∧((v=.slice none 0 0∧n=0)∨
  ∃ t o c,v=.slice (some ⟨t,o,none⟩) n c∧B≤t∧t<w.heap.size∧n≤c∧c≤9223372036854775807∧(∀ i,i<n*2→w.cell? ⟨t,o+i,none⟩=some (.int .i64 (T.getD i 0))∧w.frozen? ⟨t,o+i,none⟩=false)∧∃ cs,w.heap[t]?=some (.cells cs 133 (0,0))∧o+c*2≤cs.size)
theorem TapO.tapV {B:Nat} {T:List Int} {n:Nat} (h:TapO B w v T n):TapV B w v T n:=by
 have hT:T.length=n*2:=by simpa using h.1
 refine⟨hT,?_⟩;rcases h.2 with⟨h1,h2⟩|⟨t,c,cur,h1,h2,h3,h4,h5,h6,h7⟩
 ·exact .inl ⟨h1,h2⟩
 ·refine .inr ⟨t,0,c,h1,h2,(Array.getElem?_eq_some_iff.1 h3).1,h4,by unfold maxLen at h5;omega,fun i hi=>?_,cur,h3,by omega⟩;rw[Nat.zero_add];refine⟨?_,frozen_of_row _ _ _ _ _ h3⟩;subst h1;rw[World.ownsRow.cellAt h i hi];simp[show i<T.length by omega]
theorem TapV.block {B:Nat} {T:List Int} {n:Nat} (h:TapV B w v T n) (hs:w.heap.size≤w'.heap.size) (hb:∀ t,v.ownBlock=some t→t<w.heap.size→w'.heap[t]?=w.heap[t]?):TapV B w' v T n:=by
 obtain⟨h1,h2|⟨t,o,c,e,hB,ht,hc,hm,hx,cs,hcs,hsz⟩⟩:=h
 ·exact⟨h1,.inl h2⟩
 ·have hk:=hb t (by rw[e];rfl) ht;refine⟨h1,.inr ⟨t,o,c,e,hB,by omega,hc,hm,fun i hi=>?_,cs,by rw[hk];exact hcs,hsz⟩⟩;rw[World.cell?_of_block (a:=⟨t,o+i,none⟩) (w:=w) hk,World.frozen?_of_block (a:=⟨t,o+i,none⟩) (w:=w) hk];exact hx i hi
theorem TapV.drop {B t o c:Nat} {T:List Int} {n:Nat} (h:TapV B w (.slice (some ⟨t,o,none⟩) n c) T n) (m:Nat) (hm:m≤n):TapV B w (ackV t o n c m) (T.drop (m*2)) (n-m):=by
 obtain⟨h1,⟨h2,_⟩|⟨t',o',c',e,hB,ht,hc,hx,hy,cs,hcs,hsz⟩⟩:=h
 ·cases h2
 ·cases e;refine⟨by rw[List.length_drop];omega,.inr ?_⟩;unfold ackV;by_cases he:c=m
  ·rw[if_pos he];exact⟨t,o,c-m,rfl,hB,ht,by omega,by omega,fun i hi=>by omega,cs,hcs,by omega⟩
  ·rw[if_neg he];refine⟨t,o+m*2,c-m,rfl,hB,ht,by omega,by omega,fun i hi=>?_,cs,hcs,by omega⟩;have:=hy (m*2+i) (by omega);rw[←Nat.add_assoc] at this;rw[show(T.drop (m*2)).getD i 0=T.getD (m*2+i) 0 by simp[List.getD]];exact this
def ApP (H B g:Nat) (w:World) (ok:Bool) (D U:Nat→Prop) (k:Int) (T:List Int) (n:Nat) (e:Ending) (w':World):Prop:=
 e=.returned (.bool ok)∧Below H w w'∧(ok=true→∃ d u v,Bk w' g d u k v∧SetB d D∧SetB u U∧TapV B w' v T n∧NeG g v)
def ackM (k a:Int):Nat:=(max a k-k).toNat
theorem bk_ack {B H:Nat} {T:List Int} {n m q:Nat} {v':Value} {k':Int} (hb:Bk w g d u k v) (hH:H≤g) (hgB:NeG g v') (hv:TapV B w v' T n) :
  Bk (((w.setCell ⟨g,65,none⟩ v').drewN q).setCell ⟨g,64,none⟩ (.int .i64 k')) g d u k' v'∧Below H w (((w.setCell ⟨g,65,none⟩ v').drewN q).setCell ⟨g,64,none⟩ (.int .i64 k'))∧
   TapV B (((w.setCell ⟨g,65,none⟩ v').drewN q).setCell ⟨g,64,none⟩ (.int .i64 k')) v' T n:=by
 have hw:Wr g w (((w.setCell ⟨g,65,none⟩ v').drewN q).setCell ⟨g,64,none⟩ (.int .i64 k')):=(((Wr.refl _ _).setCell _ _).drewN _).setCell _ _;refine⟨((hb.setV v').drew q).setK k',hw.below hH,hv.block (by rw[hw.size];exact Nat.le_refl _) (fun t ht _=>hw.block t (hgB t ht))⟩
end Go.Proofs.YthmeoilbmfdhfaaGreat
namespace Go.Proofs.YthmeoilbmfdhfaaGreat
open Go.ChangeShapes Go.WideShapes Go.ChangeAt Go.RowKit
set_option linter.unusedVariables false
open Classical in
noncomputable def memB (v:Int) (xs:List Int):Bool:=decide (v∈xs)
theorem memB_no {v:Int} {xs:List Int} (h:¬ v∈xs):memB v xs=false:=by unfold memB;simp[h]
theorem memB_yes {v:Int} {xs:List Int} (h:v∈xs):memB v xs=true:=by unfold memB;simp[h]
theorem getD_mem {xs:List Int} {k:Nat} (h:k<xs.length):xs.getD k 0∈xs:=by
 rw[List.getD_eq_getElem?_getD,List.getElem?_eq_getElem h];exact List.getElem_mem h
set_option maxHeartbeats 1000000 in
theorem holds_any (a:Option Addr) (n cap:Nat) (xs:List Int) (v:Int) (w:World) (hn:xs.length=n) (hm:n≤1048576) (ha:At .i64 w a xs) :
  Calls Tryz.prog 124 #[.slice a n cap,.int .i64 v] w fun e w'=>e=.returned (.bool (memB v xs))∧w'=w:=by
 have HNX:Hid (xs.length=n):=hn;have HA:Hid (At .i64 w a xs):=ha;clear hn ha;go_enter Tryz.func124,Tryz.ntmps124;go_wp2
 go_loop [5] (fun i=>∃ k:Nat,k≤n∧i=.int .i64 k∧Hid (∀ j,j<k→xs.getD j 0≠v)) (fun i=>n-(intOf i).toNat)
 case atStart=>exact⟨0,Nat.zero_le _,rfl,fun j hj=>by omega⟩
 case round=>
  obtain⟨k,hk,rfl,hno⟩:=hrel;by_cases hlt:k<n
  ·have hlt':(k:Int)<n:=by omega
   obtain⟨b,off,ea,hb,hc⟩:=HA.out.get (by have:=HNX.out;omega);subst ea;have hck:=hc k (by have:=HNX.out;omega);by_cases he:xs.getD k 0=v
   ·have HM:Hid (memB v xs=true):=memB_yes (by rw[←he];exact getD_mem (by have:=HNX.out;omega));rw[he] at hck;clear hc he hb;go_wp2
    go_ret
    exact⟨by rw[HM.out];rfl,rfl⟩
   ·have HN:Hid (∀ j,j<k+1→xs.getD j 0≠v):=fun j hj=>by
     by_cases hjk:j<k
     ·exact hno.out j hjk
     ·have:j=k:=by omega
      rw[this];exact he
    have he':(xs.getD k 0 == v)=false:=by simpa using he
    clear hc hb hno he;generalize xs.getD k 0=x at *;go_wp2
    go_round
    case rel=>exact⟨k+1,by omega,by go_num,HN⟩
    case measure=>simp[intOf];omega
  ·have hlt':¬ ((k:Int)<n):=by omega
   have HM:Hid (memB v xs=false):=memB_no (fun h=>by
    obtain⟨i,hi,rfl⟩:=List.getElem_of_mem h;have:=hno.out i (by have:=HNX.out;omega);rw[List.getD_eq_getElem?_getD,List.getElem?_eq_getElem hi] at this;exact this rfl)
   go_wp2
   go_ret
   exact⟨by rw[HM.out];rfl,rfl⟩
set_option maxHeartbeats 4000000 in
theorem serials_any (a:Option Addr) (n cap:Nat) (xs:List Int) (w:World) (hn:xs.length=n) (hm:n≤1048576) (ha:At .i64 w a xs) :
  Calls Tryz.prog 144 #[.slice a n cap] w fun e w'=>e=.returned (.bool (serB xs))∧∃ q,w'=w.drewN q:=by
 have HNX:Hid (xs.length=n):=hn;have HA:Hid (At .i64 w a xs):=ha;clear hn ha;go_enter Tryz.func144,Tryz.ntmps144;go_wp2
 go_loopw [3] (fun i wr=>∃ k:Nat,k≤n∧i=.int .i64 k∧Hid (∀ j,j<k→okI xs j)∧Hid (∃ q,wr=w.drewN q)) (fun i _=>n-(intOf i).toNat)
 case atStart=>exact⟨0,Nat.zero_le _,rfl,fun j hj=>by omega,⟨0,rfl⟩⟩
 case round=>
  obtain⟨k,hk,rfl,hno,hwq⟩:=hrel;obtain⟨q,rfl⟩:=hwq.out;clear hwq;by_cases hlt:k<n
  ·have hlt':(k:Int)<n:=by omega
   obtain⟨b,off,ea,hb,hc⟩:=HA.out.get (by have:=HNX.out;omega);subst ea;have hck:=hc k (by have:=HNX.out;omega);by_cases h0:xs.getD k 0<0
   ·have HS:Hid (serB xs=false):=serB_no (fun h=>by have:=(h k (by have:=HNX.out;omega)).1;omega);clear hc hb hno;generalize xs.getD k 0=x at *;go_wp2_with fail
    go_quiet (fail)
    go_wp2
    go_ret
    exact⟨by rw[HS.out];rfl,q+nq,dN _ _ _⟩
   ·have h0':decide (xs.getD k 0<0)=false:=decide_eq_false h0;by_cases h1:256≤xs.getD k 0
    ·have HS:Hid (serB xs=false):=serB_no (fun h=>by have:=(h k (by have:=HNX.out;omega)).2.1;omega);clear hc hb hno h0;generalize xs.getD k 0=x at *;go_wp2_with fail
     go_quiet (fail)
     go_wp2
     go_ret
     exact⟨by rw[HS.out];rfl,q+nq,dN _ _ _⟩
    ·have h1':decide (256≤xs.getD k 0)=false:=decide_eq_false h1;by_cases hk0:0<k
     ·obtain⟨m,rfl⟩:∃ m,k=m+1:=⟨k-1,by omega⟩
      have hck1:=hc m (by have:=HNX.out;omega);have hk0':(0:Int)<((m+1:Nat):Int):=by omega
      by_cases h2:xs.getD (m+1) 0≤xs.getD m 0
      ·have HS:Hid (serB xs=false):=serB_no (fun h=>by have:=(h (m+1) (by have:=HNX.out;omega)).2.2 (by omega);rw[Nat.add_sub_cancel] at this;omega);clear hc hb hno h0 h1 hk0;generalize xs.getD (m+1) 0=x at *;generalize xs.getD m 0=y at *;go_wp2_with fail
       go_quiet (fail)
       go_wp2
       go_ret
       exact⟨by rw[HS.out];rfl,q+nq,dN _ _ _⟩
      ·have h2':decide (xs.getD (m+1) 0≤xs.getD m 0)=false:=decide_eq_false h2;have HN:Hid (∀ j,j<m+1+1→okI xs j):=fun j hj=>by
        by_cases hjk:j<m+1
        ·exact hno.out j hjk
        ·have:j=m+1:=by omega
         rw[this];exact⟨by omega,by omega,fun _=>by rw[Nat.add_sub_cancel];omega⟩
       clear hc hb hno h0 h1 hk0 h2;generalize xs.getD (m+1) 0=x at *;generalize xs.getD m 0=y at *;go_wp2_with fail
       go_quiet (fail)
       go_wp2;go_roundw
       case rel=>exact⟨m+1+1,by omega,by go_num,HN,⟨q+nq,rfl⟩⟩
       case measure=>simp[intOf];omega
     ·have hkd:decide (0<k)=false:=decide_eq_false (by omega);have HN:Hid (∀ j,j<k+1→okI xs j):=fun j hj=>by
       have:j=k:=by omega
       rw[this];exact⟨by omega,by omega,fun h=>by omega⟩
      clear hc hb hno h0 h1 hk0;generalize xs.getD k 0=x at *;go_wp2_with fail
      go_quiet (fail)
      go_wp2;go_roundw
      case rel=>exact⟨k+1,by omega,by go_num,HN,⟨q+nq,rfl⟩⟩
      case measure=>simp[intOf];omega
  ·have hlt':¬ ((k:Int)<n):=by omega
   have HS:Hid (serB xs=true):=serB_yes (fun i hi=>hno.out i (by have:=HNX.out;omega));go_wp2
   go_ret
   exact⟨by rw[HS.out];rfl,q,rfl⟩
structure VSE (w:World) (sc:Array Value) (wr:World):Prop where
 below:Below w.heap.size w wr
 box:wr.heap[w.heap.size]?=some (.cells sc 34 (0,0))
theorem VSE.lt {w wr:World} {sc:Array Value} (h:VSE w sc wr):w.heap.size<wr.heap.size:=(Array.getElem?_eq_some_iff.1 h.box).1
theorem VSE.call {w wr w':World} {sc:Array Value} (h:VSE w sc wr) (b:Below wr.heap.size wr w'):VSE w sc w':=⟨h.below.trans (b.mono h.below.size),by rw[b.block _ h.lt];exact h.box⟩
theorem VSE.drew {w wr:World} {sc:Array Value} (h:VSE w sc wr) (q:Nat):VSE w sc (wr.drewN q):=⟨below_dq h.below q,h.box⟩
set_option maxRecDepth 100000 in
set_option maxHeartbeats 8000000 in
theorem svs_any (aD aU aT:Option Addr) (nD cD nU cU nT cT:Nat) (D U:List Int) (k:Int) (T:List Int) (w:World) (hD:D.length=nD) (hU:U.length=nU) (hT:T.length=nT*2) (mD:nD≤1048576) (mU:nU≤1048576) (mT:nT≤1048576)
  (haD:At .i64 w aD D) (haU:At .i64 w aU U) (haT:At .i64 w aT T) (hk0:-9223372036854775808≤k) (hk1:k<9223372036854775808) :
  Calls Tryz.prog 122 #[.agg #[.slice aD nD cD,.slice aU nU cU,.int .i64 k,.slice aT nT cT]] w fun e w'=>e=.returned (.bool (stB D U k T nT))∧Below w.heap.size w w':=by
 have HE0:Hid (VSE w #[.slice aD nD cD,.slice aU nU cU,.int .i64 k,.slice aT nT cT] (w.alloc (.cells #[.slice aD nD cD,.slice aU nU cU,.int .i64 k,.slice aT nT cT] 34))):=⟨(Below.refl _ _).alloc (Nat.le_refl _) _,heap_alloc_new w _⟩
 have HAD:Hid (At .i64 w aD D):=haD;have HAU:Hid (At .i64 w aU U):=haU;have HAT:Hid (At .i64 w aT T):=haT;have HLT:Hid (T.length=nT*2):=hT;have HLN:Hid (D.length=nD∧U.length=nU):=⟨hD,hU⟩
 have HKB:Hid (-9223372036854775808≤k∧k<9223372036854775808):=⟨hk0,hk1⟩
 clear haD haU haT hT hD hU hk0 hk1;go_enter Tryz.func122,Tryz.ntmps122;go_wp2_with fail;generalize (w.alloc (.cells #[.slice aD nD cD,.slice aU nU cU,.int .i64 k,.slice aT nT cT] 34))=w0 at *;refine(serials_any aD nD cD D _ HLN.out.1 mD (HAD.out.below HE0.out.below)).mono ?_;rintro e w1' ⟨rfl,q1,rfl⟩;have HE1:Hid (VSE w #[.slice aD nD cD,.slice aU nU cU,.int .i64 k,.slice aT nT cT] (w0.drewN q1)):=HE0.out.drew q1;clear HE0;generalize w0.drewN q1=w1 at *;have HB:Hid (Below w.heap.size w w1):=HE1.out.below;have c0:w1.cell? ⟨w.heap.size,0,none⟩=some (.slice aD nD cD):=by rw[cell_of_row w1 w.heap.size 0 _ _ _ HE1.out.box];rfl
 have c1:w1.cell? ⟨w.heap.size,1,none⟩=some (.slice aU nU cU):=by rw[cell_of_row w1 w.heap.size 1 _ _ _ HE1.out.box];rfl
 cases hsD:serB D with
 |false=>
  have HPD:Hid (¬ SerP D):=fun h=>by rw[serB_yes h] at hsD;cases hsD
  have HFB:Hid (stB D U k T nT=false):=stB_no (fun h=>HPD.out h.1);go_wp2
  go_ret
  exact⟨by rw[HFB.out];rfl,HB.out⟩
 |true=>
 have HPD:Hid (SerP D):=(serB_iff D).1 hsD;by_cases h16:nD≤16
 ·have h16':decide ((16:Int)<(nD:Int))=false:=decide_eq_false (by omega);go_wp2_with fail;refine(serials_any aU nU cU U _ HLN.out.2 mU (HAU.out.below HE1.out.below)).mono ?_;rintro e w2' ⟨rfl,q2,rfl⟩;have HE2:Hid (VSE w #[.slice aD nD cD,.slice aU nU cU,.int .i64 k,.slice aT nT cT] (w1.drewN q2)):=HE1.out.drew q2;clear HE1 HB c0 c1;generalize w1.drewN q2=w2 at *;have HB:Hid (Below w.heap.size w w2):=HE2.out.below;have c1:w2.cell? ⟨w.heap.size,1,none⟩=some (.slice aU nU cU):=by rw[cell_of_row w2 w.heap.size 1 _ _ _ HE2.out.box];rfl
  have c2:w2.cell? ⟨w.heap.size,2,none⟩=some (.int .i64 k):=by rw[cell_of_row w2 w.heap.size 2 _ _ _ HE2.out.box];rfl
  have c3:w2.cell? ⟨w.heap.size,3,none⟩=some (.slice aT nT cT):=by rw[cell_of_row w2 w.heap.size 3 _ _ _ HE2.out.box];rfl
  cases hsU:serB U with
  |false=>
   have HPU:Hid (¬ SerP U):=fun h=>by rw[serB_yes h] at hsU;cases hsU
   have HFB:Hid (stB D U k T nT=false):=stB_no (fun h=>HPU.out h.2.2.1);go_wp2
   go_ret
   exact⟨by rw[HFB.out];rfl,HB.out⟩
  |true=>
  have HPU:Hid (SerP U):=(serB_iff U).1 hsU;by_cases hk:k<0
  ·have HK9:Hid (k<0):=hk;have hkb:decide (k<0)=true:=decide_eq_true hk;clear hk c1 c3;have HFB:Hid (stB D U k T nT=false):=stB_no (fun h=>by have:=h.2.2.2.1;have:=HK9.out;omega);go_wp2
   go_ret
   exact⟨by rw[HFB.out];rfl,HB.out⟩
  ·have HK9:Hid (0≤k):=by show _≤_;omega
   have hkb:decide (k<0)=false:=decide_eq_false hk;by_cases hka:k+(nT:Int)=nU
   ·have HKA:Hid (k+nT=U.length):=by show _=_;rw[HLN.out.2];exact hka
    have hwr:IntKind.i64.wrap (k+(nT:Int))=(nU:Int):=by rw[IntKind.wrap_i64];omega
    have hwr2:wrap64 (k+(nT:Int))=(nU:Int):=by unfold wrap64;omega
    clear hka hk;go_wp2_with fail;clear HB c1 c2 c3 hwr hwr2 hkb h16' hsD hsU
    go_loopw [3] (fun i wr=>∃ m:Nat,m≤nT∧i=.int .i64 m∧VSE w #[.slice aD nD cD,.slice aU nU cU,.int .i64 k,.slice aT nT cT] wr∧Hid (∀ j,j<m→tapI U T j)) (fun i _=>nT-(intOf i).toNat)
    case atStart=>exact⟨0,Nat.zero_le _,rfl,HE2.out,fun j hj=>by omega⟩
    case round=>
     clear HE2;obtain⟨m,hm,rfl,hE,hno⟩:=hrel;have c1:wr.cell? ⟨w.heap.size,1,none⟩=some (.slice aU nU cU):=by rw[cell_of_row wr w.heap.size 1 _ _ _ hE.box];rfl
     have c3:wr.cell? ⟨w.heap.size,3,none⟩=some (.slice aT nT cT):=by rw[cell_of_row wr w.heap.size 3 _ _ _ hE.box];rfl
     have HE:Hid (VSE w #[.slice aD nD cD,.slice aU nU cU,.int .i64 k,.slice aT nT cT] wr):=hE;clear hE;by_cases hlt:m<nT
     ·have hlt':(m:Int)<nT:=by omega
      obtain⟨b,off,ea,hb,hc⟩:=(HAT.out.below HE.out.below).get (by have:=HLT.out;omega);have t0:=hc (m*2) (by have:=HLT.out;omega);have t1:=hc (m*2+1) (by have:=HLT.out;omega);rw[←Nat.add_assoc] at t1;subst ea;have HCT:Hid (∀ j,j<nT→wr.cell? ⟨b,off+j*2,none⟩=some (.int .i64 (T.getD (j*2) 0))):=fun j hj=>hc (j*2) (by have:=HLT.out;omega)
      have HBL:Hid (b<wr.heap.size):=hb;have HTI:Hid (tapI U T m↔(T.getD (m*2) 0∈U∧(0≤T.getD (m*2+1) 0∧T.getD (m*2+1) 0≤4294967295)∧∀ j,j<m→T.getD (j*2) 0≠T.getD (m*2) 0)):=Iff.rfl;generalize T.getD (m*2) 0=s at *;generalize T.getD (m*2+1) 0=nw at *;have b1:Below wr.heap.size wr (wr.alloc (.cells #[.int .i64 s,.int .i64 nw] 133)):=(Below.refl _ _).alloc (Nat.le_refl _) _;have HEW:Hid (VSE w #[.slice aD nD cD,.slice aU nU cU,.int .i64 k,.slice (some ⟨b,off,none⟩) nT cT] (wr.alloc (.cells #[.int .i64 s,.int .i64 nw] 133))):=HE.out.call b1;have HBW:Hid (Below w.heap.size w (wr.alloc (.cells #[.int .i64 s,.int .i64 nw] 133))):=HEW.out.below;have HRT:Hid ((wr.alloc (.cells #[.int .i64 s,.int .i64 nw] 133)).heap[wr.heap.size]?=some (.cells #[.int .i64 s,.int .i64 nw] 133 (0,0))):=heap_alloc_new wr _;have HCW:Hid (∀ j,j<nT→(wr.alloc (.cells #[.int .i64 s,.int .i64 nw] 133)).cell? ⟨b,off+j*2,none⟩=some (.int .i64 (T.getD (j*2) 0))):=fun j hj=>by rw[b1.cell (p:=⟨b,off+j*2,none⟩) HBL.out];exact HCT.out j hj
      have d1:(wr.alloc (.cells #[.int .i64 s,.int .i64 nw] 133)).cell? ⟨w.heap.size,1,none⟩=some (.slice aU nU cU):=by rw[cell_of_row _ w.heap.size 1 _ _ _ HEW.out.box];rfl
      have d3:(wr.alloc (.cells #[.int .i64 s,.int .i64 nw] 133)).cell? ⟨w.heap.size,3,none⟩=some (.slice (some ⟨b,off,none⟩) nT cT):=by rw[cell_of_row _ w.heap.size 3 _ _ _ HEW.out.box];rfl
      clear hc hb b1 HCT;by_cases hn0:nw<0
      ·have hn0':decide (nw<0)=true:=decide_eq_true hn0;have HX:Hid (nw<0):=hn0;clear hn0;have HFB:Hid (stB D U k T nT=false):=stB_no (fun h=>by have:=(HTI.out.1 (h.2.2.2.2.2 m hlt)).2.1.1;have:=HX.out;omega);go_wp2
       go_ret
       exact⟨by rw[HFB.out];rfl,HBW.out⟩
      ·have hn0':decide (nw<0)=false:=decide_eq_false hn0;by_cases hn1:4294967295<nw
       ·have hn1':decide (4294967295<nw)=true:=decide_eq_true hn1;have HX:Hid (4294967295<nw):=hn1;clear hn1 hn0;have HFB:Hid (stB D U k T nT=false):=stB_no (fun h=>by have:=(HTI.out.1 (h.2.2.2.2.2 m hlt)).2.1.2;have:=HX.out;omega);go_wp2
        go_ret
        exact⟨by rw[HFB.out];rfl,HBW.out⟩
       ·have hn1':decide (4294967295<nw)=false:=decide_eq_false hn1;have HNW:Hid (0≤nw∧nw≤4294967295):=⟨by omega,by omega⟩
        clear hn0 hn1;go_wp2_with fail;refine(holds_any aU nU cU U s _ HLN.out.2 mU (HAU.out.below HBW.out)).mono ?_;rintro e w5 ⟨rfl,rfl⟩;by_cases hin:s∈U
        ·rw[memB_yes hin];have HIN:Hid (s∈U):=hin;clear hin;have d0:(wr.alloc (.cells #[.int .i64 s,.int .i64 nw] 133)).cell? ⟨wr.heap.size,0,none⟩=some (.int .i64 s):=by rw[cell_of_row _ wr.heap.size 0 _ _ _ HRT.out];rfl
         have t0':=HCW.out m hlt;clear t0 t1 t0' c1 c3;go_wp2_with fail;generalize wr.alloc (.cells #[.int .i64 s,.int .i64 nw] 133)=W at *
         go_loopw [5] (fun i wq=>∃ j:Nat,j≤m∧i=.int .i64 j∧Hid (∃ p,wq=W.drewN p)∧Hid (∀ l,l<j→T.getD (l*2) 0≠s)) (fun i _=>m-(intOf i).toNat)
         case atStart=>exact⟨0,Nat.zero_le _,rfl,⟨0,rfl⟩,fun l hl=>by omega⟩
         case round=>
          obtain⟨j,hj,rfl,hwp,hne⟩:=hrel;obtain⟨p,rfl⟩:=hwp.out;clear hwp;by_cases hjm:j<m
          ·have hjm':(j:Int)<m:=by omega
           have hjn:(j:Int)<nT:=by omega
           have tj:=HCW.out j (by omega);by_cases hes:T.getD (j*2) 0=s
           ·have HX:Hid (T.getD (j*2) 0=s):=hes;have HBQ:Hid (∀ n,Below w.heap.size w ((W.drewN p).drewN n)):=fun n=>below_dq (below_dq HBW.out p) n
            rw[hes] at tj;clear hes;have HFB:Hid (stB D U k T nT=false):=stB_no (fun h=>(HTI.out.1 (h.2.2.2.2.2 m hlt)).2.2 j hjm HX.out);go_wp2_with fail
            go_quiet (fail)
            go_wp2
            go_ret
            exact⟨by rw[HFB.out];rfl,by first|exact HBQ.out _|exact below_dq HBW.out _⟩
           ·have HN:Hid (∀ l,l<j+1→T.getD (l*2) 0≠s):=fun l hl=>by
             by_cases hlj:l<j
             ·exact hne.out l hlj
             ·have:l=j:=by omega
              rw[this];exact hes
            have hes':(T.getD (j*2) 0 == s)=false:=by simpa using hes
            clear hes hne;generalize T.getD (j*2) 0=y at *;go_wp2_with fail
            go_quiet (fail)
            go_wp2;go_roundw
            case rel=>exact⟨j+1,by omega,by go_num,by first|exact⟨_,rfl⟩|exact⟨_,dN _ _ _⟩,HN⟩
            case measure=>simp[intOf];omega
          ·have hjm':¬ ((j:Int)<m):=by omega
           have HN:Hid (∀ l,l<m+1→tapI U T l):=fun l hl=>by
            by_cases hlm:l<m
            ·exact hno.out l hlm
            ·have e:l=m:=by omega
             subst e;exact HTI.out.2 ⟨HIN.out,HNW.out,fun l' hl'=>hne.out l' (by omega)⟩
           have HEQ:Hid (VSE w #[.slice aD nD cD,.slice aU nU cU,.int .i64 k,.slice (some ⟨b,off,none⟩) nT cT] (W.drewN p)):=HEW.out.drew p;go_wp2;go_roundw
           case rel=>exact⟨m+1,by omega,by go_num,HEQ.out,HN⟩
           case measure=>simp[intOf];omega
        ·rw[memB_no hin];have HIN:Hid (¬ s∈U):=hin;clear hin;have HFB:Hid (stB D U k T nT=false):=stB_no (fun h=>HIN.out (HTI.out.1 (h.2.2.2.2.2 m hlt)).1);go_wp2
         go_ret
         exact⟨by rw[HFB.out];rfl,HBW.out⟩
     ·have hlt':¬ ((m:Int)<nT):=by omega
      have HYE:Hid (stB D U k T nT=true):=stB_yes ⟨HPD.out,by rw[HLN.out.1];exact h16,HPU.out,HK9.out,HKA.out,fun i hi=>hno.out i (by omega)⟩;have HBW:Hid (Below w.heap.size w wr):=HE.out.below;go_wp2
      go_ret
      exact⟨by rw[HYE.out];rfl,HBW.out⟩
   ·have HKN:Hid (¬ k+(nT:Int)=nU):=hka;have hwr:(IntKind.i64.wrap (k+(nT:Int)) == (nU:Int))=false:=by
     have:=HKB.out;simp only[beq_eq_false_iff_ne,ne_eq];rw[IntKind.wrap_i64];omega
    have hwr2:(wrap64 (k+(nT:Int)) == (nU:Int))=false:=by
     have:=HKB.out;simp only[beq_eq_false_iff_ne,ne_eq];unfold wrap64;omega
    clear hka hk;have HFB:Hid (stB D U k T nT=false):=stB_no (fun h=>by have:=h.2.2.2.2.1;rw[HLN.out.2] at this;exact HKN.out this);go_wp2
    go_ret
    exact⟨by rw[HFB.out];rfl,HB.out⟩
 ·have h16':decide ((16:Int)<(nD:Int))=true:=decide_eq_true (by omega);have HFB:Hid (stB D U k T nT=false):=stB_no (fun h=>by have:=h.2.1;rw[HLN.out.1] at this;omega);go_wp2
  go_ret
  exact⟨by rw[HFB.out];rfl,HB.out⟩
end Go.Proofs.YthmeoilbmfdhfaaGreat
