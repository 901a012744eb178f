import Derived.Deep.MidRow
import Derived.Deep.AppendLies
import Derived.Lib.SmallJoins
import Derived.Deep.Cut
import Derived.Laws.CopyOwn
import Derived.Deep.WholeRow
import Derived.Deep.SlicePairs
import Derived.Shelf.Bits.Mul64
import Derived.Lib.AppendZerosOnto
import Derived.Stop.Asserts
import Derived.Test.YtjdhhgaelgemcaaGreatDoorTie
import Derived.Test.YtjdhhgaelgemcaaGreatDoorCards
import Derived.OpenVars
import Derived.LaidMore
import Derived.Lay
import Derived.WalkSpells
import Derived.BigQuiet
open Go.Value renaming slice->Z7,int->Z8
open Go.IntKind renaming u8->Z9
open Option renaming none->aA
open Go renaming Value->aB
namespace Go.Proofs.YtjdhhgaelgemcaaGreatDoor
open Go.ChangeShapes Go.WideShapes Go.ChangeAt Go.RowKit
set_option linter.unusedVariables false
def AO (p:Prop):Prop:=p
theorem AO.o {p:Prop} (h:AO p):p:=h
theorem Cg {n:Nat} {w:World}:Below n w w:=Below.refl _ _
theorem Cl {n:Nat}:n<=n:=Nat.le_refl _
theorem DY {p q:Prop} [Decidable p] (h:decide p=false:=by decide):p->q:=λx=>absurd x (of_decide_eq_false h)
theorem J6 {n i:Nat}:(Array.replicate n false).getD i false=false:=by rw[Array.getD_eq_getD_getElem?,Array.getElem?_replicate];split<;>rfl
theorem Et {n i:Nat}:¬(Array.replicate n false).getD i false=true:=by rw[Array.getD_eq_getD_getElem?,Array.getElem?_replicate];split<;>simp
theorem AA {w:World} {g:Nat} {c:Array aB} {t:TypeId} {r:Nat×Nat} (h:w.heap[g]?=some (.cells c t r)) (j:Nat):w.cell? ⟨g,j,aA⟩=c[j]?:=cell_of_row w g j c t r h
theorem AB {w:World} {g:Nat} {o c:Array aB} {t:TypeId} {r:Nat×Nat} (h:w.heap[g]?=some (.cells o t r)):(w.setRow g c).heap[g]?=some (.cells c t r):=setRow_heap w g o c t r h
theorem AE {P:Program} {ops:Array Oper} {l:List Oper} {o:Oper} {a:Act} {w:World} {Q:Exit->Act->World->Prop} (u:TypeId) (x y:Operand) (g:Nat) (c:Array aB) (t:TypeId) {d:Array aB} (h:w.heap[g]?=some (.cells d t)) (s:(P.info? u).map (·.size)=some c.size) (z:d.size=c.size) (e:c.all (·.oneCell')=true) (k:wpList P ops Q l (a.put o.dst undef) (w.setRow g c)) (h1:o.guard=none:=by exact rfl) (h2:o.op=.store u x y:=by exact rfl) (h3:a.eval x=.pointer (some ⟨g,0,aA⟩):=by exact rfl) (h4:a.eval y=.agg c:=by exact rfl):wpList P ops Q (o::l) a w:=wpList_store_row h1 u x y h2 g c h3 h4 t d h s z e k
theorem AG {p q:Prop} (x:q) (h:q->p:=by intro;omega):p:=h x
theorem AH {p q r:Prop} (x:q) (y:r) (h:q->r->p:=by intro _ _;omega):p:=h x y
theorem AI {p q r s:Prop} (x:q) (y:r) (z:s) (h:q->r->s->p:=by intro _ _ _;omega):p:=h x y z
theorem AJ {p:Prop} (h:p:=by omega):p:=h
theorem AK {p:Prop} (h:p:=by decide):p:=h
theorem AL {p:Prop} (h:p:=by simp):p:=h
theorem AM {p:Prop} (h:p:=by kernel_rfl):p:=h
theorem AN {p:Prop} (h:p:=by rfl):p:=h
theorem AP:type_of%@if_pos:=@if_pos
theorem AQ:type_of%@if_neg:=@if_neg
theorem AR:type_of%@Array.getElem?_eq_some_iff:=@Array.getElem?_eq_some_iff
theorem AS:type_of%@List.getD_eq_getElem?_getD:=@List.getD_eq_getElem?_getD
theorem AX:type_of%@Go.heap_alloc_new:=@Go.heap_alloc_new
theorem AZ:type_of%@List.not_mem_nil:=@List.not_mem_nil
theorem Aa:type_of%@List.mem_cons:=@List.mem_cons
theorem Ab:type_of%@Go.bodyPost_ret:=@Go.bodyPost_ret
theorem Ac:type_of%@Nat.le_refl:=@Nat.le_refl
theorem Ad:type_of%@List.take_of_length_le:=@List.take_of_length_le
theorem Ae:type_of%@Go.wpList_load_row:=@Go.wpList_load_row
theorem Af:type_of%@decide_eq_false:=@decide_eq_false
theorem Ag:type_of%@Go.wp_region_any:=@Go.wp_region_any
theorem Ah:type_of%@Go.results_cell_row:=@Go.results_cell_row
theorem Ai:type_of%@Go.World.cell?_of_block:=@Go.World.cell?_of_block
theorem Aj:type_of%@Int.eq_ofNat_of_zero_le:=@Int.eq_ofNat_of_zero_le
theorem Ak:type_of%@List.length_append:=@List.length_append
theorem Al:type_of%@decide_eq_true:=@decide_eq_true
theorem Am:type_of%@Int.tmod_eq_emod_of_nonneg:=@Int.tmod_eq_emod_of_nonneg
theorem An:type_of%@Go.IntKind.wrap_i64:=@Go.IntKind.wrap_i64
theorem Ao:type_of%@List.getElem?_eq_some_iff:=@List.getElem?_eq_some_iff
theorem Ap:type_of%@List.length_take:=@List.length_take
theorem Aq:type_of%@Nat.zero_add:=@Nat.zero_add
theorem Ar:type_of%@Go.frozen_of_row:=@Go.frozen_of_row
theorem As:type_of%@Nat.lt_of_lt_of_le:=@Nat.lt_of_lt_of_le
theorem Au:type_of%@Nat.zero_le:=@Nat.zero_le
theorem Av:type_of%@List.getElem?_eq_getElem:=@List.getElem?_eq_getElem
theorem Aw:type_of%@Go.ints_oneCell:=@Go.ints_oneCell
theorem Ax:type_of%@Nat.add_assoc:=@Nat.add_assoc
theorem Ay:type_of%@List.mem_of_mem_take:=@List.mem_of_mem_take
theorem Az:type_of%@Go.Addr.add_lit:=@Go.Addr.add_lit
theorem A0:type_of%@List.take_succ_eq_append_getElem:=@List.take_succ_eq_append_getElem
theorem A5:type_of%@Go.RowKit.Below.heap_alloc:=@Go.RowKit.Below.heap_alloc
theorem A7:type_of%@Go.World.size_alloc:=@Go.World.size_alloc
theorem A8:type_of%@Go.heap_setCell_same:=@Go.heap_setCell_same
theorem A9:type_of%@Go.RowKit.Below.refl:=@Go.RowKit.Below.refl
theorem BA:type_of%@Ne.symm:=@Ne.symm
theorem BC:type_of%@And.intro:=@And.intro
theorem BF:type_of%@List.mem_range:=@List.mem_range
theorem BG:type_of%@Nat.le_trans:=@Nat.le_trans
theorem BH:type_of%@Go.run_underlying:=@Go.run_underlying
theorem BI:type_of%@List.all_eq_true:=@List.all_eq_true
theorem BJ:type_of%@List.length_drop:=@List.length_drop
theorem BL:type_of%@Go.Result.andThen_ok:=@Go.Result.andThen_ok
theorem BM:type_of%@Array.getElem?_setIfInBounds_ne:=@Array.getElem?_setIfInBounds_ne
theorem BN:type_of%@List.eq_nil_iff_forall_not_mem:=@List.eq_nil_iff_forall_not_mem
theorem BO:type_of%@List.getElem?_append_right:=@List.getElem?_append_right
theorem BP:type_of%@List.eq_nil_of_length_eq_zero:=@List.eq_nil_of_length_eq_zero
theorem BQ:type_of%@List.getElem?_append_left:=@List.getElem?_append_left
theorem BR:type_of%@Go.wp_load_row:=@Go.wp_load_row
theorem BS:type_of%@List.map_append:=@List.map_append
theorem BW:type_of%@Array.getElem?_setIfInBounds_self_of_lt:=@Array.getElem?_setIfInBounds_self_of_lt
theorem BX:type_of%@List.getElem?_eq_none:=@List.getElem?_eq_none
theorem BZ:type_of%@Array.mem_iff_getElem:=@Array.mem_iff_getElem
theorem Bc:type_of%@Array.toList_setIfInBounds:=@Array.toList_setIfInBounds
theorem Be:type_of%@List.mem_filter:=@List.mem_filter
theorem Bf:type_of%@List.mem_of_mem_drop:=@List.mem_of_mem_drop
theorem Bg:type_of%@List.length_cons:=@List.length_cons
theorem Bh:type_of%@Go.info_parts:=@Go.info_parts
theorem Bi:type_of%@Option.isSome_iff_exists:=@Option.isSome_iff_exists
theorem Bj:type_of%@Int.ediv_ediv_of_nonneg:=@Int.ediv_ediv_of_nonneg
theorem Bl:type_of%@List.getElem_mem:=@List.getElem_mem
theorem Bm:type_of%@List.length_pos_of_mem:=@List.length_pos_of_mem
theorem Bn:type_of%@List.length_map:=@List.length_map
theorem Bo:type_of%@Go.World.cell?_setCell_other:=@Go.World.cell?_setCell_other
theorem Bp:type_of%@List.map_cons:=@List.map_cons
theorem Bq:type_of%@Int.toNat_natCast:=@Int.toNat_natCast
theorem Br:type_of%@List.getElem_of_mem:=@List.getElem_of_mem
theorem Bs:type_of%@Go.Sem.run_bind:=@Go.Sem.run_bind
theorem Bt:type_of%@Go.wp_store_row:=@Go.wp_store_row
theorem Bu:type_of%@List.map_nil:=@List.map_nil
theorem Bv:type_of%@Option.some.inj:=@Option.some.inj
theorem Bw:type_of%@Int.toNat_of_nonneg:=@Int.toNat_of_nonneg
theorem Bx:type_of%@Nat.mul_one:=@Nat.mul_one
theorem By:type_of%@Array.getD_eq_getD_getElem?:=@Array.getD_eq_getD_getElem?
theorem Bz:type_of%@List.set_append_right:=@List.set_append_right
theorem B0:type_of%@List.setIfInBounds_toArray:=@List.setIfInBounds_toArray
theorem CB:type_of%@Go.wpList_store_row:=@Go.wpList_store_row
theorem CD:type_of%@List.map_toArray:=@List.map_toArray
theorem CF:type_of%@Nat.add_sub_cancel:=@Nat.add_sub_cancel
theorem CI:type_of%@List.mem_append:=@List.mem_append
theorem CJ:type_of%@List.getElem?_map:=@List.getElem?_map
theorem CK:type_of%@of_decide_eq_true:=@of_decide_eq_true
theorem CN:type_of%@List.range_succ:=@List.range_succ
abbrev CO:Array aB:=#[.bool false,Z8 .i64 0,Z8 .i64 0]
abbrev CP:Array aB:=#[Z8 .u32 0,Z8 .i64 0,Z8 .u32 0,Z8 .u32 0]
abbrev CQ:Array aB:=#[Z8 .u64 0,Z8 .u64 0,Z8 .u64 0,Z8 .u64 0,Z8 .u64 0]
abbrev CT:Array aB:=#[Z7 aA 0 0,Z7 aA 0 0,Z7 aA 0 0,Z7 aA 0 0]
abbrev CU:Array aB:=#[Z7 aA 0 0,Z7 aA 0 0,Z8 .i64 0,Z7 aA 0 0]
abbrev CV:Array aB:=#[Z8 .u64 0,Z8 .u64 0,Z8 .u64 0,Z8 .u64 0]
abbrev CW:Array aB:=#[Z8 .u64 0,Z8 .u64 0,Z8 .u64 0,Z8 .u64 0,Z8 .u64 0,Z8 .u64 0,Z8 .u64 0,Z8 .u64 0,Z8 .u64 0,Z8 .u64 0,Z8 .u64 0,Z8 .u64 0,Z8 .u64 0,Z8 .u64 0,Z8 .u64 0,Z8 .u64 0,Z8 .u64 0,Z8 .u64 0,Z8 .u64 0,Z8 .u64 0]
abbrev CX:Array aB:=#[Z8 .i64 0,Z7 aA 0 0,Z7 aA 0 0,Z8 .i64 0,Z7 aA 0 0]
abbrev CY:Array aB:=#[Z8 .i64 0,Z7 aA 0 0,Z8 .i64 0,Z8 .i64 0]
abbrev CZ:Array aB:=#[.bool false,Z7 aA 0 0,Z7 aA 0 0,Z8 .i64 0,Z7 aA 0 0]
abbrev Ca:Array aB:=#[Z8 Z9 0,Z8 Z9 0,Z8 Z9 0,Z8 Z9 0,Z8 Z9 0,Z8 Z9 0,Z8 Z9 0,Z8 Z9 0,Z8 Z9 0,Z8 Z9 0,Z8 Z9 0,Z8 Z9 0,Z8 Z9 0,Z8 Z9 0,Z8 Z9 0,Z8 Z9 0,Z8 Z9 0,Z8 Z9 0,Z8 Z9 0,Z8 Z9 0,Z8 Z9 0,Z8 Z9 0,Z8 Z9 0,Z8 Z9 0,Z8 Z9 0,Z8 Z9 0,Z8 Z9 0,Z8 Z9 0,Z8 Z9 0,Z8 Z9 0,Z8 Z9 0,Z8 Z9 0]
abbrev Cb:Array aB:=#[Z8 .u64 0,Z8 .u64 0,Z8 .u64 0,Z8 .u64 0,Z8 .u64 0,Z8 .u64 0,Z8 .u64 0,Z8 .u64 0]
abbrev Cc:Array aB:=#[Z8 .u64 1,Z8 .u64 0,Z8 .u64 0,Z8 .u64 0,Z8 .u64 0]
def At (k:IntKind) (w:World) (a:Option Addr) (zs:List Int):Prop:=
 zs=[]\/∃ b off,a=some ⟨b,off,aA⟩/\b<w.heap.size/\∀ i,i<zs.length->w.cell? ⟨b,off+i,aA⟩=some (Z8 k (zs.getD i 0))
def Ci (zs:List Int):Prop:=∀ z∈zs,0<=z/\z<256
theorem Ci.get {zs:List Int} (h:Ci zs) (i:Nat):0<=zs.getD i 0/\zs.getD i 0<256:=by
 by_cases hi:i<zs.length
 ·rw[AS,Av hi];exact h _ (Bl hi)
 ·rw[AS,BX AJ];exact⟨AK,AK⟩
theorem At.get {k:IntKind} {w:World} {a:Option Addr} {zs:List Int} (h:At k w a zs) (hz:0<zs.length) :
  ∃ b off,a=some ⟨b,off,aA⟩/\b<w.heap.size/\∀ i,i<zs.length->w.cell? ⟨b,off+i,aA⟩=some (Z8 k (zs.getD i 0)):=by
 rcases h with h|h
 ·simp[h] at hz
 ·exact h
theorem At.below {k:IntKind} {w w':World} {a:Option Addr} {zs:List Int} (h:At k w a zs) (hb:Below w.heap.size w w'):At k w' a zs:=by
 rcases h with h|⟨b,off,rfl,hl,hc⟩
 ·exact .inl h
 ·exact .inr ⟨b,off,rfl,AG hb.size,λi hi=>by rw[hb.cell (p:=⟨b,off+i,aA⟩) hl];exact hc i hi⟩
theorem DS {k:IntKind} {a b:Int} (h:a=b):Ending.returned (Z8 k a)=.returned (Z8 k b):=by rw[h]
theorem Gz (l:List Int) (k:Nat) (h:k<l.length):l.take (k+1)=l.take k++[l.getD k 0]:=by
 rw[A0 h,AS,Av h];rfl
/-! CRC-32 -/
end Go.Proofs.YtjdhhgaelgemcaaGreatDoor
namespace Go.Proofs.YtjdhhgaelgemcaaGreatDoor
set_option linter.unusedVariables false
def val (B:Int):List Int->Int
 |[]=>0
 |z::zs=>z+B*val B zs
def J2 (B:Int) (zs:List Int):Prop:=∀ z∈zs,0<=z/\z<B
theorem Hs (B:Int) (xs ys:List Int):val B (xs++ys)=val B xs+B^xs.length*val B ys:=by
 induction xs with
 |nil=>simp[val]
 |cons x xs ih=>simp only[List.cons_append,val,List.length_cons,ih,Int.pow_succ];grind
theorem Fs (B:Int) (xs:List Int) (x:Int):val B (xs++[x])=val B xs+x*B^xs.length:=by
 rw[Hs];simp only[val];grind
theorem J2.snoc {B:Int} {xs:List Int} {x:Int} (h:J2 B xs) (h0:0<=x) (h1:x<B):J2 B (xs++[x]):=by
 intro z hz;simp at hz;rcases hz with h'|rfl
 ·exact h z h'
 ·exact⟨h0,h1⟩
theorem J2.tail {B:Int} {x:Int} {xs:List Int} (h:J2 B (x::xs)):J2 B xs:=λz hz=>h z (by simp[hz])
theorem J2.head {B:Int} {x:Int} {xs:List Int} (h:J2 B (x::xs)):0<=x/\x<B:=h x AL
theorem C0 {B:Int} (hB:0<B) {xs:List Int} (h:J2 B xs):0<=val B xs:=by
 induction xs with
 |nil=>simp[val]
 |cons x xs ih=>
  have:=h.head;have i:=ih h.tail;have:=Int.mul_nonneg (Int.le_of_lt hB) i;simp only[val];omega
theorem EZ {B:Int} (hB:0<B) {xs:List Int} (h:J2 B xs):val B xs<B^xs.length:=by
 induction xs with
 |nil=>simp[val]
 |cons x xs ih=>
  obtain⟨h0,h1⟩:=h.head;have i:=ih h.tail;have h2:B*(val B xs+1)<=B*B^xs.length:=Int.mul_le_mul_of_nonneg_left AJ AJ;simp only[val,List.length_cons,Int.pow_succ]
  grind
theorem F6 {B:Int} (hB:0<B) {xs ys:List Int} (hx:J2 B xs) (hy:J2 B ys) (hl:xs.length=ys.length) (h:val B xs=val B ys):xs=ys:=by
 induction xs generalizing ys with
 |nil=>cases ys with
  |nil=>rfl
  |cons y ys=>simp at hl
 |cons x xs ih=>cases ys with
  |nil=>simp at hl
  |cons y ys=>
   obtain⟨h0,h1⟩:=hx.head;obtain⟨h2,h3⟩:=hy.head;simp only[val] at h;have e:x=y:=by
    have a1:(x+B*val B xs)%B=x:=by rw[Int.add_mul_emod_self_left];exact Int.emod_eq_of_lt h0 h1
    have a2:(y+B*val B ys)%B=y:=by rw[Int.add_mul_emod_self_left];exact Int.emod_eq_of_lt h2 h3
    rw[<-a1,h,a2]
   subst e;have e2:val B xs=val B ys:=by
    have:B*val B xs=B*val B ys:=AJ
    exact Int.eq_of_mul_eq_mul_left AJ this
   rw[ih hx.tail hy.tail (by simpa using hl) e2]
theorem DN (B:Int) (xs:List Int) (k:Nat) (h:k<xs.length):val B (xs.take (k+1))=val B (xs.take k)+xs.getD k 0*B^k:=by
 have:xs.take (k+1)=xs.take k++[xs.getD k 0]:=by
  rw[A0 h,AS,Av h];rfl
 rw[this,Fs,Ap,Nat.min_eq_left AJ]
theorem Pa (B P x s t c r:Int) (h:s+c*P=t) (hr:r=x*P):(s+(x+c)%B*P)+(x+c)/B*(P*B)=t+r:=by
 have e:(x+c)%B+B*((x+c)/B)=x+c:=Int.emod_add_mul_ediv _ _;have e2:((x+c)%B+B*((x+c)/B))*P=(x+c)*P:=by rw[e]
 grind
theorem Em {B:Int} (hB:0<B) {ns:List Int} (h:J2 B ns) (q:Nat):val B ns/B^q%B=ns.getD q 0:=by
 induction ns generalizing q with
 |nil=>simp[val]
 |cons n ns ih=>
  obtain⟨h0,h1⟩:=h.head;cases q with
  |zero=>
   simp only[val,Int.pow_zero,Int.ediv_one,List.getD_cons_zero];rw[Int.add_mul_emod_self_left];exact Int.emod_eq_of_lt h0 h1
  |succ q=>
   have e:(n+B*val B ns)/B=val B ns:=by
    rw[Int.add_mul_ediv_left _ _ AJ,Int.ediv_eq_zero_of_lt h0 h1];omega
   rw[List.getD_cons_succ,<-ih h.tail q];simp only[val];rw[Int.pow_succ,Int.mul_comm (B^q) B,<-Bj AJ,e]
theorem FJ (B:Int) (ns:List Int) (q:Nat) (x:Int) (hq:q<ns.length):val B (ns.set q x)=val B ns+(x-ns.getD q 0)*B^q:=by
 induction ns generalizing q with
 |nil=>simp at hq
 |cons n ns ih=>
  cases q with
  |zero=>simp only[List.set_cons_zero,val,List.getD_cons_zero,Int.pow_zero];omega
  |succ q=>
   simp only[List.set_cons_succ,val,List.getD_cons_succ];rw[ih q (by simpa using hq),Int.pow_succ];grind
end Go.Proofs.YtjdhhgaelgemcaaGreatDoor
