import Derived.Deep.MidRow
import Derived.Lib.SmallJoins
import Derived.Laws.CopyOwn
import Derived.Deep.WholeRow
import Derived.Shelf.Bits.Mul64
import Derived.Deep.CutRange
import Derived.Lib.AppendZerosOnto
import Derived.Stop.Asserts
import Derived.Test.YtncomnkdlpoelaaGreatDoorTie
import Derived.Test.YtncomnkdlpoelaaGreatDoorCards
import Derived.OpenVars
import Derived.LaidMore
import Derived.Lay
import Derived.WalkSpells
import Derived.BigQuiet
import Derived.Deep.AppendLies
open Go.Proofs.Tryz renaming prog->tP
open Go.Proofs.Tryz
open Go.Value renaming slice->aM,int->aO
open Go.IntKind renaming u8->aP
open Go.Ending renaming returned->aQ
open Option renaming some->aR,none->aS
open Go renaming World->aV,Value->aX
set_option maxHeartbeats 1000000
namespace Go.Proofs.YtncomnkdlpoelaaGreatDoor
open Go.ChangeShapes Go.WideShapes Go.ChangeAt Go.RowKit
set_option linter.unusedVariables false
def AO (p:Prop):Prop:=p
theorem AO.o {p:Prop} (h:AO p):p:=h
theorem Cf {n:Nat} {w:aV}:Below n w w:=Below.refl _ _
theorem Ch {n:Nat}:n<=n:=Nat.le_refl _
theorem ES {p q:Prop} [Decidable p] (h:decide p=false:=by decide):p->q:=λx=>absurd x (of_decide_eq_false h)
theorem NR {n i:Nat}:(Array.replicate n false).getD i false=false:=by rw[Array.getD_eq_getD_getElem?,Array.getElem?_replicate];split<;>rfl
theorem Ef {n i:Nat}:¬(Array.replicate n false).getD i false=true:=by rw[Array.getD_eq_getD_getElem?,Array.getElem?_replicate];split<;>simp
theorem AA {w:aV} {g:Nat} {c:Array aX} {t:TypeId} {r:Nat×Nat} (h:w.heap[g]?=aR (.cells c t r)) (j:Nat):w.cell? ⟨g,j,aS⟩=c[j]?:=cell_of_row w g j c t r h
theorem AB {w:aV} {g:Nat} {o c:Array aX} {t:TypeId} {r:Nat×Nat} (h:w.heap[g]?=aR (.cells o t r)):(w.setRow g c).heap[g]?=aR (.cells c t r):=setRow_heap w g o c t r h
theorem AE {P:Program} {ops:Array Oper} {l:List Oper} {o:Oper} {a:Act} {w:aV} {Q:Exit->Act->aV->Prop} (u:TypeId) (x y:Operand) (g:Nat) (c:Array aX) (t:TypeId) {d:Array aX} (h:w.heap[g]?=aR (.cells d t)) (s:(P.info? u).map (·.size)=aR c.size) (z:d.size=c.size) (e:c.all (·.oneCell')=true) (k:wpList P ops Q l (a.put o.dst undef) (w.setRow g c)) (h1:o.guard=none:=by exact rfl) (h2:o.op=.store u x y:=by exact rfl) (h3:a.eval x=.pointer (aR ⟨g,0,aS⟩):=by exact rfl) (h4:a.eval y=.agg c:=by exact rfl):wpList P ops Q (o::l) a w:=wpList_store_row h1 u x y h2 g c h3 h4 t d h s z e k
theorem AG {p q:Prop} (x:q) (h:q->p:=by intro;omega):p:=h x
theorem AH {p q r:Prop} (x:q) (y:r) (h:q->r->p:=by intro _ _;omega):p:=h x y
theorem AI {p q r s:Prop} (x:q) (y:r) (z:s) (h:q->r->s->p:=by intro _ _ _;omega):p:=h x y z
theorem AJ {p:Prop} (h:p:=by omega):p:=h
theorem AK {p:Prop} (h:p:=by decide):p:=h
theorem AL {p:Prop} (h:p:=by simp):p:=h
theorem AM {p:Prop} (h:p:=by kernel_rfl):p:=h
theorem AN {p:Prop} (h:p:=by rfl):p:=h
theorem AP:type_of%@if_pos:=@if_pos
theorem AQ:type_of%@if_neg:=@if_neg
theorem AR:type_of%@Array.getElem?_eq_some_iff:=@Array.getElem?_eq_some_iff
theorem AS:type_of%@Go.heap_alloc_new:=@Go.heap_alloc_new
theorem AU:type_of%@Go.bodyPost_ret:=@Go.bodyPost_ret
theorem AX:type_of%@List.getD_eq_getElem?_getD:=@List.getD_eq_getElem?_getD
theorem AY:type_of%@Go.results_cell_row:=@Go.results_cell_row
theorem AZ:type_of%@Go.wpList_load_row:=@Go.wpList_load_row
theorem Aa:type_of%@Nat.le_refl:=@Nat.le_refl
theorem Ab:type_of%@Int.eq_ofNat_of_zero_le:=@Int.eq_ofNat_of_zero_le
theorem Ac:type_of%@decide_eq_false:=@decide_eq_false
theorem Ad:type_of%@List.take_of_length_le:=@List.take_of_length_le
theorem Ae:type_of%@List.length_append:=@List.length_append
theorem Af:type_of%@Go.World.cell?_of_block:=@Go.World.cell?_of_block
theorem Ag:type_of%@Go.wp_region_any:=@Go.wp_region_any
theorem Ah:type_of%@Int.tmod_eq_emod_of_nonneg:=@Int.tmod_eq_emod_of_nonneg
theorem Ai:type_of%@Nat.le_trans:=@Nat.le_trans
theorem Aj:type_of%@decide_eq_true:=@decide_eq_true
theorem Ak:type_of%@Go.IntKind.wrap_i64:=@Go.IntKind.wrap_i64
theorem Al:type_of%@And.intro:=@And.intro
theorem Am:type_of%@List.getElem?_eq_some_iff:=@List.getElem?_eq_some_iff
theorem An:type_of%@Go.frozen_of_row:=@Go.frozen_of_row
theorem Ao:type_of%@Go.heap_setCell_same:=@Go.heap_setCell_same
theorem Ap:type_of%@Nat.lt_of_lt_of_le:=@Nat.lt_of_lt_of_le
theorem Aq:type_of%@List.length_take:=@List.length_take
theorem Ar:type_of%@Nat.zero_add:=@Nat.zero_add
theorem As:type_of%@List.getElem?_eq_getElem:=@List.getElem?_eq_getElem
theorem Au:type_of%@List.mem_cons:=@List.mem_cons
theorem Av:type_of%@List.not_mem_nil:=@List.not_mem_nil
theorem Aw:type_of%@Nat.zero_le:=@Nat.zero_le
theorem Ax:type_of%@List.mem_of_mem_take:=@List.mem_of_mem_take
theorem Ay:type_of%@Go.World.size_alloc:=@Go.World.size_alloc
theorem Az:type_of%@Go.ints_oneCell:=@Go.ints_oneCell
theorem A0:type_of%@Go.Addr.add_lit:=@Go.Addr.add_lit
theorem A5:type_of%@List.take_succ_eq_append_getElem:=@List.take_succ_eq_append_getElem
theorem A7:type_of%@Nat.add_assoc:=@Nat.add_assoc
theorem A8:type_of%@Go.RowKit.Below.refl:=@Go.RowKit.Below.refl
theorem A9:type_of%@Ne.symm:=@Ne.symm
theorem BA:type_of%@List.getElem?_append_right:=@List.getElem?_append_right
theorem BC:type_of%@Go.Result.andThen_ok:=@Go.Result.andThen_ok
theorem BD:type_of%@Go.RowKit.Below.heap_alloc:=@Go.RowKit.Below.heap_alloc
theorem BF:type_of%@List.length_drop:=@List.length_drop
theorem BG:type_of%@List.mem_range:=@List.mem_range
theorem BH:type_of%@Go.run_underlying:=@Go.run_underlying
theorem BI:type_of%@List.map_append:=@List.map_append
theorem BJ:type_of%@List.getElem?_append_left:=@List.getElem?_append_left
theorem BL:type_of%@List.getElem_mem:=@List.getElem_mem
theorem BM:type_of%@List.all_eq_true:=@List.all_eq_true
theorem BN:type_of%@List.eq_nil_iff_forall_not_mem:=@List.eq_nil_iff_forall_not_mem
theorem BO:type_of%@List.length_cons:=@List.length_cons
theorem BP:type_of%@List.getElem?_eq_none:=@List.getElem?_eq_none
theorem BQ:type_of%@Array.mem_iff_getElem:=@Array.mem_iff_getElem
theorem BR:type_of%@Array.toList_setIfInBounds:=@Array.toList_setIfInBounds
theorem BS:type_of%@List.mem_filter:=@List.mem_filter
theorem BT:type_of%@List.mem_of_mem_drop:=@List.mem_of_mem_drop
theorem BU:type_of%@List.eq_nil_of_length_eq_zero:=@List.eq_nil_of_length_eq_zero
theorem BW:type_of%@List.map_cons:=@List.map_cons
theorem BX:type_of%@Array.getD_eq_getD_getElem?:=@Array.getD_eq_getD_getElem?
theorem BY:type_of%@Int.ediv_ediv_of_nonneg:=@Int.ediv_ediv_of_nonneg
theorem BZ:type_of%@Go.info_parts:=@Go.info_parts
theorem Bc:type_of%@Go.Sem.run_bind:=@Go.Sem.run_bind
theorem Be:type_of%@Go.wp_store_row:=@Go.wp_store_row
theorem Bf:type_of%@Go.cell_of_row:=@Go.cell_of_row
theorem Bg:type_of%@List.length_pos_of_mem:=@List.length_pos_of_mem
theorem Bh:type_of%@List.length_map:=@List.length_map
theorem Bi:type_of%@List.mem_append:=@List.mem_append
theorem Bj:type_of%@Go.heap_setCell_other:=@Go.heap_setCell_other
theorem Bl:type_of%@List.map_nil:=@List.map_nil
theorem Bm:type_of%@Int.toNat_natCast:=@Int.toNat_natCast
theorem Bn:type_of%@List.getElem_of_mem:=@List.getElem_of_mem
theorem Bo:type_of%@Int.toNat_of_nonneg:=@Int.toNat_of_nonneg
theorem Bp:type_of%@Go.wp_load_row:=@Go.wp_load_row
theorem Bq:type_of%@List.map_toArray:=@List.map_toArray
theorem Br:type_of%@Classical.byContradiction:=@Classical.byContradiction
theorem Bs:type_of%@Array.getElem?_setIfInBounds_ne:=@Array.getElem?_setIfInBounds_ne
theorem Bt:type_of%@Option.some.inj:=@Option.some.inj
theorem Bu:type_of%@Nat.mul_one:=@Nat.mul_one
theorem Bv:type_of%@List.setIfInBounds_toArray:=@List.setIfInBounds_toArray
theorem Bw:type_of%@Array.getElem?_replicate:=@Array.getElem?_replicate
theorem Bx:type_of%@Go.wpList_store_row:=@Go.wpList_store_row
theorem By:type_of%@Go.Sem.run_pure:=@Go.Sem.run_pure
theorem Bz:type_of%@Nat.add_sub_cancel:=@Nat.add_sub_cancel
theorem B0:type_of%@List.getElem?_map:=@List.getElem?_map
theorem CB:type_of%@List.append_assoc:=@List.append_assoc
theorem CD:type_of%@List.range_succ:=@List.range_succ
abbrev CE:Array aX:=#[.bool false,aM aS 0 0,aM aS 0 0,aO .i64 0,aM aS 0 0]
abbrev CF:Array aX:=#[.bool false,aO .i64 0,aO .i64 0]
abbrev CI:Array aX:=#[aO .u32 0,aO .i64 0,aO .u32 0,aO .u32 0]
abbrev CJ:Array aX:=#[aM aS 0 0,aM aS 0 0,aO .i64 0,aM aS 0 0]
abbrev CK:Array aX:=#[aO .u64 0,aO .u64 0,aO .u64 0,aO .u64 0]
abbrev CN:Array aX:=#[aO .u64 0,aO .u64 0,aO .u64 0,aO .u64 0,aO .u64 0]
abbrev CO:Array aX:=#[aM aS 0 0,aM aS 0 0,aM aS 0 0,aM aS 0 0]
abbrev CP:Array aX:=#[aO .u64 0,aO .u64 0,aO .u64 0,aO .u64 0,aO .u64 0,aO .u64 0,aO .u64 0,aO .u64 0,aO .u64 0,aO .u64 0,aO .u64 0,aO .u64 0,aO .u64 0,aO .u64 0,aO .u64 0,aO .u64 0,aO .u64 0,aO .u64 0,aO .u64 0,aO .u64 0]
abbrev CQ:Array aX:=#[aO .i64 0,aM aS 0 0,aO .i64 0,aO .i64 0]
abbrev CT:Array aX:=#[aO .i64 0,aM aS 0 0,aM aS 0 0,aO .i64 0,aM aS 0 0]
abbrev CU:Array aX:=#[aO aP 0,aO aP 0,aO aP 0,aO aP 0,aO aP 0,aO aP 0,aO aP 0,aO aP 0,aO aP 0,aO aP 0,aO aP 0,aO aP 0,aO aP 0,aO aP 0,aO aP 0,aO aP 0,aO aP 0,aO aP 0,aO aP 0,aO aP 0,aO aP 0,aO aP 0,aO aP 0,aO aP 0,aO aP 0,aO aP 0,aO aP 0,aO aP 0,aO aP 0,aO aP 0,aO aP 0,aO aP 0]
abbrev CV:Array aX:=#[aO .u64 0,aO .u64 0,aO .u64 0,aO .u64 0,aO .u64 0,aO .u64 0,aO .u64 0,aO .u64 0]
abbrev CW:Array aX:=#[aO .u64 1,aO .u64 0,aO .u64 0,aO .u64 0,aO .u64 0]
def At (k:IntKind) (w:aV) (a:Option Addr) (zs:List Int):Prop:=
 zs=[]\/∃ b off,a=aR ⟨b,off,aS⟩/\b<w.heap.size/\∀ i,i<zs.length->w.cell? ⟨b,off+i,aS⟩=aR (aO k (zs.getD i 0))
def Cb (zs:List Int):Prop:=∀ z∈zs,0<=z/\z<256
theorem CY {p:Prop} (h:p):AO p:=h
theorem Cb.get {zs:List Int} (h:Cb zs) (i:Nat):0<=zs.getD i 0/\zs.getD i 0<256:=by
 by_cases hi:i<zs.length
 ·rw[AX,As hi];exact h _ (BL hi)
 ·rw[AX,BP AJ];exact⟨AK,AK⟩
theorem At.get {k:IntKind} {w:aV} {a:Option Addr} {zs:List Int} (h:At k w a zs) (hz:0<zs.length) :
  ∃ b off,a=aR ⟨b,off,aS⟩/\b<w.heap.size/\∀ i,i<zs.length->w.cell? ⟨b,off+i,aS⟩=aR (aO k (zs.getD i 0)):=by
 rcases h with h|h
 ·simp[h] at hz
 ·exact h
theorem At.below {k:IntKind} {w w':aV} {a:Option Addr} {zs:List Int} (h:At k w a zs) (hb:Below w.heap.size w w'):At k w' a zs:=by
 rcases h with h|⟨b,off,rfl,hl,hc⟩
 ·exact .inl h
 ·exact .inr ⟨b,off,rfl,AG hb.size,λi hi=>by rw[hb.cell (p:=⟨b,off+i,aS⟩) hl];exact hc i hi⟩
theorem FU {k:IntKind} {a b:Int} (h:a=b):aQ (aO k a)=aQ (aO k b):=by rw[h]
theorem I1 (l:List Int) (k:Nat) (h:k<l.length):l.take (k+1)=l.take k++[l.getD k 0]:=by
 rw[A5 h,AX,As h];rfl
/-! CRC-32 -/
def Zs (c:Int):Prop:=0<=c/\c<4294967296
def Er (w:aV) (g:Nat) (e:TypeId) (zs:List Int):Prop:=w.heap[g]?=aR (.cells (zs.map (Value.int aP)).toArray e (0,0))
structure Wr (g:Nat) (w w':aV):Prop where
 os:w'.os=w.os
 tape:w'.tape=w.tape
 output:w'.output=w.output
 size:w'.heap.size=w.heap.size
 block:∀ k,k≠g->w'.heap[k]?=w.heap[k]?
theorem Wr.refl (g:Nat) (w:aV):Wr g w w:=⟨rfl,rfl,rfl,rfl,λ_ _=>rfl⟩
theorem Wr.trans {g:Nat} {a b c:aV} (h:Wr g a b) (k:Wr g b c):Wr g a c:=
 ⟨k.os.trans h.os,k.tape.trans h.tape,k.output.trans h.output,k.size.trans h.size,λi hi=>(k.block i hi).trans (h.block i hi)⟩
theorem Wr.setCell {g:Nat} {a w:aV} (h:Wr g a w) (o:Nat) (u:aX):Wr g a (w.setCell ⟨g,o,aS⟩ u):=
 h.trans ⟨rfl,rfl,rfl,by simp[World.setCell],λk hk=>Bj w _ k u hk⟩
theorem Wr.setRow (g:Nat) (w:aV) (cs:Array aX):Wr g w (w.setRow g cs):=⟨rfl,rfl,rfl,size_setRow w g cs,λk hk=>setRow_other w g k cs hk⟩
theorem Wr.drewN {g:Nat} {a w:aV} (h:Wr g a w) (n:Nat):Wr g a (w.drewN n):=⟨h.os,h.tape,h.output,h.size,h.block⟩
theorem Wr.drew {g:Nat} {a w:aV} (h:Wr g a w):Wr g a w.drew:=⟨h.os,h.tape,h.output,h.size,h.block⟩
theorem Wr.below {g B:Nat} {w w':aV} (h:Wr g w w') (hB:B<=g):Below B w w':=⟨h.os,h.tape,h.output,by rw[h.size];exact Aa _,λk hk=>h.block k AJ⟩
theorem Er.lt {w:aV} {g:Nat} {e:TypeId} {zs:List Int} (h:Er w g e zs):g<w.heap.size:=(AR.1 h).1
theorem Er.cell {w:aV} {g:Nat} {e:TypeId} {zs:List Int} (h:Er w g e zs) (i:Nat) (hi:i<zs.length):w.cell? ⟨g,i,aS⟩=aR (aO aP (zs.getD i 0)):=by
 rw[Bf w g i _ e _ h];simp[hi]
theorem Er.frozen {w:aV} {g:Nat} {e:TypeId} {zs:List Int} (h:Er w g e zs) (i:Nat):w.frozen? ⟨g,i,aS⟩=false:=An w g i _ e h
theorem Er.set {w:aV} {g:Nat} {e:TypeId} {zs:List Int} (h:Er w g e zs) (i:Nat) (x:Int):Er (w.setCell ⟨g,i,aS⟩ (aO aP x)) g e (zs.set i x):=by
 unfold Er;rw[Ao w g i _ e _ h];simp[List.map_set]
theorem Er.drew {w:aV} {g:Nat} {e:TypeId} {zs:List Int} (h:Er w g e zs):Er w.drew g e zs:=h
theorem Tryz.infoU8':(tP.info? 5).map (λi=>(i.zero,i.size,i.bytes))=aR (aR (aO aP 0),1,1):=AM
def Fl (w:aV) (v:aX) (zs:List Int):Prop:=
 ∃ b o c,v=aM (aR ⟨b,o,aS⟩) zs.length c/\b<w.heap.size/\∀ i,i<zs.length->w.cell? ⟨b,o+i,aS⟩=aR (aO aP (zs.getD i 0))
def DB (w:aV) (B:Nat) (v:aX) (zs:List Int):Prop:=
 w.ownsRow B 5 1 v zs.length (zs.map (Value.int aP))/\∃ g c,v=aM (aR ⟨g,0,aS⟩) zs.length c
theorem DB.base {w:aV} {B:Nat} {v:aX} {zs:List Int} (h:DB w B v zs):∃ g c,v=aM (aR ⟨g,0,aS⟩) zs.length c/\B<=g/\g<w.heap.size/\zs.length<=c:=by
 obtain⟨h,g,c,rfl⟩:=h;rcases h.2 with⟨h',_⟩|⟨g',c',cur,h',hb,hh,hc,_⟩
 ·cases h'
 ·cases h';exact⟨g,c,rfl,hb,(AR.1 hh).1,hc⟩
theorem DB.part {w:aV} {B:Nat} {v:aX} {zs:List Int} (h:DB w B v zs):Fl w v zs:=by
 obtain⟨g,c,rfl,hb,hg,hc⟩:=h.base;refine⟨g,0,c,rfl,hg,λi hi=>?_⟩;rw[Ar,h.1.cellAt i AJ];simp[hi]
theorem Fl.below {w w':aV} {v:aX} {zs:List Int} (h:Fl w v zs) (hb:Below w.heap.size w w'):Fl w' v zs:=by
 obtain⟨b,o,c,rfl,hl,hc⟩:=h;exact⟨b,o,c,rfl,AG hb.size,λi hi=>by rw[hb.cell (p:=⟨b,o+i,aS⟩) hl];exact hc i hi⟩
theorem DB.empty (w:aV) (B:Nat) (hB:B<=w.heap.size):DB (w.alloc (.cells #[] 5)) B (aM (aR ⟨w.heap.size,0,aS⟩) 0 0) []:=
 ⟨World.ownsRow_lit w #[] 0 hB AL AL,_,_,rfl⟩
theorem DB.alloc {w:aV} {B:Nat} {v:aX} {zs:List Int} (h:DB w B v zs) (o:Obj):DB (w.alloc o) B v zs:=⟨h.1.alloc _,h.2⟩
theorem Cv (w:aV) {ops:Array Oper} {rest:List Oper} {o:Oper} {a:Act} {Q:Exit->Act->aV->Prop}
  (hg:o.guard=aS) (s x:Operand) (hop:o.op=Op.call { callee:=Callee.builtin Builtin.append,args:=#[s,x],argTypes:=#[22,22] })
  (B:Nat) (v:aX) (xs:List Int) (hs:a.eval s=v) (hown:DB w B v xs) (ad:Addr) (m c:Nat) (news:List Int) (hx:a.eval x=aM (aR ad) m c) (hl:news.length=m)
  (hnews:∀ j,j<m->w.cell? (ad.add j)=aR (aO aP (news.getD j 0))) (hb:xs.length+m<=1099511627776) (hB:B<=w.heap.size)
  (hK:∀ v' w',DB w' B v' (xs++news)->Below B w w'->w.grownBy w' v.ownBlock->wpList tP ops Q rest (a.put o.dst v') w') :
  wpList tP ops Q (o::rest) a w:=by
 obtain⟨i0,hi,hz0,hz1,hz2⟩:=BZ Tryz.infoU8';have hbase:=hown.base;refine wpList_append_own w hg s x 22 hop B 5 i0 (aO aP 0) 1 1 underlying22 hi hz0 hz1 hz2 rfl AK v xs.length _ hs hown.1 ad m c (news.map (Value.int aP)) hx (by simp[hl]) ?_ (Az _ _) (by unfold maxLen;omega) AJ hB ?_
 ·intro j u hu;have hj:j<news.length:=by have:=(Am.1 hu).1;simpa using this
  rw[hnews j AJ];simp[hj] at hu;simp[hj,hu]
 ·intro v' w' h1 h2 h3;obtain⟨g,c0,hv,hBg,_,_⟩:=hbase;have hbel:=Cf.grown h2 hB (λk hk=>by rw[hv] at hk;simp[Value.ownBlock] at hk;omega);refine hK v' w' ⟨?_,?_⟩ hbel h2
  ·rw[BI,Ae,hl];exact h1
  ·rcases h1.2 with⟨h',_⟩|⟨g',c',cur,h',_⟩
   {exact absurd (h3.1 h').1 (by rw[hv];simp)};{exact⟨g',c',by rw[h',Ae,hl]⟩}
def val (B:Int):List Int->Int
 |[]=>0
 |z::zs=>z+B*val B zs
def KW (B:Int) (zs:List Int):Prop:=∀ z∈zs,0<=z/\z<B
theorem ID (B:Int) (xs ys:List Int):val B (xs++ys)=val B xs+B^xs.length*val B ys:=by
 induction xs with
 |nil=>simp[val]
 |cons x xs ih=>simp only[List.cons_append,val,List.length_cons,ih,Int.pow_succ];grind
theorem GF (B:Int) (xs:List Int) (x:Int):val B (xs++[x])=val B xs+x*B^xs.length:=by
 rw[ID];simp only[val];grind
theorem KW.snoc {B:Int} {xs:List Int} {x:Int} (h:KW B xs) (h0:0<=x) (h1:x<B):KW B (xs++[x]):=by
 intro z hz;simp at hz;rcases hz with h'|rfl
 ·exact h z h'
 ·exact⟨h0,h1⟩
theorem KW.tail {B:Int} {x:Int} {xs:List Int} (h:KW B (x::xs)):KW B xs:=λz hz=>h z (by simp[hz])
theorem KW.head {B:Int} {x:Int} {xs:List Int} (h:KW B (x::xs)):0<=x/\x<B:=h x AL
theorem C0 {B:Int} (hB:0<B) {xs:List Int} (h:KW B xs):0<=val B xs:=by
 induction xs with
 |nil=>simp[val]
 |cons x xs ih=>
  have:=h.head;have i:=ih h.tail;have:=Int.mul_nonneg (Int.le_of_lt hB) i;simp only[val];omega
theorem Eg {B:Int} (hB:0<B) {xs:List Int} (h:KW B xs):val B xs<B^xs.length:=by
 induction xs with
 |nil=>simp[val]
 |cons x xs ih=>
  obtain⟨h0,h1⟩:=h.head;have i:=ih h.tail;have h2:B*(val B xs+1)<=B*B^xs.length:=Int.mul_le_mul_of_nonneg_left AJ AJ;simp only[val,List.length_cons,Int.pow_succ]
  grind
theorem GQ {B:Int} (hB:0<B) {xs ys:List Int} (hx:KW B xs) (hy:KW B ys) (hl:xs.length=ys.length) (h:val B xs=val B ys):xs=ys:=by
 induction xs generalizing ys with
 |nil=>cases ys with
  |nil=>rfl
  |cons y ys=>simp at hl
 |cons x xs ih=>cases ys with
  |nil=>simp at hl
  |cons y ys=>
   obtain⟨h0,h1⟩:=hx.head;obtain⟨h2,h3⟩:=hy.head;simp only[val] at h;have e:x=y:=by
    have a1:(x+B*val B xs)%B=x:=by rw[Int.add_mul_emod_self_left];exact Int.emod_eq_of_lt h0 h1
    have a2:(y+B*val B ys)%B=y:=by rw[Int.add_mul_emod_self_left];exact Int.emod_eq_of_lt h2 h3
    rw[<-a1,h,a2]
   subst e;have e2:val B xs=val B ys:=by
    have:B*val B xs=B*val B ys:=AJ
    exact Int.eq_of_mul_eq_mul_left AJ this
   rw[ih hx.tail hy.tail (by simpa using hl) e2]
theorem DN (B:Int) (xs:List Int) (k:Nat) (h:k<xs.length):val B (xs.take (k+1))=val B (xs.take k)+xs.getD k 0*B^k:=by
 have:xs.take (k+1)=xs.take k++[xs.getD k 0]:=by
  rw[A5 h,AX,As h];rfl
 rw[this,GF,Aq,Nat.min_eq_left AJ]
theorem Ps (B P x s t c r:Int) (h:s+c*P=t) (hr:r=x*P):(s+(x+c)%B*P)+(x+c)/B*(P*B)=t+r:=by
 have e:(x+c)%B+B*((x+c)/B)=x+c:=Int.emod_add_mul_ediv _ _;have e2:((x+c)%B+B*((x+c)/B))*P=(x+c)*P:=by rw[e]
 grind
theorem Es {B:Int} (hB:0<B) {ns:List Int} (h:KW B ns) (q:Nat):val B ns/B^q%B=ns.getD q 0:=by
 induction ns generalizing q with
 |nil=>simp[val]
 |cons n ns ih=>
  obtain⟨h0,h1⟩:=h.head;cases q with
  |zero=>
   simp only[val,Int.pow_zero,Int.ediv_one,List.getD_cons_zero];rw[Int.add_mul_emod_self_left];exact Int.emod_eq_of_lt h0 h1
  |succ q=>
   have e:(n+B*val B ns)/B=val B ns:=by
    rw[Int.add_mul_ediv_left _ _ AJ,Int.ediv_eq_zero_of_lt h0 h1];omega
   rw[List.getD_cons_succ,<-ih h.tail q];simp only[val];rw[Int.pow_succ,Int.mul_comm (B^q) B,<-BY AJ,e]
theorem FV (B:Int) (ns:List Int) (q:Nat) (x:Int) (hq:q<ns.length):val B (ns.set q x)=val B ns+(x-ns.getD q 0)*B^q:=by
 induction ns generalizing q with
 |nil=>simp at hq
 |cons n ns ih=>
  cases q with
  |zero=>simp only[List.set_cons_zero,val,List.getD_cons_zero,Int.pow_zero];omega
  |succ q=>
   simp only[List.set_cons_succ,val,List.getD_cons_succ];rw[ih q (by simpa using hq),Int.pow_succ];grind
structure KT (k:IntKind) (t s:TypeId) (by':Nat):Prop where
 info:(tP.info? t).map (λi=>(i.zero,i.size,i.bytes))=aR (aR (aO k 0),1,by')
 und:tP.underlying s=aR (.slice t)
 pos:by'≠0
 le:by'<=8
def DQ (k:IntKind) (t:TypeId) (w:aV) (B:Nat) (v:aX) (zs:List Int):Prop:=
 w.ownsRow B t 1 v zs.length (zs.map (Value.int k))/\∃ g c,v=aM (aR ⟨g,0,aS⟩) zs.length c
variable {k:IntKind} {t s:TypeId} {by':Nat}
theorem DQ.base {w:aV} {B:Nat} {v:aX} {zs:List Int} (h:DQ k t w B v zs):∃ g c,v=aM (aR ⟨g,0,aS⟩) zs.length c/\B<=g/\g<w.heap.size/\zs.length<=c:=by
 obtain⟨h,g,c,rfl⟩:=h;rcases h.2 with⟨h',_⟩|⟨g',c',cur,h',hb,hh,hc,_⟩
 ·cases h'
 ·cases h';exact⟨g,c,rfl,hb,(AR.1 hh).1,hc⟩
theorem DQ.at_ {w:aV} {B:Nat} {v:aX} {zs:List Int} (h:DQ k t w B v zs):∃ g c,v=aM (aR ⟨g,0,aS⟩) zs.length c/\B<=g/\g<w.heap.size/\At k w (aR ⟨g,0,aS⟩) zs:=by
 obtain⟨g,c,rfl,hb,hg,hc⟩:=h.base;exact⟨g,c,rfl,hb,hg,.inr ⟨g,0,rfl,hg,λi hi=>by rw[Ar,h.1.cellAt i AJ];simp[hi]⟩⟩
theorem DQ.atS {w:aV} {B g n c:Nat} {zs:List Int} (h:DQ k t w B (aM (aR ⟨g,0,aS⟩) n c) zs):At k w (aR ⟨g,0,aS⟩) zs/\B<=g/\g<w.heap.size:=by
 obtain⟨g',c',e,h1,h2,h3⟩:=h.at_;simp at e;obtain⟨rfl,_⟩:=e;exact⟨h3,h1,h2⟩
theorem DQ.empty (w:aV) (B:Nat) (hB:B<=w.heap.size):DQ k t (w.alloc (.cells #[] t)) B (aM (aR ⟨w.heap.size,0,aS⟩) 0 0) []:=
 ⟨World.ownsRow_lit w #[] 0 hB AL AL,_,_,rfl⟩
theorem DQ.alloc {w:aV} {B:Nat} {v:aX} {zs:List Int} (h:DQ k t w B v zs) (o:Obj):DQ k t (w.alloc o) B v zs:=⟨h.1.alloc _,h.2⟩
theorem DQ.lit (w:aV) (B:Nat) (zs:List Int) (hB:B<=w.heap.size) (hl:zs.length<=1024):DQ k t (w.alloc (.cells (zs.map (Value.int k)).toArray t)) B (aM (aR ⟨w.heap.size,0,aS⟩) zs.length zs.length) zs:=
 ⟨by
  have:=World.ownsRow_lit w (e:=t) (size:=1) (base:=B) (zs.map (Value.int k)).toArray zs.length hB (by unfold maxLen;omega) AL;exact this,_,_,rfl⟩
theorem DQ.grow {w w':aV} {B:Nat} {v:aX} {zs:List Int} (h:DQ k t w B v zs) (hb:Below w.heap.size w w'):DQ k t w' B v zs:=by
 refine⟨⟨h.1.1,?_⟩,h.2⟩;rcases h.1.2 with h'|⟨g,c,cur,h1,h2,h3,h4⟩
 ·exact .inl h'
 ·exact .inr ⟨g,c,cur,h1,h2,by rw[hb.block g (AR.1 h3).1];exact h3,h4⟩
theorem DQ.lower {w:aV} {B B':Nat} {v:aX} {zs:List Int} (h:DQ k t w B' v zs) (hB:B<=B'):DQ k t w B v zs:=by
 obtain⟨⟨h1,h2⟩,h3⟩:=h;refine⟨⟨h1,?_⟩,h3⟩;rcases h2 with h|⟨g,c,cur,h4,h5,h6⟩
 ·exact .inl h
 ·exact .inr ⟨g,c,cur,h4,AJ,h6⟩
theorem DQ.set {w:aV} {B:Nat} {g c:Nat} {zs:List Int} {n:Nat} (hn:zs.length=n) (h:DQ k t w B (aM (aR ⟨g,0,aS⟩) n c) zs) (i:Nat) (x:Int) (hi:i<n) :
  w.cell? ⟨g,i,aS⟩=aR (aO k (zs.getD i 0))/\w.frozen? ⟨g,i,aS⟩=false/\DQ k t (w.setCell ⟨g,i,aS⟩ (aO k x)) B (aM (aR ⟨g,0,aS⟩) n c) (zs.set i x):=by
 subst hn;refine⟨?_,h.1.frozenAt i,?_,?_⟩
 ·rw[h.1.cellAt i AJ];simp[hi]
 ·have:=(h.1.stored i (aO k x)).1;rw[<-List.map_set] at this;rw[List.length_set];exact this
 ·rw[List.length_set];exact⟨_,_,rfl⟩
theorem DQ.cellAt {w:aV} {B:Nat} {g c:Nat} {zs:List Int} {n:Nat} (hn:zs.length=n) (h:DQ k t w B (aM (aR ⟨g,0,aS⟩) n c) zs) (i:Nat) (hi:i<n):w.cell? ⟨g,i,aS⟩=aR (aO k (zs.getD i 0)):=by
 subst hn;rw[h.1.cellAt i AJ];simp[hi]
theorem Dd (w:aV) {ops:Array Oper} {rest:List Oper} {o:Oper} {a:Act} {Q:Exit->Act->aV->Prop} (hk:KT k t s by')
  (hg:o.guard=aS) (sx x:Operand) (hop:o.op=Op.call { callee:=Callee.builtin Builtin.append,args:=#[sx,x],argTypes:=#[s,s] })
  (B:Nat) (v:aX) (xs:List Int) (hs:a.eval sx=v) (hown:DQ k t w B v xs) (ad:Addr) (m c:Nat) (news:List Int) (hx:a.eval x=aM (aR ad) m c) (hl:news.length=m)
  (hnews:∀ j,j<m->w.cell? (ad.add j)=aR (aO k (news.getD j 0))) (hb:xs.length+m<=1099511627776) (hB:B<=w.heap.size)
  (hK:∀ v' w',DQ k t w' B v' (xs++news)->Below B w w'->w.grownBy w' v.ownBlock->wpList tP ops Q rest (a.put o.dst v') w') :
  wpList tP ops Q (o::rest) a w:=by
 obtain⟨i0,hi,hz0,hz1,hz2⟩:=BZ hk.info;have hbase:=hown.base;have hp:=hk.pos;have hle:=hk.le;refine wpList_append_own w hg sx x s hop B t i0 (aO k 0) 1 by' hk.und hi hz0 hz1 hz2 rfl AJ v xs.length _ hs hown.1 ad m c (news.map (Value.int k)) hx (by simp[hl]) ?_ (Az _ _) (by unfold maxLen;omega) ?_ hB ?_
 ·intro j u hu;have hj:j<news.length:=by have:=(Am.1 hu).1;simpa using this
  rw[hnews j AJ];simp[hj] at hu;simp[hj,hu]
 ·have:=Nat.mul_le_mul hb hle;omega
 ·intro v' w' h1 h2 h3;obtain⟨g,c0,hv,hBg,_,_⟩:=hbase;have hbel:=Cf.grown h2 hB (λk hk=>by rw[hv] at hk;simp[Value.ownBlock] at hk;omega);refine hK v' w' ⟨?_,?_⟩ hbel h2
  ·rw[BI,Ae,hl];exact h1
  ·rcases h1.2 with⟨h',_⟩|⟨g',c',cur,h',_⟩
   {exact absurd (h3.1 h').1 (by rw[hv];simp)};{exact⟨g',c',by rw[h',Ae,hl]⟩}
theorem Xe:KT .u64 135 134 8:=⟨AM,underlying134,AK,AK⟩
abbrev FC:=DQ .u64 135
def MC (zs:List Int):Prop:=∀ z∈zs,0<=z/\z<4294967296
theorem MC.get {zs:List Int} (h:MC zs) (i:Nat):0<=zs.getD i 0/\zs.getD i 0<4294967296:=by
 by_cases hi:i<zs.length
 ·rw[AX,As hi];exact h _ (BL hi)
 ·rw[AX,BP AJ];exact⟨AK,AK⟩
theorem MC.set {zs:List Int} (h:MC zs) (i:Nat) (x:Int) (h0:0<=x) (h1:x<4294967296):MC (zs.set i x):=by
 intro z hz;rcases List.mem_or_eq_of_mem_set hz with h'|rfl
 ·exact h z h'
 ·exact⟨h0,h1⟩
theorem Eh (zs:List Int) (i j:Nat) (x:Int) (h:j≠i):(zs.set i x).getD j 0=zs.getD j 0:=by
 rw[AX,List.getElem?_set_ne (A9 h),AX]
theorem IB (zs:List Int) (i:Nat) (x:Int) (h:i<zs.length):(zs.set i x).getD i 0=x:=by
 rw[AX,List.getElem?_set_self h];rfl
theorem RB (B V o a b c P S:Int) (x:Int) (hx:x=o+a*b+c) (h:V+c*P=S):(V+(x%B-o)*P)+x/B*(P*B)=S+a*(b*P):=by
 have e:x%B+B*(x/B)=x:=Int.emod_add_mul_ediv _ _;have e2:(x%B+B*(x/B))*P=x*P:=by rw[e]
 subst hx
 grind
theorem Tz (A x P Y:Int):A*Y+x*(P*Y)=(A+x*P)*Y:=by grind
structure MR (w:aV) (xs ys:List Int) (i:Nat) (zs:List Int):Prop where
 len:zs.length=xs.length+ys.length
 dig:MC zs
 zero:∀ j,i+ys.length<=j->zs.getD j 0=0
def Oo (w:aV) (xs ys:List Int) (e:Ending) (w':aV):Prop:=
 ∃ v zs,e=aQ v/\FC w' w.heap.size v zs/\zs.length=xs.length+ys.length/\MC zs/\val 4294967296 zs=val 4294967296 xs*val 4294967296 ys/\Below w.heap.size w w'
theorem Oq (a a':Option Addr) (n m cap cap':Nat) (xs ys:List Int) (w:aV) (hn:xs.length=n) (hm:ys.length=m) (hn':n<=1024) (hm':m<=1024) (hm0:0<m) (hn0:0<n) (ha:At .u64 w a xs) (ha':At .u64 w a' ys) (hx:MC xs) (hy:MC ys) :
  Calls tP 145 #[aM a n cap,aM a' m cap'] w (Oo w xs ys):=by
 obtain⟨b0,off,rfl,hb0,hc⟩:=ha.get AJ;obtain⟨b1,off',rfl,hb1,hc'⟩:=ha'.get AJ;have HC:=CY <| hc
 have HC':=CY <| hc'
 go_enter func145,ntmps145;go_wp2
 go_loopw [5,6] (λv i wr=>∃ k:Nat,k<=n+m/\i=aO .i64 k/\FC wr w.heap.size v (List.replicate k 0)/\Below w.heap.size w wr) (λ_ i _=>n+m-(intOf i).toNat)
 case atStart=>exact⟨0,Aw _,rfl,DQ.empty _ _ Ch,Cf.alloc Ch _⟩
 case round=>
  obtain⟨k,hk,rfl,hown,hbel⟩:=hrel;by_cases hlt:k<n+m
  ·have hsz:=hbel.size;have hlt':(k:Int)<(n:Int)+(m:Int):=AJ
   go_wp2_with (at_builtin;refine Dd _ Xe rfl _ _ rfl w.heap.size _ _ rfl (hown.alloc _) ⟨wr.heap.size,0,aS⟩ 1 1 [0] rfl rfl ?c1 ?c2 ?c3 ?_);all_goals first|(intro j hj;obtain rfl:j=0:=AJ
                                                                                                                                                              simp[Addr.add];done)|skip
   case c2=>simp;omega
   case c3=>first|omega|(rw[Ay];omega)
   intro v' w1 hown' hbel' _;have HO:AO (FC w1 w.heap.size v' (List.replicate (k+1) 0)):=by rw[List.replicate_succ'];exact hown'
   have HB:=CY <| (hbel.alloc AJ _).trans hbel'
   go_wp2;go_roundw
   case rel=>exact⟨k+1,AJ,by go_num,HO.o,HB.o⟩
   case measure=>simp[intOf];omega
  ·obtain rfl:k=n+m:=AJ
   obtain⟨g,c,rfl,hg,hg',_⟩:=hown.at_;rw[List.length_replicate] at hown |-;have HO:=CY <| hown
   have HB:=CY <| hbel
   have ecast:((n+m:Nat):Int)=(n:Int)+(m:Int):=AJ
   go_wp2
   go_loopw [7] (λi wq=>∃(k:Nat) (zs:List Int),k<=n/\i=aO .i64 k/\MR w xs ys k zs/\val 4294967296 zs=val 4294967296 (xs.take k)*val 4294967296 ys/\FC wq w.heap.size (aM (aR ⟨g,0,aS⟩) (n+m) c) zs/\Below w.heap.size w wq) (λi _=>n-(intOf i).toNat)
   case atStart=>
    refine⟨0,List.replicate (n+m) 0,Aw _,rfl,⟨by simp[hn,hm],?_,?_⟩,?_,HO.o,HB.o⟩
    {intro z hz;rw[List.mem_replicate] at hz;omega};{intro j hj;simp[List.getD_eq_getElem?_getD,List.getElem?_replicate];split<;>rfl}
    ·simp only[List.take_zero,val,Int.zero_mul];generalize n+m=q
     induction q with
     |zero=>rfl
     |succ q ih=>rw[List.replicate_succ];simp[val,ih]
   case round=>
    obtain⟨k,zs,hk,rfl,⟨hzl,hzd,hzz⟩,hv,hown,hbel⟩:=hrel;by_cases hkn:k<n
    ·have hkn':(k:Int)<(n:Int):=AJ
     have HX:=hx.get k;have HV:=CY <| hv
     have HVT:AO (val 4294967296 (xs.take (k+1))=val 4294967296 (xs.take k)+xs.getD k 0*4294967296^k):=DN _ xs k AJ;have HO:=CY <| hown
     have HZ:AO (zs.length=xs.length+ys.length/\MC zs/\∀ j,k+ys.length<=j->zs.getD j 0=0):=⟨hzl,hzd,hzz⟩
     have HBE:AO (Below w.heap.size w wr):=hbel;have HCX:AO (∀ w',Below w.heap.size w w'->w'.cell? ⟨b0,off+k,aS⟩=aR (aO .u64 (xs.getD k 0))):=λw' hb=>by rw[hb.cell (p:=⟨b0,off+k,aS⟩) hb0];exact HC.o k AJ
     obtain⟨hX0,hX1⟩:=HX;generalize xs.getD k 0=x at *;go_wp2
     go_loopw [8,9] (λcc i wq=>∃(j:Nat) (zs:List Int) (b:Int),j<=m/\i=aO .i64 j/\cc=aO .u64 b/\(0<=b/\b<4294967296)/\(zs.length=xs.length+ys.length/\MC zs/\∀ j,k+ys.length<=j->zs.getD j 0=0)/\val 4294967296 zs+b*4294967296^(k+j)=val 4294967296 (xs.take k)*val 4294967296 ys+x*(4294967296^k*val 4294967296 (ys.take j))/\FC wq w.heap.size (aM (aR ⟨g,0,aS⟩) (n+m) c) zs/\Below w.heap.size w wq) (λ_ i _=>m-(intOf i).toNat)
     case atStart=>exact⟨0,zs,0,Aw _,rfl,rfl,⟨AK,AK⟩,HZ.o,by rw[HV.o,List.take_zero];simp[val],HO.o,HBE.o⟩
     case round=>
      obtain⟨j,zs,b,hj,rfl,rfl,⟨hb0',hb1'⟩,⟨hzl,hzd,hzz⟩,hv,hown,hbel⟩:=hrel;by_cases hjm:j<m
      ·have hjm':(j:Int)<(m:Int):=AJ
       have cx:=HCX.o _ hbel;have cy:wr.cell? ⟨b1,off'+j,aS⟩=aR (aO .u64 (ys.getD j 0)):=by rw[hbel.cell (p:=⟨b1,off'+j,aS⟩) hb1];exact HC'.o j AJ
       have HY:=hy.get j;have hzb:=hzd.get (k+j);have vt:=DN 4294967296 ys j AJ;obtain⟨pr,hpr⟩:∃ pr,pr=x*ys.getD j 0:=⟨_,rfl⟩
       have hp0:0<=pr:=by rw[hpr];exact Int.mul_nonneg hX0 HY.1
       have hp1:pr<=18446744065119617025:=by
        rw[hpr];exact Int.le_trans (Int.mul_le_mul (show x<=4294967295 by omega) (show ys.getD j 0<=4294967295 by omega) HY.1 AK) AK
       obtain⟨y,hyy⟩:∃ y,y=zs.getD (k+j) 0+pr+b:=⟨_,rfl⟩
       have hy0:0<=y:=AJ
       have hy1:y<18446744073709551616:=AJ
       have st:=RB 4294967296 _ (zs.getD (k+j) 0) x (ys.getD j 0) b _ _ y (by rw[hyy,hpr]) hv;have e1:val 4294967296 (xs.take k)*val 4294967296 ys+x*(4294967296^k*val 4294967296 (ys.take j))+x*(ys.getD j 0*4294967296^(k+j))=val 4294967296 (xs.take k)*val 4294967296 ys+x*(4294967296^k*val 4294967296 (ys.take (j+1))):=by
        rw[vt,Int.pow_add];grind
       obtain⟨cz,fz,oz⟩:=DQ.set (by omega:zs.length=n+m) hown (k+j) (y%4294967296) AJ;have hle:k+j<zs.length:=AJ
       have HS:AO (val 4294967296 (zs.set (k+j) (y%4294967296))+y/4294967296*4294967296^(k+(j+1))=val 4294967296 (xs.take k)*val 4294967296 ys+x*(4294967296^k*val 4294967296 (ys.take (j+1)))):=by
        show _=_
        rw[FV _ _ _ _ hle,<-e1,<-st,<-A7,Int.pow_succ]
       have HZ:AO ((zs.set (k+j) (y%4294967296)).length=xs.length+ys.length/\MC (zs.set (k+j) (y%4294967296))/\∀ i,k+ys.length<=i->(zs.set (k+j) (y%4294967296)).getD i 0=0):=
        ⟨by rw[List.length_set];exact hzl,hzd.set _ _ AJ AJ,λi hi=>by rw[Eh _ _ _ _ AJ];exact hzz i hi⟩
       have HO:=CY <| oz
       have HBE:AO (Below w.heap.size w (wr.setCell ⟨g,k+j,aS⟩ (aO .u64 (y%4294967296)))):=hbel.setCell hg _;have HQ:=CY <| hpr.symm
       have HQ2:=CY <| hyy.symm
       have hw1:IntKind.u64.wrap (x*ys.getD j 0)=pr:=by rw[<-hpr,IntKind.wrap_u64];exact Int.emod_eq_of_lt hp0 AJ
       clear e1 st vt oz hv hzd hzz hown hbel hle hpr hzl HVT;obtain⟨hY0,hY1⟩:=HY;obtain⟨hz0,hz1⟩:=hzb;generalize ys.getD j 0=yy at *;generalize zs.getD (k+j) 0=zz at *;have hkj:(k:Int)+(j:Int)<(n:Int)+(m:Int):=AJ
       go_wp2
       go_quiet (fail)
       rw[HQ2.o];have cz2:(wr.drewN nq).cell? ⟨g,k+j,aS⟩=aR (aO .u64 zz):=cz;have fz2:(wr.drewN nq).frozen? ⟨g,k+j,aS⟩=false:=fz;have HO2:AO (FC ((wr.drewN nq).setCell ⟨g,k+j,aS⟩ (aO .u64 (y%4294967296))) w.heap.size (aM (aR ⟨g,0,aS⟩) (n+m) c) (zs.set (k+j) (y%4294967296))):=HO.o;have HBE2:AO (Below w.heap.size w ((wr.drewN nq).setCell ⟨g,k+j,aS⟩ (aO .u64 (y%4294967296)))):=⟨HBE.o.os,HBE.o.tape,HBE.o.output,HBE.o.size,HBE.o.block⟩
       have hyq0:0<=y/4294967296:=AJ
       have hyq1:y/4294967296<4294967296:=AJ
       clear cz fz HO HBE cx cy HQ hw1 hyy HQ2 hp0 hp1 hz0 hz1;generalize wr.drewN nq=w2 at *;go_wp2;go_roundw
       case rel=>exact⟨j+1,zs.set (k+j) (y%4294967296),y/4294967296,AJ,by go_num,rfl,⟨hyq0,hyq1⟩,HZ.o,HS.o,HO2.o,HBE2.o⟩
       case measure=>simp[intOf];omega
      ·obtain rfl:j=m:=AJ
       rw[Ad (l:=ys) (i:=j) AJ] at hv;have hzk:=hzz (k+j) AJ;obtain⟨cz,fz,oz⟩:=DQ.set (by omega:zs.length=n+j) hown (k+j) b AJ;rw[hzk] at cz;have hle:k+j<zs.length:=AJ
       have vs:=FV 4294967296 zs (k+j) b hle;rw[hzk,Int.sub_zero,hv] at vs;have HS:AO (val 4294967296 (zs.set (k+j) b)=val 4294967296 (xs.take (k+1))*val 4294967296 ys):=by
        show _=_
        rw[vs,HVT.o,Tz]
       have HZ:AO (MR w xs ys (k+1) (zs.set (k+j) b)):=⟨by rw[List.length_set];exact hzl,hzd.set _ _ AJ AJ,λi hi=>by rw[Eh _ _ _ _ AJ];exact hzz i AJ⟩
       have HO:=CY <| oz
       have HBE:AO (Below w.heap.size w (wr.setCell ⟨g,k+j,aS⟩ (aO .u64 b))):=hbel.setCell hg _;have hkj:(k:Int)+(j:Int)<(n:Int)+(j:Int):=AJ
       go_wp2;go_roundw
       case rel=>exact⟨k+1,zs.set (k+j) b,AJ,by go_num,HZ.o,HS.o,HO.o,HBE.o⟩
       case measure=>simp[intOf];omega
    ·obtain rfl:k=n:=AJ
     rw[Ad AJ] at hv;have hke:zs.length=k+m:=AJ
     have HP:AO (Oo w xs ys (aQ (aM (aR ⟨g,0,aS⟩) (k+m) c)) wr):=⟨_,zs,rfl,hown,hzl,hzd,hv,hbel⟩
     go_wp2
     go_ret
     exact HP.o
def NZ (n:Nat):Bool:=decide (2<=n) && (List.range 32).all (λd=>decide (d<2) || decide (n<d*d) || !decide (n%d=0))
theorem WE {n d:Nat} (hd:2<=d) (h:n%d=0) (hn:d*d<=n) (h32:d<32):NZ n=false:=by
 unfold NZ;rw[Bool.and_eq_false_iff];right;rw[List.all_eq_false];refine⟨d,BG.2 h32,?_⟩;simp[h];omega
theorem T6 {n:Nat} (d:Nat) (hn:n<d*d) (h:∀ e,2<=e->e<d->n%e≠0):NZ n=decide (2<=n):=by
 unfold NZ;rw[BM.2 (λe _=>?_),Bool.and_true];by_cases h1:e<2
 ·simp[h1]
 ·by_cases h2:e<d
  {have:=h e AJ h2;simp[this]};{have:n<e*e:=Ap hn (Nat.mul_le_mul AJ AJ);simp[this]}
theorem Kl (n:Nat) (w:aV) (hn:n<1024) :
  Calls tP 147 #[aO .u64 n] w λe w'=>e=aQ (.bool (NZ n))/\w'=w:=by
 go_enter func147,ntmps147;go_wp2
 go_loop [3] (λi=>∃ d:Nat,i=aO .u64 d/\2<=d/\d<=33/\∀ e,2<=e->e<d->n%e≠0) (λi=>33-(intOf i).toNat)
 case atStart=>exact⟨2,rfl,AK,AK,λe h1 h2=>AJ⟩
 case round=>
  obtain⟨d,rfl,hd,hd',hall⟩:=hrel;have hA:=CY <| hall
  clear hall;by_cases hle:d*d<=n
  ·have h32:d<32:=by
    rcases Nat.lt_or_ge d 32 with h|h
    {exact h};{have:=Nat.mul_le_mul h h;omega}
   have hdd:d*d<1024:=AJ
   have hle':((d:Int)*(d:Int))<=(n:Int):=by rw[<-Int.natCast_mul];omega
   have hdd':((d:Int)*(d:Int))<1024:=by rw[<-Int.natCast_mul];omega
   have hdd0:0<=((d:Int)*(d:Int)):=Int.mul_nonneg AJ AJ;by_cases hz:n%d=0
   ·have HP:=CY <| WE hd hz hle h32
    have hz':(n:Int)%(d:Int)=0:=by exact_mod_cast hz
    have hz2:(n:Int).tmod (d:Int)=0:=by rw[Ah AJ];exact hz'
    have hne:¬ (d:Int)=0:=AJ
    clear hz hle;go_wp2
    go_ret
    exact⟨by rw[HP.o];rfl,rfl⟩
   ·have hz':¬ (n:Int)%(d:Int)=0:=by rw[<-Int.natCast_emod];omega
    have hz2:¬ (n:Int).tmod (d:Int)=0:=by rw[Ah AJ];exact hz'
    have hz3:((n:Int)%(d:Int) == 0)=false:=by simpa using hz'
    have hz4:((n:Int).tmod (d:Int) == 0)=false:=by simpa using hz2
    have hne:¬ (d:Int)=0:=AJ
    have HN:AO (∀ e,2<=e->e<d+1->n%e≠0):=λe h1 h2=>by
     rcases Nat.lt_or_ge e d with h|h
     ·exact hA.o e h1 h
     ·obtain rfl:e=d:=AJ
      exact hz
    clear hle hA hz;go_wp2
    go_round
    case rel=>exact⟨d+1,by go_num,AJ,AJ,HN.o⟩
    case measure=>simp[intOf];omega
  ·have HP:=CY <| T6 d AJ hA.o
   have hdd:=Nat.mul_le_mul hd' hd';have hgt:(n:Int)<((d:Int)*(d:Int)):=by rw[<-Int.natCast_mul];omega
   have hgt':¬ ((d:Int)*(d:Int))<=(n:Int):=AJ
   have hdd':((d:Int)*(d:Int))<=1089:=by rw[<-Int.natCast_mul];omega
   clear hle hA;by_cases h2:2<=n
   ·have h2':(2:Int)<=(n:Int):=AJ
    have HP2:AO (NZ n=true):=by show NZ n=true;rw[HP.o];simpa using h2
    go_wp2
    go_ret
    exact⟨by rw[HP2.o];rfl,rfl⟩
   ·have h2':¬ (2:Int)<=(n:Int):=AJ
    have HP2:AO (NZ n=false):=by show NZ n=false;rw[HP.o];simpa using h2
    go_wp2
    go_ret
    exact⟨by rw[HP2.o];rfl,rfl⟩
def WF:List Nat:=[2,3,5,7,11,13,17,19,23,29,31,37,41,43,47,53,59,61,67,71,73,79,83,89,97,101,103,107,109,113,127,131,137,139,149,151,157,163,167,173,179,181,191,193,197,199,211,223,227,229,233,239,241,251,257,263,269,271,277,281,283,293,307,311,313,317,331,337,347,349,353,359,367,373,379,383,389,397,401,409]
def FO:List Nat:=1::WF
theorem Or:∀ m<410,NZ m=WF.contains m:=by decide +kernel
theorem T7:∀ k<80,∀ j<80,¬ (FO.getD k 0<WF.getD j 0/\WF.getD j 0<FO.getD (k+1) 0):=by decide +kernel
theorem Na:∀ k<80,FO.getD k 0<FO.getD (k+1) 0/\FO.getD (k+1) 0<410/\WF.contains (FO.getD (k+1) 0)=true:=by decide +kernel
theorem T8 {k m:Nat} (hk:k<80) (h1:FO.getD k 0<m) (h2:m<FO.getD (k+1) 0):NZ m=false:=by
 have:=(Na k hk).2.1;rw[Or m AJ];cases h:WF.contains m with
 |false=>rfl
 |true=>
  exfalso
  rw[List.contains_iff_mem] at h;obtain⟨j,hj,rfl⟩:=List.mem_iff_getElem.1 h;have hj':=hj;have:=T7 k hk j hj';rw[AX (l:=WF),As hj] at this;exact this ⟨h1,h2⟩
theorem UA {k:Nat} (hk:k<80):NZ (FO.getD (k+1) 0)=true:=by
 have:=Na k hk;rw[Or _ this.2.1];exact this.2.2
theorem Km (t:Nat) (w:aV) (ht:t<80) :
  Calls tP 118 #[aO .i64 t] w λe w'=>e=aQ (aO .u64 (FO.getD (t+1) 0:Nat))/\w'=w:=by
 go_enter func118,ntmps118;go_wp2
 go_loop [3,4] (λn i=>∃ k:Nat,k<=t+1/\i=aO .i64 k/\n=aO .u64 (FO.getD k 0:Nat)) (λ_ i=>t+1-(intOf i).toNat)
 case atStart=>exact⟨0,Aw _,rfl,rfl⟩
 case round=>
  obtain⟨k,hk,rfl,rfl⟩:=hrel;by_cases hlt:k<t+1
  ·obtain⟨hu1,hu2,hu3⟩:=Na k AJ;have HG:AO (∀ m,FO.getD k 0<m->m<FO.getD (k+1) 0->NZ m=false):=λm h1 h2=>T8 AJ h1 h2
   have HH:AO (NZ (FO.getD (k+1) 0)=true):=UA AJ;clear hu3;generalize FO.getD k 0=p at *;generalize hq:FO.getD (k+1) 0=q at *;have HQ:AO (FO.getD (k+1) 0=q):=hq;clear hq;go_wp2
   go_loop [3] (λi=>∃ m:Nat,i=aO .u64 m/\p<m/\m<=q) (λi=>q-(intOf i).toNat)
   case atStart=>exact⟨p+1,by go_num,AJ,AJ⟩
   case round=>
    obtain⟨m,rfl,hm1,hm2⟩:=hrel;by_cases hmq:m<q
    ·have HF:AO (NZ m=false):=HG.o m hm1 hmq;go_wp2_with fail;refine(Kl m _ AJ).mono ?_;rintro e w1 ⟨rfl,rfl⟩;rw[HF.o];go_wp2
     go_round
     case rel=>exact⟨m+1,by go_num,AJ,AJ⟩
     case measure=>simp[intOf];omega
    ·obtain rfl:m=q:=AJ
     go_wp2_with fail;refine(Kl m _ AJ).mono ?_;rintro e w1 ⟨rfl,rfl⟩;rw[HH.o];go_wp2
     go_round
     case rel=>exact⟨k+1,AJ,by go_num,by rw[HQ.o]⟩
     case measure=>simp[intOf];omega
  ·obtain rfl:k=t+1:=AJ
   go_wp2
   go_ret
   exact⟨rfl,rfl⟩
end Go.Proofs.YtncomnkdlpoelaaGreatDoor
