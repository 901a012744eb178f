import Derived.Deep.MidRow
import Derived.Lib.SmallJoins
import Derived.Deep.SlicePairs
import Derived.Laws.CopyOwn
import Derived.Deep.Cut
import Derived.Lib.AppendZerosOnto
import Derived.Deep.WholeRow
import Derived.WalkLawsBesides
import Derived.Test.YthmeoilbmfdhfaaGreatRows
import Derived.WalkSpells
import Derived.BigQuiet
import Derived.Deep.AppendLies
open Go.Value renaming slice->UD,int->UE,bool->UF
open Go.IntKind renaming u32->UG,u8->UH
open Option renaming some->UI,none->UJ
open Go renaming World->UK,Value->UL
namespace Go.Proofs.YthmeoilbmfdhfaaGreat
open Go.ChangeShapes Go.WideShapes Go.ChangeAt Go.RowKit
set_option linter.unusedVariables false
def AP (p:Prop):Prop:=p
theorem AP.o {p:Prop} (h:AP p):p:=h
theorem Cs {n:Nat} {w:UK}:Below n w w:=Below.refl _ _
theorem Cw {n:Nat}:n<=n:=Nat.le_refl _
theorem C7 {p q:Prop} [Decidable p] (h:decide p=false:=by decide):p->q:=λx=>absurd x (of_decide_eq_false h)
theorem FJ {n i:Nat}:(Array.replicate n false).getD i false=false:=by rw[Array.getD_eq_getD_getElem?,Array.getElem?_replicate];split<;>rfl
theorem E0 {n i:Nat}:¬(Array.replicate n false).getD i false=true:=by rw[Array.getD_eq_getD_getElem?,Array.getElem?_replicate];split<;>simp
theorem AA {w:UK} {g:Nat} {c:Array UL} {t:TypeId} {r:Nat×Nat} (h:w.heap[g]?=UI (.cells c t r)) (j:Nat):w.cell? ⟨g,j,UJ⟩=c[j]?:=cell_of_row w g j c t r h
theorem AB {w:UK} {g:Nat} {o c:Array UL} {t:TypeId} {r:Nat×Nat} (h:w.heap[g]?=UI (.cells o t r)):(w.setRow g c).heap[g]?=UI (.cells c t r):=setRow_heap w g o c t r h
theorem AC {P:Program} {ops:Array Oper} {l:List Oper} {o:Oper} {a:Act} {w:UK} {Q:Exit->Act->UK->Prop} (u:TypeId) (x y:Operand) (g:Nat) (c:Array UL) (t:TypeId) {d:Array UL} (h:w.heap[g]?=UI (.cells d t)) (s:(P.info? u).map (·.size)=UI c.size) (z:d.size=c.size) (e:c.all (·.oneCell')=true) (k:wpList P ops Q l (a.put o.dst undef) (w.setRow g c)) (h1:o.guard=none:=by exact rfl) (h2:o.op=.store u x y:=by exact rfl) (h3:a.eval x=.pointer (UI ⟨g,0,UJ⟩):=by exact rfl) (h4:a.eval y=.agg c:=by exact rfl):wpList P ops Q (o::l) a w:=wpList_store_row h1 u x y h2 g c h3 h4 t d h s z e k
theorem AG {p q:Prop} (x:q) (h:q->p:=by intro;omega):p:=h x
theorem AI {p q r:Prop} (x:q) (y:r) (h:q->r->p:=by intro _ _;omega):p:=h x y
theorem AJ {p q r s:Prop} (x:q) (y:r) (z:s) (h:q->r->s->p:=by intro _ _ _;omega):p:=h x y z
theorem AK {p:Prop} (h:p:=by omega):p:=h
theorem AL {p:Prop} (h:p:=by decide):p:=h
theorem AM {p:Prop} (h:p:=by simp):p:=h
theorem AN {p:Prop} (h:p:=by kernel_rfl):p:=h
theorem AO {p:Prop} (h:p:=by rfl):p:=h
theorem AQ:type_of%@Array.getElem?_eq_some_iff:=@Array.getElem?_eq_some_iff
theorem AR:type_of%@if_pos:=@if_pos
theorem AS:type_of%@if_neg:=@if_neg
theorem AV:type_of%@Go.heap_alloc_new:=@Go.heap_alloc_new
theorem AW:type_of%@Go.results_cell_row:=@Go.results_cell_row
theorem AY:type_of%@Nat.le_refl:=@Nat.le_refl
theorem AZ:type_of%@Go.bodyPost_ret:=@Go.bodyPost_ret
theorem Aa:type_of%@Go.World.cell?_of_block:=@Go.World.cell?_of_block
theorem Ab:type_of%@Go.wpList_load_row:=@Go.wpList_load_row
theorem Ac:type_of%@And.intro:=@And.intro
theorem Ad:type_of%@Go.RowKit.Below.refl:=@Go.RowKit.Below.refl
theorem Ae:type_of%@Go.wp_region_any:=@Go.wp_region_any
theorem Af:type_of%@List.getElem?_eq_some_iff:=@List.getElem?_eq_some_iff
theorem Ag:type_of%@Go.frozen_of_row:=@Go.frozen_of_row
theorem Ah:type_of%@Go.heap_setCell_other:=@Go.heap_setCell_other
theorem Ai:type_of%@Int.eq_ofNat_of_zero_le:=@Int.eq_ofNat_of_zero_le
theorem Aj:type_of%@Nat.zero_le:=@Nat.zero_le
theorem Ak:type_of%@Nat.zero_add:=@Nat.zero_add
theorem Al:type_of%@List.length_append:=@List.length_append
theorem Am:type_of%@List.getElem?_append_right:=@List.getElem?_append_right
theorem An:type_of%@List.take_of_length_le:=@List.take_of_length_le
theorem Ao:type_of%@List.getD_eq_getElem?_getD:=@List.getD_eq_getElem?_getD
theorem Ap:type_of%@Nat.add_assoc:=@Nat.add_assoc
theorem Aq:type_of%@List.eq_nil_of_length_eq_zero:=@List.eq_nil_of_length_eq_zero
theorem Ar:type_of%@decide_eq_false:=@decide_eq_false
theorem As:type_of%@Go.IntKind.wrap_i64:=@Go.IntKind.wrap_i64
theorem Au:type_of%@Go.Result.andThen_ok:=@Go.Result.andThen_ok
theorem Av:type_of%@Option.isSome_iff_exists:=@Option.isSome_iff_exists
theorem Aw:type_of%@Nat.le_of_eq:=@Nat.le_of_eq
theorem Ax:type_of%@Nat.lt_of_lt_of_le:=@Nat.lt_of_lt_of_le
theorem Ay:type_of%@Go.Addr.add_lit:=@Go.Addr.add_lit
theorem Az:type_of%@List.length_take:=@List.length_take
theorem A0:type_of%@List.getElem?_append_left:=@List.getElem?_append_left
theorem A7:type_of%@Array.getD_eq_getD_getElem?:=@Array.getD_eq_getD_getElem?
theorem A8:type_of%@Go.wp_store_row:=@Go.wp_store_row
theorem A9:type_of%@Go.heap_setCell_same:=@Go.heap_setCell_same
theorem BA:type_of%@Go.run_underlying:=@Go.run_underlying
theorem BB:type_of%@Array.getElem?_setIfInBounds_ne:=@Array.getElem?_setIfInBounds_ne
theorem BC:type_of%@Nat.le_trans:=@Nat.le_trans
theorem BG:type_of%@Go.World.cell?_setCell_other:=@Go.World.cell?_setCell_other
theorem BH:type_of%@Go.RowKit.Below.heap_alloc:=@Go.RowKit.Below.heap_alloc
theorem BI:type_of%@List.length_map:=@List.length_map
theorem BJ:type_of%@decide_eq_true:=@decide_eq_true
theorem BK:type_of%@List.getElem?_eq_getElem:=@List.getElem?_eq_getElem
theorem BL:type_of%@Go.wp_load_row:=@Go.wp_load_row
theorem BM:type_of%@List.all_eq_true:=@List.all_eq_true
theorem BN:type_of%@Go.Sem.run_bind:=@Go.Sem.run_bind
theorem BO:type_of%@List.take_succ_eq_append_getElem:=@List.take_succ_eq_append_getElem
theorem BP:type_of%@Go.size_setRow:=@Go.size_setRow
theorem BQ:type_of%@Go.World.cell?_setCell_same:=@Go.World.cell?_setCell_same
theorem BR:type_of%@Array.getElem?_replicate:=@Array.getElem?_replicate
theorem BS:type_of%@List.getElem?_take_of_lt:=@List.getElem?_take_of_lt
theorem BV:type_of%@List.mem_range:=@List.mem_range
theorem BW:type_of%@List.eq_nil_iff_forall_not_mem:=@List.eq_nil_iff_forall_not_mem
theorem BX:type_of%@List.size_toArray:=@List.size_toArray
theorem BY:type_of%@List.map_append:=@List.map_append
theorem BZ:type_of%@Array.getElem?_setIfInBounds_self_of_lt:=@Array.getElem?_setIfInBounds_self_of_lt
theorem Ba:type_of%@List.getElem_mem:=@List.getElem_mem
theorem Bb:type_of%@Go.ints_oneCell:=@Go.ints_oneCell
theorem Bc:type_of%@List.map_toArray:=@List.map_toArray
theorem Bd:type_of%@Go.Sem.run_pure:=@Go.Sem.run_pure
theorem Be:type_of%@Go.info_parts:=@Go.info_parts
theorem Bf:type_of%@Array.mem_iff_getElem:=@Array.mem_iff_getElem
theorem Bg:type_of%@Go.cell_of_row:=@Go.cell_of_row
theorem Bh:type_of%@Array.toList_setIfInBounds:=@Array.toList_setIfInBounds
theorem Bi:type_of%@List.mem_of_mem_take:=@List.mem_of_mem_take
theorem Bj:type_of%@List.length_drop:=@List.length_drop
theorem Bl:type_of%@Go.World.size_alloc:=@Go.World.size_alloc
theorem Bm:type_of%@Int.toNat_of_nonneg:=@Int.toNat_of_nonneg
theorem Bn:type_of%@Go.Value.slice.injEq:=@Go.Value.slice.injEq
theorem Bo:type_of%@List.map_cons:=@List.map_cons
theorem Bp:type_of%@List.mem_filter:=@List.mem_filter
theorem Bq:type_of%@List.append_nil:=@List.append_nil
theorem Br:type_of%@Nat.le_succ:=@Nat.le_succ
theorem Bs:type_of%@Ne.symm:=@Ne.symm
theorem Bt:type_of%@Nat.add_sub_cancel_left:=@Nat.add_sub_cancel_left
theorem Bu:type_of%@List.map_nil:=@List.map_nil
theorem Bv:type_of%@List.length_pos_of_mem:=@List.length_pos_of_mem
theorem Bw:type_of%@Int.toNat_natCast:=@Int.toNat_natCast
theorem Bx:type_of%@List.length_cons:=@List.length_cons
theorem By:type_of%@List.append_assoc:=@List.append_assoc
theorem Bz:type_of%@List.drop_eq_nil_of_le:=@List.drop_eq_nil_of_le
theorem B0:type_of%@Array.all_eq_true_iff_forall_mem:=@Array.all_eq_true_iff_forall_mem
theorem B5:type_of%@List.getElem?_eq_none:=@List.getElem?_eq_none
theorem B6:type_of%@List.set_append_right:=@List.set_append_right
theorem B7:type_of%@Nat.add_sub_cancel:=@Nat.add_sub_cancel
theorem B8:type_of%@Nat.mul_one:=@Nat.mul_one
theorem CB:type_of%@decide_eq_true_eq:=@decide_eq_true_eq
theorem CE:type_of%@List.mem_cons:=@List.mem_cons
theorem CF:type_of%@Bool.and_eq_true:=@Bool.and_eq_true
theorem CH:type_of%@Go.World.frozen?_setCell:=@Go.World.frozen?_setCell
theorem CI:type_of%@List.setIfInBounds_toArray:=@List.setIfInBounds_toArray
theorem CJ:type_of%@Int.tmod_eq_emod_of_nonneg:=@Int.tmod_eq_emod_of_nonneg
theorem CK:type_of%@of_decide_eq_true:=@of_decide_eq_true
theorem CL:type_of%@Option.some.injEq:=@Option.some.injEq
theorem CM:type_of%@List.getElem?_map:=@List.getElem?_map
theorem CN:type_of%@Array.getElem?_eq_getElem:=@Array.getElem?_eq_getElem
theorem CO:type_of%@Classical.byContradiction:=@Classical.byContradiction
theorem CP:type_of%@List.getElem_of_mem:=@List.getElem_of_mem
theorem CQ:type_of%@Bool.not_true:=@Bool.not_true
theorem CT:type_of%@Option.some.inj:=@Option.some.inj
theorem CV:type_of%@List.mem_append:=@List.mem_append
theorem CW:type_of%@List.range_succ:=@List.range_succ
theorem CY:type_of%@Go.setRow_heap:=@Go.setRow_heap
theorem CZ:type_of%@List.flatten_cons:=@List.flatten_cons
theorem Ca:type_of%@List.not_mem_nil:=@List.not_mem_nil
theorem Cb:type_of%@List.flatten_nil:=@List.flatten_nil
abbrev Cc:Array UL:=#[UF false,UD UJ 0 0,UD UJ 0 0,UE .i64 0,UD UJ 0 0]
abbrev Cd:Array UL:=#[UD UJ 0 0,UD UJ 0 0,UE .i64 0,UF false]
abbrev Ce:Array UL:=#[UF false,UE UG 0,UE UG 0,UD UJ 0 0,UD UJ 0 0]
abbrev Cf:Array UL:=#[UD UJ 0 0,UD UJ 0 0,UE .i64 0,UD UJ 0 0]
abbrev Cg:Array UL:=#[UF false,UE UG 0,UE UG 0,UD UJ 0 0,UD UJ 0 0,UD UJ 0 0,UD UJ 0 0,UD UJ 0 0,UE .i64 0,UD UJ 0 0,UE UG 0]
abbrev Ci:Array UL:=#[UD UJ 0 0,UD UJ 0 0,UE .i64 0,UF false,UD UJ 0 0,UF false,UE UG 0,UE UG 0,UD UJ 0 0,UD UJ 0 0,UD UJ 0 0,UD UJ 0 0,UD UJ 0 0,UE .i64 0,UD UJ 0 0,UE UG 0]
abbrev Cj:Array UL:=#[UE UG 0,UE UG 0,UD UJ 0 0,UD UJ 0 0]
abbrev Ck:Array UL:=#[UE UH 0,UE UH 0,UE UH 0,UE UH 0,UE UH 0,UE UH 0,UE UH 0,UE UH 0,UE UH 0,UE UH 0,UE UH 0,UE UH 0,UE UH 0,UE UH 0,UE UH 0,UE UH 0,UE UH 0,UE UH 0,UE UH 0,UE UH 0,UE UH 0,UE UH 0,UE UH 0,UE UH 0,UE UH 0,UE UH 0,UE UH 0,UE UH 0,UE UH 0,UE UH 0,UE UH 0,UE UH 0]
abbrev Cl:Array UL:=#[UF false,UE UG 0,UE .i64 0,UE UG 0,UE UG 0]
abbrev Cm:Array UL:=#[UE .i64 10,UD UJ 0 0,UD UJ 0 0,UE .i64 0,UF false,UD UJ 0 0,UF false,UE UG 0,UE UG 0,UD UJ 0 0,UD UJ 0 0,UD UJ 0 0,UD UJ 0 0,UD UJ 0 0,UE .i64 0,UD UJ 0 0,UE UG 0]
abbrev Cn:Array UL:=#[UE .i64 12,UD UJ 0 0,UD UJ 0 0,UE .i64 0,UF false,UD UJ 0 0,UF false,UE UG 0,UE UG 0,UD UJ 0 0,UD UJ 0 0,UD UJ 0 0,UD UJ 0 0,UD UJ 0 0,UE .i64 0,UD UJ 0 0,UE UG 0]
abbrev Co:Array UL:=#[UE UG 0,UE .i64 0,UE UG 0,UE UG 0]
def At (k:IntKind) (w:UK) (a:Option Addr) (zs:List Int):Prop:=
 zs=[]\/∃ b off,a=UI ⟨b,off,UJ⟩/\b<w.heap.size/\∀ i,i<zs.length->w.cell? ⟨b,off+i,UJ⟩=UI (UE k (zs.getD i 0))
def Cu (zs:List Int):Prop:=∀ z∈zs,0<=z/\z<256
theorem Cu.get {zs:List Int} (h:Cu zs) (i:Nat):0<=zs.getD i 0/\zs.getD i 0<256:=by
 by_cases hi:i<zs.length
 ·rw[Ao,BK hi];exact h _ (Ba hi)
 ·rw[Ao,B5 AK];exact⟨AL,AL⟩
theorem At.get {k:IntKind} {w:UK} {a:Option Addr} {zs:List Int} (h:At k w a zs) (hz:0<zs.length) :
  ∃ b off,a=UI ⟨b,off,UJ⟩/\b<w.heap.size/\∀ i,i<zs.length->w.cell? ⟨b,off+i,UJ⟩=UI (UE k (zs.getD i 0)):=by
 rcases h with h|h
 ·simp[h] at hz
 ·exact h
theorem At.below {k:IntKind} {w w':UK} {a:Option Addr} {zs:List Int} (h:At k w a zs) (hb:Below w.heap.size w w'):At k w' a zs:=by
 rcases h with h|⟨b,off,rfl,hl,hc⟩
 ·exact .inl h
 ·exact .inr ⟨b,off,rfl,AG hb.size,λi hi=>by rw[hb.cell (p:=⟨b,off+i,UJ⟩) hl];exact hc i hi⟩
theorem DW {k:IntKind} {a b:Int} (h:a=b):Ending.returned (UE k a)=.returned (UE k b):=by rw[h]
theorem FQ (l:List Int) (k:Nat) (h:k<l.length):l.take (k+1)=l.take k++[l.getD k 0]:=by
 rw[BO h,Ao,BK h];rfl
/-! CRC-32 -/
theorem E5 (o:BinOp) (a b:Int):0<=bits o UG a b/\bits o UG a b<4294967296:=by
 have h:∀ n:Int,0<=IntKind.u32.wrap n/\IntKind.u32.wrap n<4294967296:=λn=>by rw[IntKind.wrap_u32];omega
 unfold bits;cases o<;>exact h _
def GT (c:Int):Int:=if c%2=1 then bits .xor UG (c/2) 3988292384 else c/2
def G5 (c:Int):Nat->Int
 |0=>c
 |k+1=>GT (G5 c k)
def M2 (c x:Int):Int:=G5 (bits .xor UG c x) 8
def GK (l:List Int):Int:=l.foldl M2 4294967295
def Gl (l:List Int):Int:=bits .xor UG (GK l) 4294967295
def D8 (c:Int):Prop:=0<=c/\c<4294967296
theorem QG {c:Int} (h:D8 c):D8 (GT c):=by
 unfold GT;split
 ·exact E5 _ _ _
 ·obtain⟨_,_⟩:=h;constructor<;>omega
theorem Jk {c:Int} (h:D8 c) (k:Nat):D8 (G5 c k):=by
 induction k with
 |zero=>exact h
 |succ k ih=>exact QG ih
theorem QH (c x:Int):D8 (M2 c x):=Jk (E5 _ _ _) 8
theorem JN (l:List Int) (x:Int):GK (l++[x])=M2 (GK l) x:=by simp[GK]
theorem ML (l:List Int):D8 (GK l):=by
 unfold GK
 suffices h:∀(l:List Int) (c:Int),D8 c->D8 (l.foldl M2 c) from h l _ ⟨AL,AL⟩
 intro l
 induction l with
 |nil=>intro c h;exact h
 |cons x l ih=>intro c h;exact ih _ (QH c x)
theorem IE (l:List Int):D8 (Gl l):=E5 _ _ _
theorem St {c:Int} (h:D8 c):bits .and UG c 1=c%2:=by
 obtain⟨h0,h1⟩:=h;obtain⟨n,rfl⟩:=Ai h0;have:=u32_and_nat n 1 AK AL;rw[show((1:Int))=((1:Nat):Int) from rfl,this,nat_mask1];simp
def DP (w:UK) (g:Nat) (e:TypeId) (zs:List Int):Prop:=w.heap[g]?=UI (.cells (zs.map (Value.int UH)).toArray e (0,0))
structure Wr (g:Nat) (w w':UK):Prop where
 os:w'.os=w.os
 tape:w'.tape=w.tape
 output:w'.output=w.output
 size:w'.heap.size=w.heap.size
 block:∀ k,k≠g->w'.heap[k]?=w.heap[k]?
theorem Wr.refl (g:Nat) (w:UK):Wr g w w:=⟨rfl,rfl,rfl,rfl,λ_ _=>rfl⟩
theorem Wr.trans {g:Nat} {a b c:UK} (h:Wr g a b) (k:Wr g b c):Wr g a c:=
 ⟨k.os.trans h.os,k.tape.trans h.tape,k.output.trans h.output,k.size.trans h.size,λi hi=>(k.block i hi).trans (h.block i hi)⟩
theorem Wr.setCell {g:Nat} {a w:UK} (h:Wr g a w) (o:Nat) (u:UL):Wr g a (w.setCell ⟨g,o,UJ⟩ u):=
 h.trans ⟨rfl,rfl,rfl,by simp[World.setCell],λk hk=>Ah w _ k u hk⟩
theorem Wr.setRow (g:Nat) (w:UK) (cs:Array UL):Wr g w (w.setRow g cs):=⟨rfl,rfl,rfl,BP w g cs,λk hk=>setRow_other w g k cs hk⟩
theorem Wr.drewN {g:Nat} {a w:UK} (h:Wr g a w) (n:Nat):Wr g a (w.drewN n):=⟨h.os,h.tape,h.output,h.size,h.block⟩
theorem Wr.drew {g:Nat} {a w:UK} (h:Wr g a w):Wr g a w.drew:=⟨h.os,h.tape,h.output,h.size,h.block⟩
theorem Wr.below {g B:Nat} {w w':UK} (h:Wr g w w') (hB:B<=g):Below B w w':=⟨h.os,h.tape,h.output,by rw[h.size];exact AY _,λk hk=>h.block k AK⟩
theorem Wr.row {g g':Nat} {w w':UK} {e:TypeId} {zs:List Int} (h:Wr g w w') (hr:DP w g' e zs) (hg:g'≠g):DP w' g' e zs:=by
 unfold DP;rw[h.block g' hg];exact hr
theorem DP.lt {w:UK} {g:Nat} {e:TypeId} {zs:List Int} (h:DP w g e zs):g<w.heap.size:=(AQ.1 h).1
theorem DP.cell {w:UK} {g:Nat} {e:TypeId} {zs:List Int} (h:DP w g e zs) (i:Nat) (hi:i<zs.length):w.cell? ⟨g,i,UJ⟩=UI (UE UH (zs.getD i 0)):=by
 rw[Bg w g i _ e _ h];simp[hi]
theorem DP.frozen {w:UK} {g:Nat} {e:TypeId} {zs:List Int} (h:DP w g e zs) (i:Nat):w.frozen? ⟨g,i,UJ⟩=false:=Ag w g i _ e h
theorem DP.set {w:UK} {g:Nat} {e:TypeId} {zs:List Int} (h:DP w g e zs) (i:Nat) (x:Int):DP (w.setCell ⟨g,i,UJ⟩ (UE UH x)) g e (zs.set i x):=by
 unfold DP;rw[A9 w g i _ e _ h];simp[List.map_set]
theorem DP.drew {w:UK} {g:Nat} {e:TypeId} {zs:List Int} (h:DP w g e zs):DP w.drew g e zs:=h
theorem DP.at_ {w:UK} {g:Nat} {e:TypeId} {zs:List Int} (h:DP w g e zs):At UH w (UI ⟨g,0,UJ⟩) zs:=
 .inr ⟨g,0,rfl,h.lt,λi hi=>by rw[Ak];exact h.cell i hi⟩
theorem DP.atTake {w:UK} {g:Nat} {e:TypeId} {zs:List Int} (h:DP w g e zs) (n:Nat):At UH w (UI ⟨g,0,UJ⟩) (zs.take n):=
 .inr ⟨g,0,rfl,h.lt,λi hi=>by
  have hi':i<n/\i<zs.length:=by simp at hi;omega
  rw[Ak,h.cell i hi'.2];simp[List.getD,hi'.1]⟩
structure DJ (w w':UK):Prop where
 size:w.heap.size<=w'.heap.size
 cell:∀ a:Addr,a.block<w.heap.size->w'.cell? a=w.cell? a
 block:∀(b:Nat) (cs:Array UL) (t:TypeId) (fr:Nat×Nat),w.heap[b]?=UI (Obj.cells cs t fr)->∃ fr':Nat×Nat,w'.heap[b]?=UI (Obj.cells cs t fr')
theorem DJ.refl (w:UK):DJ w w:=⟨AY _,λ_ _=>rfl,λb cs t fr h=>⟨fr,h⟩⟩
theorem DJ.of_below {w w':UK} (h:Below w.heap.size w w'):DJ w w':=
 ⟨h.size,λa ha=>h.cell ha,λb cs t fr hb=>⟨fr,by rw[h.block b (AQ.1 hb).1];exact hb⟩⟩
def Cr (u:Nat->UL) (i:Nat) (v:UL):Nat->UL:=λj=>if j=i then v else u j
theorem Ew (l:List Bool):∀ i,l[i]?=UI false->((l.set i true).filter (!·)).length+1=(l.filter (!·)).length:=by
 induction l with
 |nil=>intro i h;simp at h
 |cons b l ih=>
  intro i h;cases i with
  |zero=>simp at h;subst h;simp
  |succ i=>
   have:=ih i (by simpa using h);cases b<;>simp at this |-<;>omega
theorem DZ (l:Array Bool) (i j:Nat) (hi:i<l.size):(l.setIfInBounds i true).getD j false=if j=i then true else l.getD j false:=by
 by_cases h:j=i
 ·subst h;simp[hi]
 ·simp[h,Ne.symm h]
section
variable {P:Program} {ops:Array Oper} {Q:Exit->Act->UK->Prop} {md:Region.Mode}
theorem DM {listed:Array Bool} {i:Nat}:i∈Region.ready md ops listed↔i<ops.size/\listed.getD i true=false/\∃ o,ops[i]?=UI o/\∀ e∈o.after,Region.binds md e=true->listed.getD e.on false=true:=by
 unfold Region.ready;simp only[List.mem_filter,List.mem_range,Bool.and_eq_true,Bool.not_eq_true'];constructor
 ·rintro⟨h1,h2,h3⟩;refine⟨h1,h2,?_⟩;cases ho:ops[i]? with
  |none=>simp[ho] at h3
  |some o=>
   refine⟨o,rfl,λe he hb=>?_⟩;simp[ho] at h3;rcases Bf.1 he with⟨k,hk,rfl⟩
   have:=h3 k hk;simp[hb] at this;simpa using this
 ·rintro⟨h1,h2,o,ho,h3⟩;refine⟨h1,h2,?_⟩;simp[ho];intro k hk;by_cases hb:Region.binds md o.after[k]=true
  ·right;simpa using h3 _ (Array.getElem_mem hk) hb
  ·left;simpa using hb
theorem Hd (M:UK->UK->Prop) (frame:(Nat->UL)->Act) (Ext:UK->Prop) (Good:Nat->UK->UL->Prop)
  (hmono:∀ i w w' v,M w w'->Good i w v->Good i w' v)
  (hguard:ops.all (λo=>o.guard.isNone)=true)
  (hback:(List.range ops.size).all (λi=>((ops[i]?).map (λo=>o.after.all (λe=>decide (e.on<i)))).getD false)=true)
  (hop:∀(i:Nat) (o:Oper) (u:Nat->UL) (w:UK),ops[i]?=UI o->Ext w->(∀ e∈o.after,Region.binds md e=true->Good e.on w (u e.on))->
   ∀ K:Act->UK->Prop,(∀ w' v,Good i w' v->Ext w'->M w w'->K (frame (Cr u i v)) w')->Oper.wp P o (frame u) w K Q)
  (hdone:∀ u w,Ext w->(∀ i,i<ops.size->Good i w (u i))->Q .normal (frame u) w) :
  ∀(fuel:Nat) (listed:Array Bool) (u:Nat->UL) (w:UK),listed.size=ops.size->Ext w->(∀ i,i<ops.size->listed.getD i false=true->Good i w (u i))->
   (listed.toList.filter (!·)).length<=fuel->wpAny P md ops Q fuel listed (frame u) w:=by
 have hb:∀(i:Nat) (o:Oper),ops[i]?=UI o->∀ e∈o.after,e.on<i:=λi o ho e he=>by
  have hi:i<ops.size:=(AQ.1 ho).1;have:=BM.1 hback i (BV.2 hi);rw[ho] at this;simp at this;obtain⟨k,hk,rfl⟩:=Bf.1 he;exact this k hk
 have hg:∀(i:Nat) (o:Oper),ops[i]?=UI o->o.guard=none:=λi o ho=>by
  have:=B0.1 hguard o (Array.mem_of_getElem? ho);simpa using this
 have hfin:∀(listed:Array Bool) (u:Nat->UL) (w:UK),listed.size=ops.size->Ext w->(∀ i,i<ops.size->listed.getD i false=true->Good i w (u i))->Region.ready md ops listed=[]->Q .normal (frame u) w:=by
  intro listed u w hs he hgd hr;refine hdone u w he λi hi=>hgd i hi ?_
  have hall:∀ n i,i<n->i<ops.size->listed.getD i false=true:=by
   intro n
   induction n with
   |zero=>intro i h;omega
   |succ n ih=>
    intro i hin hi;by_cases hlt:i<n
    ·exact ih i hlt hi
    ·cases hl:listed.getD i false with
     |true=>rfl
     |false=>
      exfalso
      have hl':listed.getD i true=false:=by
       have hil:i<listed.size:=AK
       simp[hil] at hl |-;exact hl
      have:i∈Region.ready md ops listed:=DM.2 ⟨hi,hl',ops[i],by simp[hi],λe hee _=>ih e.on (by have:=hb i ops[i] (by simp[hi]) e hee;omega) (by have:=hb i ops[i] (by simp[hi]) e hee;omega)⟩;rw[hr] at this;cases this
  exact hall (i+1) i AK hi
 intro fuel
 induction fuel with
 |zero=>
  intro listed u w hs he hgd hc;have hr:Region.ready md ops listed=[]:=by
   apply BW.2;intro i hi;obtain⟨h1,h2,_⟩:=DM.1 hi;have hil:i<listed.size:=AK
   have h3:listed[i]=false:=by simpa[hil] using h2
   have:listed[i]∈listed.toList.filter (!·):=by
    rw[Bp];exact⟨AM,by rw[h3];rfl⟩
   have:=Bv this;omega
  exact⟨hr,hfin listed u w hs he hgd hr⟩
 |succ fuel ih=>
  intro listed u w hs he hgd hc;refine⟨λhr=>hfin listed u w hs he hgd hr,λi hi=>?_⟩;obtain⟨h1,h2,o,ho,h3⟩:=DM.1 hi;refine wpOp_step ho λK hK=>?_
  have hw:Region.wanted o (yielded ops (frame u).tmps)=true:=by simp[Region.wanted,hg i o ho]
  rw[AR hw];refine hop i o u w ho he (λe hee hbd=>hgd e.on (AG (hb i o ho e hee)) (h3 e hee hbd)) K λw' v hgv hext hm=>hK _ _ ?_
  have hil:i<listed.size:=AK
  refine ih _ _ w' (by simpa using hs) hext (λj hj hlj=>?_) ?_
  ·rw[DZ listed i j hil] at hlj;unfold Cr;by_cases hji:j=i
   ·subst hji;simpa using hgv
   ·rw[AS hji] at hlj;rw[AS hji];exact hmono j w w' _ hm (hgd j hj hlj)
  ·have:listed.toList[i]?=UI false:=by simp[hil] at h2;simp[hil,h2]
   have:=Ew listed.toList i this;rw[Bh];omega
theorem GU (frame:(Nat->UL)->Act) (Ext:UK->Prop) (Good:Nat->UK->UL->Prop)
  (hmono:∀ i w w' v,DJ w w'->Good i w v->Good i w' v)
  (hguard:ops.all (λo=>o.guard.isNone)=true)
  (hback:(List.range ops.size).all (λi=>((ops[i]?).map (λo=>o.after.all (λe=>decide (e.on<i)))).getD false)=true)
  (hop:∀(i:Nat) (o:Oper) (u:Nat->UL) (w:UK),ops[i]?=UI o->Ext w->(∀ e∈o.after,Region.binds md e=true->Good e.on w (u e.on))->
   ∀ K:Act->UK->Prop,(∀ w' v,Good i w' v->Ext w'->DJ w w'->K (frame (Cr u i v)) w')->Oper.wp P o (frame u) w K Q)
  (hdone:∀ u w,Ext w->(∀ i,i<ops.size->Good i w (u i))->Q .normal (frame u) w) :
  ∀(fuel:Nat) (listed:Array Bool) (u:Nat->UL) (w:UK),listed.size=ops.size->Ext w->(∀ i,i<ops.size->listed.getD i false=true->Good i w (u i))->
   (listed.toList.filter (!·)).length<=fuel->wpAny P md ops Q fuel listed (frame u) w:=
 Hd DJ frame Ext Good hmono hguard hback hop hdone
end
theorem Tryz.infoU8':(Tryz.prog.info? 5).map (λi=>(i.zero,i.size,i.bytes))=UI (UI (UE UH 0),1,1):=AN
def Cy (w:UK) (v:UL) (zs:List Int):Prop:=
 ∃ b o c,v=UD (UI ⟨b,o,UJ⟩) zs.length c/\b<w.heap.size/\∀ i,i<zs.length->w.cell? ⟨b,o+i,UJ⟩=UI (UE UH (zs.getD i 0))
def DT (w:UK) (B:Nat) (v:UL) (zs:List Int):Prop:=
 w.ownsRow B 5 1 v zs.length (zs.map (Value.int UH))/\∃ g c,v=UD (UI ⟨g,0,UJ⟩) zs.length c
theorem DT.base {w:UK} {B:Nat} {v:UL} {zs:List Int} (h:DT w B v zs):∃ g c,v=UD (UI ⟨g,0,UJ⟩) zs.length c/\B<=g/\g<w.heap.size/\zs.length<=c:=by
 obtain⟨h,g,c,rfl⟩:=h;rcases h.2 with⟨h',_⟩|⟨g',c',cur,h',hb,hh,hc,_⟩
 ·cases h'
 ·cases h';exact⟨g,c,rfl,hb,(AQ.1 hh).1,hc⟩
theorem DT.part {w:UK} {B:Nat} {v:UL} {zs:List Int} (h:DT w B v zs):Cy w v zs:=by
 obtain⟨g,c,rfl,hb,hg,hc⟩:=h.base;refine⟨g,0,c,rfl,hg,λi hi=>?_⟩;rw[Ak,h.1.cellAt i AK];simp[hi]
theorem Cy.below {w w':UK} {v:UL} {zs:List Int} (h:Cy w v zs) (hb:Below w.heap.size w w'):Cy w' v zs:=by
 obtain⟨b,o,c,rfl,hl,hc⟩:=h;exact⟨b,o,c,rfl,AG hb.size,λi hi=>by rw[hb.cell (p:=⟨b,o+i,UJ⟩) hl];exact hc i hi⟩
theorem DT.empty (w:UK) (B:Nat) (hB:B<=w.heap.size):DT (w.alloc (.cells #[] 5)) B (UD (UI ⟨w.heap.size,0,UJ⟩) 0 0) []:=
 ⟨World.ownsRow_lit w #[] 0 hB AM AM,_,_,rfl⟩
theorem DT.alloc {w:UK} {B:Nat} {v:UL} {zs:List Int} (h:DT w B v zs) (o:Obj):DT (w.alloc o) B v zs:=⟨h.1.alloc _,h.2⟩
theorem Dh (w:UK) {ops:Array Oper} {rest:List Oper} {o:Oper} {a:Act} {Q:Exit->Act->UK->Prop}
  (hg:o.guard=UJ) (s x:Operand) (hop:o.op=Op.call { callee:=Callee.builtin Builtin.append,args:=#[s,x],argTypes:=#[22,22] })
  (B:Nat) (v:UL) (xs:List Int) (hs:a.eval s=v) (hown:DT w B v xs) (ad:Addr) (m c:Nat) (news:List Int) (hx:a.eval x=UD (UI ad) m c) (hl:news.length=m)
  (hnews:∀ j,j<m->w.cell? (ad.add j)=UI (UE UH (news.getD j 0))) (hb:xs.length+m<=1099511627776) (hB:B<=w.heap.size)
  (hK:∀ v' w',DT w' B v' (xs++news)->Below B w w'->w.grownBy w' v.ownBlock->wpList Tryz.prog ops Q rest (a.put o.dst v') w') :
  wpList Tryz.prog ops Q (o::rest) a w:=by
 obtain⟨i0,hi,hz0,hz1,hz2⟩:=Be Tryz.infoU8';have hbase:=hown.base;refine wpList_append_own w hg s x 22 hop B 5 i0 (UE UH 0) 1 1 Tryz.underlying22 hi hz0 hz1 hz2 rfl AL v xs.length _ hs hown.1 ad m c (news.map (Value.int UH)) hx (by simp[hl]) ?_ (Bb _ _) (by unfold maxLen;omega) AK hB ?_
 ·intro j u hu;have hj:j<news.length:=by have:=(Af.1 hu).1;simpa using this
  rw[hnews j AK];simp[hj] at hu;simp[hj,hu]
 ·intro v' w' h1 h2 h3;obtain⟨g,c0,hv,hBg,_,_⟩:=hbase;have hbel:Below B w w':=Cs.grown h2 hB (λk hk=>by rw[hv] at hk;simp[Value.ownBlock] at hk;omega);refine hK v' w' ⟨?_,?_⟩ hbel h2
  ·rw[BY,Al,hl];exact h1
  ·rcases h1.2 with⟨h',_⟩|⟨g',c',cur,h',_⟩
   ·exact absurd (h3.1 h').1 (by rw[hv];simp)
   ·exact⟨g',c',by rw[h',Al,hl]⟩
section
variable {P:Program} {ops:Array Oper} {Q:Exit->Act->UK->Prop} {md:Region.Mode}
theorem EO (frame:(Nat->UL)->Act) (Ext:UK->Prop) (Good:Nat->UK->(Nat->UL)->Prop) (M:Nat->UK->UK->Prop)
  (hstab:∀ j o w w' u i v,ops[j]?=UI o->M i w w'->i≠j->(∀ e∈o.after,Region.binds md e=true->e.on≠i)->Good j w u->Good j w' (Cr u i v))
  (hback:(List.range ops.size).all (λi=>((ops[i]?).map (λo=>o.after.all (λe=>decide (e.on<i)))).getD false)=true)
  (hop:∀(i:Nat) (o:Oper) (u:Nat->UL) (w:UK),ops[i]?=UI o->Ext w->(∀ e∈o.after,Region.binds md e=true->Good e.on w u)->
   ∀ K:Act->UK->Prop,(∀ w' v,Good i w' (Cr u i v)->Ext w'->M i w w'->K (frame (Cr u i v)) w')->if Region.wanted o (yielded ops (frame u).tmps)=true then Oper.wp P o (frame u) w K Q else K ((frame u).put o.dst undef) w)
  (hdone:∀ u w,Ext w->(∀ i,i<ops.size->Good i w u)->Q .normal (frame u) w) :
  ∀(fuel:Nat) (listed:Array Bool) (u:Nat->UL) (w:UK),listed.size=ops.size->Ext w->(∀ i,i<ops.size->listed.getD i false=true->Good i w u)->
   (∀(i:Nat) (o:Oper),ops[i]?=UI o->listed.getD i false=true->∀ e∈o.after,Region.binds md e=true->listed.getD e.on false=true)->(listed.toList.filter (!·)).length<=fuel->wpAny P md ops Q fuel listed (frame u) w:=by
 have hb:∀(i:Nat) (o:Oper),ops[i]?=UI o->∀ e∈o.after,e.on<i:=λi o ho e he=>by
  have hi:i<ops.size:=(AQ.1 ho).1;have:=BM.1 hback i (BV.2 hi);rw[ho] at this;simp at this;obtain⟨k,hk,rfl⟩:=Bf.1 he;exact this k hk
 have hfin:∀(listed:Array Bool) (u:Nat->UL) (w:UK),listed.size=ops.size->Ext w->(∀ i,i<ops.size->listed.getD i false=true->Good i w u)->Region.ready md ops listed=[]->Q .normal (frame u) w:=by
  intro listed u w hs he hgd hr;refine hdone u w he λi hi=>hgd i hi ?_
  have hall:∀ n i,i<n->i<ops.size->listed.getD i false=true:=by
   intro n
   induction n with
   |zero=>intro i h;omega
   |succ n ih=>
    intro i hin hi;by_cases hlt:i<n
    ·exact ih i hlt hi
    ·cases hl:listed.getD i false with
     |true=>rfl
     |false=>
      exfalso
      have hl':listed.getD i true=false:=by
       have hil:i<listed.size:=AK
       simp[hil] at hl |-;exact hl
      have:i∈Region.ready md ops listed:=DM.2 ⟨hi,hl',ops[i],by simp[hi],λe hee _=>ih e.on (by have:=hb i ops[i] (by simp[hi]) e hee;omega) (by have:=hb i ops[i] (by simp[hi]) e hee;omega)⟩;rw[hr] at this;cases this
  exact hall (i+1) i AK hi
 intro fuel
 induction fuel with
 |zero=>
  intro listed u w hs he hgd hcl hc;have hr:Region.ready md ops listed=[]:=by
   apply BW.2;intro i hi;obtain⟨h1,h2,_⟩:=DM.1 hi;have hil:i<listed.size:=AK
   have h3:listed[i]=false:=by simpa[hil] using h2
   have:listed[i]∈listed.toList.filter (!·):=by
    rw[Bp];exact⟨AM,by rw[h3];rfl⟩
   have:=Bv this;omega
  exact⟨hr,hfin listed u w hs he hgd hr⟩
 |succ fuel ih=>
  intro listed u w hs he hgd hcl hc;refine⟨λhr=>hfin listed u w hs he hgd hr,λi hi=>?_⟩;obtain⟨h1,h2,o,ho,h3⟩:=DM.1 hi;refine wpOp_step ho λK hK=>?_
  refine hop i o u w ho he (λe hee hbd=>hgd e.on (AG (hb i o ho e hee)) (h3 e hee hbd)) K λw' v hgv hext hm=>hK _ _ ?_
  have hil:i<listed.size:=AK
  have hnl:listed.getD i false=false:=by simp[hil] at h2 |-;exact h2
  refine ih _ _ w' (by simpa using hs) hext (λj hj hlj=>?_) (λj oj hoj hlj e hee hbd=>?_) ?_
  ·rw[DZ listed i j hil] at hlj;by_cases hji:j=i
   ·subst hji;exact hgv
   ·rw[AS hji] at hlj;exact hstab j ops[j] w w' u i v (by simp[hj]) hm (Bs hji) (λe hee hbd heq=>by
     have:=hcl j ops[j] (by simp[hj]) hlj e hee hbd;rw[heq,hnl] at this;cases this) (hgd j hj hlj)
  ·rw[DZ listed i e.on hil];rw[DZ listed i j hil] at hlj;split
   ·rfl
   ·by_cases hji:j=i
    ·subst hji;have:oj=o:=by rw[ho] at hoj;exact(CT hoj).symm
     subst this;exact h3 e hee hbd
    ·rw[AS hji] at hlj;exact hcl j oj hoj hlj e hee hbd
  ·have:listed.toList[i]?=UI false:=by simp[hil] at h2;simp[hil,h2]
   have:=Ew listed.toList i this;rw[Bh];omega
end
end Go.Proofs.YthmeoilbmfdhfaaGreat
