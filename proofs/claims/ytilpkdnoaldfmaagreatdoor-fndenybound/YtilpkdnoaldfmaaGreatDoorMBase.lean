import Derived.Test.YtilpkdnoaldfmaaGreatDoorRows
import Derived.WalkKit
import Derived.ProofKit
import Derived.OpenShut
import Derived.ShutString
import Derived.ChangeOld
import Derived.Below
import Derived.WalkSpells
import Derived.Deep.QuietTactic
import Derived.BigQuiet
import Derived.Deep.AppendLies
import Derived.RegionTactic
import Derived.Deep.MidRow
import Derived.Laws.CopyOwn
namespace Go.Proofs.YtilpkdnoaldfmaaGreatDoor
open Go.ChangeShapes Go.WideShapes Go.ChangeAt Go.RowKit
set_option linter.unusedVariables false
def At (k:IntKind) (w:World) (a:Option Addr) (zs:List Int):Prop:=
 zs=[]∨∃ b off,a=some ⟨b,off,none⟩∧b<w.heap.size∧∀ i,i<zs.length→w.cell? ⟨b,off+i,none⟩=some (.int k (zs.getD i 0))
def Byte (zs:List Int):Prop:=∀ z∈zs,0≤z∧z<256
theorem Byte.get {zs:List Int} (h:Byte zs) (i:Nat):0≤zs.getD i 0∧zs.getD i 0<256:=by
 by_cases hi:i<zs.length
 ·rw[List.getD_eq_getElem?_getD,List.getElem?_eq_getElem hi];exact h _ (List.getElem_mem hi)
 ·rw[List.getD_eq_getElem?_getD,List.getElem?_eq_none (by omega)];exact⟨by decide,by decide⟩
theorem At.get {k:IntKind} {w:World} {a:Option Addr} {zs:List Int} (h:At k w a zs) (hz:0<zs.length) :
  ∃ b off,a=some ⟨b,off,none⟩∧b<w.heap.size∧∀ i,i<zs.length→w.cell? ⟨b,off+i,none⟩=some (.int k (zs.getD i 0)):=by
 rcases h with h|h
 ·simp[h] at hz
 ·exact h
theorem At.below {k:IntKind} {w w':World} {a:Option Addr} {zs:List Int} (h:At k w a zs) (hb:Below w.heap.size w w'):At k w' a zs:=by
 rcases h with h|⟨b,off,rfl,hl,hc⟩
 ·exact .inl h
 ·exact .inr ⟨b,off,rfl,by have:=hb.size;omega,fun i hi=>by rw[hb.cell (p:=⟨b,off+i,none⟩) hl];exact hc i hi⟩
theorem ret_int {k:IntKind} {a b:Int} (h:a=b):Ending.returned (.int k a)=.returned (.int k b):=by rw[h]
theorem take_snoc (l:List Int) (k:Nat) (h:k<l.length):l.take (k+1)=l.take k++[l.getD k 0]:=by
 rw[List.take_succ_eq_append_getElem h,List.getD_eq_getElem?_getD,List.getElem?_eq_getElem h];rfl
/-! CRC-32 -/
theorem bits_u32_bd (o:BinOp) (a b:Int):0≤bits o .u32 a b∧bits o .u32 a b<4294967296:=by
 have h:∀ n:Int,0≤IntKind.u32.wrap n∧IntKind.u32.wrap n<4294967296:=fun n=>by rw[IntKind.wrap_u32];omega
 unfold bits;cases o<;>exact h _
def bit1 (c:Int):Int:=if c%2=1 then bits .xor .u32 (c/2) 3988292384 else c/2
def bitN (c:Int):Nat→Int
 |0=>c
 |k+1=>bit1 (bitN c k)
def crcS (c x:Int):Int:=bitN (bits .xor .u32 c x) 8
def crcF (l:List Int):Int:=l.foldl crcS 4294967295
def crc (l:List Int):Int:=bits .xor .u32 (crcF l) 4294967295
def U32 (c:Int):Prop:=0≤c∧c<4294967296
theorem bit1_bd {c:Int} (h:U32 c):U32 (bit1 c):=by
 unfold bit1;split
 ·exact bits_u32_bd _ _ _
 ·obtain⟨_,_⟩:=h;constructor<;>omega
theorem bitN_bd {c:Int} (h:U32 c) (k:Nat):U32 (bitN c k):=by
 induction k with
 |zero=>exact h
 |succ k ih=>exact bit1_bd ih
theorem crcS_bd (c x:Int):U32 (crcS c x):=bitN_bd (bits_u32_bd _ _ _) 8
theorem crcF_snoc (l:List Int) (x:Int):crcF (l++[x])=crcS (crcF l) x:=by simp[crcF]
theorem crcF_bd (l:List Int):U32 (crcF l):=by
 unfold crcF
 suffices h:∀(l:List Int) (c:Int),U32 c→U32 (l.foldl crcS c) from h l _ ⟨by decide,by decide⟩
 intro l
 induction l with
 |nil=>intro c h;exact h
 |cons x l ih=>intro c h;exact ih _ (crcS_bd c x)
theorem crc_bd (l:List Int):U32 (crc l):=bits_u32_bd _ _ _
theorem and1 {c:Int} (h:U32 c):bits .and .u32 c 1=c%2:=by
 obtain⟨h0,h1⟩:=h;obtain⟨n,rfl⟩:=Int.eq_ofNat_of_zero_le h0;have:=u32_and_nat n 1 (by omega) (by decide);rw[show((1:Int))=((1:Nat):Int) from rfl,this,nat_mask1];simp
def Open (w:World) (a:Option Addr) (n:Nat):Prop:=
 n=0∨∃ g o,a=some ⟨g,o,none⟩∧g<w.heap.size∧∀ i,i<n→(w.cell? ⟨g,o+i,none⟩).isSome=true∧w.frozen? ⟨g,o+i,none⟩=false
theorem Open.below {w w':World} {a:Option Addr} {n:Nat} (h:Open w a n) (hb:Below w.heap.size w w'):Open w' a n:=by
 rcases h with h|⟨g,o,h1,h2,h3⟩
 ·exact .inl h
 ·exact .inr ⟨g,o,h1,by have:=hb.size;omega,fun i hi=>by rw[hb.cell (p:=⟨g,o+i,none⟩) h2,hb.frozen (p:=⟨g,o+i,none⟩) h2];exact h3 i hi⟩
theorem Tryz.infoU8:(Tryz.prog.info? 5).map (fun i=>(i.zero,i.size,i.bytes))=some (some (.int .u8 0),1,1):=by kernel_rfl
def cp (zs:List Int) (k:Nat):List Int:=zs.take k++List.replicate (zs.length-k) 0
def Row (w:World) (g:Nat) (e:TypeId) (zs:List Int):Prop:=w.heap[g]?=some (.cells (zs.map (Value.int .u8)).toArray e (0,0))
structure Wr (g:Nat) (w w':World):Prop where
 os:w'.os=w.os
 tape:w'.tape=w.tape
 output:w'.output=w.output
 size:w'.heap.size=w.heap.size
 block:∀ k,k≠g→w'.heap[k]?=w.heap[k]?
theorem Wr.refl (g:Nat) (w:World):Wr g w w:=⟨rfl,rfl,rfl,rfl,fun _ _=>rfl⟩
theorem Wr.trans {g:Nat} {a b c:World} (h:Wr g a b) (k:Wr g b c):Wr g a c:=
 ⟨k.os.trans h.os,k.tape.trans h.tape,k.output.trans h.output,k.size.trans h.size,fun i hi=>(k.block i hi).trans (h.block i hi)⟩
theorem Wr.setCell {g:Nat} {a w:World} (h:Wr g a w) (o:Nat) (u:Value):Wr g a (w.setCell ⟨g,o,none⟩ u):=
 h.trans ⟨rfl,rfl,rfl,by simp[World.setCell],fun k hk=>heap_setCell_other w _ k u hk⟩
theorem Wr.setRow (g:Nat) (w:World) (cs:Array Value):Wr g w (w.setRow g cs):=⟨rfl,rfl,rfl,size_setRow w g cs,fun k hk=>setRow_other w g k cs hk⟩
theorem Wr.drewN {g:Nat} {a w:World} (h:Wr g a w) (n:Nat):Wr g a (w.drewN n):=⟨h.os,h.tape,h.output,h.size,h.block⟩
theorem Wr.drew {g:Nat} {a w:World} (h:Wr g a w):Wr g a w.drew:=⟨h.os,h.tape,h.output,h.size,h.block⟩
theorem Wr.below {g B:Nat} {w w':World} (h:Wr g w w') (hB:B≤g):Below B w w':=⟨h.os,h.tape,h.output,by rw[h.size];exact Nat.le_refl _,fun k hk=>h.block k (by omega)⟩
theorem Wr.row {g g':Nat} {w w':World} {e:TypeId} {zs:List Int} (h:Wr g w w') (hr:Row w g' e zs) (hg:g'≠g):Row w' g' e zs:=by
 unfold Row;rw[h.block g' hg];exact hr
theorem Row.lt {w:World} {g:Nat} {e:TypeId} {zs:List Int} (h:Row w g e zs):g<w.heap.size:=(Array.getElem?_eq_some_iff.1 h).1
theorem Row.cell {w:World} {g:Nat} {e:TypeId} {zs:List Int} (h:Row w g e zs) (i:Nat) (hi:i<zs.length):w.cell? ⟨g,i,none⟩=some (.int .u8 (zs.getD i 0)):=by
 rw[cell_of_row w g i _ e _ h];simp[hi]
theorem Row.frozen {w:World} {g:Nat} {e:TypeId} {zs:List Int} (h:Row w g e zs) (i:Nat):w.frozen? ⟨g,i,none⟩=false:=frozen_of_row w g i _ e h
theorem Row.set {w:World} {g:Nat} {e:TypeId} {zs:List Int} (h:Row w g e zs) (i:Nat) (x:Int):Row (w.setCell ⟨g,i,none⟩ (.int .u8 x)) g e (zs.set i x):=by
 unfold Row;rw[heap_setCell_same w g i _ e _ h];simp[List.map_set]
theorem Row.drew {w:World} {g:Nat} {e:TypeId} {zs:List Int} (h:Row w g e zs):Row w.drew g e zs:=h
theorem Row.at_ {w:World} {g:Nat} {e:TypeId} {zs:List Int} (h:Row w g e zs):At .u8 w (some ⟨g,0,none⟩) zs:=
 .inr ⟨g,0,rfl,h.lt,fun i hi=>by rw[Nat.zero_add];exact h.cell i hi⟩
theorem Row.atTake {w:World} {g:Nat} {e:TypeId} {zs:List Int} (h:Row w g e zs) (n:Nat):At .u8 w (some ⟨g,0,none⟩) (zs.take n):=
 .inr ⟨g,0,rfl,h.lt,fun i hi=>by
  have hi':i<n∧i<zs.length:=by simp at hi;omega
  rw[Nat.zero_add,h.cell i hi'.2];simp[List.getD,hi'.1]⟩
theorem Tryz.infoU8':(Tryz.prog.info? 5).map (fun i=>(i.zero,i.size,i.bytes))=some (some (.int .u8 0),1,1):=by kernel_rfl
def Part (w:World) (v:Value) (zs:List Int):Prop:=
 ∃ b o c,v=.slice (some ⟨b,o,none⟩) zs.length c∧b<w.heap.size∧∀ i,i<zs.length→w.cell? ⟨b,o+i,none⟩=some (.int .u8 (zs.getD i 0))
def Own (w:World) (B:Nat) (v:Value) (zs:List Int):Prop:=
 w.ownsRow B 5 1 v zs.length (zs.map (Value.int .u8))∧∃ g c,v=.slice (some ⟨g,0,none⟩) zs.length c
theorem Own.base {w:World} {B:Nat} {v:Value} {zs:List Int} (h:Own w B v zs):∃ g c,v=.slice (some ⟨g,0,none⟩) zs.length c∧B≤g∧g<w.heap.size∧zs.length≤c:=by
 obtain⟨h,g,c,rfl⟩:=h;rcases h.2 with⟨h',_⟩|⟨g',c',cur,h',hb,hh,hc,_⟩
 ·cases h'
 ·cases h';exact⟨g,c,rfl,hb,(Array.getElem?_eq_some_iff.1 hh).1,hc⟩
theorem Own.part {w:World} {B:Nat} {v:Value} {zs:List Int} (h:Own w B v zs):Part w v zs:=by
 obtain⟨g,c,rfl,hb,hg,hc⟩:=h.base;refine⟨g,0,c,rfl,hg,fun i hi=>?_⟩;rw[Nat.zero_add,h.1.cellAt i (by omega)];simp[hi]
theorem Own.empty (w:World) (B:Nat) (hB:B≤w.heap.size):Own (w.alloc (.cells #[] 5)) B (.slice (some ⟨w.heap.size,0,none⟩) 0 0) []:=
 ⟨World.ownsRow_lit w #[] 0 hB (by simp) (by simp),_,_,rfl⟩
theorem Own.alloc {w:World} {B:Nat} {v:Value} {zs:List Int} (h:Own w B v zs) (o:Obj):Own (w.alloc o) B v zs:=⟨h.1.alloc _,h.2⟩
theorem wpList_app (w:World) {ops:Array Oper} {rest:List Oper} {o:Oper} {a:Act} {Q:Exit→Act→World→Prop}
  (hg:o.guard=none) (s x:Operand) (hop:o.op=Op.call { callee:=Callee.builtin Builtin.append,args:=#[s,x],argTypes:=#[22,22] })
  (B:Nat) (v:Value) (xs:List Int) (hs:a.eval s=v) (hown:Own w B v xs) (ad:Addr) (m c:Nat) (news:List Int) (hx:a.eval x=.slice (some ad) m c) (hl:news.length=m)
  (hnews:∀ j,j<m→w.cell? (ad.add j)=some (.int .u8 (news.getD j 0))) (hb:xs.length+m≤1099511627776) (hB:B≤w.heap.size)
  (hK:∀ v' w',Own w' B v' (xs++news)→Below B w w'→w.grownBy w' v.ownBlock→wpList Tryz.prog ops Q rest (a.put o.dst v') w') :
  wpList Tryz.prog ops Q (o::rest) a w:=by
 obtain⟨i0,hi,hz0,hz1,hz2⟩:=info_parts Tryz.infoU8';have hbase:=hown.base;refine wpList_append_own w hg s x 22 hop B 5 i0 (.int .u8 0) 1 1 Tryz.underlying22 hi hz0 hz1 hz2 rfl (by decide) v xs.length _ hs hown.1 ad m c (news.map (Value.int .u8)) hx (by simp[hl]) ?_ (ints_oneCell _ _) (by unfold maxLen;omega) (by omega) hB ?_
 ·intro j u hu;have hj:j<news.length:=by have:=(List.getElem?_eq_some_iff.1 hu).1;simpa using this
  rw[hnews j (by omega)];simp[hj] at hu;simp[hj,hu]
 ·intro v' w' h1 h2 h3;obtain⟨g,c0,hv,hBg,_,_⟩:=hbase;have hbel:Below B w w':=(Below.refl _ _).grown h2 hB (fun k hk=>by rw[hv] at hk;simp[Value.ownBlock] at hk;omega);refine hK v' w' ⟨?_,?_⟩ hbel h2
  ·rw[List.map_append,List.length_append,hl];exact h1
  ·rcases h1.2 with⟨h',_⟩|⟨g',c',cur,h',_⟩
   ·exact absurd (h3.1 h').1 (by rw[hv];simp)
   ·exact⟨g',c',by rw[h',List.length_append,hl]⟩
def upd (u:Nat→Value) (i:Nat) (v:Value):Nat→Value:=fun j=>if j=i then v else u j
theorem count_set (l:List Bool):∀ i,l[i]?=some false→((l.set i true).filter (!·)).length+1=(l.filter (!·)).length:=by
 induction l with
 |nil=>intro i h;simp at h
 |cons b l ih=>
  intro i h;cases i with
  |zero=>simp at h;subst h;simp
  |succ i=>
   have:=ih i (by simpa using h);cases b<;>simp at this ⊢<;>omega
theorem getD_set (l:Array Bool) (i j:Nat) (hi:i<l.size):(l.setIfInBounds i true).getD j false=if j=i then true else l.getD j false:=by
 by_cases h:j=i
 ·subst h;simp[hi]
 ·simp[h,Ne.symm h]
section
variable {P:Program} {ops:Array Oper} {Q:Exit→Act→World→Prop} {md:Region.Mode}
theorem mem_ready {listed:Array Bool} {i:Nat}:i∈Region.ready md ops listed↔i<ops.size∧listed.getD i true=false∧∃ o,ops[i]?=some o∧∀ e∈o.after,Region.binds md e=true→listed.getD e.on false=true:=by
 unfold Region.ready;simp only[List.mem_filter,List.mem_range,Bool.and_eq_true,Bool.not_eq_true'];constructor
 ·rintro⟨h1,h2,h3⟩;refine⟨h1,h2,?_⟩;cases ho:ops[i]? with
  |none=>simp[ho] at h3
  |some o=>
   refine⟨o,rfl,fun e he hb=>?_⟩;simp[ho] at h3;rcases Array.mem_iff_getElem.1 he with⟨k,hk,rfl⟩
   have:=h3 k hk;simp[hb] at this;simpa using this
 ·rintro⟨h1,h2,o,ho,h3⟩;refine⟨h1,h2,?_⟩;simp[ho];intro k hk;by_cases hb:Region.binds md o.after[k]=true
  ·right;simpa using h3 _ (Array.getElem_mem hk) hb
  ·left;simpa using hb
end
section
variable {P:Program} {ops:Array Oper} {Q:Exit→Act→World→Prop} {md:Region.Mode}
theorem wpAny_end {fuel:Nat} {listed:Array Bool} {a:Act} {w:World} (hr:Region.ready md ops listed=[]) (hq:Q .normal a w):wpAny P md ops Q fuel listed a w:=by
 cases fuel with
 |zero=>exact⟨hr,hq⟩
 |succ fuel=>exact⟨fun _=>hq,fun i hi=>by rw[hr] at hi;cases hi⟩
theorem wpAny_slotsL (last:Nat) (M:World→World→Prop) (frame:(Nat→Value)→Act) (Ext:World→Prop) (Good:Nat→World→Value→Prop)
  (hlast:ops.size=last+1)
  (hwait:((ops[last]?).map (fun o=>(List.range last).all (fun j=>o.after.any (fun e=>Region.binds md e && decide (e.on=j))))).getD false=true)
  (hmono:∀ i w w' v,M w w'→Good i w v→Good i w' v)
  (hguard:ops.all (fun o=>o.guard.isNone)=true)
  (hback:(List.range ops.size).all (fun i=>((ops[i]?).map (fun o=>o.after.all (fun e=>decide (e.on<i)))).getD false)=true)
  (hop:∀(i:Nat) (o:Oper) (u:Nat→Value) (w:World),i<last→ops[i]?=some o→Ext w→(∀ e∈o.after,Region.binds md e=true→Good e.on w (u e.on))→
   ∀ K:Act→World→Prop,(∀ w' v,Good i w' v→Ext w'→M w w'→K (frame (upd u i v)) w')→Oper.wp P o (frame u) w K Q)
  (hend:∀(o:Oper) (u:Nat→Value) (w:World),ops[last]?=some o→Ext w→(∀ i,i<last→Good i w (u i))→
   ∀ K:Act→World→Prop,(∀ a w',Q .normal a w'→K a w')→Oper.wp P o (frame u) w K Q) :
  ∀(fuel:Nat) (listed:Array Bool) (u:Nat→Value) (w:World),listed.size=ops.size→listed.getD last false=false→Ext w→(∀ i,i<last→listed.getD i false=true→Good i w (u i))→
   (listed.toList.filter (!·)).length≤fuel→wpAny P md ops Q fuel listed (frame u) w:=by
 have hb:∀(i:Nat) (o:Oper),ops[i]?=some o→∀ e∈o.after,e.on<i:=fun i o ho e he=>by
  have hi:i<ops.size:=(Array.getElem?_eq_some_iff.1 ho).1;have:=List.all_eq_true.1 hback i (List.mem_range.2 hi);rw[ho] at this;simp at this;obtain⟨k,hk,rfl⟩:=Array.mem_iff_getElem.1 he;exact this k hk
 have hg:∀(i:Nat) (o:Oper),ops[i]?=some o→o.guard=none:=fun i o ho=>by
  have:=Array.all_eq_true_iff_forall_mem.1 hguard o (Array.mem_of_getElem? ho);simpa using this
 have hw:∀ o,ops[last]?=some o→∀ j,j<last→∃ e∈o.after,Region.binds md e=true∧e.on=j:=fun o ho j hj=>by
  rw[ho] at hwait;have h1:(List.range last).all (fun j=>o.after.any (fun e=>Region.binds md e && decide (e.on=j)))=true:=by simpa using hwait
  have h2:=List.all_eq_true.1 h1 j (List.mem_range.2 hj);obtain⟨e,he,h3⟩:=Array.any_eq_true'.1 h2;simp at h3;exact⟨e,he,h3⟩
 have hno:∀(listed:Array Bool),listed.size=ops.size→listed.getD last false=false→Region.ready md ops listed≠[]:=by
  intro listed hs hl0 hr;have hall:∀ n i,i<n→i<ops.size→listed.getD i false=true:=by
   intro n
   induction n with
   |zero=>intro i h;omega
   |succ n ih=>
    intro i hin hi;by_cases hlt:i<n
    ·exact ih i hlt hi
    ·cases hl:listed.getD i false with
     |true=>rfl
     |false=>
      exfalso
      have hl':listed.getD i true=false:=by
       have hil:i<listed.size:=by omega
       simp[hil] at hl ⊢;exact hl
      have:i∈Region.ready md ops listed:=mem_ready.2 ⟨hi,hl',ops[i],by simp[hi],fun e hee _=>ih e.on (by have:=hb i ops[i] (by simp[hi]) e hee;omega) (by have:=hb i ops[i] (by simp[hi]) e hee;omega)⟩;rw[hr] at this;cases this
  have:=hall (last+1) last (by omega) (by omega);rw[hl0] at this;cases this
 intro fuel
 induction fuel with
 |zero=>
  intro listed u w hs hl0 he hgd hc
  exfalso
  have hil:last<listed.size:=by omega
  have h3:listed[last]=false:=by simpa[hil] using hl0
  have:listed[last]∈listed.toList.filter (!·):=by
   rw[List.mem_filter];exact⟨by simp,by rw[h3];rfl⟩
  have:=List.length_pos_of_mem this;omega
 |succ fuel ih=>
  intro listed u w hs hl0 he hgd hc;refine⟨fun hr=>absurd hr (hno listed hs hl0),fun i hi=>?_⟩;obtain⟨h1,h2,o,ho,h3⟩:=mem_ready.1 hi;refine wpOp_step ho fun K hK=>?_
  have hwn:Region.wanted o (yielded ops (frame u).tmps)=true:=by simp[Region.wanted,hg i o ho]
  rw[if_pos hwn];have hil:i<listed.size:=by omega
  by_cases hi':i<last
  ·refine hop i o u w hi' ho he (fun e hee hbd=>hgd e.on (by have:=hb i o ho e hee;omega) (h3 e hee hbd)) K fun w' v hgv hext hm=>hK _ _ ?_
   refine ih _ _ w' (by simpa using hs) ?_ hext (fun j hj hlj=>?_) ?_
   ·rw[getD_set listed i last hil,if_neg (by omega)];exact hl0
   ·rw[getD_set listed i j hil] at hlj;unfold upd;by_cases hji:j=i
    ·subst hji;simpa using hgv
    ·rw[if_neg hji] at hlj;rw[if_neg hji];exact hmono j w w' _ hm (hgd j hj hlj)
   ·have:listed.toList[i]?=some false:=by simp[hil] at h2;simp[hil,h2]
    have:=count_set listed.toList i this;rw[Array.toList_setIfInBounds];omega
  ·have hie:i=last:=by omega
   subst hie;have hlst:∀ j,j<i→listed.getD j false=true:=fun j hj=>by
    obtain⟨e,hee,hbd,rfl⟩:=hw o ho j hj;exact h3 e hee hbd
   refine hend o u w ho he (fun j hj=>hgd j hj (hlst j hj)) K fun a w' hq=>hK _ _ (wpAny_end ?_ hq)
   apply List.eq_nil_iff_forall_not_mem.2;intro j hj;obtain⟨g1,g2,_⟩:=mem_ready.1 hj;have hjl:j<listed.size:=by omega
   have g3:(listed.setIfInBounds i true).getD j false=false:=by
    have:j<(listed.setIfInBounds i true).size:=by simpa using hjl
    rw[Array.getD_eq_getD_getElem?,Array.getElem?_eq_getElem this] at g2 ⊢;exact g2
   rw[getD_set listed i j hil] at g3;by_cases hji:j=i
   ·rw[if_pos hji] at g3;cases g3
   ·rw[if_neg hji,hlst j (by omega)] at g3;cases g3
end
end Go.Proofs.YtilpkdnoaldfmaaGreatDoor
namespace Go.Proofs.YtilpkdnoaldfmaaGreatDoor
set_option linter.unusedVariables false
def val (B:Int):List Int→Int
 |[]=>0
 |z::zs=>z+B*val B zs
def Dig (B:Int) (zs:List Int):Prop:=∀ z∈zs,0≤z∧z<B
theorem val_append (B:Int) (xs ys:List Int):val B (xs++ys)=val B xs+B^xs.length*val B ys:=by
 induction xs with
 |nil=>simp[val]
 |cons x xs ih=>simp only[List.cons_append,val,List.length_cons,ih,Int.pow_succ];grind
theorem val_snoc (B:Int) (xs:List Int) (x:Int):val B (xs++[x])=val B xs+x*B^xs.length:=by
 rw[val_append];simp only[val];grind
theorem Dig.tail {B:Int} {x:Int} {xs:List Int} (h:Dig B (x::xs)):Dig B xs:=fun z hz=>h z (by simp[hz])
theorem Dig.head {B:Int} {x:Int} {xs:List Int} (h:Dig B (x::xs)):0≤x∧x<B:=h x (by simp)
theorem val_nonneg {B:Int} (hB:0<B) {xs:List Int} (h:Dig B xs):0≤val B xs:=by
 induction xs with
 |nil=>simp[val]
 |cons x xs ih=>
  have:=h.head;have i:=ih h.tail;have:=Int.mul_nonneg (Int.le_of_lt hB) i;simp only[val];omega
theorem val_lt {B:Int} (hB:0<B) {xs:List Int} (h:Dig B xs):val B xs<B^xs.length:=by
 induction xs with
 |nil=>simp[val]
 |cons x xs ih=>
  obtain⟨h0,h1⟩:=h.head;have i:=ih h.tail;have h2:B*(val B xs+1)≤B*B^xs.length:=Int.mul_le_mul_of_nonneg_left (by omega) (by omega);simp only[val,List.length_cons,Int.pow_succ]
  grind
theorem val_take (B:Int) (xs:List Int) (k:Nat) (h:k<xs.length):val B (xs.take (k+1))=val B (xs.take k)+xs.getD k 0*B^k:=by
 have:xs.take (k+1)=xs.take k++[xs.getD k 0]:=by
  rw[List.take_succ_eq_append_getElem h,List.getD_eq_getElem?_getD,List.getElem?_eq_getElem h];rfl
 rw[this,val_snoc,List.length_take,Nat.min_eq_left (by omega)]
end Go.Proofs.YtilpkdnoaldfmaaGreatDoor
namespace Go.Proofs.YtilpkdnoaldfmaaGreatDoor
open Go.ChangeShapes Go.WideShapes Go.ChangeAt Go.RowKit
set_option linter.unusedVariables false
theorem Tryz.sizeU8:(Tryz.prog.info? 5).map (·.size)=some 1:=by kernel_rfl
theorem Tryz.sizeSec:(Tryz.prog.info? 65).map (·.size)=some 64:=by kernel_rfl
theorem wpList_copy8 {w:World} {ops:Array Oper} {rest:List Oper} {o:Oper} {a:Act} {Q:Exit→Act→World→Prop} (hgd:o.guard=none) (d s:Operand)
  (ho:o.op=.call { callee:=.builtin .copy,args:=#[d,s],argTypes:=#[22,22] }) (g off dLen dCap:Nat) (sp:Option Addr) (sLen sCap:Nat)
  (hd:a.eval d=.slice (some ⟨g,off,none⟩) dLen dCap) (hs:a.eval s=.slice sp sLen sCap) (t:TypeId) (ds zs:List Int) (hr:Row w g t ds) (hz:zs.length=sLen) (ha:At .u8 w sp zs)
  (m:Nat) (hmn:Nat.min sLen dLen=m) (hfit:off+m≤ds.length)
  (h:∀ w',Row w' g t (ds.take off++(zs.take m++ds.drop (off+m)))→Wr g w w'→wpList Tryz.prog ops Q rest (a.put o.dst (goInt m)) w') :
  wpList Tryz.prog ops Q (o::rest) a w:=by
 have hle:m≤sLen:=hmn ▸ Nat.min_le_left _ _;by_cases h0:m=0
 ·refine wpList_copy_nothing hgd d s 22 22 ho 5 Tryz.underlying22 Tryz.sizeU8 _ _ _ _ _ _ hd hs (hmn.trans h0) ?_;have:=h w (by rw[h0];simp;exact hr) (Wr.refl _ _);rw[h0] at this;exact this
 ·have hpos:0<zs.length:=by omega
  obtain⟨b,o2,rfl,hb,hc⟩:=ha.get hpos;have hlen:((zs.take m).map (Value.int .u8)).length=m:=by simp;omega
  refine wpList_copy_own hgd d s 22 22 ho 5 Tryz.underlying22 Tryz.sizeU8 g off dLen dCap _ sLen sCap hd hs _ t hr ((zs.take m).map (Value.int .u8)) (hlen.trans hmn.symm) ?_ ?_ (ints_oneCell _ _) ?_
  ·intro j v hv;have hj:j<m:=by have:=(List.getElem?_eq_some_iff.1 hv).1;rw[hlen] at this;exact this
   rw[Addr.add_lit,hc j (by omega)];simp[hj,show j<zs.length by omega] at hv;simp[hv,show j<zs.length by omega]
  ·rw[hlen];simpa using hfit
  ·rw[hlen];refine h _ ?_ (Wr.setRow _ _ _);unfold Row;rw[setRow_heap _ _ _ _ _ _ hr];simp[List.map_append,List.map_take,List.map_drop]
set_option maxHeartbeats 1000000 in
theorem sectorOf_any (a:Option Addr) (n cap:Nat) (zs:List Int) (w:World) (hn:zs.length=n) (hm:64≤n) (ha:At .u8 w a zs) :
  Calls Tryz.prog 23 #[.slice a n cap] w fun e w'=>e=.returned (.agg ((zs.take 64).map (Value.int .u8)).toArray)∧Below w.heap.size w w':=by
 have hmin:Nat.min n 64=64:=Nat.min_eq_right hm;go_enter Tryz.func23,Tryz.ntmps23;go_wp2_with (refine wpList_copy8 rfl (.tmp 4) (.tmp 5) rfl (w.heap.size+1) 0 64 64 a n cap rfl rfl 65 (List.replicate 64 0) zs (heap_alloc2_new _ _ _) hn (ha.below (((Below.refl _ _).alloc (Nat.le_refl _) _).alloc (by simp) _)) 64 hmin (by simp) ?_);intro w3 hrow hwr;have hr1:Row w3 (w.heap.size+1) 65 (zs.take 64):=by simpa using hrow
 have hr0:Row w3 w.heap.size 65 (List.replicate 64 0):=hwr.row (heap_alloc2_old _ _ _) (by omega);have hbel:Below w.heap.size w w3:=(((Below.refl _ _).alloc (Nat.le_refl _) _).alloc (by simp) _).trans (hwr.below (by omega));clear hrow hwr;have hl:(zs.take 64).length=64:=by simp;omega
 generalize hz:zs.take 64=z at *;have HZ:Hid (zs.take 64=z):=hz;have hs1:(Tryz.prog.info? 65).map (·.size)=some ((z.map (Value.int .u8)).toArray).size:=by rw[Tryz.sizeSec];simp[hl]
 have HS1:Hid _:=hs1;have HR0:Hid _:=hr0;have HR1:Hid _:=hr1;have HB:Hid _:=hbel;clear hs1 hr0 hr1 hbel hz ha hmin;go_wp2_with (first
  |(refine wpList_load_row rfl 65 _ rfl (w.heap.size+1) rfl 65 _ (0,0) _ HR1.out Tryz.underlying65 rfl HS1.out ?_)
  |(refine wpList_store_row rfl 65 (.tmp 2) (.tmp 7) rfl w.heap.size ((z.map (Value.int .u8)).toArray) rfl rfl 65 _ HR0.out HS1.out (by simp[hl]) (all_oneCell_toArray (ints_oneCell _ _)) ?_))
 refine bodyPost_ret (v:=.agg (z.map (Value.int .u8)).toArray) (results_cell_row rfl _ _ w.heap.size 65 _ (0,0) _ rfl (setRow_heap _ _ _ _ _ _ HR0.out) Tryz.underlying65 rfl HS1.out) rfl ⟨by rw[HZ.out],?_⟩;exact HB.out.trans ((Wr.setRow _ _ _).below (Nat.le_refl _))
section
variable {P:Program} {ops:Array Oper} {Q:Exit→Act→World→Prop} {md:Region.Mode}
def updK (L:Nat→Bool) (i:Nat):Nat→Bool:=fun j=>if j=i then true else L j
theorem wpAny_slotsK (last:Nat) (M:Nat→World→World→Prop) (frame:(Nat→Value)→Act) (Ext:(Nat→Bool)→World→Prop) (Good:Nat→(Nat→Bool)→World→Value→Prop)
  (hlast:ops.size=last+1)
  (hwait:((ops[last]?).map (fun o=>(List.range last).all (fun j=>o.after.any (fun e=>Region.binds md e && decide (e.on=j))))).getD false=true)
  (hstab:∀ j L w w' i v,M i w w'→i≠j→L i=false→Good j L w v→Good j (updK L i) w' v)
  (hguard:ops.all (fun o=>o.guard.isNone)=true)
  (hback:(List.range ops.size).all (fun i=>((ops[i]?).map (fun o=>o.after.all (fun e=>decide (e.on<i)))).getD false)=true)
  (hop:∀(i:Nat) (o:Oper) (L:Nat→Bool) (u:Nat→Value) (w:World),i<last→ops[i]?=some o→L i=false→Ext L w→(∀ e∈o.after,Region.binds md e=true→Good e.on L w (u e.on))→
   ∀ K:Act→World→Prop,(∀ w' v,Good i (updK L i) w' v→Ext (updK L i) w'→M i w w'→K (frame (upd u i v)) w')→Oper.wp P o (frame u) w K Q)
  (hend:∀(o:Oper) (L:Nat→Bool) (u:Nat→Value) (w:World),ops[last]?=some o→Ext L w→(∀ i,i<last→Good i L w (u i))→
   ∀ K:Act→World→Prop,(∀ a w',Q .normal a w'→K a w')→Oper.wp P o (frame u) w K Q) :
  ∀(fuel:Nat) (listed:Array Bool) (u:Nat→Value) (w:World),listed.size=ops.size→listed.getD last false=false→Ext (fun n=>listed.getD n false) w→(∀ i,i<last→listed.getD i false=true→Good i (fun n=>listed.getD n false) w (u i))→
   (listed.toList.filter (!·)).length≤fuel→wpAny P md ops Q fuel listed (frame u) w:=by
 have hb:∀(i:Nat) (o:Oper),ops[i]?=some o→∀ e∈o.after,e.on<i:=fun i o ho e he=>by
  have hi:i<ops.size:=(Array.getElem?_eq_some_iff.1 ho).1;have:=List.all_eq_true.1 hback i (List.mem_range.2 hi);rw[ho] at this;simp at this;obtain⟨k,hk,rfl⟩:=Array.mem_iff_getElem.1 he;exact this k hk
 have hg:∀(i:Nat) (o:Oper),ops[i]?=some o→o.guard=none:=fun i o ho=>by
  have:=Array.all_eq_true_iff_forall_mem.1 hguard o (Array.mem_of_getElem? ho);simpa using this
 have hw:∀ o,ops[last]?=some o→∀ j,j<last→∃ e∈o.after,Region.binds md e=true∧e.on=j:=fun o ho j hj=>by
  rw[ho] at hwait;have h1:(List.range last).all (fun j=>o.after.any (fun e=>Region.binds md e && decide (e.on=j)))=true:=by simpa using hwait
  have h2:=List.all_eq_true.1 h1 j (List.mem_range.2 hj);obtain⟨e,he,h3⟩:=Array.any_eq_true'.1 h2;simp at h3;exact⟨e,he,h3⟩
 have hno:∀(listed:Array Bool),listed.size=ops.size→listed.getD last false=false→Region.ready md ops listed≠[]:=by
  intro listed hs hl0 hr;have hall:∀ n i,i<n→i<ops.size→listed.getD i false=true:=by
   intro n
   induction n with
   |zero=>intro i h;omega
   |succ n ih=>
    intro i hin hi;by_cases hlt:i<n
    ·exact ih i hlt hi
    ·cases hl:listed.getD i false with
     |true=>rfl
     |false=>
      exfalso
      have hl':listed.getD i true=false:=by
       have hil:i<listed.size:=by omega
       simp[hil] at hl ⊢;exact hl
      have:i∈Region.ready md ops listed:=mem_ready.2 ⟨hi,hl',ops[i],by simp[hi],fun e hee _=>ih e.on (by have:=hb i ops[i] (by simp[hi]) e hee;omega) (by have:=hb i ops[i] (by simp[hi]) e hee;omega)⟩;rw[hr] at this;cases this
  have:=hall (last+1) last (by omega) (by omega);rw[hl0] at this;cases this
 intro fuel
 induction fuel with
 |zero=>
  intro listed u w hs hl0 he hgd hc
  exfalso
  have hil:last<listed.size:=by omega
  have h3:listed[last]=false:=by simpa[hil] using hl0
  have:listed[last]∈listed.toList.filter (!·):=by
   rw[List.mem_filter];exact⟨by simp,by rw[h3];rfl⟩
  have:=List.length_pos_of_mem this;omega
 |succ fuel ih=>
  intro listed u w hs hl0 he hgd hc;refine⟨fun hr=>absurd hr (hno listed hs hl0),fun i hi=>?_⟩;obtain⟨h1,h2,o,ho,h3⟩:=mem_ready.1 hi;refine wpOp_step ho fun K hK=>?_
  have hwn:Region.wanted o (yielded ops (frame u).tmps)=true:=by simp[Region.wanted,hg i o ho]
  rw[if_pos hwn];have hil:i<listed.size:=by omega
  by_cases hi':i<last
  ·have hnl:listed.getD i false=false:=by simp[hil] at h2 ⊢;exact h2
   have hupd:(fun n=>(listed.setIfInBounds i true).getD n false)=updK (fun n=>listed.getD n false) i:=by
    funext n;rw[getD_set listed i n hil];rfl
   refine hop i o (fun n=>listed.getD n false) u w hi' ho hnl he (fun e hee hbd=>hgd e.on (by have:=hb i o ho e hee;omega) (h3 e hee hbd)) K fun w' v hgv hext hm=>hK _ _ ?_
   refine ih _ _ w' (by simpa using hs) ?_ (by rw[hupd];exact hext) (fun j hj hlj=>?_) ?_
   ·rw[getD_set listed i last hil,if_neg (by omega)];exact hl0
   ·rw[getD_set listed i j hil] at hlj;unfold upd;by_cases hji:j=i
    ·subst hji;rw[hupd];simpa using hgv
    ·rw[if_neg hji] at hlj;rw[if_neg hji,hupd];exact hstab j _ w w' i _ hm (Ne.symm hji) hnl (hgd j hj hlj)
   ·have:listed.toList[i]?=some false:=by simp[hil] at h2;simp[hil,h2]
    have:=count_set listed.toList i this;rw[Array.toList_setIfInBounds];omega
  ·have hie:i=last:=by omega
   subst hie;have hlst:∀ j,j<i→listed.getD j false=true:=fun j hj=>by
    obtain⟨e,hee,hbd,rfl⟩:=hw o ho j hj;exact h3 e hee hbd
   refine hend o (fun n=>listed.getD n false) u w ho he (fun j hj=>hgd j hj (hlst j hj)) K fun a w' hq=>hK _ _ (wpAny_end ?_ hq)
   apply List.eq_nil_iff_forall_not_mem.2;intro j hj;obtain⟨g1,g2,_⟩:=mem_ready.1 hj;have hjl:j<listed.size:=by omega
   have g3:(listed.setIfInBounds i true).getD j false=false:=by
    have:j<(listed.setIfInBounds i true).size:=by simpa using hjl
    rw[Array.getD_eq_getD_getElem?,Array.getElem?_eq_getElem this] at g2 ⊢;exact g2
   rw[getD_set listed i j hil] at g3;by_cases hji:j=i
   ·rw[if_pos hji] at g3;cases g3
   ·rw[if_neg hji,hlst j (by omega)] at g3;cases g3
end
section
variable {P:Program} {ops:Array Oper} {Q:Exit→Act→World→Prop} {md:Region.Mode}
theorem wpAny_slotsG (M:Nat→World→World→Prop) (frame:(Nat→Value)→Act) (Ext:(Nat→Bool)→World→Prop) (Good:Nat→(Nat→Bool)→World→Value→Prop)
  (hstab:∀ j L w w' i v,M i w w'→i≠j→L i=false→Good j L w v→Good j (updK L i) w' v)
  (hback:(List.range ops.size).all (fun i=>((ops[i]?).map (fun o=>o.after.all (fun e=>decide (e.on<i)))).getD false)=true)
  (hop:∀(i:Nat) (o:Oper) (L:Nat→Bool) (u:Nat→Value) (w:World),ops[i]?=some o→L i=false→Ext L w→(∀ e∈o.after,Region.binds md e=true→Good e.on L w (u e.on))→
   ∀ K:Act→World→Prop,(∀ w' v,Good i (updK L i) w' v→Ext (updK L i) w'→M i w w'→K (frame (upd u i v)) w')→(if Region.wanted o (yielded ops (frame u).tmps)=true then Oper.wp P o (frame u) w K Q else K ((frame u).put o.dst undef) w))
  (hdone:∀ L u w,Ext L w→(∀ i,i<ops.size→Good i L w (u i))→Q .normal (frame u) w) :
  ∀(fuel:Nat) (listed:Array Bool) (u:Nat→Value) (w:World),listed.size=ops.size→Ext (fun n=>listed.getD n false) w→(∀ i,i<ops.size→listed.getD i false=true→Good i (fun n=>listed.getD n false) w (u i))→
   (listed.toList.filter (!·)).length≤fuel→wpAny P md ops Q fuel listed (frame u) w:=by
 have hb:∀(i:Nat) (o:Oper),ops[i]?=some o→∀ e∈o.after,e.on<i:=fun i o ho e he=>by
  have hi:i<ops.size:=(Array.getElem?_eq_some_iff.1 ho).1;have:=List.all_eq_true.1 hback i (List.mem_range.2 hi);rw[ho] at this;simp at this;obtain⟨k,hk,rfl⟩:=Array.mem_iff_getElem.1 he;exact this k hk
 have hfin:∀(listed:Array Bool) (u:Nat→Value) (w:World),listed.size=ops.size→Ext (fun n=>listed.getD n false) w→(∀ i,i<ops.size→listed.getD i false=true→Good i (fun n=>listed.getD n false) w (u i))→Region.ready md ops listed=[]→Q .normal (frame u) w:=by
  intro listed u w hs he hgd hr;refine hdone _ u w he fun i hi=>hgd i hi ?_
  have hall:∀ n i,i<n→i<ops.size→listed.getD i false=true:=by
   intro n
   induction n with
   |zero=>intro i h;omega
   |succ n ih=>
    intro i hin hi;by_cases hlt:i<n
    ·exact ih i hlt hi
    ·cases hl:listed.getD i false with
     |true=>rfl
     |false=>
      exfalso
      have hl':listed.getD i true=false:=by
       have hil:i<listed.size:=by omega
       simp[hil] at hl ⊢;exact hl
      have:i∈Region.ready md ops listed:=mem_ready.2 ⟨hi,hl',ops[i],by simp[hi],fun e hee _=>ih e.on (by have:=hb i ops[i] (by simp[hi]) e hee;omega) (by have:=hb i ops[i] (by simp[hi]) e hee;omega)⟩;rw[hr] at this;cases this
  exact hall (i+1) i (by omega) hi
 intro fuel
 induction fuel with
 |zero=>
  intro listed u w hs he hgd hc;have hr:Region.ready md ops listed=[]:=by
   apply List.eq_nil_iff_forall_not_mem.2;intro i hi;obtain⟨h1,h2,_⟩:=mem_ready.1 hi;have hil:i<listed.size:=by omega
   have h3:listed[i]=false:=by simpa[hil] using h2
   have:listed[i]∈listed.toList.filter (!·):=by
    rw[List.mem_filter];exact⟨by simp,by rw[h3];rfl⟩
   have:=List.length_pos_of_mem this;omega
  exact⟨hr,hfin listed u w hs he hgd hr⟩
 |succ fuel ih=>
  intro listed u w hs he hgd hc;refine⟨fun hr=>hfin listed u w hs he hgd hr,fun i hi=>?_⟩;obtain⟨h1,h2,o,ho,h3⟩:=mem_ready.1 hi;refine wpOp_step ho fun K hK=>?_
  have hil:i<listed.size:=by omega
  have hnl:listed.getD i false=false:=by simp[hil] at h2 ⊢;exact h2
  have hupd:(fun n=>(listed.setIfInBounds i true).getD n false)=updK (fun n=>listed.getD n false) i:=by
   funext n;rw[getD_set listed i n hil];rfl
  refine hop i o (fun n=>listed.getD n false) u w ho hnl he (fun e hee hbd=>hgd e.on (by have:=hb i o ho e hee;omega) (h3 e hee hbd)) K fun w' v hgv hext hm=>hK _ _ ?_
  refine ih _ _ w' (by simpa using hs) (by rw[hupd];exact hext) (fun j hj hlj=>?_) ?_
  ·rw[getD_set listed i j hil] at hlj;unfold upd;by_cases hji:j=i
   ·subst hji;rw[hupd];simpa using hgv
   ·rw[if_neg hji] at hlj;rw[if_neg hji,hupd];exact hstab j _ w w' i _ hm (Ne.symm hji) hnl (hgd j hj hlj)
  ·have:listed.toList[i]?=some false:=by simp[hil] at h2;simp[hil,h2]
   have:=count_set listed.toList i this;rw[Array.toList_setIfInBounds];omega
end
end Go.Proofs.YtilpkdnoaldfmaaGreatDoor
