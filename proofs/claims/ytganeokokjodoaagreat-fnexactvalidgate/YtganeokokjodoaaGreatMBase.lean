import Derived.Test.YtganeokokjodoaaGreatRows
import Derived.WalkKit
import Derived.ProofKit
import Derived.OpenShut
import Derived.ShutString
import Derived.ChangeOld
import Derived.Below
import Derived.WalkSpells
import Derived.Deep.QuietTactic
import Derived.BigQuiet
import Derived.RegionTactic
namespace Go.Proofs.YtganeokokjodoaaGreat
open Go.ChangeShapes Go.WideShapes Go.ChangeAt Go.RowKit
set_option linter.unusedVariables false
def At (k:IntKind) (w:World) (a:Option Addr) (zs:List Int):Prop:=
 zs=[]∨∃ b off,a=some ⟨b,off,none⟩∧b<w.heap.size∧∀ i,i<zs.length→w.cell? ⟨b,off+i,none⟩=some (.int k (zs.getD i 0))
def Byte (zs:List Int):Prop:=∀ z∈zs,0≤z∧z<256
theorem Byte.get {zs:List Int} (h:Byte zs) (i:Nat):0≤zs.getD i 0∧zs.getD i 0<256:=by
 by_cases hi:i<zs.length
 ·rw[List.getD_eq_getElem?_getD,List.getElem?_eq_getElem hi];exact h _ (List.getElem_mem hi)
 ·rw[List.getD_eq_getElem?_getD,List.getElem?_eq_none (by omega)];exact⟨by decide,by decide⟩
theorem At.get {k:IntKind} {w:World} {a:Option Addr} {zs:List Int} (h:At k w a zs) (hz:0<zs.length) :
  ∃ b off,a=some ⟨b,off,none⟩∧b<w.heap.size∧∀ i,i<zs.length→w.cell? ⟨b,off+i,none⟩=some (.int k (zs.getD i 0)):=by
 rcases h with h|h
 ·simp[h] at hz
 ·exact h
theorem At.below {k:IntKind} {w w':World} {a:Option Addr} {zs:List Int} (h:At k w a zs) (hb:Below w.heap.size w w'):At k w' a zs:=by
 rcases h with h|⟨b,off,rfl,hl,hc⟩
 ·exact .inl h
 ·exact .inr ⟨b,off,rfl,by have:=hb.size;omega,fun i hi=>by rw[hb.cell (p:=⟨b,off+i,none⟩) hl];exact hc i hi⟩
theorem At.of_owns {k:IntKind} {w:World} {base:Nat} {e:TypeId} {v:Value} {n:Nat} {zs:List Int} (h:w.ownsRow base e 1 v n (zs.map (Value.int k))) :
  ∃ a cap,v=.slice a n cap∧zs.length=n∧n≤cap∧cap≤maxLen∧At k w a zs:=by
 obtain⟨h1,h2⟩:=h
 have hn:zs.length=n:=by simpa using h1
 rcases h2 with⟨rfl,rfl⟩|⟨g,cap,cur,rfl,hg,hh,hc,hm,hs,ht⟩
 ·exact⟨none,0,rfl,hn,by simp,by simp[maxLen],.inl (List.eq_nil_of_length_eq_zero hn)⟩
 ·refine⟨_,cap,rfl,hn,hc,hm,.inr ⟨g,0,rfl,?_,fun i hi=>?_⟩⟩
  ·exact(Array.getElem?_eq_some_iff.1 hh).1
  ·have hi':i<cur.size:=by rw[hs];omega
   have e1:cur.toList[i]?=some (.int k (zs.getD i 0)):=by
    have:(cur.toList.take (n*1))[i]?=(zs.map (Value.int k))[i]?:=by rw[ht]
    rw[List.getElem?_take_of_lt (by omega)] at this;rw[this];simp[hi]
   rw[cell_of_row w g (0+i) cur e (0,0) hh,Nat.zero_add];simpa using e1
theorem ret_int {k:IntKind} {a b:Int} (h:a=b):Ending.returned (.int k a)=.returned (.int k b):=by rw[h]
theorem take_snoc (l:List Int) (k:Nat) (h:k<l.length):l.take (k+1)=l.take k++[l.getD k 0]:=by
 rw[List.take_succ_eq_append_getElem h,List.getD_eq_getElem?_getD,List.getElem?_eq_getElem h];rfl
/-! CRC-32 -/
theorem bits_u32_bd (o:BinOp) (a b:Int):0≤bits o .u32 a b∧bits o .u32 a b<4294967296:=by
 have h:∀ n:Int,0≤IntKind.u32.wrap n∧IntKind.u32.wrap n<4294967296:=fun n=>by rw[IntKind.wrap_u32];omega
 unfold bits;cases o<;>exact h _
def bit1 (c:Int):Int:=if c%2=1 then bits .xor .u32 (c/2) 3988292384 else c/2
def bitN (c:Int):Nat→Int
 |0=>c
 |k+1=>bit1 (bitN c k)
def crcS (c x:Int):Int:=bitN (bits .xor .u32 c x) 8
def crcF (l:List Int):Int:=l.foldl crcS 4294967295
def crc (l:List Int):Int:=bits .xor .u32 (crcF l) 4294967295
def U32 (c:Int):Prop:=0≤c∧c<4294967296
theorem bit1_bd {c:Int} (h:U32 c):U32 (bit1 c):=by
 unfold bit1;split
 ·exact bits_u32_bd _ _ _
 ·obtain⟨_,_⟩:=h;constructor<;>omega
theorem bitN_bd {c:Int} (h:U32 c) (k:Nat):U32 (bitN c k):=by
 induction k with
 |zero=>exact h
 |succ k ih=>exact bit1_bd ih
theorem crcS_bd (c x:Int):U32 (crcS c x):=bitN_bd (bits_u32_bd _ _ _) 8
theorem crcF_snoc (l:List Int) (x:Int):crcF (l++[x])=crcS (crcF l) x:=by simp[crcF]
theorem crcF_bd (l:List Int):U32 (crcF l):=by
 unfold crcF
 suffices h:∀(l:List Int) (c:Int),U32 c→U32 (l.foldl crcS c) from h l _ ⟨by decide,by decide⟩
 intro l
 induction l with
 |nil=>intro c h;exact h
 |cons x l ih=>intro c h;exact ih _ (crcS_bd c x)
theorem crc_bd (l:List Int):U32 (crc l):=bits_u32_bd _ _ _
theorem and1 {c:Int} (h:U32 c):bits .and .u32 c 1=c%2:=by
 obtain⟨h0,h1⟩:=h
 obtain⟨n,rfl⟩:=Int.eq_ofNat_of_zero_le h0
 have:=u32_and_nat n 1 (by omega) (by decide)
 rw[show((1:Int))=((1:Nat):Int) from rfl,this,nat_mask1];simp
end Go.Proofs.YtganeokokjodoaaGreat
namespace Go.Proofs.YtganeokokjodoaaGreat
open Go.ChangeShapes Go.WideShapes Go.ChangeAt Go.RowKit
set_option linter.unusedVariables false
def Row (w:World) (g:Nat) (e:TypeId) (zs:List Int):Prop:=w.heap[g]?=some (.cells (zs.map (Value.int .u8)).toArray e (0,0))
structure Wr (g:Nat) (w w':World):Prop where
 os:w'.os=w.os
 tape:w'.tape=w.tape
 output:w'.output=w.output
 size:w'.heap.size=w.heap.size
 block:∀ k,k≠g→w'.heap[k]?=w.heap[k]?
theorem Wr.refl (g:Nat) (w:World):Wr g w w:=⟨rfl,rfl,rfl,rfl,fun _ _=>rfl⟩
theorem Wr.trans {g:Nat} {a b c:World} (h:Wr g a b) (k:Wr g b c):Wr g a c:=
 ⟨k.os.trans h.os,k.tape.trans h.tape,k.output.trans h.output,k.size.trans h.size,fun i hi=>(k.block i hi).trans (h.block i hi)⟩
theorem Wr.setCell {g:Nat} {a w:World} (h:Wr g a w) (o:Nat) (u:Value):Wr g a (w.setCell ⟨g,o,none⟩ u):=
 h.trans ⟨rfl,rfl,rfl,by simp[World.setCell],fun k hk=>heap_setCell_other w _ k u hk⟩
theorem Wr.setRow (g:Nat) (w:World) (cs:Array Value):Wr g w (w.setRow g cs):=⟨rfl,rfl,rfl,size_setRow w g cs,fun k hk=>setRow_other w g k cs hk⟩
theorem Wr.drewN {g:Nat} {a w:World} (h:Wr g a w) (n:Nat):Wr g a (w.drewN n):=⟨h.os,h.tape,h.output,h.size,h.block⟩
theorem Wr.drew {g:Nat} {a w:World} (h:Wr g a w):Wr g a w.drew:=⟨h.os,h.tape,h.output,h.size,h.block⟩
theorem Wr.below {g B:Nat} {w w':World} (h:Wr g w w') (hB:B≤g):Below B w w':=⟨h.os,h.tape,h.output,by rw[h.size];exact Nat.le_refl _,fun k hk=>h.block k (by omega)⟩
theorem Wr.row {g g':Nat} {w w':World} {e:TypeId} {zs:List Int} (h:Wr g w w') (hr:Row w g' e zs) (hg:g'≠g):Row w' g' e zs:=by
 unfold Row;rw[h.block g' hg];exact hr
theorem Row.lt {w:World} {g:Nat} {e:TypeId} {zs:List Int} (h:Row w g e zs):g<w.heap.size:=(Array.getElem?_eq_some_iff.1 h).1
theorem Row.cell {w:World} {g:Nat} {e:TypeId} {zs:List Int} (h:Row w g e zs) (i:Nat) (hi:i<zs.length):w.cell? ⟨g,i,none⟩=some (.int .u8 (zs.getD i 0)):=by
 rw[cell_of_row w g i _ e _ h];simp[hi]
theorem Row.frozen {w:World} {g:Nat} {e:TypeId} {zs:List Int} (h:Row w g e zs) (i:Nat):w.frozen? ⟨g,i,none⟩=false:=frozen_of_row w g i _ e h
theorem Row.set {w:World} {g:Nat} {e:TypeId} {zs:List Int} (h:Row w g e zs) (i:Nat) (x:Int):Row (w.setCell ⟨g,i,none⟩ (.int .u8 x)) g e (zs.set i x):=by
 unfold Row;rw[heap_setCell_same w g i _ e _ h];simp[List.map_set]
theorem Row.drew {w:World} {g:Nat} {e:TypeId} {zs:List Int} (h:Row w g e zs):Row w.drew g e zs:=h
theorem Row.drewN {w:World} {g:Nat} {e:TypeId} {zs:List Int} (h:Row w g e zs) (n:Nat):Row (w.drewN n) g e zs:=h
theorem Row.at_ {w:World} {g:Nat} {e:TypeId} {zs:List Int} (h:Row w g e zs):At .u8 w (some ⟨g,0,none⟩) zs:=
 .inr ⟨g,0,rfl,h.lt,fun i hi=>by rw[Nat.zero_add];exact h.cell i hi⟩
theorem Row.atTake {w:World} {g:Nat} {e:TypeId} {zs:List Int} (h:Row w g e zs) (n:Nat):At .u8 w (some ⟨g,0,none⟩) (zs.take n):=
 .inr ⟨g,0,rfl,h.lt,fun i hi=>by
  have hi':i<n∧i<zs.length:=by simp at hi;omega
  rw[Nat.zero_add,h.cell i hi'.2];simp[List.getD,hi'.1]⟩
end Go.Proofs.YtganeokokjodoaaGreat
namespace Go.Proofs.YtganeokokjodoaaGreat
open Go.ChangeShapes Go.WideShapes Go.ChangeAt Go.RowKit
set_option linter.unusedVariables false
structure Mono (w w':World):Prop where
 size:w.heap.size≤w'.heap.size
 cell:∀ a:Addr,a.block<w.heap.size→w'.cell? a=w.cell? a
 block:∀(b:Nat) (cs:Array Value) (t:TypeId) (fr:Nat×Nat),w.heap[b]?=some (Obj.cells cs t fr)→∃ fr':Nat×Nat,w'.heap[b]?=some (Obj.cells cs t fr')
theorem Mono.refl (w:World):Mono w w:=⟨Nat.le_refl _,fun _ _=>rfl,fun b cs t fr h=>⟨fr,h⟩⟩
theorem Mono.of_below {w w':World} (h:Below w.heap.size w w'):Mono w w':=
 ⟨h.size,fun a ha=>h.cell ha,fun b cs t fr hb=>⟨fr,by rw[h.block b (Array.getElem?_eq_some_iff.1 hb).1];exact hb⟩⟩
def upd (u:Nat→Value) (i:Nat) (v:Value):Nat→Value:=fun j=>if j=i then v else u j
theorem count_set (l:List Bool):∀ i,l[i]?=some false→((l.set i true).filter (!·)).length+1=(l.filter (!·)).length:=by
 induction l with
 |nil=>intro i h;simp at h
 |cons b l ih=>
  intro i h;cases i with
  |zero=>simp at h;subst h;simp
  |succ i=>
   have:=ih i (by simpa using h);cases b<;>simp at this ⊢<;>omega
theorem getD_set (l:Array Bool) (i j:Nat) (hi:i<l.size):(l.setIfInBounds i true).getD j false=if j=i then true else l.getD j false:=by
 by_cases h:j=i
 ·subst h;simp[hi]
 ·simp[h,Ne.symm h]
section
variable {P:Program} {ops:Array Oper} {Q:Exit→Act→World→Prop} {md:Region.Mode}
theorem mem_ready {listed:Array Bool} {i:Nat}:i∈Region.ready md ops listed↔i<ops.size∧listed.getD i true=false∧∃ o,ops[i]?=some o∧∀ e∈o.after,Region.binds md e=true→listed.getD e.on false=true:=by
 unfold Region.ready
 simp only[List.mem_filter,List.mem_range,Bool.and_eq_true,Bool.not_eq_true']
 constructor
 ·rintro⟨h1,h2,h3⟩;refine⟨h1,h2,?_⟩;cases ho:ops[i]? with
  |none=>simp[ho] at h3
  |some o=>
   refine⟨o,rfl,fun e he hb=>?_⟩;simp[ho] at h3;rcases Array.mem_iff_getElem.1 he with⟨k,hk,rfl⟩
   have:=h3 k hk;simp[hb] at this;simpa using this
 ·rintro⟨h1,h2,o,ho,h3⟩;refine⟨h1,h2,?_⟩;simp[ho];intro k hk;by_cases hb:Region.binds md o.after[k]=true
  ·right;simpa using h3 _ (Array.getElem_mem hk) hb
  ·left;simpa using hb
theorem wpAny_slotsM (M:World→World→Prop) (frame:(Nat→Value)→Act) (Ext:World→Prop) (Good:Nat→World→Value→Prop)
  (hmono:∀ i w w' v,M w w'→Good i w v→Good i w' v)
  (hguard:ops.all (fun o=>o.guard.isNone)=true)
  (hback:(List.range ops.size).all (fun i=>((ops[i]?).map (fun o=>o.after.all (fun e=>decide (e.on<i)))).getD false)=true)
  (hop:∀(i:Nat) (o:Oper) (u:Nat→Value) (w:World),ops[i]?=some o→Ext w→(∀ e∈o.after,Region.binds md e=true→Good e.on w (u e.on))→
   ∀ K:Act→World→Prop,(∀ w' v,Good i w' v→Ext w'→M w w'→K (frame (upd u i v)) w')→Oper.wp P o (frame u) w K Q)
  (hdone:∀ u w,Ext w→(∀ i,i<ops.size→Good i w (u i))→Q .normal (frame u) w) :
  ∀(fuel:Nat) (listed:Array Bool) (u:Nat→Value) (w:World),listed.size=ops.size→Ext w→(∀ i,i<ops.size→listed.getD i false=true→Good i w (u i))→
   (listed.toList.filter (!·)).length≤fuel→wpAny P md ops Q fuel listed (frame u) w:=by
 have hb:∀(i:Nat) (o:Oper),ops[i]?=some o→∀ e∈o.after,e.on<i:=fun i o ho e he=>by
  have hi:i<ops.size:=(Array.getElem?_eq_some_iff.1 ho).1;have:=List.all_eq_true.1 hback i (List.mem_range.2 hi);rw[ho] at this;simp at this;obtain⟨k,hk,rfl⟩:=Array.mem_iff_getElem.1 he;exact this k hk
 have hg:∀(i:Nat) (o:Oper),ops[i]?=some o→o.guard=none:=fun i o ho=>by
  have:=Array.all_eq_true_iff_forall_mem.1 hguard o (Array.mem_of_getElem? ho);simpa using this
 have hfin:∀(listed:Array Bool) (u:Nat→Value) (w:World),listed.size=ops.size→Ext w→(∀ i,i<ops.size→listed.getD i false=true→Good i w (u i))→Region.ready md ops listed=[]→Q .normal (frame u) w:=by
  intro listed u w hs he hgd hr;refine hdone u w he fun i hi=>hgd i hi ?_
  have hall:∀ n i,i<n→i<ops.size→listed.getD i false=true:=by
   intro n
   induction n with
   |zero=>intro i h;omega
   |succ n ih=>
    intro i hin hi;by_cases hlt:i<n
    ·exact ih i hlt hi
    ·cases hl:listed.getD i false with
     |true=>rfl
     |false=>
      exfalso
      have hl':listed.getD i true=false:=by
       have hil:i<listed.size:=by omega
       simp[hil] at hl ⊢;exact hl
      have:i∈Region.ready md ops listed:=mem_ready.2 ⟨hi,hl',ops[i],by simp[hi],fun e hee _=>ih e.on (by have:=hb i ops[i] (by simp[hi]) e hee;omega) (by have:=hb i ops[i] (by simp[hi]) e hee;omega)⟩;rw[hr] at this;cases this
  exact hall (i+1) i (by omega) hi
 intro fuel
 induction fuel with
 |zero=>
  intro listed u w hs he hgd hc;have hr:Region.ready md ops listed=[]:=by
   apply List.eq_nil_iff_forall_not_mem.2;intro i hi;obtain⟨h1,h2,_⟩:=mem_ready.1 hi;have hil:i<listed.size:=by omega
   have h3:listed[i]=false:=by simpa[hil] using h2
   have:listed[i]∈listed.toList.filter (!·):=by
    rw[List.mem_filter];exact⟨by simp,by rw[h3];rfl⟩
   have:=List.length_pos_of_mem this;omega
  exact⟨hr,hfin listed u w hs he hgd hr⟩
 |succ fuel ih=>
  intro listed u w hs he hgd hc;refine⟨fun hr=>hfin listed u w hs he hgd hr,fun i hi=>?_⟩;obtain⟨h1,h2,o,ho,h3⟩:=mem_ready.1 hi;refine wpOp_step ho fun K hK=>?_
  have hw:Region.wanted o (yielded ops (frame u).tmps)=true:=by simp[Region.wanted,hg i o ho]
  rw[if_pos hw];refine hop i o u w ho he (fun e hee hbd=>hgd e.on (by have:=hb i o ho e hee;omega) (h3 e hee hbd)) K fun w' v hgv hext hm=>hK _ _ ?_
  have hil:i<listed.size:=by omega
  refine ih _ _ w' (by simpa using hs) hext (fun j hj hlj=>?_) ?_
  ·rw[getD_set listed i j hil] at hlj;unfold upd;by_cases hji:j=i
   ·subst hji;simpa using hgv
   ·rw[if_neg hji] at hlj;rw[if_neg hji];exact hmono j w w' _ hm (hgd j hj hlj)
  ·have:listed.toList[i]?=some false:=by simp[hil] at h2;simp[hil,h2]
   have:=count_set listed.toList i this;rw[Array.toList_setIfInBounds];omega
theorem wpAny_slots (frame:(Nat→Value)→Act) (Ext:World→Prop) (Good:Nat→World→Value→Prop)
  (hmono:∀ i w w' v,Mono w w'→Good i w v→Good i w' v)
  (hguard:ops.all (fun o=>o.guard.isNone)=true)
  (hback:(List.range ops.size).all (fun i=>((ops[i]?).map (fun o=>o.after.all (fun e=>decide (e.on<i)))).getD false)=true)
  (hop:∀(i:Nat) (o:Oper) (u:Nat→Value) (w:World),ops[i]?=some o→Ext w→(∀ e∈o.after,Region.binds md e=true→Good e.on w (u e.on))→
   ∀ K:Act→World→Prop,(∀ w' v,Good i w' v→Ext w'→Mono w w'→K (frame (upd u i v)) w')→Oper.wp P o (frame u) w K Q)
  (hdone:∀ u w,Ext w→(∀ i,i<ops.size→Good i w (u i))→Q .normal (frame u) w) :
  ∀(fuel:Nat) (listed:Array Bool) (u:Nat→Value) (w:World),listed.size=ops.size→Ext w→(∀ i,i<ops.size→listed.getD i false=true→Good i w (u i))→
   (listed.toList.filter (!·)).length≤fuel→wpAny P md ops Q fuel listed (frame u) w:=
 wpAny_slotsM Mono frame Ext Good hmono hguard hback hop hdone
end
end Go.Proofs.YtganeokokjodoaaGreat
namespace Go.Proofs.YtganeokokjodoaaGreat
open Go.ChangeShapes Go.WideShapes Go.ChangeAt Go.RowKit
set_option linter.unusedVariables false
section
variable {P:Program} {ops:Array Oper} {Q:Exit→Act→World→Prop} {md:Region.Mode}
theorem wpAny_end {fuel:Nat} {listed:Array Bool} {a:Act} {w:World} (hr:Region.ready md ops listed=[]) (hq:Q .normal a w):wpAny P md ops Q fuel listed a w:=by
 cases fuel with
 |zero=>exact⟨hr,hq⟩
 |succ fuel=>exact⟨fun _=>hq,fun i hi=>by rw[hr] at hi;cases hi⟩
theorem wpAny_slotsL (last:Nat) (M:World→World→Prop) (frame:(Nat→Value)→Act) (Ext:World→Prop) (Good:Nat→World→Value→Prop)
  (hlast:ops.size=last+1)
  (hwait:((ops[last]?).map (fun o=>(List.range last).all (fun j=>o.after.any (fun e=>Region.binds md e && decide (e.on=j))))).getD false=true)
  (hmono:∀ i w w' v,M w w'→Good i w v→Good i w' v)
  (hguard:ops.all (fun o=>o.guard.isNone)=true)
  (hback:(List.range ops.size).all (fun i=>((ops[i]?).map (fun o=>o.after.all (fun e=>decide (e.on<i)))).getD false)=true)
  (hop:∀(i:Nat) (o:Oper) (u:Nat→Value) (w:World),i<last→ops[i]?=some o→Ext w→(∀ e∈o.after,Region.binds md e=true→Good e.on w (u e.on))→
   ∀ K:Act→World→Prop,(∀ w' v,Good i w' v→Ext w'→M w w'→K (frame (upd u i v)) w')→Oper.wp P o (frame u) w K Q)
  (hend:∀(o:Oper) (u:Nat→Value) (w:World),ops[last]?=some o→Ext w→(∀ i,i<last→Good i w (u i))→
   ∀ K:Act→World→Prop,(∀ a w',Q .normal a w'→K a w')→Oper.wp P o (frame u) w K Q) :
  ∀(fuel:Nat) (listed:Array Bool) (u:Nat→Value) (w:World),listed.size=ops.size→listed.getD last false=false→Ext w→(∀ i,i<last→listed.getD i false=true→Good i w (u i))→
   (listed.toList.filter (!·)).length≤fuel→wpAny P md ops Q fuel listed (frame u) w:=by
 have hb:∀(i:Nat) (o:Oper),ops[i]?=some o→∀ e∈o.after,e.on<i:=fun i o ho e he=>by
  have hi:i<ops.size:=(Array.getElem?_eq_some_iff.1 ho).1;have:=List.all_eq_true.1 hback i (List.mem_range.2 hi);rw[ho] at this;simp at this;obtain⟨k,hk,rfl⟩:=Array.mem_iff_getElem.1 he;exact this k hk
 have hg:∀(i:Nat) (o:Oper),ops[i]?=some o→o.guard=none:=fun i o ho=>by
  have:=Array.all_eq_true_iff_forall_mem.1 hguard o (Array.mem_of_getElem? ho);simpa using this
 have hw:∀ o,ops[last]?=some o→∀ j,j<last→∃ e∈o.after,Region.binds md e=true∧e.on=j:=fun o ho j hj=>by
  rw[ho] at hwait;have h1:(List.range last).all (fun j=>o.after.any (fun e=>Region.binds md e && decide (e.on=j)))=true:=by simpa using hwait
  have h2:=List.all_eq_true.1 h1 j (List.mem_range.2 hj);obtain⟨e,he,h3⟩:=Array.any_eq_true'.1 h2;simp at h3;exact⟨e,he,h3⟩
 have hno:∀(listed:Array Bool),listed.size=ops.size→listed.getD last false=false→Region.ready md ops listed≠[]:=by
  intro listed hs hl0 hr;have hall:∀ n i,i<n→i<ops.size→listed.getD i false=true:=by
   intro n
   induction n with
   |zero=>intro i h;omega
   |succ n ih=>
    intro i hin hi;by_cases hlt:i<n
    ·exact ih i hlt hi
    ·cases hl:listed.getD i false with
     |true=>rfl
     |false=>
      exfalso
      have hl':listed.getD i true=false:=by
       have hil:i<listed.size:=by omega
       simp[hil] at hl ⊢;exact hl
      have:i∈Region.ready md ops listed:=mem_ready.2 ⟨hi,hl',ops[i],by simp[hi],fun e hee _=>ih e.on (by have:=hb i ops[i] (by simp[hi]) e hee;omega) (by have:=hb i ops[i] (by simp[hi]) e hee;omega)⟩;rw[hr] at this;cases this
  have:=hall (last+1) last (by omega) (by omega);rw[hl0] at this;cases this
 intro fuel
 induction fuel with
 |zero=>
  intro listed u w hs hl0 he hgd hc
  exfalso
  have hil:last<listed.size:=by omega
  have h3:listed[last]=false:=by simpa[hil] using hl0
  have:listed[last]∈listed.toList.filter (!·):=by
   rw[List.mem_filter];exact⟨by simp,by rw[h3];rfl⟩
  have:=List.length_pos_of_mem this;omega
 |succ fuel ih=>
  intro listed u w hs hl0 he hgd hc;refine⟨fun hr=>absurd hr (hno listed hs hl0),fun i hi=>?_⟩;obtain⟨h1,h2,o,ho,h3⟩:=mem_ready.1 hi;refine wpOp_step ho fun K hK=>?_
  have hwn:Region.wanted o (yielded ops (frame u).tmps)=true:=by simp[Region.wanted,hg i o ho]
  rw[if_pos hwn];have hil:i<listed.size:=by omega
  by_cases hi':i<last
  ·refine hop i o u w hi' ho he (fun e hee hbd=>hgd e.on (by have:=hb i o ho e hee;omega) (h3 e hee hbd)) K fun w' v hgv hext hm=>hK _ _ ?_
   refine ih _ _ w' (by simpa using hs) ?_ hext (fun j hj hlj=>?_) ?_
   ·rw[getD_set listed i last hil,if_neg (by omega)];exact hl0
   ·rw[getD_set listed i j hil] at hlj;unfold upd;by_cases hji:j=i
    ·subst hji;simpa using hgv
    ·rw[if_neg hji] at hlj;rw[if_neg hji];exact hmono j w w' _ hm (hgd j hj hlj)
   ·have:listed.toList[i]?=some false:=by simp[hil] at h2;simp[hil,h2]
    have:=count_set listed.toList i this;rw[Array.toList_setIfInBounds];omega
  ·have hie:i=last:=by omega
   subst hie;have hlst:∀ j,j<i→listed.getD j false=true:=fun j hj=>by
    obtain⟨e,hee,hbd,rfl⟩:=hw o ho j hj;exact h3 e hee hbd
   refine hend o u w ho he (fun j hj=>hgd j hj (hlst j hj)) K fun a w' hq=>hK _ _ (wpAny_end ?_ hq)
   apply List.eq_nil_iff_forall_not_mem.2;intro j hj;obtain⟨g1,g2,_⟩:=mem_ready.1 hj;have hjl:j<listed.size:=by omega
   have g3:(listed.setIfInBounds i true).getD j false=false:=by
    have:j<(listed.setIfInBounds i true).size:=by simpa using hjl
    rw[Array.getD_eq_getD_getElem?,Array.getElem?_eq_getElem this] at g2 ⊢;exact g2
   rw[getD_set listed i j hil] at g3;by_cases hji:j=i
   ·rw[if_pos hji] at g3;cases g3
   ·rw[if_neg hji,hlst j (by omega)] at g3;cases g3
end
end Go.Proofs.YtganeokokjodoaaGreat
