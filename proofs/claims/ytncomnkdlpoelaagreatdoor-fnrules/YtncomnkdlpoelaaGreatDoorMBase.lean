import Derived.Test.YtncomnkdlpoelaaGreatDoorRows
import Derived.WalkKit
import Derived.ProofKit
import Derived.OpenShut
import Derived.ShutString
import Derived.ChangeOld
import Derived.Below
import Derived.WalkSpells
import Derived.Deep.QuietTactic
import Derived.BigQuiet
import Derived.Deep.AppendLies
import Derived.BigRegion
namespace Go.Proofs.YtncomnkdlpoelaaGreatDoor
open Go.ChangeShapes Go.WideShapes Go.ChangeAt Go.RowKit
set_option linter.unusedVariables false
def At (k:IntKind) (w:World) (a:Option Addr) (zs:List Int):Prop:=
 zs=[]∨∃ b off,a=some ⟨b,off,none⟩∧b<w.heap.size∧∀ i,i<zs.length→w.cell? ⟨b,off+i,none⟩=some (.int k (zs.getD i 0))
def Byte (zs:List Int):Prop:=∀ z∈zs,0≤z∧z<256
theorem hdI {p:Prop} (h:p):Hid p:=h
theorem Byte.get {zs:List Int} (h:Byte zs) (i:Nat):0≤zs.getD i 0∧zs.getD i 0<256:=by
 by_cases hi:i<zs.length
 ·rw[List.getD_eq_getElem?_getD,List.getElem?_eq_getElem hi];exact h _ (List.getElem_mem hi)
 ·rw[List.getD_eq_getElem?_getD,List.getElem?_eq_none (by omega)];exact⟨by decide,by decide⟩
theorem At.get {k:IntKind} {w:World} {a:Option Addr} {zs:List Int} (h:At k w a zs) (hz:0<zs.length) :
  ∃ b off,a=some ⟨b,off,none⟩∧b<w.heap.size∧∀ i,i<zs.length→w.cell? ⟨b,off+i,none⟩=some (.int k (zs.getD i 0)):=by
 rcases h with h|h
 ·simp[h] at hz
 ·exact h
theorem At.below {k:IntKind} {w w':World} {a:Option Addr} {zs:List Int} (h:At k w a zs) (hb:Below w.heap.size w w'):At k w' a zs:=by
 rcases h with h|⟨b,off,rfl,hl,hc⟩
 ·exact .inl h
 ·exact .inr ⟨b,off,rfl,by have:=hb.size;omega,fun i hi=>by rw[hb.cell (p:=⟨b,off+i,none⟩) hl];exact hc i hi⟩
theorem ret_int {k:IntKind} {a b:Int} (h:a=b):Ending.returned (.int k a)=.returned (.int k b):=by rw[h]
theorem take_snoc (l:List Int) (k:Nat) (h:k<l.length):l.take (k+1)=l.take k++[l.getD k 0]:=by
 rw[List.take_succ_eq_append_getElem h,List.getD_eq_getElem?_getD,List.getElem?_eq_getElem h];rfl
/-! CRC-32 -/
def U32 (c:Int):Prop:=0≤c∧c<4294967296
def Row (w:World) (g:Nat) (e:TypeId) (zs:List Int):Prop:=w.heap[g]?=some (.cells (zs.map (Value.int .u8)).toArray e (0,0))
structure Wr (g:Nat) (w w':World):Prop where
 os:w'.os=w.os
 tape:w'.tape=w.tape
 output:w'.output=w.output
 size:w'.heap.size=w.heap.size
 block:∀ k,k≠g→w'.heap[k]?=w.heap[k]?
theorem Wr.refl (g:Nat) (w:World):Wr g w w:=⟨rfl,rfl,rfl,rfl,fun _ _=>rfl⟩
theorem Wr.trans {g:Nat} {a b c:World} (h:Wr g a b) (k:Wr g b c):Wr g a c:=
 ⟨k.os.trans h.os,k.tape.trans h.tape,k.output.trans h.output,k.size.trans h.size,fun i hi=>(k.block i hi).trans (h.block i hi)⟩
theorem Wr.setCell {g:Nat} {a w:World} (h:Wr g a w) (o:Nat) (u:Value):Wr g a (w.setCell ⟨g,o,none⟩ u):=
 h.trans ⟨rfl,rfl,rfl,by simp[World.setCell],fun k hk=>heap_setCell_other w _ k u hk⟩
theorem Wr.setRow (g:Nat) (w:World) (cs:Array Value):Wr g w (w.setRow g cs):=⟨rfl,rfl,rfl,size_setRow w g cs,fun k hk=>setRow_other w g k cs hk⟩
theorem Wr.drewN {g:Nat} {a w:World} (h:Wr g a w) (n:Nat):Wr g a (w.drewN n):=⟨h.os,h.tape,h.output,h.size,h.block⟩
theorem Wr.drew {g:Nat} {a w:World} (h:Wr g a w):Wr g a w.drew:=⟨h.os,h.tape,h.output,h.size,h.block⟩
theorem Wr.below {g B:Nat} {w w':World} (h:Wr g w w') (hB:B≤g):Below B w w':=⟨h.os,h.tape,h.output,by rw[h.size];exact Nat.le_refl _,fun k hk=>h.block k (by omega)⟩
theorem Row.lt {w:World} {g:Nat} {e:TypeId} {zs:List Int} (h:Row w g e zs):g<w.heap.size:=(Array.getElem?_eq_some_iff.1 h).1
theorem Row.cell {w:World} {g:Nat} {e:TypeId} {zs:List Int} (h:Row w g e zs) (i:Nat) (hi:i<zs.length):w.cell? ⟨g,i,none⟩=some (.int .u8 (zs.getD i 0)):=by
 rw[cell_of_row w g i _ e _ h];simp[hi]
theorem Row.frozen {w:World} {g:Nat} {e:TypeId} {zs:List Int} (h:Row w g e zs) (i:Nat):w.frozen? ⟨g,i,none⟩=false:=frozen_of_row w g i _ e h
theorem Row.set {w:World} {g:Nat} {e:TypeId} {zs:List Int} (h:Row w g e zs) (i:Nat) (x:Int):Row (w.setCell ⟨g,i,none⟩ (.int .u8 x)) g e (zs.set i x):=by
 unfold Row;rw[heap_setCell_same w g i _ e _ h];simp[List.map_set]
theorem Row.drew {w:World} {g:Nat} {e:TypeId} {zs:List Int} (h:Row w g e zs):Row w.drew g e zs:=h
theorem Tryz.infoU8':(Tryz.prog.info? 5).map (fun i=>(i.zero,i.size,i.bytes))=some (some (.int .u8 0),1,1):=by kernel_rfl
def Part (w:World) (v:Value) (zs:List Int):Prop:=
 ∃ b o c,v=.slice (some ⟨b,o,none⟩) zs.length c∧b<w.heap.size∧∀ i,i<zs.length→w.cell? ⟨b,o+i,none⟩=some (.int .u8 (zs.getD i 0))
def Own (w:World) (B:Nat) (v:Value) (zs:List Int):Prop:=
 w.ownsRow B 5 1 v zs.length (zs.map (Value.int .u8))∧∃ g c,v=.slice (some ⟨g,0,none⟩) zs.length c
theorem Own.base {w:World} {B:Nat} {v:Value} {zs:List Int} (h:Own w B v zs):∃ g c,v=.slice (some ⟨g,0,none⟩) zs.length c∧B≤g∧g<w.heap.size∧zs.length≤c:=by
 obtain⟨h,g,c,rfl⟩:=h;rcases h.2 with⟨h',_⟩|⟨g',c',cur,h',hb,hh,hc,_⟩
 ·cases h'
 ·cases h';exact⟨g,c,rfl,hb,(Array.getElem?_eq_some_iff.1 hh).1,hc⟩
theorem Own.part {w:World} {B:Nat} {v:Value} {zs:List Int} (h:Own w B v zs):Part w v zs:=by
 obtain⟨g,c,rfl,hb,hg,hc⟩:=h.base;refine⟨g,0,c,rfl,hg,fun i hi=>?_⟩;rw[Nat.zero_add,h.1.cellAt i (by omega)];simp[hi]
theorem Part.below {w w':World} {v:Value} {zs:List Int} (h:Part w v zs) (hb:Below w.heap.size w w'):Part w' v zs:=by
 obtain⟨b,o,c,rfl,hl,hc⟩:=h;exact⟨b,o,c,rfl,by have:=hb.size;omega,fun i hi=>by rw[hb.cell (p:=⟨b,o+i,none⟩) hl];exact hc i hi⟩
theorem Own.empty (w:World) (B:Nat) (hB:B≤w.heap.size):Own (w.alloc (.cells #[] 5)) B (.slice (some ⟨w.heap.size,0,none⟩) 0 0) []:=
 ⟨World.ownsRow_lit w #[] 0 hB (by simp) (by simp),_,_,rfl⟩
theorem Own.alloc {w:World} {B:Nat} {v:Value} {zs:List Int} (h:Own w B v zs) (o:Obj):Own (w.alloc o) B v zs:=⟨h.1.alloc _,h.2⟩
theorem wpList_app (w:World) {ops:Array Oper} {rest:List Oper} {o:Oper} {a:Act} {Q:Exit→Act→World→Prop}
  (hg:o.guard=none) (s x:Operand) (hop:o.op=Op.call { callee:=Callee.builtin Builtin.append,args:=#[s,x],argTypes:=#[22,22] })
  (B:Nat) (v:Value) (xs:List Int) (hs:a.eval s=v) (hown:Own w B v xs) (ad:Addr) (m c:Nat) (news:List Int) (hx:a.eval x=.slice (some ad) m c) (hl:news.length=m)
  (hnews:∀ j,j<m→w.cell? (ad.add j)=some (.int .u8 (news.getD j 0))) (hb:xs.length+m≤1099511627776) (hB:B≤w.heap.size)
  (hK:∀ v' w',Own w' B v' (xs++news)→Below B w w'→w.grownBy w' v.ownBlock→wpList Tryz.prog ops Q rest (a.put o.dst v') w') :
  wpList Tryz.prog ops Q (o::rest) a w:=by
 obtain⟨i0,hi,hz0,hz1,hz2⟩:=info_parts Tryz.infoU8';have hbase:=hown.base;refine wpList_append_own w hg s x 22 hop B 5 i0 (.int .u8 0) 1 1 Tryz.underlying22 hi hz0 hz1 hz2 rfl (by decide) v xs.length _ hs hown.1 ad m c (news.map (Value.int .u8)) hx (by simp[hl]) ?_ (ints_oneCell _ _) (by unfold maxLen;omega) (by omega) hB ?_
 ·intro j u hu;have hj:j<news.length:=by have:=(List.getElem?_eq_some_iff.1 hu).1;simpa using this
  rw[hnews j (by omega)];simp[hj] at hu;simp[hj,hu]
 ·intro v' w' h1 h2 h3;obtain⟨g,c0,hv,hBg,_,_⟩:=hbase;have hbel:=(Below.refl _ _).grown h2 hB (fun k hk=>by rw[hv] at hk;simp[Value.ownBlock] at hk;omega);refine hK v' w' ⟨?_,?_⟩ hbel h2
  ·rw[List.map_append,List.length_append,hl];exact h1
  ·rcases h1.2 with⟨h',_⟩|⟨g',c',cur,h',_⟩
   ·exact absurd (h3.1 h').1 (by rw[hv];simp)
   ·exact⟨g',c',by rw[h',List.length_append,hl]⟩
end Go.Proofs.YtncomnkdlpoelaaGreatDoor
namespace Go.Proofs.YtncomnkdlpoelaaGreatDoor
set_option linter.unusedVariables false
def val (B:Int):List Int→Int
 |[]=>0
 |z::zs=>z+B*val B zs
def Dig (B:Int) (zs:List Int):Prop:=∀ z∈zs,0≤z∧z<B
theorem val_append (B:Int) (xs ys:List Int):val B (xs++ys)=val B xs+B^xs.length*val B ys:=by
 induction xs with
 |nil=>simp[val]
 |cons x xs ih=>simp only[List.cons_append,val,List.length_cons,ih,Int.pow_succ];grind
theorem val_snoc (B:Int) (xs:List Int) (x:Int):val B (xs++[x])=val B xs+x*B^xs.length:=by
 rw[val_append];simp only[val];grind
theorem Dig.snoc {B:Int} {xs:List Int} {x:Int} (h:Dig B xs) (h0:0≤x) (h1:x<B):Dig B (xs++[x]):=by
 intro z hz;simp at hz;rcases hz with h'|rfl
 ·exact h z h'
 ·exact⟨h0,h1⟩
theorem Dig.tail {B:Int} {x:Int} {xs:List Int} (h:Dig B (x::xs)):Dig B xs:=fun z hz=>h z (by simp[hz])
theorem Dig.head {B:Int} {x:Int} {xs:List Int} (h:Dig B (x::xs)):0≤x∧x<B:=h x (by simp)
theorem val_nonneg {B:Int} (hB:0<B) {xs:List Int} (h:Dig B xs):0≤val B xs:=by
 induction xs with
 |nil=>simp[val]
 |cons x xs ih=>
  have:=h.head;have i:=ih h.tail;have:=Int.mul_nonneg (Int.le_of_lt hB) i;simp only[val];omega
theorem val_lt {B:Int} (hB:0<B) {xs:List Int} (h:Dig B xs):val B xs<B^xs.length:=by
 induction xs with
 |nil=>simp[val]
 |cons x xs ih=>
  obtain⟨h0,h1⟩:=h.head;have i:=ih h.tail;have h2:B*(val B xs+1)≤B*B^xs.length:=Int.mul_le_mul_of_nonneg_left (by omega) (by omega);simp only[val,List.length_cons,Int.pow_succ]
  grind
theorem val_inj {B:Int} (hB:0<B) {xs ys:List Int} (hx:Dig B xs) (hy:Dig B ys) (hl:xs.length=ys.length) (h:val B xs=val B ys):xs=ys:=by
 induction xs generalizing ys with
 |nil=>cases ys with
  |nil=>rfl
  |cons y ys=>simp at hl
 |cons x xs ih=>cases ys with
  |nil=>simp at hl
  |cons y ys=>
   obtain⟨h0,h1⟩:=hx.head;obtain⟨h2,h3⟩:=hy.head;simp only[val] at h;have e:x=y:=by
    have a1:(x+B*val B xs)%B=x:=by rw[Int.add_mul_emod_self_left];exact Int.emod_eq_of_lt h0 h1
    have a2:(y+B*val B ys)%B=y:=by rw[Int.add_mul_emod_self_left];exact Int.emod_eq_of_lt h2 h3
    rw[←a1,h,a2]
   subst e;have e2:val B xs=val B ys:=by
    have:B*val B xs=B*val B ys:=by omega
    exact Int.eq_of_mul_eq_mul_left (by omega) this
   rw[ih hx.tail hy.tail (by simpa using hl) e2]
theorem val_take (B:Int) (xs:List Int) (k:Nat) (h:k<xs.length):val B (xs.take (k+1))=val B (xs.take k)+xs.getD k 0*B^k:=by
 have:xs.take (k+1)=xs.take k++[xs.getD k 0]:=by
  rw[List.take_succ_eq_append_getElem h,List.getD_eq_getElem?_getD,List.getElem?_eq_getElem h];rfl
 rw[this,val_snoc,List.length_take,Nat.min_eq_left (by omega)]
theorem val_carry (B P x s t c r:Int) (h:s+c*P=t) (hr:r=x*P):(s+(x+c)%B*P)+(x+c)/B*(P*B)=t+r:=by
 have e:(x+c)%B+B*((x+c)/B)=x+c:=Int.emod_add_mul_ediv _ _;have e2:((x+c)%B+B*((x+c)/B))*P=(x+c)*P:=by rw[e]
 grind
theorem val_digit {B:Int} (hB:0<B) {ns:List Int} (h:Dig B ns) (q:Nat):val B ns/B^q%B=ns.getD q 0:=by
 induction ns generalizing q with
 |nil=>simp[val]
 |cons n ns ih=>
  obtain⟨h0,h1⟩:=h.head;cases q with
  |zero=>
   simp only[val,Int.pow_zero,Int.ediv_one,List.getD_cons_zero];rw[Int.add_mul_emod_self_left];exact Int.emod_eq_of_lt h0 h1
  |succ q=>
   have e:(n+B*val B ns)/B=val B ns:=by
    rw[Int.add_mul_ediv_left _ _ (by omega),Int.ediv_eq_zero_of_lt h0 h1];omega
   rw[List.getD_cons_succ,←ih h.tail q];simp only[val];rw[Int.pow_succ,Int.mul_comm (B^q) B,←Int.ediv_ediv_of_nonneg (by omega),e]
theorem val_set (B:Int) (ns:List Int) (q:Nat) (x:Int) (hq:q<ns.length):val B (ns.set q x)=val B ns+(x-ns.getD q 0)*B^q:=by
 induction ns generalizing q with
 |nil=>simp at hq
 |cons n ns ih=>
  cases q with
  |zero=>simp only[List.set_cons_zero,val,List.getD_cons_zero,Int.pow_zero];omega
  |succ q=>
   simp only[List.set_cons_succ,val,List.getD_cons_succ];rw[ih q (by simpa using hq),Int.pow_succ];grind
end Go.Proofs.YtncomnkdlpoelaaGreatDoor
namespace Go.Proofs.YtncomnkdlpoelaaGreatDoor
open Go.ChangeShapes Go.WideShapes Go.ChangeAt Go.RowKit
set_option linter.unusedVariables false
structure KT (k:IntKind) (t s:TypeId) (by':Nat):Prop where
 info:(Tryz.prog.info? t).map (fun i=>(i.zero,i.size,i.bytes))=some (some (.int k 0),1,by')
 und:Tryz.prog.underlying s=some (.slice t)
 pos:by'≠0
 le:by'≤8
def OwnK (k:IntKind) (t:TypeId) (w:World) (B:Nat) (v:Value) (zs:List Int):Prop:=
 w.ownsRow B t 1 v zs.length (zs.map (Value.int k))∧∃ g c,v=.slice (some ⟨g,0,none⟩) zs.length c
variable {k:IntKind} {t s:TypeId} {by':Nat}
theorem OwnK.base {w:World} {B:Nat} {v:Value} {zs:List Int} (h:OwnK k t w B v zs):∃ g c,v=.slice (some ⟨g,0,none⟩) zs.length c∧B≤g∧g<w.heap.size∧zs.length≤c:=by
 obtain⟨h,g,c,rfl⟩:=h;rcases h.2 with⟨h',_⟩|⟨g',c',cur,h',hb,hh,hc,_⟩
 ·cases h'
 ·cases h';exact⟨g,c,rfl,hb,(Array.getElem?_eq_some_iff.1 hh).1,hc⟩
theorem OwnK.at_ {w:World} {B:Nat} {v:Value} {zs:List Int} (h:OwnK k t w B v zs):∃ g c,v=.slice (some ⟨g,0,none⟩) zs.length c∧B≤g∧g<w.heap.size∧At k w (some ⟨g,0,none⟩) zs:=by
 obtain⟨g,c,rfl,hb,hg,hc⟩:=h.base;exact⟨g,c,rfl,hb,hg,.inr ⟨g,0,rfl,hg,fun i hi=>by rw[Nat.zero_add,h.1.cellAt i (by omega)];simp[hi]⟩⟩
theorem OwnK.atS {w:World} {B g n c:Nat} {zs:List Int} (h:OwnK k t w B (.slice (some ⟨g,0,none⟩) n c) zs):At k w (some ⟨g,0,none⟩) zs∧B≤g∧g<w.heap.size:=by
 obtain⟨g',c',e,h1,h2,h3⟩:=h.at_;simp at e;obtain⟨rfl,_⟩:=e;exact⟨h3,h1,h2⟩
theorem OwnK.empty (w:World) (B:Nat) (hB:B≤w.heap.size):OwnK k t (w.alloc (.cells #[] t)) B (.slice (some ⟨w.heap.size,0,none⟩) 0 0) []:=
 ⟨World.ownsRow_lit w #[] 0 hB (by simp) (by simp),_,_,rfl⟩
theorem OwnK.alloc {w:World} {B:Nat} {v:Value} {zs:List Int} (h:OwnK k t w B v zs) (o:Obj):OwnK k t (w.alloc o) B v zs:=⟨h.1.alloc _,h.2⟩
theorem OwnK.lit (w:World) (B:Nat) (zs:List Int) (hB:B≤w.heap.size) (hl:zs.length≤1024):OwnK k t (w.alloc (.cells (zs.map (Value.int k)).toArray t)) B (.slice (some ⟨w.heap.size,0,none⟩) zs.length zs.length) zs:=
 ⟨by
  have:=World.ownsRow_lit w (e:=t) (size:=1) (base:=B) (zs.map (Value.int k)).toArray zs.length hB (by unfold maxLen;omega) (by simp);exact this,_,_,rfl⟩
theorem OwnK.grow {w w':World} {B:Nat} {v:Value} {zs:List Int} (h:OwnK k t w B v zs) (hb:Below w.heap.size w w'):OwnK k t w' B v zs:=by
 refine⟨⟨h.1.1,?_⟩,h.2⟩;rcases h.1.2 with h'|⟨g,c,cur,h1,h2,h3,h4⟩
 ·exact .inl h'
 ·exact .inr ⟨g,c,cur,h1,h2,by rw[hb.block g (Array.getElem?_eq_some_iff.1 h3).1];exact h3,h4⟩
theorem OwnK.lower {w:World} {B B':Nat} {v:Value} {zs:List Int} (h:OwnK k t w B' v zs) (hB:B≤B'):OwnK k t w B v zs:=by
 obtain⟨⟨h1,h2⟩,h3⟩:=h;refine⟨⟨h1,?_⟩,h3⟩;rcases h2 with h|⟨g,c,cur,h4,h5,h6⟩
 ·exact .inl h
 ·exact .inr ⟨g,c,cur,h4,by omega,h6⟩
theorem OwnK.set {w:World} {B:Nat} {g c:Nat} {zs:List Int} {n:Nat} (hn:zs.length=n) (h:OwnK k t w B (.slice (some ⟨g,0,none⟩) n c) zs) (i:Nat) (x:Int) (hi:i<n) :
  w.cell? ⟨g,i,none⟩=some (.int k (zs.getD i 0))∧w.frozen? ⟨g,i,none⟩=false∧OwnK k t (w.setCell ⟨g,i,none⟩ (.int k x)) B (.slice (some ⟨g,0,none⟩) n c) (zs.set i x):=by
 subst hn;refine⟨?_,h.1.frozenAt i,?_,?_⟩
 ·rw[h.1.cellAt i (by omega)];simp[hi]
 ·have:=(h.1.stored i (.int k x)).1;rw[←List.map_set] at this;rw[List.length_set];exact this
 ·rw[List.length_set];exact⟨_,_,rfl⟩
theorem OwnK.cellAt {w:World} {B:Nat} {g c:Nat} {zs:List Int} {n:Nat} (hn:zs.length=n) (h:OwnK k t w B (.slice (some ⟨g,0,none⟩) n c) zs) (i:Nat) (hi:i<n):w.cell? ⟨g,i,none⟩=some (.int k (zs.getD i 0)):=by
 subst hn;rw[h.1.cellAt i (by omega)];simp[hi]
theorem wpList_appK (w:World) {ops:Array Oper} {rest:List Oper} {o:Oper} {a:Act} {Q:Exit→Act→World→Prop} (hk:KT k t s by')
  (hg:o.guard=none) (sx x:Operand) (hop:o.op=Op.call { callee:=Callee.builtin Builtin.append,args:=#[sx,x],argTypes:=#[s,s] })
  (B:Nat) (v:Value) (xs:List Int) (hs:a.eval sx=v) (hown:OwnK k t w B v xs) (ad:Addr) (m c:Nat) (news:List Int) (hx:a.eval x=.slice (some ad) m c) (hl:news.length=m)
  (hnews:∀ j,j<m→w.cell? (ad.add j)=some (.int k (news.getD j 0))) (hb:xs.length+m≤1099511627776) (hB:B≤w.heap.size)
  (hK:∀ v' w',OwnK k t w' B v' (xs++news)→Below B w w'→w.grownBy w' v.ownBlock→wpList Tryz.prog ops Q rest (a.put o.dst v') w') :
  wpList Tryz.prog ops Q (o::rest) a w:=by
 obtain⟨i0,hi,hz0,hz1,hz2⟩:=info_parts hk.info;have hbase:=hown.base;have hp:=hk.pos;have hle:=hk.le;refine wpList_append_own w hg sx x s hop B t i0 (.int k 0) 1 by' hk.und hi hz0 hz1 hz2 rfl (by omega) v xs.length _ hs hown.1 ad m c (news.map (Value.int k)) hx (by simp[hl]) ?_ (ints_oneCell _ _) (by unfold maxLen;omega) ?_ hB ?_
 ·intro j u hu;have hj:j<news.length:=by have:=(List.getElem?_eq_some_iff.1 hu).1;simpa using this
  rw[hnews j (by omega)];simp[hj] at hu;simp[hj,hu]
 ·have:=Nat.mul_le_mul hb hle;omega
 ·intro v' w' h1 h2 h3;obtain⟨g,c0,hv,hBg,_,_⟩:=hbase;have hbel:=(Below.refl _ _).grown h2 hB (fun k hk=>by rw[hv] at hk;simp[Value.ownBlock] at hk;omega);refine hK v' w' ⟨?_,?_⟩ hbel h2
  ·rw[List.map_append,List.length_append,hl];exact h1
  ·rcases h1.2 with⟨h',_⟩|⟨g',c',cur,h',_⟩
   ·exact absurd (h3.1 h').1 (by rw[hv];simp)
   ·exact⟨g',c',by rw[h',List.length_append,hl]⟩
end Go.Proofs.YtncomnkdlpoelaaGreatDoor
namespace Go.Proofs.YtncomnkdlpoelaaGreatDoor
open Go.ChangeShapes Go.WideShapes Go.ChangeAt Go.RowKit
set_option linter.unusedVariables false
theorem ktU:KT .u64 135 134 8:=⟨by kernel_rfl,Tryz.underlying134,by decide,by decide⟩
abbrev OwnU:=OwnK .u64 135
def D32 (zs:List Int):Prop:=∀ z∈zs,0≤z∧z<4294967296
theorem D32.get {zs:List Int} (h:D32 zs) (i:Nat):0≤zs.getD i 0∧zs.getD i 0<4294967296:=by
 by_cases hi:i<zs.length
 ·rw[List.getD_eq_getElem?_getD,List.getElem?_eq_getElem hi];exact h _ (List.getElem_mem hi)
 ·rw[List.getD_eq_getElem?_getD,List.getElem?_eq_none (by omega)];exact⟨by decide,by decide⟩
theorem D32.set {zs:List Int} (h:D32 zs) (i:Nat) (x:Int) (h0:0≤x) (h1:x<4294967296):D32 (zs.set i x):=by
 intro z hz;rcases List.mem_or_eq_of_mem_set hz with h'|rfl
 ·exact h z h'
 ·exact⟨h0,h1⟩
theorem getD_set_other (zs:List Int) (i j:Nat) (x:Int) (h:j≠i):(zs.set i x).getD j 0=zs.getD j 0:=by
 rw[List.getD_eq_getElem?_getD,List.getElem?_set_ne (Ne.symm h),List.getD_eq_getElem?_getD]
theorem getD_set_same (zs:List Int) (i:Nat) (x:Int) (h:i<zs.length):(zs.set i x).getD i 0=x:=by
 rw[List.getD_eq_getElem?_getD,List.getElem?_set_self h];rfl
theorem mul_step (B V o a b c P S:Int) (x:Int) (hx:x=o+a*b+c) (h:V+c*P=S):(V+(x%B-o)*P)+x/B*(P*B)=S+a*(b*P):=by
 have e:x%B+B*(x/B)=x:=Int.emod_add_mul_ediv _ _;have e2:(x%B+B*(x/B))*P=x*P:=by rw[e]
 subst hx
 grind
theorem mul_row (A x P Y:Int):A*Y+x*(P*Y)=(A+x*P)*Y:=by grind
structure MR (w:World) (xs ys:List Int) (i:Nat) (zs:List Int):Prop where
 len:zs.length=xs.length+ys.length
 dig:D32 zs
 zero:∀ j,i+ys.length≤j→zs.getD j 0=0
def MulPost (w:World) (xs ys:List Int) (e:Ending) (w':World):Prop:=
 ∃ v zs,e=.returned v∧OwnU w' w.heap.size v zs∧zs.length=xs.length+ys.length∧D32 zs∧val 4294967296 zs=val 4294967296 xs*val 4294967296 ys∧Below w.heap.size w w'
set_option maxHeartbeats 1000000 in
theorem mul_any (a a':Option Addr) (n m cap cap':Nat) (xs ys:List Int) (w:World) (hn:xs.length=n) (hm:ys.length=m) (hn':n≤1024) (hm':m≤1024) (hm0:0<m) (hn0:0<n) (ha:At .u64 w a xs) (ha':At .u64 w a' ys) (hx:D32 xs) (hy:D32 ys) :
  Calls Tryz.prog 145 #[.slice a n cap,.slice a' m cap'] w (MulPost w xs ys):=by
 obtain⟨b0,off,rfl,hb0,hc⟩:=ha.get (by omega);obtain⟨b1,off',rfl,hb1,hc'⟩:=ha'.get (by omega);have HC:=hdI <| hc
 have HC':=hdI <| hc'
 clear hc hc' ha ha';go_enter Tryz.func145,Tryz.ntmps145;go_wp2
 go_loopw [5,6] (fun v i wr=>∃ k:Nat,k≤n+m∧i=.int .i64 k∧OwnU wr w.heap.size v (List.replicate k 0)∧Below w.heap.size w wr) (fun _ i _=>n+m-(intOf i).toNat)
 case atStart=>exact⟨0,Nat.zero_le _,rfl,OwnK.empty _ _ (Nat.le_refl _),(Below.refl _ _).alloc (Nat.le_refl _) _⟩
 case round=>
  obtain⟨k,hk,rfl,hown,hbel⟩:=hrel;by_cases hlt:k<n+m
  ·have hsz:=hbel.size;have hlt':(k:Int)<(n:Int)+(m:Int):=by omega
   go_wp2_with (at_builtin;refine wpList_appK _ ktU rfl _ _ rfl w.heap.size _ _ rfl (hown.alloc _) ⟨wr.heap.size,0,none⟩ 1 1 [0] rfl rfl ?c1 ?c2 ?c3 ?_);all_goals first|(intro j hj;obtain rfl:j=0:=by omega
                                                                                                                                                                          simp[Addr.add];done)|skip
   case c2=>simp;omega
   case c3=>first|omega|(rw[World.size_alloc];omega)
   intro v' w1 hown' hbel' _;have HO:Hid (OwnU w1 w.heap.size v' (List.replicate (k+1) 0)):=by rw[List.replicate_succ'];exact hown'
   have HB:=hdI <| (hbel.alloc (by omega) _).trans hbel'
   clear hown hown' hbel hbel';go_wp2;go_roundw
   case rel=>exact⟨k+1,by omega,by go_num,HO.out,HB.out⟩
   case measure=>simp[intOf];omega
  ·obtain rfl:k=n+m:=by omega
   obtain⟨g,c,rfl,hg,hg',_⟩:=hown.at_;rw[List.length_replicate] at hown ⊢;have HO:=hdI <| hown
   have HB:=hdI <| hbel
   have ecast:((n+m:Nat):Int)=(n:Int)+(m:Int):=by omega
   clear hown hbel;go_wp2
   go_loopw [7] (fun i wq=>∃(k:Nat) (zs:List Int),k≤n∧i=.int .i64 k∧MR w xs ys k zs∧val 4294967296 zs=val 4294967296 (xs.take k)*val 4294967296 ys∧OwnU wq w.heap.size (.slice (some ⟨g,0,none⟩) (n+m) c) zs∧Below w.heap.size w wq) (fun i _=>n-(intOf i).toNat)
   case atStart=>
    refine⟨0,List.replicate (n+m) 0,Nat.zero_le _,rfl,⟨by simp[hn,hm],?_,?_⟩,?_,HO.out,HB.out⟩
    ·intro z hz;rw[List.mem_replicate] at hz;omega
    ·intro j hj;simp[List.getD_eq_getElem?_getD,List.getElem?_replicate];split<;>rfl
    ·simp only[List.take_zero,val,Int.zero_mul];generalize n+m=q
     induction q with
     |zero=>rfl
     |succ q ih=>rw[List.replicate_succ];simp[val,ih]
   case round=>
    clear HO HB;obtain⟨k,zs,hk,rfl,⟨hzl,hzd,hzz⟩,hv,hown,hbel⟩:=hrel;by_cases hkn:k<n
    ·have hkn':(k:Int)<(n:Int):=by omega
     have HX:=hx.get k;have HV:=hdI <| hv
     have HVT:Hid (val 4294967296 (xs.take (k+1))=val 4294967296 (xs.take k)+xs.getD k 0*4294967296^k):=val_take _ xs k (by omega);have HO:=hdI <| hown
     have HZ:Hid (zs.length=xs.length+ys.length∧D32 zs∧∀ j,k+ys.length≤j→zs.getD j 0=0):=⟨hzl,hzd,hzz⟩
     have HBE:Hid (Below w.heap.size w wr):=hbel;have HCX:Hid (∀ w',Below w.heap.size w w'→w'.cell? ⟨b0,off+k,none⟩=some (.int .u64 (xs.getD k 0))):=fun w' hb=>by rw[hb.cell (p:=⟨b0,off+k,none⟩) hb0];exact HC.out k (by omega)
     clear hv hown hzl hzd hzz hbel;obtain⟨hX0,hX1⟩:=HX;generalize xs.getD k 0=x at *;go_wp2
     go_loopw [8,9] (fun cc i wq=>∃(j:Nat) (zs:List Int) (b:Int),j≤m∧i=.int .i64 j∧cc=.int .u64 b∧(0≤b∧b<4294967296)∧(zs.length=xs.length+ys.length∧D32 zs∧∀ j,k+ys.length≤j→zs.getD j 0=0)∧val 4294967296 zs+b*4294967296^(k+j)=val 4294967296 (xs.take k)*val 4294967296 ys+x*(4294967296^k*val 4294967296 (ys.take j))∧OwnU wq w.heap.size (.slice (some ⟨g,0,none⟩) (n+m) c) zs∧Below w.heap.size w wq) (fun _ i _=>m-(intOf i).toNat)
     case atStart=>exact⟨0,zs,0,Nat.zero_le _,rfl,rfl,⟨by decide,by decide⟩,HZ.out,by rw[HV.out,List.take_zero];simp[val],HO.out,HBE.out⟩
     case round=>
      clear HV HO HZ HBE;obtain⟨j,zs,b,hj,rfl,rfl,⟨hb0',hb1'⟩,⟨hzl,hzd,hzz⟩,hv,hown,hbel⟩:=hrel;by_cases hjm:j<m
      ·have hjm':(j:Int)<(m:Int):=by omega
       have cx:=HCX.out _ hbel;have cy:wr.cell? ⟨b1,off'+j,none⟩=some (.int .u64 (ys.getD j 0)):=by rw[hbel.cell (p:=⟨b1,off'+j,none⟩) hb1];exact HC'.out j (by omega)
       have HY:=hy.get j;have hzb:=hzd.get (k+j);have vt:=val_take 4294967296 ys j (by omega);obtain⟨pr,hpr⟩:∃ pr,pr=x*ys.getD j 0:=⟨_,rfl⟩
       have hp0:0≤pr:=by rw[hpr];exact Int.mul_nonneg hX0 HY.1
       have hp1:pr≤18446744065119617025:=by
        rw[hpr];exact Int.le_trans (Int.mul_le_mul (show x≤4294967295 by omega) (show ys.getD j 0≤4294967295 by omega) HY.1 (by decide)) (by decide)
       obtain⟨y,hyy⟩:∃ y,y=zs.getD (k+j) 0+pr+b:=⟨_,rfl⟩
       have hy0:0≤y:=by omega
       have hy1:y<18446744073709551616:=by omega
       have st:=mul_step 4294967296 _ (zs.getD (k+j) 0) x (ys.getD j 0) b _ _ y (by rw[hyy,hpr]) hv;have e1:val 4294967296 (xs.take k)*val 4294967296 ys+x*(4294967296^k*val 4294967296 (ys.take j))+x*(ys.getD j 0*4294967296^(k+j))=val 4294967296 (xs.take k)*val 4294967296 ys+x*(4294967296^k*val 4294967296 (ys.take (j+1))):=by
        rw[vt,Int.pow_add];grind
       obtain⟨cz,fz,oz⟩:=OwnK.set (by omega:zs.length=n+m) hown (k+j) (y%4294967296) (by omega);have hle:k+j<zs.length:=by omega
       have HS:Hid (val 4294967296 (zs.set (k+j) (y%4294967296))+y/4294967296*4294967296^(k+(j+1))=val 4294967296 (xs.take k)*val 4294967296 ys+x*(4294967296^k*val 4294967296 (ys.take (j+1)))):=by
        show _=_
        rw[val_set _ _ _ _ hle,←e1,←st,←Nat.add_assoc,Int.pow_succ]
       have HZ:Hid ((zs.set (k+j) (y%4294967296)).length=xs.length+ys.length∧D32 (zs.set (k+j) (y%4294967296))∧∀ i,k+ys.length≤i→(zs.set (k+j) (y%4294967296)).getD i 0=0):=
        ⟨by rw[List.length_set];exact hzl,hzd.set _ _ (by omega) (by omega),fun i hi=>by rw[getD_set_other _ _ _ _ (by omega)];exact hzz i hi⟩
       have HO:=hdI <| oz
       have HBE:Hid (Below w.heap.size w (wr.setCell ⟨g,k+j,none⟩ (.int .u64 (y%4294967296)))):=hbel.setCell hg _;have HQ:=hdI <| hpr.symm
       have HQ2:=hdI <| hyy.symm
       have hw1:IntKind.u64.wrap (x*ys.getD j 0)=pr:=by rw[←hpr,IntKind.wrap_u64];exact Int.emod_eq_of_lt hp0 (by omega)
       clear e1 st vt oz hv hzd hzz hown hbel hle hpr hzl HVT;obtain⟨hY0,hY1⟩:=HY;obtain⟨hz0,hz1⟩:=hzb;generalize ys.getD j 0=yy at *;generalize zs.getD (k+j) 0=zz at *;have hkj:(k:Int)+(j:Int)<(n:Int)+(m:Int):=by omega
       go_wp2
       go_quiet (fail)
       rw[HQ2.out];have cz2:(wr.drewN nq).cell? ⟨g,k+j,none⟩=some (.int .u64 zz):=cz;have fz2:(wr.drewN nq).frozen? ⟨g,k+j,none⟩=false:=fz;have HO2:Hid (OwnU ((wr.drewN nq).setCell ⟨g,k+j,none⟩ (.int .u64 (y%4294967296))) w.heap.size (.slice (some ⟨g,0,none⟩) (n+m) c) (zs.set (k+j) (y%4294967296))):=HO.out;have HBE2:Hid (Below w.heap.size w ((wr.drewN nq).setCell ⟨g,k+j,none⟩ (.int .u64 (y%4294967296)))):=⟨HBE.out.os,HBE.out.tape,HBE.out.output,HBE.out.size,HBE.out.block⟩
       have hyq0:0≤y/4294967296:=by omega
       have hyq1:y/4294967296<4294967296:=by omega
       clear cz fz HO HBE cx cy HQ hw1 hyy HQ2 hp0 hp1 hz0 hz1;generalize wr.drewN nq=w2 at *;go_wp2;go_roundw
       case rel=>exact⟨j+1,zs.set (k+j) (y%4294967296),y/4294967296,by omega,by go_num,rfl,⟨hyq0,hyq1⟩,HZ.out,HS.out,HO2.out,HBE2.out⟩
       case measure=>simp[intOf];omega
      ·obtain rfl:j=m:=by omega
       rw[List.take_of_length_le (l:=ys) (i:=j) (by omega)] at hv;have hzk:=hzz (k+j) (by omega);obtain⟨cz,fz,oz⟩:=OwnK.set (by omega:zs.length=n+j) hown (k+j) b (by omega);rw[hzk] at cz;have hle:k+j<zs.length:=by omega
       have vs:=val_set 4294967296 zs (k+j) b hle;rw[hzk,Int.sub_zero,hv] at vs;have HS:Hid (val 4294967296 (zs.set (k+j) b)=val 4294967296 (xs.take (k+1))*val 4294967296 ys):=by
        show _=_
        rw[vs,HVT.out,mul_row]
       have HZ:Hid (MR w xs ys (k+1) (zs.set (k+j) b)):=⟨by rw[List.length_set];exact hzl,hzd.set _ _ (by omega) (by omega),fun i hi=>by rw[getD_set_other _ _ _ _ (by omega)];exact hzz i (by omega)⟩
       have HO:=hdI <| oz
       have HBE:Hid (Below w.heap.size w (wr.setCell ⟨g,k+j,none⟩ (.int .u64 b))):=hbel.setCell hg _;have hkj:(k:Int)+(j:Int)<(n:Int)+(j:Int):=by omega
       clear hv hzk oz hle vs hzz hzd hown hbel HVT HCX hzl;go_wp2;go_roundw
       case rel=>exact⟨k+1,zs.set (k+j) b,by omega,by go_num,HZ.out,HS.out,HO.out,HBE.out⟩
       case measure=>simp[intOf];omega
    ·obtain rfl:k=n:=by omega
     rw[List.take_of_length_le (by omega)] at hv;have hke:zs.length=k+m:=by omega
     have HP:Hid (MulPost w xs ys (.returned (.slice (some ⟨g,0,none⟩) (k+m) c)) wr):=⟨_,zs,rfl,hown,hzl,hzd,hv,hbel⟩
     clear hzl hzd hzz hv hown hbel hke;go_wp2
     go_ret
     exact HP.out
def prm (n:Nat):Bool:=decide (2≤n) && (List.range 32).all (fun d=>decide (d<2) || decide (n<d*d) || !decide (n%d=0))
theorem prm_of {n d:Nat} (hd:2≤d) (h:n%d=0) (hn:d*d≤n) (h32:d<32):prm n=false:=by
 unfold prm;rw[Bool.and_eq_false_iff];right;rw[List.all_eq_false];refine⟨d,List.mem_range.2 h32,?_⟩;simp[h];omega
theorem prm_end {n:Nat} (d:Nat) (hn:n<d*d) (h:∀ e,2≤e→e<d→n%e≠0):prm n=decide (2≤n):=by
 unfold prm;rw[List.all_eq_true.2 (fun e _=>?_),Bool.and_true];by_cases h1:e<2
 ·simp[h1]
 ·by_cases h2:e<d
  ·have:=h e (by omega) h2;simp[this]
  ·have:n<e*e:=Nat.lt_of_lt_of_le hn (Nat.mul_le_mul (by omega) (by omega));simp[this]
set_option maxHeartbeats 400000 in
theorem isPrm_any (n:Nat) (w:World) (hn:n<1024) :
  Calls Tryz.prog 147 #[.int .u64 n] w fun e w'=>e=.returned (.bool (prm n))∧w'=w:=by
 go_enter Tryz.func147,Tryz.ntmps147;go_wp2
 go_loop [3] (fun i=>∃ d:Nat,i=.int .u64 d∧2≤d∧d≤33∧∀ e,2≤e→e<d→n%e≠0) (fun i=>33-(intOf i).toNat)
 case atStart=>exact⟨2,rfl,by decide,by decide,fun e h1 h2=>by omega⟩
 case round=>
  obtain⟨d,rfl,hd,hd',hall⟩:=hrel;have hA:=hdI <| hall
  clear hall;by_cases hle:d*d≤n
  ·have h32:d<32:=by
    rcases Nat.lt_or_ge d 32 with h|h
    ·exact h
    ·have:=Nat.mul_le_mul h h;omega
   have hdd:d*d<1024:=by omega
   have hle':((d:Int)*(d:Int))≤(n:Int):=by rw[←Int.natCast_mul];omega
   have hdd':((d:Int)*(d:Int))<1024:=by rw[←Int.natCast_mul];omega
   have hdd0:0≤((d:Int)*(d:Int)):=Int.mul_nonneg (by omega) (by omega);by_cases hz:n%d=0
   ·have HP:=hdI <| prm_of hd hz hle h32
    have hz':(n:Int)%(d:Int)=0:=by exact_mod_cast hz
    have hz2:(n:Int).tmod (d:Int)=0:=by rw[Int.tmod_eq_emod_of_nonneg (by omega)];exact hz'
    have hne:¬ (d:Int)=0:=by omega
    clear hz hle;go_wp2
    go_ret
    exact⟨by rw[HP.out];rfl,rfl⟩
   ·have hz':¬ (n:Int)%(d:Int)=0:=by rw[←Int.natCast_emod];omega
    have hz2:¬ (n:Int).tmod (d:Int)=0:=by rw[Int.tmod_eq_emod_of_nonneg (by omega)];exact hz'
    have hz3:((n:Int)%(d:Int) == 0)=false:=by simpa using hz'
    have hz4:((n:Int).tmod (d:Int) == 0)=false:=by simpa using hz2
    have hne:¬ (d:Int)=0:=by omega
    have HN:Hid (∀ e,2≤e→e<d+1→n%e≠0):=fun e h1 h2=>by
     rcases Nat.lt_or_ge e d with h|h
     ·exact hA.out e h1 h
     ·obtain rfl:e=d:=by omega
      exact hz
    clear hle hA hz;go_wp2
    go_round
    case rel=>exact⟨d+1,by go_num,by omega,by omega,HN.out⟩
    case measure=>simp[intOf];omega
  ·have HP:=hdI <| prm_end d (by omega) hA.out
   have hdd:=Nat.mul_le_mul hd' hd';have hgt:(n:Int)<((d:Int)*(d:Int)):=by rw[←Int.natCast_mul];omega
   have hgt':¬ ((d:Int)*(d:Int))≤(n:Int):=by omega
   have hdd':((d:Int)*(d:Int))≤1089:=by rw[←Int.natCast_mul];omega
   clear hle hA;by_cases h2:2≤n
   ·have h2':(2:Int)≤(n:Int):=by omega
    have HP2:Hid (prm n=true):=by show prm n=true;rw[HP.out];simpa using h2
    go_wp2
    go_ret
    exact⟨by rw[HP2.out];rfl,rfl⟩
   ·have h2':¬ (2:Int)≤(n:Int):=by omega
    have HP2:Hid (prm n=false):=by show prm n=false;rw[HP.out];simpa using h2
    go_wp2
    go_ret
    exact⟨by rw[HP2.out];rfl,rfl⟩
def prs:List Nat:=[2,3,5,7,11,13,17,19,23,29,31,37,41,43,47,53,59,61,67,71,73,79,83,89,97,101,103,107,109,113,127,131,137,139,149,151,157,163,167,173,179,181,191,193,197,199,211,223,227,229,233,239,241,251,257,263,269,271,277,281,283,293,307,311,313,317,331,337,347,349,353,359,367,373,379,383,389,397,401,409]
def prs0:List Nat:=1::prs
theorem prs_all:∀ m<410,prm m=prs.contains m:=by decide +kernel
theorem prs_gap:∀ k<80,∀ j<80,¬ (prs0.getD k 0<prs.getD j 0∧prs.getD j 0<prs0.getD (k+1) 0):=by decide +kernel
theorem prs_up:∀ k<80,prs0.getD k 0<prs0.getD (k+1) 0∧prs0.getD (k+1) 0<410∧prs.contains (prs0.getD (k+1) 0)=true:=by decide +kernel
theorem prm_gap {k m:Nat} (hk:k<80) (h1:prs0.getD k 0<m) (h2:m<prs0.getD (k+1) 0):prm m=false:=by
 have:=(prs_up k hk).2.1;rw[prs_all m (by omega)];cases h:prs.contains m with
 |false=>rfl
 |true=>
  exfalso
  rw[List.contains_iff_mem] at h;obtain⟨j,hj,rfl⟩:=List.mem_iff_getElem.1 h;have hj':=hj;have:=prs_gap k hk j hj';rw[List.getD_eq_getElem?_getD (l:=prs),List.getElem?_eq_getElem hj] at this;exact this ⟨h1,h2⟩
theorem prm_hit {k:Nat} (hk:k<80):prm (prs0.getD (k+1) 0)=true:=by
 have:=prs_up k hk;rw[prs_all _ this.2.1];exact this.2.2
set_option maxHeartbeats 400000 in
theorem prime_any (t:Nat) (w:World) (ht:t<80) :
  Calls Tryz.prog 118 #[.int .i64 t] w fun e w'=>e=.returned (.int .u64 (prs0.getD (t+1) 0:Nat))∧w'=w:=by
 go_enter Tryz.func118,Tryz.ntmps118;go_wp2
 go_loop [3,4] (fun n i=>∃ k:Nat,k≤t+1∧i=.int .i64 k∧n=.int .u64 (prs0.getD k 0:Nat)) (fun _ i=>t+1-(intOf i).toNat)
 case atStart=>exact⟨0,Nat.zero_le _,rfl,rfl⟩
 case round=>
  obtain⟨k,hk,rfl,rfl⟩:=hrel;by_cases hlt:k<t+1
  ·obtain⟨hu1,hu2,hu3⟩:=prs_up k (by omega);have HG:Hid (∀ m,prs0.getD k 0<m→m<prs0.getD (k+1) 0→prm m=false):=fun m h1 h2=>prm_gap (by omega) h1 h2
   have HH:Hid (prm (prs0.getD (k+1) 0)=true):=prm_hit (by omega);clear hu3;generalize prs0.getD k 0=p at *;generalize hq:prs0.getD (k+1) 0=q at *;have HQ:Hid (prs0.getD (k+1) 0=q):=hq;clear hq;go_wp2
   go_loop [3] (fun i=>∃ m:Nat,i=.int .u64 m∧p<m∧m≤q) (fun i=>q-(intOf i).toNat)
   case atStart=>exact⟨p+1,by go_num,by omega,by omega⟩
   case round=>
    obtain⟨m,rfl,hm1,hm2⟩:=hrel;by_cases hmq:m<q
    ·have HF:Hid (prm m=false):=HG.out m hm1 hmq;go_wp2_with fail;refine(isPrm_any m _ (by omega)).mono ?_;rintro e w1 ⟨rfl,rfl⟩;rw[HF.out];go_wp2
     go_round
     case rel=>exact⟨m+1,by go_num,by omega,by omega⟩
     case measure=>simp[intOf];omega
    ·obtain rfl:m=q:=by omega
     go_wp2_with fail;refine(isPrm_any m _ (by omega)).mono ?_;rintro e w1 ⟨rfl,rfl⟩;rw[HH.out];go_wp2
     go_round
     case rel=>exact⟨k+1,by omega,by go_num,by rw[HQ.out]⟩
     case measure=>simp[intOf];omega
  ·obtain rfl:k=t+1:=by omega
   go_wp2
   go_ret
   exact⟨rfl,rfl⟩
end Go.Proofs.YtncomnkdlpoelaaGreatDoor
