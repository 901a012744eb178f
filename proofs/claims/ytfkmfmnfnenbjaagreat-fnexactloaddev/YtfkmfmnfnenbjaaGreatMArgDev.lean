import Derived.Test.YtfkmfmnfnenbjaaGreatDevTo
import Derived.Lib.SmallJoins
import Derived.Deep.SlicePairs
import Derived.Test.YtfkmfmnfnenbjaaGreatMDevVal
namespace Go.Proofs.YtfkmfmnfnenbjaaGreat
open Go.ChangeShapes Go.WideShapes Go.ChangeAt Go.RowKit
set_option linter.unusedVariables false
def I64 (x:Int):Prop:=-9223372036854775808≤x∧x≤9223372036854775807
theorem I64.of_wf {x:Int} (h:(Lit.int .i64 x).wf=true):I64 x:=by
 simp[Lit.wf,IntKind.min,IntKind.max,IntKind.signed,IntKind.bits] at h
 exact⟨by omega,by omega⟩
section
variable {H:Type} {enc:TypeId×Value→H} {W:World}
set_option maxRecDepth 100000 in
theorem bytes_of {fuel:Nat} {v:Value} {y:DataW H×List MemPlace} (h:DataW.trod enc Tryz.prog W 0 (fun _=>true) true fuel 22 [v]=some y) :
  ∃ a n cap zs,v=.slice a n cap∧zs.length=n∧n≤9223372036854775807∧Byte zs∧At .u8 W a zs:=by
 rcases open_ints Tryz.underlying22 Tryz.underlying5 (by kernel_rfl) h with⟨hcs,_⟩|⟨x,l,c,zs,hcs,_,hl,hm,hz,_,hcell,hwz⟩
 ·simp at hcs;exact⟨none,0,0,[],hcs,rfl,by omega,by simp[Byte],.inl rfl⟩
 ·simp at hcs;have hz':zs.length=c:=by simpa using hz
  refine⟨some x,l,c,zs.take l,hcs,by simp;omega,by unfold maxLen at hm;omega,fun n hn=>?_,?_⟩
  ·have:=hwz n (List.mem_of_mem_take hn);simp[Lit.wf,IntKind.min,IntKind.max,IntKind.signed,IntKind.bits] at this;omega
  ·by_cases h0:l=0
   ·left;simp[h0]
   ·right;obtain⟨b,off,spot⟩:=x;have hc0:=hcell 0 (by omega);have hs:spot=none:=by simpa[Addr.add] using World.cell?_spot hc0
    subst hs;refine⟨b,off,rfl,block_lt_of_cell (a:=(⟨b,off,none⟩:Addr).add 0) hc0,fun i hi=>?_⟩;have hi':i<l:=by simp at hi;omega
    have:=hcell i (by omega);rw[Addr.add_lit] at this;rw[this];simp[List.getD,hi']
def PInt (ps:List PD):Prop:=∀ i,I64 (ps.getD i (0,[])).1∧Byte (ps.getD i (0,[])).2
set_option maxRecDepth 100000 in
theorem pends_of {fuel:Nat} {v:Value} {y:DataW H×List MemPlace} (h:DataW.trod enc Tryz.prog W 0 (fun _=>true) true fuel 23 [v]=some y) :
  ∃ a n cap ps,v=.slice a n cap∧ps.length=n∧n≤9223372036854775807∧PAt W a ps∧(∀ i,(ps.getD i (0,[])).2.length≤9223372036854775807)∧PInt ps:=by
 rcases Go.Deep.open_slice_pairs Tryz.underlying23 Tryz.underlying82 (by kernel_rfl) rfl rfl (by kernel_rfl) (by kernel_rfl) h with⟨hcs,_⟩|⟨x,l,c,m,nn,V0,V1,D0,D1,P0,P1,hcs,_,hl,hm,hmm,_,hx⟩
 ·simp at hcs;refine⟨none,0,0,[],hcs,rfl,by omega,.inl rfl,fun i=>by simp,fun i=>⟨⟨by simp,by simp⟩,by simp[Byte]⟩⟩
 ·simp at hcs hmm;subst hmm;have each:∀ i,i<m→∃ q:PD×Option Addr×Nat,V0 i=.int .i64 q.1.1∧V1 i=.slice q.2.1 q.1.2.length q.2.2∧At .u8 W q.2.1 q.1.2∧q.1.2.length≤9223372036854775807∧I64 q.1.1∧Byte q.1.2:=by
   intro i hi;obtain⟨h1,h2,h3,h4⟩:=hx i hi;obtain⟨s,e1,_,hw⟩:=DataW.trod_int (k:=.i64) Tryz.underlying2 h3;obtain⟨a,n,cap,zs,e2,hn,hn2,hb,ha⟩:=bytes_of h4;simp at e1;exact⟨((s,zs),a,cap),e1,by rw[e2,hn],ha,by show zs.length≤_;omega,I64.of_wf hw,hb⟩
  obtain⟨q,hq⟩:=Go.Deep.choose_lt each;have hget:∀ i,i<l→(((List.range l).map fun i=>(q i).1).getD i (0,[]))=(q i).1:=fun i hi=>by simp[List.getD,hi]
  have hout:∀ i,¬ i<l→(((List.range l).map fun i=>(q i).1).getD i (0,[]))=(0,[]):=fun i hi=>by
   rw[List.getD_eq_getElem?_getD,List.getElem?_eq_none (by simp;omega)];rfl
  refine⟨some x,l,m,(List.range l).map fun i=>(q i).1,hcs,by simp,by unfold maxLen at hm;omega,?_,fun i=>?_,fun i=>?_⟩
  ·by_cases h0:l=0
   ·left;simp[h0]
   ·right;obtain⟨b,off,spot⟩:=x;have hc0:=(hx 0 (by omega)).1;have hs:spot=none:=by simpa[Addr.add] using World.cell?_spot hc0
    subst hs;refine⟨b,off,rfl,block_lt_of_cell (a:=(⟨b,off,none⟩:Addr).add (0*2)) hc0,fun i hi=>?_⟩;have hi':i<l:=by simpa using hi
    obtain⟨h1,h2,_,_⟩:=hx i (by omega);obtain⟨g1,g2,g3,_,_,_⟩:=hq i (by omega);rw[Addr.add_lit] at h1 h2;rw[hget i hi'];exact⟨(q i).2.1,(q i).2.2,by rw[h1,g1],by rw[Nat.add_assoc,h2,g2],g3⟩
  ·by_cases hi:i<l
   ·rw[hget i hi];exact(hq i (by omega)).2.2.2.1
   ·rw[hout i hi];simp
  ·by_cases hi:i<l
   ·rw[hget i hi];exact(hq i (by omega)).2.2.2.2
   ·rw[hout i hi];exact⟨⟨by simp,by simp⟩,by simp[Byte]⟩
def ArgD (W:World) (v:Value):Prop:=
 ∃(a:Option Addr) (n cap:Nat) (a':Option Addr) (n' cap':Nat) (zs:List Int) (ps:List PD) (f:Int) (d:Bool),v=.agg #[.slice a n cap,.slice a' n' cap',.int .i64 f,.bool d]∧zs.length=n∧ps.length=n'∧
  n≤9223372036854775807∧n'≤9223372036854775807∧At .u8 W a zs∧PAt W a' ps∧(∀ i,(ps.getD i (0,[])).2.length≤9223372036854775807)∧Byte zs∧PInt ps∧I64 f
set_option maxRecDepth 100000 in
theorem dev_of {r:Reach} {b0:Nat} {v:Value} {d:DataW H} {p:List MemPlace} (hv:Value.okWide Tryz.prog W r b0 25 v) (h:DataW.Trod enc Tryz.prog W 0 (fun _=>true) true 25 v d p):ArgD W v:=by
 obtain⟨v0,v1,v2,v3,y0,y1,y2,y3,n,rfl,_,_,h0,h1,h2,h3⟩:=Go.Joins.open_agg4 Tryz.underlying25 (by kernel_rfl) (by kernel_rfl) hv h
 obtain⟨a,n,cap,zs,rfl,hn,hn2,hb,ha⟩:=bytes_of h0
 obtain⟨a',n',cap',ps,rfl,hn',hn2',ha',hps,hpi⟩:=pends_of h1
 obtain⟨f,e2,_,hf⟩:=DataW.trod_int (k:=.i64) Tryz.underlying2 h2
 obtain⟨b,e3,_⟩:=DataW.trod_bool Tryz.underlying4 h3
 simp at e2 e3
 subst e2 e3
 exact⟨a,n,cap,a',n',cap',zs,ps,f,b,rfl,hn,hn',hn2,hn2',ha,ha',hps,hb,hpi,I64.of_wf hf⟩
end
end Go.Proofs.YtfkmfmnfnenbjaaGreat
namespace Go.Proofs.YtfkmfmnfnenbjaaGreat
open Go.ChangeShapes Go.WideShapes Go.ChangeAt Go.RowKit
set_option linter.unusedVariables false
structure LV (w w':World) (C:Array Value):Prop where
 below:Below w.heap.size w w'
 box:w'.heap[w.heap.size]?=some (.cells C 25 (0,0))
theorem LV.grow {w w' w'':World} {C:Array Value} (h:LV w w' C) (hb:Below w'.heap.size w' w''):LV w w'' C:=
 ⟨h.below.trans (hb.mono h.below.size),by rw[hb.block _ (Array.getElem?_eq_some_iff.1 h.box).1];exact h.box⟩
theorem LV.cells {w w':World} {a0 a1 a2 a3:Value} (h:LV w w' #[a0,a1,a2,a3]) :
  w'.cell? ⟨w.heap.size,0,none⟩=some a0∧w'.cell? ⟨w.heap.size,1,none⟩=some a1∧w'.cell? ⟨w.heap.size,2,none⟩=some a2∧w'.cell? ⟨w.heap.size,3,none⟩=some a3:=
 ⟨cell_of_row _ _ _ _ _ _ h.box,cell_of_row _ _ _ _ _ _ h.box,cell_of_row _ _ _ _ _ _ h.box,cell_of_row _ _ _ _ _ _ h.box⟩
theorem row4 {w:World} {g:Nat} {t:TypeId} {a0 a1 a2 a3:Value} (h:w.heap[g]?=some (.cells #[a0,a1,a2,a3] t (0,0))) :
  w.cell? ⟨g,0,none⟩=some a0∧w.cell? ⟨g,1,none⟩=some a1∧w.cell? ⟨g,2,none⟩=some a2∧w.cell? ⟨g,3,none⟩=some a3:=
 ⟨cell_of_row _ _ _ _ _ _ h,cell_of_row _ _ _ _ _ _ h,cell_of_row _ _ _ _ _ _ h,cell_of_row _ _ _ _ _ _ h⟩
def G10 (zs:List Int) (ps:List PD) (f:Int) (d:Bool) (x arg:Value):Nat→World→Value→Prop
 |0,_,v=>v=x
 |1,_,v=>v=arg
 |2,w,v=>DAt w v zs ps f d
 |3,_,v=>v=.bool true
 |_,_,v=>v=.bool false
theorem DAt.mono {w w':World} {v:Value} {zs:List Int} {ps:List PD} {f:Int} {d:Bool} (h:DAt w v zs ps f d) (hm:Mono w w'):DAt w' v zs ps f d:=by
 obtain⟨da,dc,ca,cc,hv,h1,h2,h3⟩:=h
 have kAt:∀ {x:Option Addr} {zs:List Int},At .u8 w x zs→At .u8 w' x zs:=fun {x zs} h=>by
  rcases h with h|⟨b,off,rfl,hl,hc⟩
  ·exact .inl h
  ·exact .inr ⟨b,off,rfl,by have:=hm.size;omega,fun i hi=>by rw[hm.cell ⟨b,off+i,none⟩ hl];exact hc i hi⟩
 refine⟨da,dc,ca,cc,hv,kAt h1,?_,h3⟩
 rcases h2 with h|⟨b,off,rfl,hl,hc⟩
 ·exact .inl h
 ·exact .inr ⟨b,off,rfl,by have:=hm.size;omega,fun i hi=>by
   obtain⟨x,c,p1,p2,p3⟩:=hc i hi;exact⟨x,c,by rw[hm.cell ⟨b,off+i*2,none⟩ hl];exact p1,by rw[hm.cell ⟨b,off+i*2+1,none⟩ hl];exact p2,kAt p3⟩⟩
theorem G10_mono (zs:List Int) (ps:List PD) (f:Int) (d:Bool) (x arg:Value) (i:Nat) (w w':World) (v:Value) (hm:Mono w w') (h:G10 zs ps f d x arg i w v):G10 zs ps f d x arg i w' v:=by
 unfold G10 at *
 split at h<;>first|exact h|exact DAt.mono h hm
end Go.Proofs.YtfkmfmnfnenbjaaGreat
namespace Go.Proofs.YtfkmfmnfnenbjaaGreat
open Go.ChangeShapes Go.WideShapes Go.ChangeAt Go.RowKit
set_option linter.unusedVariables false
structure Ch (B U:Nat) (w w':World):Prop where
 os:w'.os=w.os
 tape:w'.tape=w.tape
 output:w'.output=w.output
 size:w.heap.size≤w'.heap.size
 block:∀ k,k<w.heap.size→(k<B∨U≤k)→w'.heap[k]?=w.heap[k]?
theorem Ch.refl (B U:Nat) (w:World):Ch B U w w:=⟨rfl,rfl,rfl,Nat.le_refl _,fun _ _ _=>rfl⟩
theorem Ch.trans {B U:Nat} {a b c:World} (h:Ch B U a b) (k:Ch B U b c):Ch B U a c:=
 ⟨k.os.trans h.os,k.tape.trans h.tape,k.output.trans h.output,Nat.le_trans h.size k.size,fun i hi hb=>(k.block i (by have:=h.size;omega) hb).trans (h.block i hi hb)⟩
theorem Ch.of_below {B U:Nat} {w w':World} (h:Below w.heap.size w w'):Ch B U w w':=⟨h.os,h.tape,h.output,h.size,fun k hk _=>h.block k hk⟩
theorem Ch.below {B U:Nat} {w w':World} (h:Ch B U w w') (hB:B≤w.heap.size):Below B w w':=⟨h.os,h.tape,h.output,h.size,fun k hk=>h.block k (by omega) (.inl hk)⟩
theorem Ch.setCell {B U:Nat} {w w':World} (h:Ch B U w w') (g o:Nat) (v:Value) (hB:B≤g) (hU:g<U):Ch B U w (w'.setCell ⟨g,o,none⟩ v):=
 ⟨h.os,h.tape,h.output,by simp only[World.setCell,Array.size_modify];exact h.size,fun k hk hb=>(heap_setCell_other w' ⟨g,o,none⟩ k v (by show k≠g;omega)).trans (h.block k hk hb)⟩
theorem Ch.wrO {B U:Nat} {w w' w'':World} {a:Option Addr} (h:Ch B U w w') (hw:WrO a w' w'') (hB:∀ ad,a=some ad→B≤ad.block∧ad.block<U):Ch B U w w'':=
 ⟨hw.os.trans h.os,hw.tape.trans h.tape,hw.output.trans h.output,by rw[hw.size];exact h.size,fun k hk hb=>(hw.block k (fun ad e=>by have:=hB ad e;omega)).trans (h.block k hk hb)⟩
theorem Ch.mono {B U B' U':Nat} {w w':World} (h:Ch B U w w') (hB:B'≤B) (hU:U≤U'):Ch B' U' w w':=⟨h.os,h.tape,h.output,h.size,fun k hk hb=>h.block k hk (by omega)⟩
def kAt (k:Int) (ps:List PD) (i:Nat):Int:=k+i+pSum (ps.take i)
def pmarks (k:Int) (ps:List PD):List PD:=(List.range ps.length).map fun i=>(kAt k ps i,marks (kAt k ps i+1) (ps.getD i (0,[])).2.length)
theorem pmarks_len (k:Int) (ps:List PD):(pmarks k ps).length=ps.length:=by simp[pmarks]
theorem pmarks_get (k:Int) (ps:List PD) (i:Nat) (h:i<ps.length):(pmarks k ps).getD i (0,[])=(kAt k ps i,marks (kAt k ps i+1) (ps.getD i (0,[])).2.length):=by simp[pmarks,h]
theorem kAt_zero (k:Int) (ps:List PD):kAt k ps 0=k:=by simp[kAt,pSum]
theorem kAt_succ (k:Int) (ps:List PD) (i:Nat) (h:i<ps.length):kAt k ps (i+1)=kAt k ps i+1+(ps.getD i (0,[])).2.length:=by
 unfold kAt;rw[pSum_snoc ps i h];omega
theorem kAt_all (k:Int) (ps:List PD):kAt k ps ps.length=k+ps.length+pSum ps:=by unfold kAt;rw[List.take_length]
theorem kAt_le (k:Int) (ps:List PD) (i:Nat) (h:i≤ps.length):k≤kAt k ps i∧kAt k ps i≤k+ps.length+pSum ps:=by
 unfold kAt;have:=pSum_take ps i;omega
structure MP (w wr:World) (g o:Nat) (X:Nat→Option Addr) (C:Nat→Nat) (ps:List PD) (B U:Nat) (k:Int) (j:Nat):Prop where
 ch:Ch B U w wr
 size:wr.heap.size=w.heap.size
 all:∀ t,t<ps.length→(wr.cell? ⟨g,o+t*2,none⟩).isSome=true∧wr.frozen? ⟨g,o+t*2,none⟩=false∧wr.cell? ⟨g,o+t*2+1,none⟩=some (.slice (X t) (ps.getD t (0,[])).2.length (C t))
 rest:∀ t,t<ps.length→j≤t→Open wr (X t) (ps.getD t (0,[])).2.length
 done:∀ t,t<ps.length→t<j→wr.cell? ⟨g,o+t*2,none⟩=some (.int .i64 (kAt k ps t))∧At .u8 wr (X t) (marks (kAt k ps t+1) (ps.getD t (0,[])).2.length)
theorem MP.cell1 {w wr:World} {g o:Nat} {X:Nat→Option Addr} {C:Nat→Nat} {ps:List PD} {B U:Nat} {k:Int} {j:Nat} (h:MP w wr g o X C ps B U k j) (hj:j<ps.length) (v:Value) :
  (wr.setCell ⟨g,o+j*2,none⟩ v).cell? ⟨g,o+j*2+1,none⟩=some (.slice (X j) (ps.getD j (0,[])).2.length (C j)):=by
 rw[World.cell?_setCell_other _ _ _ _ (by simp)];exact(h.all j hj).2.2
theorem Open.setCell {w:World} {a:Option Addr} {n g o:Nat} {v:Value} (h:Open w a n) (hne:∀ ad,a=some ad→ad.block≠g):Open (w.setCell ⟨g,o,none⟩ v) a n:=
 h.keep (fun ad e=>heap_setCell_other w ⟨g,o,none⟩ ad.block v (hne ad e)) (by simp[World.setCell])
theorem At.setCell {w:World} {a:Option Addr} {zs:List Int} {g o:Nat} {v:Value} (h:At .u8 w a zs) (hne:∀ ad,a=some ad→ad.block≠g):At .u8 (w.setCell ⟨g,o,none⟩ v) a zs:=
 h.keep (fun ad e=>heap_setCell_other w ⟨g,o,none⟩ ad.block v (hne ad e)) (by simp[World.setCell])
theorem MP.step {w wr w2:World} {g o:Nat} {X:Nat→Option Addr} {C:Nat→Nat} {ps:List PD} {B U:Nat} {k:Int} {j:Nat} (h:MP w wr g o X C ps B U k j) (hj:j<ps.length) (hB:B≤g) (hU:g<U)
  (hX:∀ i,i<ps.length→∀ ad,X i=some ad→B≤ad.block∧ad.block<U∧ad.block≠g) (hd:∀ i j ad ad',i<ps.length→j<ps.length→i≠j→X i=some ad→X j=some ad'→ad.block≠ad'.block)
  (hw:WrO (X j) (wr.setCell ⟨g,o+j*2,none⟩ (.int .i64 (kAt k ps j))) w2) (hA:At .u8 w2 (X j) (marks (kAt k ps j+1) (ps.getD j (0,[])).2.length)):MP w w2 g o X C ps B U k (j+1):=by
 have hg2:w2.heap[g]?=(wr.setCell ⟨g,o+j*2,none⟩ (.int .i64 (kAt k ps j))).heap[g]?:=hw.block g (fun ad e=>Ne.symm (hX j hj ad e).2.2)
 have hs1:(wr.setCell ⟨g,o+j*2,none⟩ (.int .i64 (kAt k ps j))).heap.size=wr.heap.size:=by simp[World.setCell]
 have hsz:w2.heap.size=wr.heap.size:=by rw[hw.size,hs1]
 have cg:∀ q,w2.cell? ⟨g,q,none⟩=(wr.setCell ⟨g,o+j*2,none⟩ (.int .i64 (kAt k ps j))).cell? ⟨g,q,none⟩:=fun q=>World.cell?_of_block (a:=⟨g,q,none⟩) hg2
 have fg:∀ q,w2.frozen? ⟨g,q,none⟩=wr.frozen? ⟨g,q,none⟩:=fun q=>by rw[frozen_of_block (a:=⟨g,q,none⟩) hg2,World.frozen?_setCell]
 have hoth:∀ t,t<ps.length→t≠j→∀ ad,X t=some ad→w2.heap[ad.block]?=wr.heap[ad.block]?:=fun t ht htj ad e=>by
  rw[hw.block ad.block (fun ad' e'=>hd t j ad ad' ht hj htj e e'),heap_setCell_other wr ⟨g,o+j*2,none⟩ ad.block _ (hX t ht ad e).2.2]
 refine⟨(h.ch.setCell g _ _ hB hU).wrO hw (fun ad e=>⟨(hX j hj ad e).1,(hX j hj ad e).2.1⟩),by rw[hsz];exact h.size,fun t ht=>?_,fun t ht hjt=>?_,fun t ht hjt=>?_⟩
 ·obtain⟨p1,p2,p3⟩:=h.all t ht;refine⟨?_,by rw[fg];exact p2,?_⟩
  ·obtain⟨u,hu⟩:=Option.isSome_iff_exists.1 p1;obtain⟨u',hu'⟩:=cell?_setCell_some (w:=wr) (p:=⟨g,o+j*2,none⟩) (x:=.int .i64 (kAt k ps j)) (q:=⟨g,o+t*2,none⟩) (v:=u) hu;rw[cg,hu'];rfl
  ·rw[cg,World.cell?_setCell_other _ _ _ _ (by simp;try omega)];exact p3
 ·exact(h.rest t ht (by omega)).keep (hoth t ht (by omega)) (by omega)
 ·by_cases e:t=j
  ·subst e;obtain⟨u,hu⟩:=Option.isSome_iff_exists.1 (h.all t ht).1;exact⟨by rw[cg];exact World.cell?_setCell_same _ _ _ hu,hA⟩
  ·obtain⟨q1,q2⟩:=h.done t ht (by omega);refine⟨by rw[cg,World.cell?_setCell_other _ _ _ _ (by simp;try omega)];exact q1,q2.keep (hoth t ht e) (by omega)⟩
theorem MP.end_ {w wr:World} {g o:Nat} {X:Nat→Option Addr} {C:Nat→Nat} {ps:List PD} {B U:Nat} {k:Int} (h:MP w wr g o X C ps B U k ps.length) (hg:g<wr.heap.size):PAt wr (some ⟨g,o,none⟩) (pmarks k ps):=
 .inr ⟨g,o,rfl,hg,fun i hi=>by
  rw[pmarks_len] at hi;obtain⟨q1,q2⟩:=h.done i hi hi;rw[pmarks_get k ps i hi];exact⟨X i,C i,q1,by rw[marks_len];exact(h.all i hi).2.2,q2⟩⟩
set_option maxHeartbeats 400000 in
theorem markPS_any (a:Option Addr) (n cap:Nat) (ps:List PD) (k:Int) (B U:Nat) (w:World) (h:PMine B U w a ps) (hl:ps.length=n) (hk:0≤k) (hk':k+n+pSum ps≤1099511627776) :
  Calls Tryz.prog 36 #[.slice a n cap,.int .i64 k] w fun e w'=>e=.returned (.int .i64 (k+n+pSum ps))∧PAt w' a (pmarks k ps)∧Ch B U w w'∧w'.heap.size=w.heap.size:=by
 rcases h with rfl|⟨g,o,X,C,rfl,hB,hg,hU,h1,h2⟩
 ·simp at hl;subst hl;go_enter Tryz.func36,Tryz.ntmps36;go_wp2;refine wp_loop_rounds 1 ?_;rw[rounds_succ];go_wp2
  go_ret
  exact⟨ret_int (by simp[pSum]),.inl rfl,Ch.refl _ _ _,rfl⟩
 have hX:∀ i,i<ps.length→∀ ad,X i=some ad→B≤ad.block∧ad.block<U∧ad.block≠g:=fun i hi=>(h1 i hi).2.2.2.2.2.1
 have hst:MP w w g o X C ps B U k 0:=⟨Ch.refl _ _ _,rfl,fun t ht=>⟨by rw[(h1 t ht).1];rfl,(h1 t ht).2.1,(h1 t ht).2.2.1⟩,fun t ht _=>(h1 t ht).2.2.2.2.1,fun t _ ht=>by omega⟩
 have HX:Hid _:=hX
 have HD:Hid _:=h2
 have HST:Hid _:=hst
 clear h1 h2 hX hst
 go_enter Tryz.func36,Tryz.ntmps36
 go_wp2
 go_loopw [1,5] (fun q i wr=>∃ j:Nat,j≤n∧i=.int .i64 j∧q=.int .i64 (kAt k ps j)∧MP w wr g o X C ps B U k j) (fun _ i _=>n-(intOf i).toNat)
 case atStart=>exact⟨0,Nat.zero_le _,rfl,by rw[kAt_zero],HST.out⟩
 case round=>
  obtain⟨j,hj,rfl,rfl,st⟩:=hrel;have hkb:=kAt_le k ps j (by omega);by_cases hlt:j<n
  ·have hsucc:=kAt_succ k ps j (by omega);have hkb2:=kAt_le k ps (j+1) (by omega);obtain⟨p1,p2,p3⟩:=st.all j (by omega);obtain⟨v0,hv0⟩:=Option.isSome_iff_exists.1 p1;have c1:=st.cell1 (by omega) (.int .i64 (kAt k ps j));have ho:=(st.rest j (by omega) (Nat.le_refl _)).setCell (g:=g) (o:=o+j*2) (v:=.int .i64 (kAt k ps j)) (fun ad e=>(HX.out j (by omega) ad e).2.2);have hstep:=fun w2=>st.step (w2:=w2) (by omega) hB hg HX.out HD.out
   have HS:Hid _:=hstep;have HO:Hid _:=ho;have HSUC:Hid _:=hsucc;clear p1 hstep st ho hsucc;generalize kAt k ps j=q at *;generalize (ps.getD j (0,[])).2.length=m at *;have hr:q+1+(m:Int)=kAt k ps (j+1):=HSUC.out.symm;go_wp2_with fail;refine(markB_any (X j) m (C j) (q+1) _ HO.out (by omega) (by omega)).mono ?_;rintro e w2 ⟨rfl,hA,hwr⟩;have st2:=HS.out w2 hwr hA;rw[hr];have HST2:Hid _:=st2;clear st2 hA hwr hr;go_wp2;go_roundw
   case rel=>exact⟨j+1,by omega,by go_num,rfl,HST2.out⟩
   case measure=>simp[intOf];omega
  ·have hjn:j=ps.length:=by omega
   subst hjn;have hall:=kAt_all k ps;have HE:Hid _:=st.end_ (by have:=st.size;omega);have HC:Hid _:=And.intro st.ch st.size;rw[hall];clear st;go_wp2
   go_ret
   exact⟨ret_int (by omega),HE.out,HC.out⟩
set_option maxHeartbeats 400000 in
theorem markD_any (v:Value) (zs:List Int) (ps:List PD) (f:Int) (d:Bool) (k:Int) (B U:Nat) (w:World) (h:DMine B U w v zs ps f d) (hk:0≤k) (hk':k+zs.length+ps.length+pSum ps≤1099511627776) :
  Calls Tryz.prog 10 #[v,.int .i64 k] w fun e w'=>e=.returned (.int .i64 (k+zs.length+ps.length+pSum ps))∧DAt w' v (marks k zs.length) (pmarks (k+zs.length) ps) f d∧Ch B U w w':=by
 obtain⟨a,c,x,cx,B1,rfl,hA,hO,hab,hB1,hU1,hU,hP,hcap⟩:=h
 generalize hL:zs.length=L at *
 generalize hm:ps.length=m at *
 have hb:=(Below.refl w.heap.size w).alloc (Nat.le_refl _) (.cells #[.slice a L c,.slice x m cx,.int .i64 f,.bool d] 40)
 have n0:(w.alloc (.cells #[.slice a L c,.slice x m cx,.int .i64 f,.bool d] 40)).heap[w.heap.size]?=some (.cells #[.slice a L c,.slice x m cx,.int .i64 f,.bool d] 40 (0,0)):=heap_alloc_new w _
 have O1:=hO.below hb
 have P1:=hP.below hb
 have c1:Ch B U w (w.alloc (.cells #[.slice a L c,.slice x m cx,.int .i64 f,.bool d] 40)):=Ch.of_below hb
 obtain⟨w1,hw1⟩:∃ w1,w1=w.alloc (.cells #[.slice a L c,.slice x m cx,.int .i64 f,.bool d] 40):=⟨_,rfl⟩
 have HW:Hid _:=hw1
 rw[←hw1] at O1 P1 c1 n0
 have hz1:w.heap.size<w1.heap.size:=(Array.getElem?_eq_some_iff.1 n0).1
 have HC1:Hid _:=c1
 have HP1:Hid _:=P1
 have HN0:Hid _:=n0
 have HO1:Hid _:=O1
 clear hw1 hb hA hO hP c1 P1 n0 O1
 go_enter Tryz.func10,Tryz.ntmps10
 go_wp2_with fail
 rw[←HW.out]
 refine(markB_any a L c k w1 HO1.out hk (by omega)).mono ?_
 rintro e w2 ⟨rfl,hA2,hwr⟩
 have n2:w2.heap[w.heap.size]?=some (.cells #[.slice a L c,.slice x m cx,.int .i64 f,.bool d] 40 (0,0)):=by
  rw[hwr.block _ (fun ad e=>by have:=hab ad e;omega)];exact HN0.out
 have k1:=cell_of_row w2 w.heap.size 1 _ _ _ n2
 simp at k1
 have c2:Ch B U w w2:=HC1.out.wrO hwr (fun ad e=>by have:=hab ad e;omega)
 have P2:PMine B1 U w2 x ps:=PMine.keep (show PMine B1 U w1 x ps from HP1.out) (fun j hj hj'=>hwr.block j (fun ad e=>by have:=hab ad e;omega)) (by rw[hwr.size];exact Nat.le_refl _)
 have hz2:w2.heap.size=w1.heap.size:=hwr.size
 have HC2:Hid _:=c2
 have HP2:Hid _:=P2
 have HA2:Hid _:=hA2
 clear n2 c2 P2 hA2 hwr HC1 HP1 HN0 HO1 HW
 go_wp2_with fail
 refine(markPS_any x m cx ps (k+L) B1 U w2 HP2.out hm (by omega) (by omega)).mono ?_
 rintro e w3 ⟨rfl,hP3,hc3,hs3⟩
 have HE:Hid (At .u8 w3 a (marks k L)):=by
  refine At.keep (show At .u8 w2 a (marks k L) from HA2.out) (fun ad e=>?_) (by omega);have:=hab ad e;exact hc3.block _ (by omega) (.inl (by omega))
 have HC3:Hid (Ch B U w w3):=HC2.out.trans (hc3.mono (by omega) (Nat.le_refl _))
 have HP3:Hid _:=hP3
 clear hP3 hc3 HC2 HP2 HA2
 go_wp2
 go_ret
 exact⟨rfl,⟨a,c,x,cx,by rw[marks_len,pmarks_len,hm],HE.out,HP3.out,by rw[marks_len];exact hcap⟩,HC3.out⟩
end Go.Proofs.YtfkmfmnfnenbjaaGreat
