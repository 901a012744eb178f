import Derived.Test.YtncomnkdlpoelaaGreatDoorMEpt
import Derived.Maps.AppendAt
import Derived.Test.YtncomnkdlpoelaaGreatDoorDrS
import Derived.Test.YtncomnkdlpoelaaGreatDoorStB
import Derived.Test.YtncomnkdlpoelaaGreatDoorMPMi
import Derived.Test.YtncomnkdlpoelaaGreatDoorMCatC
import Derived.Test.YtncomnkdlpoelaaGreatDoorMTxt
import Derived.Lib.SmallJoins
namespace Go.Proofs.YtncomnkdlpoelaaGreatDoor
open Go.ChangeShapes Go.WideShapes Go.ChangeAt Go.RowKit
set_option linter.unusedVariables false
theorem xor_bdP (u v:Int):0≤bits .xor .u8 u v∧bits .xor .u8 u v<256:=by
 have h:∀ n:Int,0≤IntKind.u8.wrap n∧IntKind.u8.wrap n<256:=fun n=>by rw[IntKind.wrap_u8];omega
 unfold bits;exact h _
def TxB (B:Nat) (w:World) (u:Value) (n:Nat):Prop:=
 ∃ b o c zs cs fr,u=.slice (some ⟨b,o,none⟩) n c∧n≤c∧zs.length=n∧Byte zs∧B≤b∧w.heap[b]?=some (.cells cs 5 fr)∧∀ i,i<n→w.cell? ⟨b,o+i,none⟩=some (.int .u8 (zs.getD i 0))
theorem TxB.keep {B:Nat} {w w':World} {u:Value} {n:Nat} (h:TxB B w u n) (hk:∀ b cs fr,B≤b→w.heap[b]?=some (.cells cs 5 fr)→w'.heap[b]?=w.heap[b]?):TxB B w' u n:=by
 obtain⟨b,o,c,zs,cs,fr,h1,h2,h3,h4,h5,h6,h7⟩:=h;have e:=hk b cs fr h5 h6;exact⟨b,o,c,zs,cs,fr,h1,h2,h3,h4,h5,by rw[e];exact h6,fun i hi=>by rw[World.cell?_of_block (a:=⟨b,o+i,none⟩) e];exact h7 i hi⟩
theorem lt_of_heap {w:World} {b:Nat} {o:Obj} (h:w.heap[b]?=some o):b<w.heap.size:=(Array.getElem?_eq_some_iff.1 h).1
theorem TxB.below {B:Nat} {w w':World} {u:Value} {n:Nat} (h:TxB B w u n) (b:Below w.heap.size w w'):TxB B w' u n:=h.keep fun k _ _ _ hk=>b.block k (lt_of_heap hk)
theorem TxB.wrG {B g:Nat} {w w':World} {u:Value} {n:Nat} (h:TxB B w u n) (b:WrG g w w') (hg:g<B):TxB B w' u n:=h.keep fun k _ _ hB hk=>b.block k (lt_of_heap hk) (by omega)
theorem TxB.mono {B B':Nat} {w:World} {u:Value} {n:Nat} (h:TxB B w u n) (hB:B'≤B):TxB B' w u n:=by
 obtain⟨b,o,c,zs,cs,fr,h1,h2,h3,h4,h5,h6,h7⟩:=h;exact⟨b,o,c,zs,cs,fr,h1,h2,h3,h4,Nat.le_trans hB h5,h6,h7⟩
theorem TxB.of_own {B:Nat} {w:World} {v:Value} {zs:List Int} {n:Nat} (h:Own w B v zs) (hl:zs.length=n) (hz:Byte zs):TxB B w v n:=by
 subst hl;obtain⟨g,c,rfl⟩:=h.2;rcases h.1.2 with⟨h',_⟩|⟨g',c',cur,h',hb,hh,hc,_⟩
 ·cases h'
 ·cases h';refine⟨g,0,c,zs,cur,_,rfl,hc,rfl,hz,hb,hh,fun i hi=>?_⟩;rw[Nat.zero_add,h.1.cellAt i (by omega)];simp[hi]
theorem TxB.of_txO {B:Nat} {w:World} {v:Value} {n:Nat} (h:TxO w B v n):TxB B w v n:=by
 obtain⟨zs,h1,h2,h3⟩:=h;exact TxB.of_own h1 h2 h3
theorem TxB.cut {B:Nat} {w:World} {b o c n:Nat} (h:TxB B w (.slice (some ⟨b,o,none⟩) n c) n) (m:Nat) (hm:m≤n):TxB B w (.slice (some ⟨b,o,none⟩) m c) m:=by
 obtain⟨b',o',c',zs,cs,fr,h1,h2,h3,h4,h5,h6,h7⟩:=h;cases h1;refine⟨b,o,c,zs.take m,cs,fr,rfl,by omega,by simp;omega,fun z hz=>h4 z (List.mem_of_mem_take hz),h5,h6,fun i hi=>?_⟩;rw[h7 i (by omega)]
 congr 2
 simp[List.getD_eq_getElem?_getD,hi]
theorem TxB.at_ {B:Nat} {w:World} {u:Value} {n:Nat} (h:TxB B w u n):∃ a c zs,u=.slice a n c∧n≤c∧zs.length=n∧Byte zs∧At .u8 w a zs:=by
 obtain⟨b,o,c,zs,cs,fr,h1,h2,h3,h4,h5,h6,h7⟩:=h;exact⟨_,c,zs,h1,h2,h3,h4,.inr ⟨b,o,rfl,lt_of_heap h6,fun i hi=>h7 i (by omega)⟩⟩
structure PS (lo:Nat) (w:World) (g:Nat) (x:Option Addr) (n cap:Nat) (v:Value) (m:Nat) (vs:List Value) (wr:World):Prop where
 wg:WrG g w wr
 cb:CurB wr g x n cap
 hg:g<w.heap.size
 row:wr.ownsRow w.heap.size 22 1 v m vs
 tx:∀ u∈vs,∃ k,lo≤k∧k≤72∧TxB w.heap.size wr u k
section
variable {lo:Nat} {w:World} {g:Nat} {x:Option Addr} {n cap:Nat} {v:Value} {m:Nat} {vs:List Value} {wr w':World} {q c:Nat}
theorem PS.ct (h:PS lo w g x n cap v m vs wr) (ht:CurT w g x n):CurT wr g x n:=ht.wr (fun q hq=>h.wg.block q (Nat.lt_trans hq h.hg) (Nat.ne_of_lt hq))
theorem ownsRow_kp {B:Nat} {e:TypeId} {s:Nat} (h:wr.ownsRow B e s v m vs) (hk:∀ q cs,B≤q→wr.heap[q]?=some (.cells cs e (0,0))→w'.heap[q]?=wr.heap[q]?):w'.ownsRow B e s v m vs:=by
 refine⟨h.1,?_⟩;rcases h.2 with h'|⟨q,c,cur,h1,h2,h3,h4⟩
 ·exact .inl h'
 ·exact .inr ⟨q,c,cur,h1,h2,by rw[hk q cur h2 h3];exact h3,h4⟩
theorem PS.cur (h:PS lo w g x n cap v m vs wr) (hc:CurB w' g x n cap) (hw:Wr g wr w'):PS lo w g x n cap v m vs w':=
 ⟨h.wg.trans hw.wrG,hc,h.hg,ownsRow_kp h.row (fun q _ hq _=>hw.block q (by have:=h.hg;omega)),fun u hu=>by
  obtain⟨k,h0,h1,h2⟩:=h.tx u hu;exact⟨k,h0,h1,h2.wrG hw.wrG h.hg⟩⟩
theorem PS.call (h:PS lo w g x n cap v m vs wr) (b:Below wr.heap.size wr w'):PS lo w g x n cap v m vs w':=
 ⟨h.wg.trans (WrG.of_below b),by obtain⟨i,hh,p1,p2,p3,p4,p5⟩:=h.cb;exact⟨i,hh,p1,p2,p3,p4,by rw[b.block g (lt_of_heap p5)];exact p5⟩,h.hg,ownsRow_kp h.row (fun q _ _ hq=>b.block q (lt_of_heap hq)),fun u hu=>by
  obtain⟨k,h0,h1,h2⟩:=h.tx u hu;exact⟨k,h0,h1,h2.below b⟩⟩
theorem PS.app {v' u:Value} {k:Nat} (h:PS lo w g x n cap v m vs wr) (hu:TxB w.heap.size wr u k) (hk0:lo≤k) (hk:k≤72) (hg:wr.grownBy w' v.ownBlock) (hr:w'.ownsRow w.heap.size 22 1 v' (m+1) (vs++[u])):PS lo w g x n cap v' (m+1) (vs++[u]) w':=by
 have hB:∀ q,v.ownBlock=some q→w.heap.size≤q∧∃ cs fr,wr.heap[q]?=some (.cells cs 22 fr):=fun q hq=>by
  rcases h.row.2 with⟨h',_⟩|⟨q',c,cur,h1,h2,h3,h4⟩
  ·rw[h'] at hq;simp[Value.ownBlock] at hq
  ·rw[h1] at hq;simp[Value.ownBlock] at hq;subst hq;exact⟨h2,cur,_,h3⟩
 have kp:∀ q,q<w.heap.size→w'.heap[q]?=wr.heap[q]?:=fun q hq=>hg.block q (Nat.lt_of_lt_of_le hq h.wg.size) (fun e=>by have:=(hB q e.symm).1;omega)
 have kt:∀ b cs fr,w.heap.size≤b→wr.heap[b]?=some (.cells cs 5 fr)→w'.heap[b]?=wr.heap[b]?:=fun b cs fr _ hb=>hg.block b (lt_of_heap hb) (fun e=>by
  obtain⟨_,cs',fr',h'⟩:=hB b e.symm;rw[hb] at h';injection h' with h';injection h' with _ h' _;exact absurd h' (by decide))
 refine⟨⟨hg.os.trans h.wg.os,hg.tape.trans h.wg.tape,hg.output.trans h.wg.output,Nat.le_trans h.wg.size hg.size,fun q hq hne=>(kp q hq).trans (h.wg.block q hq hne)⟩,?_,h.hg,hr,fun z hz=>?_⟩
 ·obtain⟨i,hh,p1,p2,p3,p4,p5⟩:=h.cb;exact⟨i,hh,p1,p2,p3,p4,by rw[kp g h.hg];exact p5⟩
 ·rcases List.mem_append.1 hz with hz|hz
  ·obtain⟨k',h0,h1,h2⟩:=h.tx z hz;exact⟨k',h0,h1,h2.keep kt⟩
  ·simp at hz;subst hz;exact⟨k,hk0,hk,hu.keep kt⟩
theorem PS.weak (h:PS lo w g x n cap v m vs wr):PS 0 w g x n cap v m vs wr:=⟨h.wg,h.cb,h.hg,h.row,fun u hu=>by
 obtain⟨k,h0,h1,h2⟩:=h.tx u hu;exact⟨k,Nat.zero_le _,h1,h2⟩⟩
theorem PS.form (h:PS lo w g x n cap v m vs wr):∃ a c,v=.slice a m c:=by
 rcases h.row.2 with⟨rfl,rfl⟩|⟨q,c,cur,h1,_⟩
 ·exact⟨_,_,rfl⟩
 ·exact⟨_,_,h1⟩
theorem PS.form1 (h:PS lo w g x n cap v m vs wr) (hm:0<m):∃ q c,v=.slice (some ⟨q,0,none⟩) m c∧m≤c∧w.heap.size≤q∧∀ i,i<m→wr.cell? ⟨q,i,none⟩=vs[i]?:=by
 rcases h.row.2 with⟨_,h0⟩|⟨q,c,cur,h1,h2,h3,h4,_⟩
 ·omega
 ·have hr:=h.row;rw[h1] at hr;exact⟨q,c,h1,h4,h2,fun i hi=>hr.cellAt i (by omega)⟩
theorem PS.lt (h:PS lo w g x n cap (.slice (some ⟨q,0,none⟩) m c) m vs wr):q<wr.heap.size:=by
 rcases h.row.2 with⟨h',_⟩|⟨q',c',cur,h1,h2,h3,_⟩
 ·cases h'
 ·cases h1;exact lt_of_heap h3
theorem CurB.bel {w w':World} {g:Nat} {x:Option Addr} {n cap:Nat} (h:CurB w g x n cap) (b:Below w.heap.size w w'):CurB w' g x n cap∧g<w.heap.size:=by
 obtain⟨i,hh,p1,p2,p3,p4,p5⟩:=h;exact⟨⟨i,hh,p1,p2,p3,p4,by rw[b.block g (lt_of_heap p5)];exact p5⟩,lt_of_heap p5⟩
theorem PS.start (lo:Nat) (h:CurB w g x n cap):PS lo w g x n cap (.slice (some ⟨w.heap.size,0,none⟩) 0 0) 0 [] (w.alloc (.cells #[] 22)):=
 ⟨WrG.of_below (below_new _ _),(h.bel (below_new _ _)).1,(h.bel (below_new w (.cells #[] 22))).2,⟨by simp,.inr ⟨w.heap.size,0,#[],rfl,Nat.le_refl _,heap_alloc_new w _,Nat.le_refl _,by simp[maxLen],by simp,by simp⟩⟩,by simp⟩
theorem Tryz.infoTxt:(Tryz.prog.info? 22).map (fun i=>(i.zero,i.size,i.bytes))=some (some (.slice none 0 0),1,24):=by kernel_rfl
theorem wpList_appP1 (wb:World) {ops:Array Oper} {rest:List Oper} {o:Oper} {a:Act} {Q:Exit→Act→World→Prop} (hgd:o.guard=none) (s y:Operand)
  (hop:o.op=Op.call { callee:=Callee.builtin Builtin.append,args:=#[s,y],argTypes:=#[50,50] }) (B:Nat) (v:Value) (m:Nat) (vs:List Value) (u:Value) (hs:a.eval s=v)
  (hown:(wb.alloc (.cells #[u] 22)).ownsRow B 22 1 v m vs) (hx:a.eval y=.slice (some ⟨wb.heap.size,0,none⟩) 1 1) (hu:u.oneCell'=true) (hm:m≤1000) (hB:B≤wb.heap.size)
  (hK:∀ v' w',w'.ownsRow B 22 1 v' (m+1) (vs++[u])→(wb.alloc (.cells #[u] 22)).grownBy w' v.ownBlock→wpList Tryz.prog ops Q rest (a.put o.dst v') w'):wpList Tryz.prog ops Q (o::rest) a (wb.alloc (.cells #[u] 22)):=by
 obtain⟨i0,hi,hz0,hz1,hz2⟩:=info_parts Tryz.infoTxt;obtain⟨v',w',hr,h2,h3,h4,h5⟩:=run_append_own_at (P:=Tryz.prog) (wb.alloc (.cells #[u] 22)) B 50 o.type 22 i0 (.slice none 0 0) 1 24 Tryz.underlying50 hi hz0 hz1 hz2 rfl (by decide) v m _ hown ⟨wb.heap.size,0,none⟩ 1 1 [u] rfl (by
  intro j z hz;have hj:j=0:=by have:=(List.getElem?_eq_some_iff.1 hz).1;simp at this;omega
  subst hj;rw[Addr.add_lit,cell_of_row _ _ _ _ _ _ (heap_alloc_new wb _),Nat.zero_add];simpa using hz) (by simpa using hu) (by unfold maxLen;omega) (by omega) (by simp;omega)
 have hk:=hK v' w' h2 h3;refine wpList_plain hgd fun K hK'=>?_
 unfold Oper.wp execOp;simp only[hop,resolve,invoke,builtin,Sem.run_bind,Sem.run_pure,Result.andThen_ok,List.map_toArray,List.map_cons,List.map_nil,hs,hx,hr];exact hK' _ _ hk
theorem wpList_cpy {w:World} {ops:Array Oper} {rest:List Oper} {o:Oper} {a:Act} {Q:Exit→Act→World→Prop} (hg:o.guard=none) (s y:Operand)
  (hop:o.op=Op.call { callee:=Callee.builtin Builtin.append,args:=#[s,y],argTypes:=#[22,22] }) (B E B':Nat) (u:Value) (k:Nat) (hs:a.eval s=.slice (some ⟨E,0,none⟩) 0 0)
  (hown:Own w B (.slice (some ⟨E,0,none⟩) 0 0) []) (hx:a.eval y=u) (hu:TxB B' w u k) (hk:k≤72) (hB:B≤w.heap.size)
  (hK:∀ v' w' zs,Own w' B v' zs→zs.length=k→Byte zs→Below B w w'→wpList Tryz.prog ops Q rest (a.put o.dst v') w'):wpList Tryz.prog ops Q (o::rest) a w:=by
 obtain⟨b,p,c,zs,cs,fr,h1,h2,h3,h4,h5,h6,h7⟩:=hu;exact wpList_app w hg s y hop B _ [] hs hown ⟨b,p,none⟩ k c zs (hx.trans h1) h3 (fun j hj=>by rw[Addr.add_lit];exact h7 j hj) (by simp;omega) hB fun v' w' O b' _=>hK v' w' zs (by simpa using O) h3 h4 b'
end
structure WrT (g:Nat) (w w':World):Prop where
 os:w'.os=w.os
 tape:w'.tape=w.tape
 output:w'.output=w.output
 size:w.heap.size≤w'.heap.size
 block:∀ k,k<w.heap.size→k≠g→(k<g∨∀ cs fr,w.heap[k]?≠some (.cells cs 2 fr)∧w.heap[k]?≠some (.cells cs 70 fr))→w'.heap[k]?=w.heap[k]?
theorem WrG.wrT {g:Nat} {w w':World} (h:WrG g w w'):WrT g w w':=⟨h.os,h.tape,h.output,h.size,fun k h1 h2 _=>h.block k h1 h2⟩
theorem WrT.trans {g:Nat} {a b c:World} (h:WrT g a b) (k:WrT g b c):WrT g a c:=
 ⟨k.os.trans h.os,k.tape.trans h.tape,k.output.trans h.output,Nat.le_trans h.size k.size,fun i h1 h2 h3=>by
  have e:=h.block i h1 h2 h3;rw[k.block i (Nat.lt_of_lt_of_le h1 h.size) h2 (by rw[e];exact h3),e]⟩
theorem WrT.typed {g k:Nat} {w w':World} (h:WrT g w w') {cs:Array Value} {t:TypeId} {fr:Nat×Nat} (hk:w.heap[k]?=some (.cells cs t fr)) (h1:t≠2) (h2:t≠70) (hg:k≠g):w'.heap[k]?=some (.cells cs t fr):=by
 rw[h.block k (lt_of_heap hk) hg (.inr fun cs' fr'=>?_)]
 ·exact hk
 ·rw[hk];exact⟨fun e=>(by injection e with e;injection e with _ e _;exact h1 e),fun e=>(by injection e with e;injection e with _ e _;exact h2 e)⟩
structure SS (w:World) (g:Nat) (x:Option Addr) (n cap:Nat) (cs:Array Value) (wr:World):Prop where
 wt:WrT g w wr
 cb:CurB wr g x n cap
 hg:g<w.heap.size
 p:wr.heap[w.heap.size]?=some (.cells cs 26 (0,0))
 r:wr.heap[w.heap.size+1]?=some (.cells #[.slice none 0 0,.slice none 0 0,.int .i64 0,.slice none 0 0] 26 (0,0))
structure Ls (g:Nat) (w:World) (vD vU vT:Value) (D U T:List Int) (nT:Nat):Prop where
 d:IO (g+1) w vD D
 u:IO (g+1) w vU U
 t:TapO (g+1) w vT T nT
 l:D.length≤300∧U.length≤300∧nT≤300
section
variable {w:World} {g:Nat} {x:Option Addr} {n cap:Nat} {cs cs':Array Value} {wr w':World} {vD vU vT:Value} {D U T:List Int} {nT:Nat} {v:Value}
theorem ownsRow_kp2 {B m:Nat} {e:TypeId} {s:Nat} {vs:List Value} (h:wr.ownsRow B e s v m vs) (hk:∀ q,v.ownBlock=some q→w'.heap[q]?=wr.heap[q]?):w'.ownsRow B e s v m vs:=by
 refine⟨h.1,?_⟩;rcases h.2 with h'|⟨q,c,cur,h1,h2,h3,h4⟩
 ·exact .inl h'
 ·exact .inr ⟨q,c,cur,h1,h2,by rw[hk q (by rw[h1];rfl)];exact h3,h4⟩
theorem SS.to (h:SS w g x n cap cs wr) (hw:WrT g wr w') (hc:CurB w' g x n cap):SS w g x n cap cs w':=by
 have hg:=h.hg;exact⟨h.wt.trans hw,hc,h.hg,hw.typed h.p (by decide) (by decide) (by omega),hw.typed h.r (by decide) (by decide) (by omega)⟩
theorem SS.set (h:SS w g x n cap cs wr) (i:Nat) (v:Value) (e:cs.setIfInBounds i v=cs'):SS w g x n cap cs' (wr.setCell ⟨w.heap.size,i,none⟩ v):=by
 have hw:Wr w.heap.size wr (wr.setCell ⟨w.heap.size,i,none⟩ v):=(Wr.refl _ _).setCell _ _;have hg:=h.hg;refine⟨⟨hw.os.trans h.wt.os,hw.tape.trans h.wt.tape,hw.output.trans h.wt.output,by rw[hw.size];exact h.wt.size,fun k h1 h2 h3=>(hw.block k (by omega)).trans (h.wt.block k h1 h2 h3)⟩,?_,hg,by rw[←e];exact heap_setCell_same _ _ _ _ _ _ h.p,by rw[hw.block _ (by omega)];exact h.r⟩;obtain⟨i',hh,p1,p2,p3,p4,p5⟩:=h.cb;exact⟨i',hh,p1,p2,p3,p4,by rw[hw.block g (by omega)];exact p5⟩
theorem SS.cell (h:SS w g x n cap cs wr) (i:Nat):wr.cell? ⟨w.heap.size,i,none⟩=cs[i]?∧wr.frozen? ⟨w.heap.size,i,none⟩=false:=⟨cell_of_row _ _ _ _ _ _ h.p,frozen_of_row _ _ _ _ _ h.p⟩
theorem SS.ct (h:SS w g x n cap cs wr) (ht:CurT w g x n):CurT wr g x n:=ht.wr (fun q hq=>h.wt.block q (Nat.lt_trans hq h.hg) (Nat.ne_of_lt hq) (.inl hq))
theorem SS.lt (h:SS w g x n cap cs wr):w.heap.size+1<wr.heap.size:=lt_of_heap h.r
theorem Ls.kp (h:Ls g wr vD vU vT D U T nT) (hk:∀ q o,g+1≤q→wr.heap[q]?=some o→(∃ cs,o=.cells cs 2 (0,0)∨o=.cells cs 70 (0,0))→w'.heap[q]?=wr.heap[q]?):Ls g w' vD vU vT D U T nT:=
 ⟨ownsRow_kp h.d fun q cs hq hc=>hk q _ hq hc ⟨cs,.inl rfl⟩,ownsRow_kp h.u fun q cs hq hc=>hk q _ hq hc ⟨cs,.inl rfl⟩,ownsRow_kp h.t fun q cs hq hc=>hk q _ hq hc ⟨cs,.inr rfl⟩,h.l⟩
theorem Ls.wrG (h:Ls g wr vD vU vT D U T nT) (hw:WrG g wr w'):Ls g w' vD vU vT D U T nT:=h.kp fun q _ hq ho _=>hw.block q (lt_of_heap ho) (by omega)
theorem Ls.set (h:Ls g wr vD vU vT D U T nT) {P:Nat} {t:TypeId} {cs:Array Value} {fr:Nat×Nat} (hp:wr.heap[P]?=some (.cells cs t fr)) (h1:t≠2) (h2:t≠70) (hw:Wr P wr w'):Ls g w' vD vU vT D U T nT:=h.kp fun q o hq ho ht=>hw.block q fun e=>by
 subst e;rw[hp] at ho;injection ho with ho;subst ho
 obtain⟨_,e|e⟩:=ht<;>injection e with _ e _
 ·exact h1 e
 ·exact h2 e
def DSW (g:Nat) (w:World) (v:Value):Prop:=
 ∃ aD nD cD aU nU cU k aT nT cT D U T,v=.agg #[.slice aD nD cD,.slice aU nU cU,.int .i64 k,.slice aT nT cT]∧Ls g w (.slice aD nD cD) (.slice aU nU cU) (.slice aT nT cT) D U T nT∧-9223372036854775808≤k∧k≤9223372036854775807
theorem SS.fin {aD aU aT:Option Addr} {nD cD nU cU cT:Nat} {k:Int} (h:SS w g x n cap #[.slice aD nD cD,.slice aU nU cU,.int .i64 k,.slice aT nT cT] wr) (hl:Ls g wr (.slice aD nD cD) (.slice aU nU cU) (.slice aT nT cT) D U T nT) (hk:-9223372036854775808≤k∧k≤9223372036854775807) (cs:Array Value) :
  DSW g (wr.setRow (w.heap.size+1) cs) (.agg #[.slice aD nD cD,.slice aU nU cU,.int .i64 k,.slice aT nT cT])∧CurB (wr.setRow (w.heap.size+1) cs) g x n cap∧WrT g w (wr.setRow (w.heap.size+1) cs):=by
 have hw:=Wr.setRow (w.heap.size+1) wr cs;have hg:=h.hg;refine⟨⟨_,_,_,_,_,_,_,_,_,_,_,_,_,rfl,hl.set h.r (by decide) (by decide) hw,hk⟩,?_,⟨hw.os.trans h.wt.os,hw.tape.trans h.wt.tape,hw.output.trans h.wt.output,by rw[hw.size];exact h.wt.size,fun k h1 h2 h3=>(hw.block k (by omega)).trans (h.wt.block k h1 h2 h3)⟩⟩;obtain⟨i',hh,p1,p2,p3,p4,p5⟩:=h.cb;exact⟨i',hh,p1,p2,p3,p4,by rw[hw.block g (by omega)];exact p5⟩
theorem IO.ty {B:Nat} {xs:List Int} (h:IO B wr v xs):∀ q,v.ownBlock=some q→B≤q∧∃ cs fr,wr.heap[q]?=some (.cells cs 2 fr):=fun q hq=>by
 rcases h.2 with⟨h',_⟩|⟨b,c,cur,h',hb,hh,_⟩
 ·rw[h'] at hq;simp[Value.ownBlock] at hq
 ·rw[h'] at hq;simp[Value.ownBlock] at hq;subst hq;exact⟨hb,cur,_,hh⟩
theorem grown_wrT {xs:List Int} (h:IO (g+1) wr v xs) (hg:wr.grownBy w' v.ownBlock):WrT g wr w':=
 ⟨hg.os,hg.tape,hg.output,hg.size,fun k h1 h2 h3=>hg.block k h1 fun e=>by
  obtain⟨hB,cs,fr,hk⟩:=h.ty k e.symm;rcases h3 with h3|h3
  ·omega
  ·exact(h3 cs fr).1 hk⟩
theorem grown_cb {xs:List Int} (h:IO (g+1) wr v xs) (hg:wr.grownBy w' v.ownBlock) (hc:CurB wr g x n cap):CurB w' g x n cap:=by
 obtain⟨i',hh,p1,p2,p3,p4,p5⟩:=hc;exact⟨i',hh,p1,p2,p3,p4,by rw[hg.block g (lt_of_heap p5) (fun e=>by have:=(h.ty g e.symm).1;omega)];exact p5⟩
theorem wpList_appL (wb:World) {ops:Array Oper} {rest:List Oper} {o:Oper} {a:Act} {Q:Exit→Act→World→Prop} (hgd:o.guard=none) (sx y:Operand)
  (hop:o.op=Op.call { callee:=Callee.builtin Builtin.append,args:=#[sx,y],argTypes:=#[23,23] }) (B:Nat) (v:Value) (xs:List Int) (z:Int) (hs:a.eval sx=v) (hown:IO B (wb.alloc (.cells #[.int .i64 z] 2)) v xs)
  (hx:a.eval y=.slice (some ⟨wb.heap.size,0,none⟩) 1 1) (hm:xs.length≤1000) (hB:B≤wb.heap.size)
  (hK:∀ v' w',IO B w' v' (xs++[z])→(wb.alloc (.cells #[.int .i64 z] 2)).grownBy w' v.ownBlock→wpList Tryz.prog ops Q rest (a.put o.dst v') w') :
  wpList Tryz.prog ops Q (o::rest) a (wb.alloc (.cells #[.int .i64 z] 2)):=by
 obtain⟨i0,hi,hz0,hz1,hz2⟩:=info_parts Tryz.infoI64q;refine wpList_append_own_at _ hgd sx y 23 hop B 2 i0 (.int .i64 0) 1 8 Tryz.underlying23 hi hz0 hz1 hz2 rfl (by decide) v xs.length _ hs hown ⟨wb.heap.size,0,none⟩ 1 1 [.int .i64 z] hx rfl (cell_one_new wb _ _) (by simp[Value.oneCell']) (by unfold maxLen;omega) (by omega) (by simp;omega) ?_;intro v' w' h1 h2 _ _;refine hK v' w' ?_ h2;unfold IO;rw[List.map_append,List.length_append];exact h1
end
structure SpR where
 c:Int
 D:List Int
 U:List Int
 k:Int
 T:List Int
 n:Nat
noncomputable def opR (D U:List Int) (k:Int) (T:List Int) (n:Nat) (ks:List Int) (kind:Int) (tk:List Int) (now N:Int):SpR:=
 if kind=1 then(if tapC D U ks tk now=1 then ⟨1,D,withS U (tkS tk).toNat,k,T++[tkS tk,now],n+1⟩ else ⟨tapC D U ks tk now,D,U,k,T,n⟩)
 else if kind=2 then(if 0≤N∧N<256 then(if memB N D=true then ⟨9,D,U,k,T,n⟩ else if D.length=16 then ⟨10,D,U,k,T,n⟩ else ⟨9,withS D N.toNat,U,k,T,n⟩) else ⟨10,D,U,k,T,n⟩)
 else if kind=3 then(if 0≤N∧N<256 then(if memB N D=true then ⟨9,lessS D N.toNat,U,k,T,n⟩ else ⟨9,D,U,k,T,n⟩) else ⟨10,D,U,k,T,n⟩)
 else if kind=4 then(if N<k then ⟨10,D,U,k,T,n⟩ else if k+(n:Int)<N then ⟨10,D,U,k,T,n⟩ else if N=k then ⟨9,D,U,k,T,n⟩ else ⟨9,D,U,N,T.drop ((N-k).toNat*2),n-(N-k).toNat⟩)
 else if kind=5 then ⟨9,D,U,k,T,n⟩ else ⟨10,D,U,k,T,n⟩
open Classical in
noncomputable def stR (D U:List Int) (k:Int) (T:List Int) (n:Nat) (ks:List Int) (kind:Int) (tk:List Int) (now N:Int):SpR:=
 if stB D U k T n=true∧ks.length=32 then opR D U k T n ks kind tk now N else ⟨10,D,U,k,T,n⟩
section
variable {D U:List Int} {k:Int} {T:List Int} {n:Nat} {ks:List Int} {kind:Int} {tk:List Int} {now N:Int}
theorem memB_of (h:memB N D=true):N∈D:=by unfold memB at h;simpa using h
theorem memB_not (h:¬ memB N D=true):¬ N∈D:=fun hm=>h (memB_yes hm)
theorem tapC_mem (h:tapC D U ks tk now=1):¬ tkS tk∈D∧¬ tkS tk∈U:=by
 unfold tapC at h;by_cases h0:now<0
 ·rw[if_pos h0] at h;omega
 rw[if_neg h0] at h;by_cases h1:4294967295<now
 ·rw[if_pos h1] at h;omega
 rw[if_neg h1] at h;by_cases h2:tkB tk=false
 ·rw[if_pos h2] at h;omega
 rw[if_neg h2] at h;by_cases h3:256≤tkS tk
 ·rw[if_pos h3] at h;omega
 rw[if_neg h3] at h;by_cases h4:tkE tk<now
 ·rw[if_pos h4] at h;omega
 rw[if_neg h4] at h;by_cases h5:memB (tkS tk) D=true
 ·rw[if_pos h5] at h;omega
 rw[if_neg h5] at h;by_cases h6:memB (tkS tk) U=true
 ·rw[if_pos h6] at h;omega
 exact⟨memB_not h5,memB_not h6⟩
theorem ackM_of (h:k≤N):ackM k N=(N-k).toNat:=by unfold ackM;rw[Int.max_eq_left h]
theorem du_op (hst:stB D U k T n=true) (hz:Byte tk) (h0:0≤k) (h1:k≤1048576) (hn:n≤1048576) (hD:D.length≤16) (hk1:1≤kind) (hk5:kind≤5) :
  ((duR D U k n ks kind tk now N).fk=0→opR D U k T n ks kind tk now N=⟨(duR D U k n ks kind tk now N).c,D,U,k,T,n⟩)∧
  (¬ (duR D U k n ks kind tk now N).fk=0→∃ o:SpR,opR D U k T n ks kind tk now N=o∧o.c=(duR D U k n ks kind tk now N).c∧apF D U k T n (duR D U k n ks kind tk now N).fk (duR D U k n ks kind tk now N).a (duR D U k n ks kind tk now N).b=⟨true,o.D,o.U,o.k,o.T,o.n⟩∧(duR D U k n ks kind tk now N).a<4294967296∧(duR D U k n ks kind tk now N).b<4294967296):=by
 have hap:∀ kd a b,apF D U k T n kd a b=apR D U k T n kd a b:=fun kd a b=>by unfold apF;rw[if_pos hst]
 obtain rfl|rfl|rfl|rfl|rfl:kind=1∨kind=2∨kind=3∨kind=4∨kind=5:=by omega
 ·have e1:duR D U k n ks 1 tk now N=if tapC D U ks tk now=1 then ⟨1,1,(tkS tk).toNat,now.toNat⟩ else ⟨tapC D U ks tk now,0,0,0⟩:=by unfold duR;rw[if_pos rfl]
  have e2:opR D U k T n ks 1 tk now N=if tapC D U ks tk now=1 then ⟨1,D,withS U (tkS tk).toNat,k,T++[tkS tk,now],n+1⟩ else ⟨tapC D U ks tk now,D,U,k,T,n⟩:=by unfold opR;rw[if_pos rfl]
  rw[e1,e2];by_cases hc:tapC D U ks tk now=1
  ·rw[if_pos hc,if_pos hc];obtain⟨s,m,hs,rfl,hs2,hm2,htb⟩:=tapC_one hz hc;obtain⟨hd,hu⟩:=tapC_mem hc;rw[hs] at hd hu ⊢;refine⟨fun h=>absurd h (by simp),fun _=>⟨_,rfl,rfl,?_,by simp;omega,by simp;omega⟩⟩;dsimp only;rw[hap];exact apR_tap ⟨by simpa using hs2,by simpa using hu,by simpa using hd⟩
  ·rw[if_neg hc,if_neg hc];exact⟨fun _=>rfl,fun h=>absurd rfl h⟩
 ·have e1:duR D U k n ks 2 tk now N=if 0≤N∧N<256 then(if memB N D=true then ⟨9,0,0,0⟩ else if D.length=16 then ⟨10,0,0,0⟩ else ⟨9,2,N.toNat,1⟩) else ⟨10,0,0,0⟩:=by unfold duR;rw[if_neg (by decide),if_pos rfl]
  have e2:opR D U k T n ks 2 tk now N=if 0≤N∧N<256 then(if memB N D=true then ⟨9,D,U,k,T,n⟩ else if D.length=16 then ⟨10,D,U,k,T,n⟩ else ⟨9,withS D N.toNat,U,k,T,n⟩) else ⟨10,D,U,k,T,n⟩:=by unfold opR;rw[if_neg (by decide),if_pos rfl]
  rw[e1,e2];by_cases hs:0≤N∧N<256
  ·rw[if_pos hs,if_pos hs];by_cases hm:memB N D=true
   ·rw[if_pos hm,if_pos hm];exact⟨fun _=>rfl,fun h=>absurd rfl h⟩
   ·rw[if_neg hm,if_neg hm];by_cases h16:D.length=16
    ·rw[if_pos h16,if_pos h16];exact⟨fun _=>rfl,fun h=>absurd rfl h⟩
    ·rw[if_neg h16,if_neg h16];refine⟨fun h=>absurd h (by simp),fun _=>⟨_,rfl,rfl,?_,by simp;omega,by simp⟩⟩;dsimp only;rw[hap];exact apR_add ⟨by omega,by rw[Int.toNat_of_nonneg hs.1];exact memB_not hm,h16⟩
  ·rw[if_neg hs,if_neg hs];exact⟨fun _=>rfl,fun h=>absurd rfl h⟩
 ·have e1:duR D U k n ks 3 tk now N=if 0≤N∧N<256 then(if memB N D=true then ⟨9,2,N.toNat,0⟩ else ⟨9,0,0,0⟩) else ⟨10,0,0,0⟩:=by unfold duR;rw[if_neg (by decide),if_neg (by decide),if_pos rfl]
  have e2:opR D U k T n ks 3 tk now N=if 0≤N∧N<256 then(if memB N D=true then ⟨9,lessS D N.toNat,U,k,T,n⟩ else ⟨9,D,U,k,T,n⟩) else ⟨10,D,U,k,T,n⟩:=by unfold opR;rw[if_neg (by decide),if_neg (by decide),if_pos rfl]
  rw[e1,e2];by_cases hs:0≤N∧N<256
  ·rw[if_pos hs,if_pos hs];by_cases hm:memB N D=true
   ·rw[if_pos hm,if_pos hm];refine⟨fun h=>absurd h (by simp),fun _=>⟨_,rfl,rfl,?_,by simp;omega,by simp⟩⟩;dsimp only;rw[hap];exact apR_rem ⟨by omega,by rw[Int.toNat_of_nonneg hs.1];exact memB_of hm⟩
   ·rw[if_neg hm,if_neg hm];exact⟨fun _=>rfl,fun h=>absurd rfl h⟩
  ·rw[if_neg hs,if_neg hs];exact⟨fun _=>rfl,fun h=>absurd rfl h⟩
 ·have e2:opR D U k T n ks 4 tk now N=if N<k then ⟨10,D,U,k,T,n⟩ else if k+(n:Int)<N then ⟨10,D,U,k,T,n⟩ else if N=k then ⟨9,D,U,k,T,n⟩ else ⟨9,D,U,N,T.drop ((N-k).toNat*2),n-(N-k).toNat⟩:=by unfold opR;rw[if_neg (by decide),if_neg (by decide),if_neg (by decide),if_pos rfl]
  rw[duR_4,e2];by_cases hlo:N<k
  ·rw[if_pos hlo,if_pos hlo];exact⟨fun _=>rfl,fun h=>absurd rfl h⟩
  rw[if_neg hlo,if_neg hlo];by_cases hhi:k+(n:Int)<N
  ·rw[if_pos hhi,if_pos hhi];exact⟨fun _=>rfl,fun h=>absurd rfl h⟩
  rw[if_neg hhi,if_neg hhi];by_cases hne:N=k
  ·rw[if_pos hne,if_pos hne];exact⟨fun _=>rfl,fun h=>absurd rfl h⟩
  rw[if_neg hne,if_neg hne];obtain⟨m,rfl⟩:∃ m:Nat,N=m:=⟨N.toNat,by omega⟩
  refine⟨fun h=>absurd h (by simp),fun _=>⟨_,rfl,rfl,?_,by simp;omega,by simp⟩⟩;dsimp only;rw[hap,Int.toNat_natCast,apR_ack (by omega),ackM_of (by omega),Int.max_eq_left (by omega)]
 ·have e1:duR D U k n ks 5 tk now N=⟨9,0,0,0⟩:=by unfold duR;rw[if_neg (by decide),if_neg (by decide),if_neg (by decide),if_neg (by decide)]
  have e2:opR D U k T n ks 5 tk now N=⟨9,D,U,k,T,n⟩:=by unfold opR;rw[if_neg (by decide),if_neg (by decide),if_neg (by decide),if_neg (by decide),if_pos rfl]
  rw[e1,e2];exact⟨fun _=>rfl,fun h=>absurd rfl h⟩
end
def WSV (lo:Nat) (w:World) (v:Value) (r:SpR):Prop:=
 ∃ aD nD cD aU nU cU aT nT cT,v=.agg #[.int .i64 r.c,.slice aD nD cD,.slice aU nU cU,.int .i64 r.k,.slice aT nT cT]∧At .i64 w aD r.D∧At .i64 w aU r.U∧At .i64 w aT r.T∧r.D.length=nD∧r.U.length=nU∧r.T.length=nT*2∧Lies lo w aD∧Lies lo w aU∧Lies lo w aT∧nT≤cT∧cT≤9223372036854775807
end Go.Proofs.YtncomnkdlpoelaaGreatDoor
namespace Go.Proofs.YtncomnkdlpoelaaGreatDoor
open Go.ChangeShapes Go.WideShapes Go.ChangeAt Go.RowKit Go.Joins
set_option linter.unusedVariables false
def bW:List Int:=[7378697629483820632,7378697629483820646,7378697629483820646,7378697629483820646]
theorem bW_val:val 18446744073709551616 bW=baseY:=by decide
theorem bW_wrd:Wrd bW:=by unfold Wrd bW;decide
set_option maxHeartbeats 400000 in
theorem ibas_any (w:World):Calls Tryz.prog 104 #[] w (CodePb w baseY):=by
 have HR:Hid (RowW (w.alloc (.cells #[.int .u64 0,.int .u64 0,.int .u64 0,.int .u64 0] 146)) w.heap.size 146 [0,0,0,0]):=heap_alloc_new w _;have HSZ:Hid ((Tryz.prog.info? 146).map (·.size)=some ((bW.map (Value.int .u64)).toArray).size):=sizeNum rfl;go_enter Tryz.func104,Tryz.ntmps104;go_wp2_with (first
  |(refine wpList_store_row rfl 146 (.tmp 1) (.tmp 2) rfl w.heap.size ((bW.map (Value.int .u64)).toArray) rfl rfl 146 _ HR.out HSZ.out rfl (all_oneCell_toArray (ints_oneCell _ _)) ?_)
  |fail)
 have R1:RowW ((w.alloc (.cells #[.int .u64 0,.int .u64 0,.int .u64 0,.int .u64 0] 146)).setRow w.heap.size (bW.map (Value.int .u64)).toArray) w.heap.size 146 bW:=HR.out.setRow bW;have B2:Below w.heap.size w ((w.alloc (.cells #[.int .u64 0,.int .u64 0,.int .u64 0,.int .u64 0] 146)).setRow w.heap.size (bW.map (Value.int .u64)).toArray):=(below_new2 _ _).trans ((Wr.setRow _ _ _).below (Nat.le_refl _));clear HR HSZ;generalize (w.alloc (.cells #[.int .u64 0,.int .u64 0,.int .u64 0,.int .u64 0] 146)).setRow w.heap.size (bW.map (Value.int .u64)).toArray=w2 at *;refine(text_any _ bW _ rfl R1 bW_wrd).mono ?_;rintro e w3 ⟨bs,hbl,hbb,hbv,rfl,O3,B3⟩;rw[bW_val] at hbv;have HP:Hid (CodePb w baseY (.returned (.slice (some ⟨w2.heap.size,0,none⟩) 32 32)) w3):=⟨_,bs,rfl,O3.lower3b B2.size,hbb,hbl,hbv,B2.trans (B3.mono B2.size)⟩
 clear hbv O3 B2 B3 R1;go_wp2
 go_ret
 exact HP.out
end Go.Proofs.YtncomnkdlpoelaaGreatDoor
