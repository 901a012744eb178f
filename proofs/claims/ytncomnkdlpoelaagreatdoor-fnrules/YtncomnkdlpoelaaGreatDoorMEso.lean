import Derived.Test.YtncomnkdlpoelaaGreatDoorMPMi
import Derived.Test.YtncomnkdlpoelaaGreatDoorMCatF
import Derived.Deep.Cut
import Derived.BigRegion
import Derived.Test.YtncomnkdlpoelaaGreatDoorMShK
import Derived.Test.YtncomnkdlpoelaaGreatDoorMShQ
import Derived.Test.YtncomnkdlpoelaaGreatDoorMCat
import Derived.Test.YtncomnkdlpoelaaGreatDoorMReg
import Derived.Lib.SmallJoins
import Derived.Test.YtncomnkdlpoelaaGreatDoorMMuM
import Derived.Test.YtncomnkdlpoelaaGreatDoorMCatC
import Derived.Test.YtncomnkdlpoelaaGreatDoorMSvK
namespace Go.Proofs.YtncomnkdlpoelaaGreatDoor
open Go.ChangeShapes Go.WideShapes Go.ChangeAt Go.RowKit
set_option linter.unusedVariables false
def PoolI (g:Nat) (w:World) (v:Value) (m:Nat):Prop:=
 ∃ q c,v=.slice (some ⟨q,0,none⟩) m c∧m≤c∧g<q∧q<w.heap.size∧∀ i,i<m→∃ u k,w.cell? ⟨q,i,none⟩=some u∧k≤72∧TxB (g+1) w u k
theorem PoolI.wrG {g:Nat} {w w':World} {v:Value} {m:Nat} (h:PoolI g w v m) (b:WrG g w w'):PoolI g w' v m:=by
 obtain⟨q,c,h1,h2,h3,h4,h5⟩:=h;refine⟨q,c,h1,h2,h3,Nat.lt_of_lt_of_le h4 b.size,fun i hi=>?_⟩;obtain⟨u,k,p1,p2,p3⟩:=h5 i hi;exact⟨u,k,by rw[World.cell?_of_block (a:=⟨q,i,none⟩) (b.block q h4 (by omega))];exact p1,p2,p3.wrG b (Nat.lt_succ_self _)⟩
theorem PS.pool {lo:Nat} {w:World} {g:Nat} {x:Option Addr} {n cap:Nat} {v:Value} {m:Nat} {vs:List Value} {wr:World} (h:PS lo w g x n cap v m vs wr) (hm:0<m):PoolI g wr v m:=by
 obtain⟨q,c,h1,h2,h3,h4⟩:=h.form1 hm;have hg:=h.hg;rcases h.row.2 with⟨_,h0⟩|⟨q',c',cur,h1',_,hh,_⟩
 ·omega
 ·rw[h1] at h1';cases h1';refine⟨q,c,h1,h2,by omega,lt_of_heap hh,fun i hi=>?_⟩;have hl:i<vs.length:=by rw[h.row.1];omega
  obtain⟨k,_,k1,k2⟩:=h.tx vs[i] (List.getElem_mem hl);exact⟨vs[i],k,by rw[h4 i hi];simp[hl],k1,k2.mono (by omega)⟩
def TkV (B:Nat) (w:World) (v:Value):Prop:=v=.slice none 0 0∨∃ k,k≤72∧TxB B w v k
theorem TkV.keep {B:Nat} {w w':World} {v:Value} (h:TkV B w v) (hk:∀ b cs fr,B≤b→w.heap[b]?=some (.cells cs 5 fr)→w'.heap[b]?=w.heap[b]?):TkV B w' v:=by
 rcases h with h|⟨k,h1,h2⟩
 ·exact .inl h
 ·exact .inr ⟨k,h1,h2.keep hk⟩
theorem TkV.frm {B:Nat} {w:World} {v:Value} (h:TkV B w v):∃ a n c,v=.slice a n c:=by
 rcases h with h|⟨k,h1,h2⟩
 ·exact⟨_,_,_,h⟩
 ·obtain⟨a,c,zs,e,_⟩:=h2.at_;exact⟨_,_,_,e⟩
theorem TkV.rd {B:Nat} {w:World} {a:Option Addr} {n c:Nat} (h:TkV B w (.slice a n c)):n≤72∧n≤c∧∃ zs:List Int,zs.length=n∧Byte zs∧At .u8 w a zs:=by
 rcases h with h|⟨k,h1,h2⟩
 ·cases h;exact⟨by decide,Nat.le_refl _,[],rfl,fun _ h=>(by cases h),.inl rfl⟩
 ·obtain⟨a',c',zs,e,h2,h3,h4,h5⟩:=h2.at_;cases e;exact⟨h1,h2,zs,h3,h4,h5⟩
structure OpS (w:World) (g:Nat) (x:Option Addr) (n cap S:Nat) (kd:Int) (tv:Value) (nw nn:Int) (wr:World):Prop where
 wg:WrG g w wr
 cb:CurB wr g x n cap
 hg:g<w.heap.size
 hS:w.heap.size<S
 bx:wr.heap[w.heap.size]?=some (.cells #[.int .i64 0,.slice none 0 0,.int .i64 0,.int .i64 0] 28 (0,0))
 s:wr.heap[S]?=some (.cells #[.int .i64 kd,tv,.int .i64 nw,.int .i64 nn] 28 (0,0))
 tx:TkV w.heap.size wr tv
 nb:(-9223372036854775808≤nw∧nw≤9223372036854775807)∧-9223372036854775808≤nn∧nn≤9223372036854775807
section
variable {w:World} {g:Nat} {x:Option Addr} {n cap S:Nat} {kd:Int} {tv:Value} {nw nn:Int} {wr w':World}
theorem OpS.ct (h:OpS w g x n cap S kd tv nw nn wr) (ht:CurT w g x n):CurT wr g x n:=ht.wr (fun q hq=>h.wg.block q (Nat.lt_trans hq h.hg) (Nat.ne_of_lt hq))
theorem OpS.wrg (h:OpS w g x n cap S kd tv nw nn wr) (hc:CurB w' g x n cap) (hw:WrG g wr w'):OpS w g x n cap S kd tv nw nn w':=by
 have hg:=h.hg;have hS:=h.hS;exact⟨h.wg.trans hw,hc,h.hg,hS,by rw[hw.block _ (lt_of_heap h.bx) (by omega)];exact h.bx,by rw[hw.block S (lt_of_heap h.s) (by omega)];exact h.s,h.tx.keep (fun b _ _ hb hk=>hw.block b (lt_of_heap hk) (by omega)),h.nb⟩
theorem OpS.cur (h:OpS w g x n cap S kd tv nw nn wr) (hc:CurB w' g x n cap) (hw:Wr g wr w'):OpS w g x n cap S kd tv nw nn w':=h.wrg hc hw.wrG
theorem OpS.call (h:OpS w g x n cap S kd tv nw nn wr) (b:Below wr.heap.size wr w'):OpS w g x n cap S kd tv nw nn w':=h.wrg (h.cb.bel b).1 (WrG.of_below b)
theorem OpS.cells (h:OpS w g x n cap S kd tv nw nn wr):wr.cell? ⟨S,0,none⟩=some (.int .i64 kd)∧wr.cell? ⟨S,1,none⟩=some tv∧wr.cell? ⟨S,2,none⟩=some (.int .i64 nw)∧wr.cell? ⟨S,3,none⟩=some (.int .i64 nn)∧∀ i,wr.frozen? ⟨S,i,none⟩=false:=
 ⟨cell_of_row _ _ _ _ _ _ h.s,cell_of_row _ _ _ _ _ _ h.s,cell_of_row _ _ _ _ _ _ h.s,cell_of_row _ _ _ _ _ _ h.s,fun i=>frozen_of_row _ _ _ _ _ h.s⟩
theorem OpS.put (h:OpS w g x n cap S kd tv nw nn wr) (i:Nat) (v:Value) {kd':Int} {tv':Value} {nw' nn':Int} (e:(#[.int .i64 kd,tv,.int .i64 nw,.int .i64 nn]:Array Value).setIfInBounds i v=#[.int .i64 kd',tv',.int .i64 nw',.int .i64 nn']) (ht:TkV w.heap.size wr tv')
  (hb:(-9223372036854775808≤nw'∧nw'≤9223372036854775807)∧-9223372036854775808≤nn'∧nn'≤9223372036854775807):OpS w g x n cap S kd' tv' nw' nn' (wr.setCell ⟨S,i,none⟩ v):=by
 have hw:Wr S wr (wr.setCell ⟨S,i,none⟩ v):=(Wr.refl _ _).setCell _ _;have hg:=h.hg;have hS:=h.hS;refine⟨⟨hw.os.trans h.wg.os,hw.tape.trans h.wg.tape,hw.output.trans h.wg.output,by rw[hw.size];exact h.wg.size,fun k hk hne=>(hw.block k (by omega)).trans (h.wg.block k hk hne)⟩,?_,hg,hS,by rw[hw.block _ (by omega)];exact h.bx,by rw[←e];exact heap_setCell_same _ _ _ _ _ _ h.s,ht.keep (fun b cs fr _ hb=>hw.block b (fun e'=>?_)),hb⟩
 ·obtain⟨i',hh,p1,p2,p3,p4,p5⟩:=h.cb;exact⟨i',hh,p1,p2,p3,p4,by rw[hw.block g (by omega)];exact p5⟩
 ·subst e';rw[h.s] at hb;injection hb with hb;injection hb with _ hb _;exact absurd hb (by decide)
theorem OpS.start {w1:World} (hw:Wr g (w.alloc (.cells #[.int .i64 0,.slice none 0 0,.int .i64 0,.int .i64 0] 28)) w1) (hc:CurB w1 g x n cap) (hg:g<w.heap.size) :
  OpS w g x n cap w1.heap.size 0 (.slice none 0 0) 0 0 ((w1.alloc (.cells #[.int .i64 0,.slice none 0 0,.int .i64 0,.int .i64 0] 28)).setRow w1.heap.size #[.int .i64 0,.slice none 0 0,.int .i64 0,.int .i64 0]):=by
 have hs:=hw.size;simp at hs;have bx:w1.heap[w.heap.size]?=some (.cells #[.int .i64 0,.slice none 0 0,.int .i64 0,.int .i64 0] 28 (0,0)):=by rw[hw.block _ (by omega)];exact heap_alloc_new w _
 have b1:=below_new w1 (.cells #[.int .i64 0,.slice none 0 0,.int .i64 0,.int .i64 0] 28);have b2:=Wr.setRow w1.heap.size (w1.alloc (.cells #[.int .i64 0,.slice none 0 0,.int .i64 0,.int .i64 0] 28)) #[.int .i64 0,.slice none 0 0,.int .i64 0,.int .i64 0];have b:Below w1.heap.size w1 ((w1.alloc (.cells #[.int .i64 0,.slice none 0 0,.int .i64 0,.int .i64 0] 28)).setRow w1.heap.size #[.int .i64 0,.slice none 0 0,.int .i64 0,.int .i64 0]):=b1.trans (b2.below (Nat.le_refl _));exact⟨((WrG.of_below (below_new w _)).trans hw.wrG).trans (WrG.of_below b),(hc.bel b).1,hg,by omega,by rw[b.block _ (by omega)];exact bx,setRow_heap _ _ _ _ _ _ (heap_alloc_new w1 _),.inl rfl,by decide⟩
def SomP (w:World) (g:Nat) (x:Option Addr) (n cap:Nat) (e:Ending) (w':World):Prop:=
 ∃ kd ta tn tc nw nn,e=.returned (.agg #[.int .i64 kd,.slice ta tn tc,.int .i64 nw,.int .i64 nn])∧TkV w.heap.size w' (.slice ta tn tc)∧((-9223372036854775808≤nw∧nw≤9223372036854775807)∧-9223372036854775808≤nn∧nn≤9223372036854775807)∧CurB w' g x n cap∧WrG g w w'
theorem OpS.fin {ta:Option Addr} {tn tc:Nat} (h:OpS w g x n cap S kd (.slice ta tn tc) nw nn wr) (cs:Array Value):SomP w g x n cap (.returned (.agg #[.int .i64 kd,.slice ta tn tc,.int .i64 nw,.int .i64 nn])) (wr.setRow w.heap.size cs):=by
 have hw:=Wr.setRow w.heap.size wr cs;have hg:=h.hg;refine⟨_,_,_,_,_,_,rfl,h.tx.keep (fun b cs fr _ hb=>hw.block b (fun e=>?_)),h.nb,?_,⟨hw.os.trans h.wg.os,hw.tape.trans h.wg.tape,hw.output.trans h.wg.output,by rw[hw.size];exact h.wg.size,fun k hk hne=>(hw.block k (by omega)).trans (h.wg.block k hk hne)⟩⟩
 ·subst e;rw[h.bx] at hb;injection hb with hb;injection hb with _ hb _;exact absurd hb (by decide)
 ·obtain⟨i',hh,p1,p2,p3,p4,p5⟩:=h.cb;exact⟨i',hh,p1,p2,p3,p4,by rw[hw.block g (by omega)];exact p5⟩
end
structure WrT (g:Nat) (w w':World):Prop where
 os:w'.os=w.os
 tape:w'.tape=w.tape
 output:w'.output=w.output
 size:w.heap.size≤w'.heap.size
 block:∀ k,k<w.heap.size→k≠g→(k<g∨∀ cs fr,w.heap[k]?≠some (.cells cs 2 fr)∧w.heap[k]?≠some (.cells cs 70 fr))→w'.heap[k]?=w.heap[k]?
theorem WrG.wrT {g:Nat} {w w':World} (h:WrG g w w'):WrT g w w':=⟨h.os,h.tape,h.output,h.size,fun k h1 h2 _=>h.block k h1 h2⟩
theorem WrT.trans {g:Nat} {a b c:World} (h:WrT g a b) (k:WrT g b c):WrT g a c:=
 ⟨k.os.trans h.os,k.tape.trans h.tape,k.output.trans h.output,Nat.le_trans h.size k.size,fun i h1 h2 h3=>by
  have e:=h.block i h1 h2 h3;rw[k.block i (Nat.lt_of_lt_of_le h1 h.size) h2 (by rw[e];exact h3),e]⟩
theorem WrT.typed {g k:Nat} {w w':World} (h:WrT g w w') {cs:Array Value} {t:TypeId} {fr:Nat×Nat} (hk:w.heap[k]?=some (.cells cs t fr)) (h1:t≠2) (h2:t≠70) (hg:k≠g):w'.heap[k]?=some (.cells cs t fr):=by
 rw[h.block k (lt_of_heap hk) hg (.inr fun cs' fr'=>?_)]
 ·exact hk
 ·rw[hk];exact⟨fun e=>(by injection e with e;injection e with _ e _;exact h1 e),fun e=>(by injection e with e;injection e with _ e _;exact h2 e)⟩
structure SS (w:World) (g:Nat) (x:Option Addr) (n cap:Nat) (cs:Array Value) (wr:World):Prop where
 wt:WrT g w wr
 cb:CurB wr g x n cap
 hg:g<w.heap.size
 p:wr.heap[w.heap.size]?=some (.cells cs 26 (0,0))
 r:wr.heap[w.heap.size+1]?=some (.cells #[.slice none 0 0,.slice none 0 0,.int .i64 0,.slice none 0 0] 26 (0,0))
structure Ls (g:Nat) (w:World) (vD vU vT:Value) (D U T:List Int) (nT:Nat):Prop where
 d:IO (g+1) w vD D
 u:IO (g+1) w vU U
 t:TapO (g+1) w vT T nT
 l:D.length≤300∧U.length≤300∧nT≤300
section
variable {w:World} {g:Nat} {x:Option Addr} {n cap:Nat} {cs cs':Array Value} {wr w':World} {vD vU vT:Value} {D U T:List Int} {nT:Nat} {v:Value}
theorem ownsRow_kp2 {B m:Nat} {e:TypeId} {s:Nat} {vs:List Value} (h:wr.ownsRow B e s v m vs) (hk:∀ q,v.ownBlock=some q→w'.heap[q]?=wr.heap[q]?):w'.ownsRow B e s v m vs:=by
 refine⟨h.1,?_⟩;rcases h.2 with h'|⟨q,c,cur,h1,h2,h3,h4⟩
 ·exact .inl h'
 ·exact .inr ⟨q,c,cur,h1,h2,by rw[hk q (by rw[h1];rfl)];exact h3,h4⟩
theorem SS.to (h:SS w g x n cap cs wr) (hw:WrT g wr w') (hc:CurB w' g x n cap):SS w g x n cap cs w':=by
 have hg:=h.hg;exact⟨h.wt.trans hw,hc,h.hg,hw.typed h.p (by decide) (by decide) (by omega),hw.typed h.r (by decide) (by decide) (by omega)⟩
theorem SS.set (h:SS w g x n cap cs wr) (i:Nat) (v:Value) (e:cs.setIfInBounds i v=cs'):SS w g x n cap cs' (wr.setCell ⟨w.heap.size,i,none⟩ v):=by
 have hw:Wr w.heap.size wr (wr.setCell ⟨w.heap.size,i,none⟩ v):=(Wr.refl _ _).setCell _ _;have hg:=h.hg;refine⟨⟨hw.os.trans h.wt.os,hw.tape.trans h.wt.tape,hw.output.trans h.wt.output,by rw[hw.size];exact h.wt.size,fun k h1 h2 h3=>(hw.block k (by omega)).trans (h.wt.block k h1 h2 h3)⟩,?_,hg,by rw[←e];exact heap_setCell_same _ _ _ _ _ _ h.p,by rw[hw.block _ (by omega)];exact h.r⟩;obtain⟨i',hh,p1,p2,p3,p4,p5⟩:=h.cb;exact⟨i',hh,p1,p2,p3,p4,by rw[hw.block g (by omega)];exact p5⟩
theorem SS.cell (h:SS w g x n cap cs wr) (i:Nat):wr.cell? ⟨w.heap.size,i,none⟩=cs[i]?∧wr.frozen? ⟨w.heap.size,i,none⟩=false:=⟨cell_of_row _ _ _ _ _ _ h.p,frozen_of_row _ _ _ _ _ h.p⟩
theorem SS.ct (h:SS w g x n cap cs wr) (ht:CurT w g x n):CurT wr g x n:=ht.wr (fun q hq=>h.wt.block q (Nat.lt_trans hq h.hg) (Nat.ne_of_lt hq) (.inl hq))
theorem SS.lt (h:SS w g x n cap cs wr):w.heap.size+1<wr.heap.size:=lt_of_heap h.r
theorem Ls.kp (h:Ls g wr vD vU vT D U T nT) (hk:∀ q o,g+1≤q→wr.heap[q]?=some o→(∃ cs,o=.cells cs 2 (0,0)∨o=.cells cs 70 (0,0))→w'.heap[q]?=wr.heap[q]?):Ls g w' vD vU vT D U T nT:=
 ⟨ownsRow_kp h.d fun q cs hq hc=>hk q _ hq hc ⟨cs,.inl rfl⟩,ownsRow_kp h.u fun q cs hq hc=>hk q _ hq hc ⟨cs,.inl rfl⟩,ownsRow_kp h.t fun q cs hq hc=>hk q _ hq hc ⟨cs,.inr rfl⟩,h.l⟩
theorem Ls.wrG (h:Ls g wr vD vU vT D U T nT) (hw:WrG g wr w'):Ls g w' vD vU vT D U T nT:=h.kp fun q _ hq ho _=>hw.block q (lt_of_heap ho) (by omega)
theorem Ls.set (h:Ls g wr vD vU vT D U T nT) {P:Nat} {t:TypeId} {cs:Array Value} {fr:Nat×Nat} (hp:wr.heap[P]?=some (.cells cs t fr)) (h1:t≠2) (h2:t≠70) (hw:Wr P wr w'):Ls g w' vD vU vT D U T nT:=h.kp fun q o hq ho ht=>hw.block q fun e=>by
 subst e;rw[hp] at ho;injection ho with ho;subst ho
 obtain⟨_,e|e⟩:=ht<;>injection e with _ e _
 ·exact h1 e
 ·exact h2 e
def DSW (g:Nat) (w:World) (v:Value):Prop:=
 ∃ aD nD cD aU nU cU k aT nT cT D U T,v=.agg #[.slice aD nD cD,.slice aU nU cU,.int .i64 k,.slice aT nT cT]∧Ls g w (.slice aD nD cD) (.slice aU nU cU) (.slice aT nT cT) D U T nT∧-9223372036854775808≤k∧k≤9223372036854775807
theorem SS.fin {aD aU aT:Option Addr} {nD cD nU cU cT:Nat} {k:Int} (h:SS w g x n cap #[.slice aD nD cD,.slice aU nU cU,.int .i64 k,.slice aT nT cT] wr) (hl:Ls g wr (.slice aD nD cD) (.slice aU nU cU) (.slice aT nT cT) D U T nT) (hk:-9223372036854775808≤k∧k≤9223372036854775807) (cs:Array Value) :
  DSW g (wr.setRow (w.heap.size+1) cs) (.agg #[.slice aD nD cD,.slice aU nU cU,.int .i64 k,.slice aT nT cT])∧CurB (wr.setRow (w.heap.size+1) cs) g x n cap∧WrT g w (wr.setRow (w.heap.size+1) cs):=by
 have hw:=Wr.setRow (w.heap.size+1) wr cs;have hg:=h.hg;refine⟨⟨_,_,_,_,_,_,_,_,_,_,_,_,_,rfl,hl.set h.r (by decide) (by decide) hw,hk⟩,?_,⟨hw.os.trans h.wt.os,hw.tape.trans h.wt.tape,hw.output.trans h.wt.output,by rw[hw.size];exact h.wt.size,fun k h1 h2 h3=>(hw.block k (by omega)).trans (h.wt.block k h1 h2 h3)⟩⟩;obtain⟨i',hh,p1,p2,p3,p4,p5⟩:=h.cb;exact⟨i',hh,p1,p2,p3,p4,by rw[hw.block g (by omega)];exact p5⟩
theorem IO.ty {B:Nat} {xs:List Int} (h:IO B wr v xs):∀ q,v.ownBlock=some q→B≤q∧∃ cs fr,wr.heap[q]?=some (.cells cs 2 fr):=fun q hq=>by
 rcases h.2 with⟨h',_⟩|⟨b,c,cur,h',hb,hh,_⟩
 ·rw[h'] at hq;simp[Value.ownBlock] at hq
 ·rw[h'] at hq;simp[Value.ownBlock] at hq;subst hq;exact⟨hb,cur,_,hh⟩
theorem grown_wrT {xs:List Int} (h:IO (g+1) wr v xs) (hg:wr.grownBy w' v.ownBlock):WrT g wr w':=
 ⟨hg.os,hg.tape,hg.output,hg.size,fun k h1 h2 h3=>hg.block k h1 fun e=>by
  obtain⟨hB,cs,fr,hk⟩:=h.ty k e.symm;rcases h3 with h3|h3
  ·omega
  ·exact(h3 cs fr).1 hk⟩
theorem grown_cb {xs:List Int} (h:IO (g+1) wr v xs) (hg:wr.grownBy w' v.ownBlock) (hc:CurB wr g x n cap):CurB w' g x n cap:=by
 obtain⟨i',hh,p1,p2,p3,p4,p5⟩:=hc;exact⟨i',hh,p1,p2,p3,p4,by rw[hg.block g (lt_of_heap p5) (fun e=>by have:=(h.ty g e.symm).1;omega)];exact p5⟩
theorem wpList_appL (wb:World) {ops:Array Oper} {rest:List Oper} {o:Oper} {a:Act} {Q:Exit→Act→World→Prop} (hgd:o.guard=none) (sx y:Operand)
  (hop:o.op=Op.call { callee:=Callee.builtin Builtin.append,args:=#[sx,y],argTypes:=#[23,23] }) (B:Nat) (v:Value) (xs:List Int) (z:Int) (hs:a.eval sx=v) (hown:IO B (wb.alloc (.cells #[.int .i64 z] 2)) v xs)
  (hx:a.eval y=.slice (some ⟨wb.heap.size,0,none⟩) 1 1) (hm:xs.length≤1000) (hB:B≤wb.heap.size)
  (hK:∀ v' w',IO B w' v' (xs++[z])→(wb.alloc (.cells #[.int .i64 z] 2)).grownBy w' v.ownBlock→wpList Tryz.prog ops Q rest (a.put o.dst v') w') :
  wpList Tryz.prog ops Q (o::rest) a (wb.alloc (.cells #[.int .i64 z] 2)):=by
 obtain⟨i0,hi,hz0,hz1,hz2⟩:=info_parts Tryz.infoI64q;refine wpList_append_own_at _ hgd sx y 23 hop B 2 i0 (.int .i64 0) 1 8 Tryz.underlying23 hi hz0 hz1 hz2 rfl (by decide) v xs.length _ hs hown ⟨wb.heap.size,0,none⟩ 1 1 [.int .i64 z] hx rfl (cell_one_new wb _ _) (by simp[Value.oneCell']) (by unfold maxLen;omega) (by omega) (by simp;omega) ?_;intro v' w' h1 h2 _ _;refine hK v' w' ?_ h2;unfold IO;rw[List.map_append,List.length_append];exact h1
end
section
variable {g:Nat} {wr w':World} {vD vU vT v':Value} {D U T D':List Int} {nT:Nat}
theorem Ls.growD (h:Ls g wr vD vU vT D U T nT) (hg:wr.grownBy w' vD.ownBlock) (ap:ApV vD vU) (hd:IO (g+1) w' v' D') (hl:D'.length≤300):Ls g w' v' vU vT D' U T nT:=by
 refine⟨hd,ownsRow_kp2 h.u (fun q hq=>hg.block q ?_ (fun e=>ap q e.symm hq)),ownsRow_kp h.t (fun q cs _ hc=>hg.block q (lt_of_heap hc) (fun e=>?_)),hl,h.l.2⟩
 ·obtain⟨_,cs,fr,hk⟩:=h.u.ty q hq;exact lt_of_heap hk
 ·obtain⟨_,cs',fr,hk⟩:=h.d.ty q e.symm;rw[hc] at hk;injection hk with hk;injection hk with _ hk _;exact absurd hk (by decide)
theorem Ls.growU (h:Ls g wr vD vU vT D U T nT) (hg:wr.grownBy w' vU.ownBlock) (ap:ApV vD vU) (hd:IO (g+1) w' v' D') (hl:D'.length≤300):Ls g w' vD v' vT D D' T nT:=by
 refine⟨ownsRow_kp2 h.d (fun q hq=>hg.block q ?_ (fun e=>ap q hq e.symm)),hd,ownsRow_kp h.t (fun q cs _ hc=>hg.block q (lt_of_heap hc) (fun e=>?_)),h.l.1,hl,h.l.2.2⟩
 ·obtain⟨_,cs,fr,hk⟩:=h.d.ty q hq;exact lt_of_heap hk
 ·obtain⟨_,cs',fr,hk⟩:=h.u.ty q e.symm;rw[hc] at hk;injection hk with hk;injection hk with _ hk _;exact absurd hk (by decide)
theorem Ls.tap {q c:Nat} (h:Ls g wr vD vU (.slice (some ⟨q,0,none⟩) nT c) D U T nT) (j:Nat) (z:Int):Ls g (wr.setCell ⟨q,j,none⟩ (.int .i64 z)) vD vU (.slice (some ⟨q,0,none⟩) nT c) D U (T.set j z) nT:=by
 have hw:Wr q wr (wr.setCell ⟨q,j,none⟩ (.int .i64 z)):=(Wr.refl _ _).setCell _ _;have hq:∃ cs,wr.heap[q]?=some (Obj.cells cs 70 (0,0)):=by
  rcases h.t.2 with⟨h',_⟩|⟨b,c',cur,h',hb,hh,_⟩
  ·cases h'
  ·cases h';exact⟨_,hh⟩
 obtain⟨cs,hq⟩:=hq;have kp:∀(b:Nat) (cs':Array Value),wr.heap[b]?=some (.cells cs' 2 (0,0))→(wr.setCell ⟨q,j,none⟩ (.int .i64 z)).heap[b]?=wr.heap[b]?:=fun b cs' hb=>hw.block b fun e=>by
  subst e;rw[hq] at hb;injection hb with hb;injection hb with _ hb _;exact absurd hb (by decide)
 refine⟨ownsRow_kp h.d fun b cs' _ hb=>kp b cs' hb,ownsRow_kp h.u fun b cs' _ hb=>kp b cs' hb,?_,h.l⟩;have:=(h.t.stored j (.int .i64 z)).1;unfold TapO;rw[List.map_set];exact this
theorem Ls.tapsome {a:Option Addr} {c:Nat} (h:Ls g wr vD vU (.slice a nT c) D U T nT) (hn:0<nT):∃ q,a=some ⟨q,0,none⟩:=by
 rcases h.t.2 with⟨_,h'⟩|⟨b,c',cur,h',_⟩
 ·omega
 ·cases h';exact⟨_,rfl⟩
theorem Ls.tapw {q c:Nat} (h:Ls g wr vD vU (.slice (some ⟨q,0,none⟩) nT c) D U T nT):(∀ j,j<nT*2→wr.cell? ⟨q,j,none⟩=some (.int .i64 (T.getD j 0)))∧(∀ j,wr.frozen? ⟨q,j,none⟩=false)∧(∀ j z,WrT g wr (wr.setCell ⟨q,j,none⟩ z))∧g<q∧nT≤c:=by
 rcases h.t.2 with⟨h',_⟩|⟨b,c',cur,h',hb,hh,hc,_⟩
 ·cases h'
 ·cases h';refine⟨fun j hj=>?_,fun j=>h.t.frozenAt j,fun j z=>?_,hb,hc⟩
  ·have hl:j<T.length:=by have:=h.t.1;simp at this;omega
   rw[h.t.cellAt j hj];simp[hl]
  ·have hw:Wr q wr (wr.setCell ⟨q,j,none⟩ z):=(Wr.refl _ _).setCell _ _;exact⟨hw.os,hw.tape,hw.output,by rw[hw.size];exact Nat.le_refl _,fun k h1 h2 h3=>hw.block k fun e=>by
    subst e;rcases h3 with h3|h3
    ·omega
    ·exact(h3 _ _).2 hh⟩
end
set_option maxRecDepth 100000 in
set_option maxHeartbeats 8000000 in
theorem spoilSt_any (g:Nat) (x:Option Addr) (n cap:Nat) (aD aU aT:Option Addr) (nD cD nU cU nT cT:Nat) (D U T:List Int) (k:Int) (w:World) (hc:CurB w g x n cap) (ht:CurT w g x n) (hl:Ls g w (.slice aD nD cD) (.slice aU nU cU) (.slice aT nT cT) D U T nT) (hd:D.length≤280∧U.length≤280) (ap:ApV (.slice aD nD cD) (.slice aU nU cU)) (hk:-9223372036854775808≤k∧k≤9223372036854775807) :
  Calls Tryz.prog 20 #[.pointer (some ⟨g,0,none⟩),.agg #[.slice aD nD cD,.slice aU nU cU,.int .i64 k,.slice aT nT cT]] w fun e w'=>∃ v,e=.returned v∧DSW g w' v∧CurB w' g x n cap∧WrT g w w':=by
 have HSZ:Hid ((Tryz.prog.info? 26).map (·.size)=some 4):=by show _=_;kernel_rfl
 have HAP:=hdI ap;have HLD:=hdI hd;have HK:=hdI hk;have b2:Below w.heap.size w ((w.alloc (.cells #[.slice aD nD cD,.slice aU nU cU,.int .i64 k,.slice aT nT cT] 26)).alloc (.cells #[.slice none 0 0,.slice none 0 0,.int .i64 0,.slice none 0 0] 26)):=((Below.refl _ _).alloc (Nat.le_refl _) _).alloc (by simp) _;have HS2:=hdI (show SS w g x n cap #[.slice aD nD cD,.slice aU nU cU,.int .i64 k,.slice aT nT cT] _ from⟨(WrG.of_below b2).wrT,(hc.bel b2).1,(hc.bel b2).2,heap_alloc2_old _ _ _,heap_alloc2_new _ _ _⟩);have HL2:=hdI (hl.wrG (WrG.of_below b2));have HB:=hdI (below_any g x n cap 7 _ HS2.out.cb (HS2.out.ct ht) (by decide) (by decide));go_enter Tryz.func20,Tryz.ntmps20;go_wp2_with fail;generalize ((w.alloc (.cells #[.slice aD nD cD,.slice aU nU cU,.int .i64 k,.slice aT nT cT] 26)).alloc (.cells #[.slice none 0 0,.slice none 0 0,.int .i64 0,.slice none 0 0] 26))=w2 at *;refine HB.out.mono ?_;rintro e w3 ⟨q,rfl,q0,q1,hc3,hw3⟩;have HS3:=hdI (HS2.out.to hw3.wrG.wrT hc3);have HL3:=hdI (HL2.out.wrG hw3.wrG);have s0:=(HS3.out.cell 0).1;have s1:=(HS3.out.cell 1).1;have s2:=(HS3.out.cell 2).1;have s3:=(HS3.out.cell 3).1;have f0:=(HS3.out.cell 0).2;have f1:=(HS3.out.cell 1).2;have f2:=(HS3.out.cell 2).2;simp at s0 s1 s2 s3;obtain rfl|rfl|rfl|rfl|rfl|rfl|rfl:q=0∨q=1∨q=2∨q=3∨q=4∨q=5∨q=6:=by omega
 ·have HF:=hdI (HS3.out.set 2 (.int .i64 (wrap64 (k+1))) (cs':=#[.slice aD nD cD,.slice aU nU cU,.int .i64 (wrap64 (k+1)),.slice aT nT cT]) rfl);have HLF:=hdI (HL3.out.set HS3.out.p (by decide) (by decide) ((Wr.refl _ _).setCell 2 (.int .i64 (wrap64 (k+1)))))
  go_upto_region 20 with fail
  generalize w3.setCell ⟨w.heap.size,2,none⟩ (.int .i64 (wrap64 (k+1)))=w9 at *;go_wp2_with (first
   |(refine wpList_load_row rfl 26 (.tmp 3) rfl w.heap.size rfl 26 _ (0,0) _ HF.out.p Tryz.underlying26 rfl HSZ.out ?_)
   |(refine wpList_store_row rfl 26 (.tmp 4) (.tmp 84) rfl (w.heap.size+1) #[.slice aD nD cD,.slice aU nU cU,.int .i64 (wrap64 (k+1)),.slice aT nT cT] rfl rfl 26 _ HF.out.r HSZ.out rfl (by simp[Value.oneCell']) ?_)
   |fail)
  (try simp only[Exit.inBlock,Exit.then])
  exact bodyPost_ret (results_cell_row rfl _ _ (w.heap.size+1) 26 _ (0,0) _ rfl (setRow_heap _ _ _ _ _ _ HF.out.r) Tryz.underlying26 rfl HSZ.out) rfl ⟨_,rfl,HF.out.fin HLF.out (wrap64_bd _) _⟩
 ·have b4:=below_new w3 (.cells #[.int .i64 3] 2);have HS4:=hdI (HS3.out.to (WrG.of_below b4).wrT (HS3.out.cb.bel b4).1);have HL4:=hdI (HL3.out.wrG (WrG.of_below b4));have HZ4:=hdI (show g+1≤w3.heap.size by have:=HS3.out.lt;have:=HS3.out.hg;omega);go_wp2_with (first
   |(at_builtin;refine wpList_appL w3 rfl _ _ rfl (g+1) (.slice aD nD cD) D 3 rfl HL4.out.d rfl ?c1 HZ4.out ?_)
   |fail)
  case c1=>have:=HLD.out;omega
  intro v5 w5 h5 hg5;have HS5:=hdI (HS4.out.to (grown_wrT HL4.out.d hg5) (grown_cb HL4.out.d hg5 HS4.out.cb));have HL5:=hdI (HL4.out.growD hg5 HAP.out h5 (by have:=HLD.out;simp;omega));obtain⟨a5,n5,c5,rfl⟩:=h5.form;have t0:=(HS5.out.cell 0).1;have g0:=(HS5.out.cell 0).2;simp at t0;have HF:=hdI (HS5.out.set 0 (.slice a5 n5 c5) (cs':=#[.slice a5 n5 c5,.slice aU nU cU,.int .i64 k,.slice aT nT cT]) rfl);have HLF:=hdI (HL5.out.set HS5.out.p (by decide) (by decide) ((Wr.refl _ _).setCell 0 (.slice a5 n5 c5)))
  go_upto_region 20 with fail
  generalize w5.setCell ⟨w.heap.size,0,none⟩ (.slice a5 n5 c5)=w9 at *;go_wp2_with (first
   |(refine wpList_load_row rfl 26 (.tmp 3) rfl w.heap.size rfl 26 _ (0,0) _ HF.out.p Tryz.underlying26 rfl HSZ.out ?_)
   |(refine wpList_store_row rfl 26 (.tmp 4) (.tmp 84) rfl (w.heap.size+1) #[.slice a5 n5 c5,.slice aU nU cU,.int .i64 k,.slice aT nT cT] rfl rfl 26 _ HF.out.r HSZ.out rfl (by simp[Value.oneCell']) ?_)
   |fail)
  (try simp only[Exit.inBlock,Exit.then])
  exact bodyPost_ret (results_cell_row rfl _ _ (w.heap.size+1) 26 _ (0,0) _ rfl (setRow_heap _ _ _ _ _ _ HF.out.r) Tryz.underlying26 rfl HSZ.out) rfl ⟨_,rfl,HF.out.fin HLF.out HK.out _⟩
 ·have b4:=below_new w3 (.cells #[.int .i64 256] 2);have HS4:=hdI (HS3.out.to (WrG.of_below b4).wrT (HS3.out.cb.bel b4).1);have HL4:=hdI (HL3.out.wrG (WrG.of_below b4));have HZ4:=hdI (show g+1≤w3.heap.size by have:=HS3.out.lt;have:=HS3.out.hg;omega);go_wp2_with (first
   |(at_builtin;refine wpList_appL w3 rfl _ _ rfl (g+1) (.slice aU nU cU) U 256 rfl HL4.out.u rfl ?c2 HZ4.out ?_)
   |fail)
  case c2=>have:=HLD.out;omega
  intro v5 w5 h5 hg5;have HS5:=hdI (HS4.out.to (grown_wrT HL4.out.u hg5) (grown_cb HL4.out.u hg5 HS4.out.cb));have HL5:=hdI (HL4.out.growU hg5 HAP.out h5 (by have:=HLD.out;simp;omega));obtain⟨a5,n5,c5,rfl⟩:=h5.form;have t0:=(HS5.out.cell 1).1;have g0:=(HS5.out.cell 1).2;simp at t0;have HS6:=hdI (HS5.out.set 1 (.slice a5 n5 c5) (cs':=#[.slice aD nD cD,.slice a5 n5 c5,.int .i64 k,.slice aT nT cT]) rfl);have HL6:=hdI (HL5.out.set HS5.out.p (by decide) (by decide) ((Wr.refl _ _).setCell 1 (.slice a5 n5 c5)))
  go_upto_region 8 with fail
  generalize w5.setCell ⟨w.heap.size,1,none⟩ (.slice a5 n5 c5)=w6 at *;have t0:=(HS6.out.cell 2).1;have g0:=(HS6.out.cell 2).2;simp at t0;have HF:=hdI (HS6.out.set 2 (.int .i64 (wrap64 (k+1))) (cs':=#[.slice aD nD cD,.slice a5 n5 c5,.int .i64 (wrap64 (k+1)),.slice aT nT cT]) rfl);have HLF:=hdI (HL6.out.set HS6.out.p (by decide) (by decide) ((Wr.refl _ _).setCell 2 (.int .i64 (wrap64 (k+1)))))
  go_upto_region 20 with fail
  generalize w6.setCell ⟨w.heap.size,2,none⟩ (.int .i64 (wrap64 (k+1)))=w9 at *;go_wp2_with (first
   |(refine wpList_load_row rfl 26 (.tmp 3) rfl w.heap.size rfl 26 _ (0,0) _ HF.out.p Tryz.underlying26 rfl HSZ.out ?_)
   |(refine wpList_store_row rfl 26 (.tmp 4) (.tmp 84) rfl (w.heap.size+1) #[.slice aD nD cD,.slice a5 n5 c5,.int .i64 (wrap64 (k+1)),.slice aT nT cT] rfl rfl 26 _ HF.out.r HSZ.out rfl (by simp[Value.oneCell']) ?_)
   |fail)
  (try simp only[Exit.inBlock,Exit.then])
  exact bodyPost_ret (results_cell_row rfl _ _ (w.heap.size+1) 26 _ (0,0) _ rfl (setRow_heap _ _ _ _ _ _ HF.out.r) Tryz.underlying26 rfl HSZ.out) rfl ⟨_,rfl,HF.out.fin HLF.out (wrap64_bd _) _⟩
 ·by_cases hT:0<nT
  ·have hT':0<(nT:Int):=by omega
   obtain⟨qt,rfl⟩:=HL3.out.tapsome hT;obtain⟨tc,tf,tw,tg,tn⟩:=HL3.out.tapw;have t0:=tc 1 (by omega);have g0:=tf 1;have HF:=hdI (HS3.out.to (tw 1 (.int .i64 4294967296)) (HS3.out.cb.keepE (heap_setCell_other _ _ _ _ (by show g≠qt;omega))));have HLF:=hdI (HL3.out.tap 1 4294967296);generalize T.getD 1 0=z0 at *
   go_upto_region 20 with fail
   generalize w3.setCell ⟨qt,1,none⟩ (.int .i64 4294967296)=w9 at *;go_wp2_with (first
    |(refine wpList_load_row rfl 26 (.tmp 3) rfl w.heap.size rfl 26 _ (0,0) _ HF.out.p Tryz.underlying26 rfl HSZ.out ?_)
    |(refine wpList_store_row rfl 26 (.tmp 4) (.tmp 84) rfl (w.heap.size+1) #[.slice aD nD cD,.slice aU nU cU,.int .i64 k,.slice (some ⟨qt,0,none⟩) nT cT] rfl rfl 26 _ HF.out.r HSZ.out rfl (by simp[Value.oneCell']) ?_)
    |fail)
   (try simp only[Exit.inBlock,Exit.then])
   exact bodyPost_ret (results_cell_row rfl _ _ (w.heap.size+1) 26 _ (0,0) _ rfl (setRow_heap _ _ _ _ _ _ HF.out.r) Tryz.underlying26 rfl HSZ.out) rfl ⟨_,rfl,HF.out.fin HLF.out HK.out _⟩
  ·have hT':¬ (0<(nT:Int)):=by omega
   go_upto_region 20 with fail
   go_wp2_with (first
    |(refine wpList_load_row rfl 26 (.tmp 3) rfl w.heap.size rfl 26 _ (0,0) _ HS3.out.p Tryz.underlying26 rfl HSZ.out ?_)
    |(refine wpList_store_row rfl 26 (.tmp 4) (.tmp 84) rfl (w.heap.size+1) #[.slice aD nD cD,.slice aU nU cU,.int .i64 k,.slice aT nT cT] rfl rfl 26 _ HS3.out.r HSZ.out rfl (by simp[Value.oneCell']) ?_)
    |fail)
   (try simp only[Exit.inBlock,Exit.then])
   exact bodyPost_ret (results_cell_row rfl _ _ (w.heap.size+1) 26 _ (0,0) _ rfl (setRow_heap _ _ _ _ _ _ HS3.out.r) Tryz.underlying26 rfl HSZ.out) rfl ⟨_,rfl,HS3.out.fin HL3.out HK.out _⟩
 ·by_cases hT:1<nT
  ·have hT':1<(nT:Int):=by omega
   obtain⟨qt,rfl⟩:=HL3.out.tapsome (by omega);obtain⟨tc,tf,tw,tg,tn⟩:=HL3.out.tapw;have t0:=tc 0 (by omega);have t1:=tc 1 (by omega);have t2:=tc 2 (by omega);have t3:=tc 3 (by omega);have g0:=tf 0;have g1:=tf 1;generalize T.getD 2 0=z2 at *;generalize T.getD 3 0=z3 at *;generalize T.getD 0 0=z0 at *;generalize T.getD 1 0=z1 at *;have HLA:=hdI (HL3.out.tap 0 z2);have HFA:=hdI (HS3.out.to (tw 0 (.int .i64 z2)) (HS3.out.cb.keepE (heap_setCell_other _ _ _ _ (by show g≠qt;omega))));have HLB:=hdI (HLA.out.tap 1 z3);have HFB:=hdI (HFA.out.to (HLA.out.tapw.2.2.1 1 (.int .i64 z3)) (HFA.out.cb.keepE (heap_setCell_other _ _ _ _ (by show g≠qt;omega))));clear tc tf tw HLA HFA HS3 HL3
   go_upto_region 12 with fail
   go_region
   clear t0 t1 t2 t3 g0 g1 s0 s1 s2 s3 f0 f1 f2;have HF:=hdI (HFB.out.to (WrG.of_below ((Below.refl _ _).drew)).wrT (HFB.out.cb.bel ((Below.refl _ _).drew)).1);have HLF:=hdI (HLB.out.wrG (WrG.of_below ((Below.refl _ _).drew)));clear HFB HLB;generalize ((w3.setCell ⟨qt,0,none⟩ (.int .i64 z2)).setCell ⟨qt,1,none⟩ (.int .i64 z3)).drew=w9 at *
   go_upto_region 20 with fail
   go_wp2_with (first
    |(refine wpList_load_row rfl 26 (.tmp 3) rfl w.heap.size rfl 26 _ (0,0) _ HF.out.p Tryz.underlying26 rfl HSZ.out ?_)
    |(refine wpList_store_row rfl 26 (.tmp 4) (.tmp 84) rfl (w.heap.size+1) #[.slice aD nD cD,.slice aU nU cU,.int .i64 k,.slice (some ⟨qt,0,none⟩) nT cT] rfl rfl 26 _ HF.out.r HSZ.out rfl (by simp[Value.oneCell']) ?_)
    |fail)
   (try simp only[Exit.inBlock,Exit.then])
   exact bodyPost_ret (results_cell_row rfl _ _ (w.heap.size+1) 26 _ (0,0) _ rfl (setRow_heap _ _ _ _ _ _ HF.out.r) Tryz.underlying26 rfl HSZ.out) rfl ⟨_,rfl,HF.out.fin HLF.out HK.out _⟩
  ·have hT':¬ (1<(nT:Int)):=by omega
   go_upto_region 20 with fail
   go_wp2_with (first
    |(refine wpList_load_row rfl 26 (.tmp 3) rfl w.heap.size rfl 26 _ (0,0) _ HS3.out.p Tryz.underlying26 rfl HSZ.out ?_)
    |(refine wpList_store_row rfl 26 (.tmp 4) (.tmp 84) rfl (w.heap.size+1) #[.slice aD nD cD,.slice aU nU cU,.int .i64 k,.slice aT nT cT] rfl rfl 26 _ HS3.out.r HSZ.out rfl (by simp[Value.oneCell']) ?_)
    |fail)
   (try simp only[Exit.inBlock,Exit.then])
   exact bodyPost_ret (results_cell_row rfl _ _ (w.heap.size+1) 26 _ (0,0) _ rfl (setRow_heap _ _ _ _ _ _ HS3.out.r) Tryz.underlying26 rfl HSZ.out) rfl ⟨_,rfl,HS3.out.fin HL3.out HK.out _⟩
 ·go_wp2_with fail
  go_loopw [6] (fun i wz=>∃(j:Nat) (vd:Value) (D':List Int),j≤17∧i=.int .i64 j∧SS w g x n cap #[vd,.slice aU nU cU,.int .i64 k,.slice aT nT cT] wz∧Ls g wz vd (.slice aU nU cU) (.slice aT nT cT) D' U T nT) (fun i _=>17-(intOf i).toNat)
  case atStart=>exact⟨0,_,D,by omega,rfl,HS3.out,HL3.out⟩
  case round=>
   obtain⟨j,vd,D',hj,rfl,hs,hl⟩:=hrel;obtain⟨ad,nd,cd,rfl⟩:=hl.d.form;obtain⟨sd,ed,_⟩:=hl.d.sat;have HS:=hdI hs;have HL:=hdI hl;have t0:=(hs.cell 0).1;simp at t0;have C:=with_any ad nd cd D' (2*j) wr ed (by have:=hl.l.1;omega) sd.at_;rw[show((2*j:Nat):Int)=2*(j:Int) by omega] at C;have HC:=hdI C;have hZ:=hdI (show g+1≤wr.heap.size by have:=hs.lt;have:=hs.hg;omega);by_cases hlt:j<17
   ·have hlt':(j:Int)<17:=by omega
    go_wp2_with fail;refine HC.out.mono ?_;rintro e w5 ⟨v5,rfl,h5,b5⟩;have HS5:=hdI (HS.out.to (WrG.of_below b5).wrT (HS.out.cb.bel b5).1);have HL5:=hdI (show Ls g w5 v5 _ _ _ U T nT from⟨IO.mono h5 hZ.out,(HL.out.wrG (WrG.of_below b5)).u,(HL.out.wrG (WrG.of_below b5)).t,Nat.le_trans (upTo_len _ _) (by decide),HL.out.l.2⟩);obtain⟨a5,n5,c5,rfl⟩:=h5.form;have t0:=(HS5.out.cell 0).1;have g0:=(HS5.out.cell 0).2;simp at t0;have HF:=hdI (HS5.out.set 0 (.slice a5 n5 c5) (cs':=#[.slice a5 n5 c5,.slice aU nU cU,.int .i64 k,.slice aT nT cT]) rfl);have HLF:=hdI (HL5.out.set HS5.out.p (by decide) (by decide) ((Wr.refl _ _).setCell 0 (.slice a5 n5 c5)));go_wp2;go_roundw
    case rel=>exact⟨j+1,_,_,by omega,by go_num,HF.out,HLF.out⟩
    case measure=>simp[intOf];omega
   ·have hlt':¬ ((j:Int)<17):=by omega
    go_upto_region 20 with fail
    go_wp2_with (first
     |(refine wpList_load_row rfl 26 (.tmp 3) rfl w.heap.size rfl 26 _ (0,0) _ HS.out.p Tryz.underlying26 rfl HSZ.out ?_)
     |(refine wpList_store_row rfl 26 (.tmp 4) (.tmp 84) rfl (w.heap.size+1) #[.slice ad nd cd,.slice aU nU cU,.int .i64 k,.slice aT nT cT] rfl rfl 26 _ HS.out.r HSZ.out rfl (by simp[Value.oneCell']) ?_)
     |fail)
    (try simp only[Exit.inBlock,Exit.then])
    exact bodyPost_ret (results_cell_row rfl _ _ (w.heap.size+1) 26 _ (0,0) _ rfl (setRow_heap _ _ _ _ _ _ HS.out.r) Tryz.underlying26 rfl HSZ.out) rfl ⟨_,rfl,HS.out.fin HL.out HK.out _⟩
 ·by_cases hT:0<nT
  ·have hT':0<(nT:Int):=by omega
   obtain⟨qt,rfl⟩:=HL3.out.tapsome hT;obtain⟨tc,tf,tw,tg,tn⟩:=HL3.out.tapw;have t0:=tc 0 (by omega);have g0:=tf 0;have HF:=hdI (HS3.out.to (tw 0 (.int .i64 99)) (HS3.out.cb.keepE (heap_setCell_other _ _ _ _ (by show g≠qt;omega))));have HLF:=hdI (HL3.out.tap 0 99);generalize T.getD 0 0=z0 at *
   go_upto_region 20 with fail
   generalize w3.setCell ⟨qt,0,none⟩ (.int .i64 99)=w9 at *;go_wp2_with (first
    |(refine wpList_load_row rfl 26 (.tmp 3) rfl w.heap.size rfl 26 _ (0,0) _ HF.out.p Tryz.underlying26 rfl HSZ.out ?_)
    |(refine wpList_store_row rfl 26 (.tmp 4) (.tmp 84) rfl (w.heap.size+1) #[.slice aD nD cD,.slice aU nU cU,.int .i64 k,.slice (some ⟨qt,0,none⟩) nT cT] rfl rfl 26 _ HF.out.r HSZ.out rfl (by simp[Value.oneCell']) ?_)
    |fail)
   (try simp only[Exit.inBlock,Exit.then])
   exact bodyPost_ret (results_cell_row rfl _ _ (w.heap.size+1) 26 _ (0,0) _ rfl (setRow_heap _ _ _ _ _ _ HF.out.r) Tryz.underlying26 rfl HSZ.out) rfl ⟨_,rfl,HF.out.fin HLF.out HK.out _⟩
  ·have hT':¬ (0<(nT:Int)):=by omega
   go_upto_region 20 with fail
   go_wp2_with (first
    |(refine wpList_load_row rfl 26 (.tmp 3) rfl w.heap.size rfl 26 _ (0,0) _ HS3.out.p Tryz.underlying26 rfl HSZ.out ?_)
    |(refine wpList_store_row rfl 26 (.tmp 4) (.tmp 84) rfl (w.heap.size+1) #[.slice aD nD cD,.slice aU nU cU,.int .i64 k,.slice aT nT cT] rfl rfl 26 _ HS3.out.r HSZ.out rfl (by simp[Value.oneCell']) ?_)
    |fail)
   (try simp only[Exit.inBlock,Exit.then])
   exact bodyPost_ret (results_cell_row rfl _ _ (w.heap.size+1) 26 _ (0,0) _ rfl (setRow_heap _ _ _ _ _ _ HS3.out.r) Tryz.underlying26 rfl HSZ.out) rfl ⟨_,rfl,HS3.out.fin HL3.out HK.out _⟩
theorem TxB.wrT {g:Nat} {w w':World} {u:Value} {n:Nat} (h:TxB (g+1) w u n) (b:WrT g w w'):TxB (g+1) w' u n:=h.keep fun k _ _ hB hk=>by
 rw[b.typed hk (by decide) (by decide) (by omega),hk]
theorem TkV.wrT {g:Nat} {w w':World} {u:Value} (h:TkV (g+1) w u) (b:WrT g w w'):TkV (g+1) w' u:=h.keep fun k _ _ hB hk=>by
 rw[b.typed hk (by decide) (by decide) (by omega),hk]
theorem TkV.mono {B B':Nat} {w:World} {u:Value} (h:TkV B w u) (hB:B'≤B):TkV B' w u:=by
 rcases h with h|⟨k,h1,h2⟩
 ·exact .inl h
 ·exact .inr ⟨k,h1,h2.mono hB⟩
def zOp:Array Value:=#[.int .i64 0,.slice none 0 0,.int .i64 0,.int .i64 0]
structure DR (tO:TypeId) (zO:Array Value) (w:World) (x:Option Addr) (n cap S O:Nat) (cs co:Array Value) (wr:World):Prop where
 bel:Below w.heap.size w wr
 cb:CurB wr (w.heap.size+2) x n cap
 ct:CurT wr (w.heap.size+2) x n
 r1:wr.heap[w.heap.size]?=some (.cells #[.slice none 0 0,.slice none 0 0,.int .i64 0,.slice none 0 0] 26 (0,0))
 r3:wr.heap[w.heap.size+1]?=some (.cells zO tO (0,0))
 s:wr.heap[S]?=some (.cells cs 26 (0,0))
 o:wr.heap[O]?=some (.cells co tO (0,0))
 hS:S≠w.heap.size+2∧w.heap.size≤S
 hO:O≠w.heap.size+2∧w.heap.size≤O
 ht:tO≠2∧tO≠70
structure DX (g:Nat) (aD:Option Addr) (nD cD:Nat) (aU:Option Addr) (nU cU:Nat) (k:Int) (aT:Option Addr) (nT cT:Nat) (ak:Option Addr) (nk ck:Nat) (ta:Option Addr) (tn tc:Nat) (wr:World):Prop where
 ls:∃ D U T,Ls g wr (.slice aD nD cD) (.slice aU nU cU) (.slice aT nT cT) D U T nT
 ke:TxB (g+1) wr (.slice ak nk ck) nk
 tk:TkV (g+1) wr (.slice ta tn tc)
 nb:-9223372036854775808≤k∧k≤9223372036854775807
section
variable {tO:TypeId} {zO:Array Value} {w:World} {x:Option Addr} {n cap S O:Nat} {cs co cs' co':Array Value} {wr w':World} {g:Nat} {aD:Option Addr} {nD cD:Nat} {aU:Option Addr} {nU cU:Nat} {k:Int} {aT:Option Addr} {nT cT:Nat} {ak:Option Addr} {nk ck:Nat} {ta:Option Addr} {tn tc:Nat}
theorem DR.to (h:DR tO zO w x n cap S O cs co wr) (hw:WrT (w.heap.size+2) wr w') (hc:CurB w' (w.heap.size+2) x n cap):DR tO zO w x n cap S O cs co w':=by
 have hS:=h.hS;have hO:=h.hO;have hl:=lt_of_heap h.r3;have hc':=(h.cb.bel (Below.refl _ _)).2;exact⟨⟨hw.os.trans h.bel.os,hw.tape.trans h.bel.tape,hw.output.trans h.bel.output,Nat.le_trans h.bel.size hw.size,fun k hk=>(hw.block k (by omega) (by omega) (.inl (by omega))).trans (h.bel.block k hk)⟩,hc,h.ct.wr (fun q hq=>hw.block q (by omega) (by omega) (.inl hq)),hw.typed h.r1 (by decide) (by decide) (by omega),hw.typed h.r3 h.ht.1 h.ht.2 (by omega),hw.typed h.s (by decide) (by decide) (by omega),hw.typed h.o h.ht.1 h.ht.2 (by omega),hS,hO,h.ht⟩
theorem DR.cur (h:DR tO zO w x n cap S O cs co wr) (hc:CurB w' (w.heap.size+2) x n cap) (hw:Wr (w.heap.size+2) wr w'):DR tO zO w x n cap S O cs co w':=h.to hw.wrG.wrT hc
theorem CurB.wr_ {q:Nat} (h:CurB wr g x n cap) (hw:Wr q wr w') (hq:g≠q):CurB w' g x n cap:=by
 obtain⟨i',hh,p1,p2,p3,p4,p5⟩:=h;exact⟨i',hh,p1,p2,p3,p4,by rw[hw.block g hq];exact p5⟩
theorem DR.putO (h:DR tO zO w x n cap S O cs co wr) (hne:w.heap.size+1<O∧O≠S) (hw:Wr O wr w') (e:w'.heap[O]?=some (.cells co' tO (0,0))):DR tO zO w x n cap S O cs co' w':=by
 have hS:=h.hS;have hO:=h.hO;exact⟨h.bel.trans (hw.below (by omega)),h.cb.wr_ hw (by omega),h.ct.wr (fun q hq=>hw.block q (by omega)),by rw[hw.block _ (by omega)];exact h.r1,by rw[hw.block _ (by omega)];exact h.r3,by rw[hw.block _ (by omega)];exact h.s,e,hS,hO,h.ht⟩
theorem DR.putS (h:DR tO zO w x n cap S O cs co wr) (hne:w.heap.size+1<S∧O≠S) (hw:Wr S wr w') (e:w'.heap[S]?=some (.cells cs' 26 (0,0))):DR tO zO w x n cap S O cs' co w':=by
 have hS:=h.hS;have hO:=h.hO;exact⟨h.bel.trans (hw.below (by omega)),h.cb.wr_ hw (by omega),h.ct.wr (fun q hq=>hw.block q (by omega)),by rw[hw.block _ (by omega)];exact h.r1,by rw[hw.block _ (by omega)];exact h.r3,e,by rw[hw.block _ (by omega)];exact h.o,hS,hO,h.ht⟩
theorem DR.swS {S':Nat} (h:DR tO zO w x n cap S O cs co wr) (hs:wr.heap[S']?=some (.cells cs' 26 (0,0))) (h':S'≠w.heap.size+2∧w.heap.size≤S'):DR tO zO w x n cap S' O cs' co wr:=⟨h.bel,h.cb,h.ct,h.r1,h.r3,hs,h.o,h',h.hO,h.ht⟩
theorem DR.swO {O':Nat} (h:DR tO zO w x n cap S O cs co wr) (ho:wr.heap[O']?=some (.cells co' tO (0,0))) (h':O'≠w.heap.size+2∧w.heap.size≤O'):DR tO zO w x n cap S O' cs co' wr:=⟨h.bel,h.cb,h.ct,h.r1,h.r3,h.s,ho,h.hS,h',h.ht⟩
theorem DR.lt (h:DR tO zO w x n cap S O cs co wr):w.heap.size+2<wr.heap.size:=(h.cb.bel (Below.refl _ _)).2
theorem CurT.of_at {w w1:World} {g:Nat} {x:Option Addr} {n:Nat} {zs:List Int} (hl:zs.length=n) (hn:n≤1048576) (hz:Byte zs) (ha:At .u8 w x zs) (B:Below w.heap.size w w1) (hg:w.heap.size≤g):CurT w1 g x n:=⟨hn,zs,hl,hz,by
 rcases ha with h|⟨b,off,e,hb,hc⟩
 ·exact .inl h
 ·exact .inr ⟨b,off,e,by omega,fun i hi=>by rw[B.cell (p:=⟨b,off+i,none⟩) hb];exact hc i hi⟩⟩
theorem DX.wrG (h:DX g aD nD cD aU nU cU k aT nT cT ak nk ck ta tn tc wr) (hw:WrG g wr w'):DX g aD nD cD aU nU cU k aT nT cT ak nk ck ta tn tc w':=by
 obtain⟨D,U,T,hl⟩:=h.ls;exact⟨⟨D,U,T,hl.wrG hw⟩,h.ke.wrT hw.wrT,h.tk.wrT hw.wrT,h.nb⟩
theorem DX.typ (h:DX g aD nD cD aU nU cU k aT nT cT ak nk ck ta tn tc wr) {P:Nat} {t:TypeId} {cs:Array Value} {fr:Nat×Nat} (hp:wr.heap[P]?=some (.cells cs t fr)) (h1:t≠2) (h2:t≠70) (h3:t≠5) (hw:Wr P wr w'):DX g aD nD cD aU nU cU k aT nT cT ak nk ck ta tn tc w':=by
 obtain⟨D,U,T,hl⟩:=h.ls;have kp:∀(b:Nat) (cs':Array Value) (fr':Nat×Nat),g+1≤b→wr.heap[b]?=some (.cells cs' 5 fr')→w'.heap[b]?=wr.heap[b]?:=fun b cs' fr' _ hb=>hw.block b fun e=>by
  subst e;rw[hp] at hb;injection hb with hb;injection hb with _ hb _;exact h3 hb
 exact⟨⟨D,U,T,hl.set hp h1 h2 hw⟩,h.ke.keep kp,h.tk.keep kp,h.nb⟩
def DY (g:Nat) (aD:Option Addr) (nD cD:Nat) (aU:Option Addr) (nU cU:Nat) (k:Int) (aT:Option Addr) (nT cT:Nat) (wr:World):Prop:=
 (∃ D U T,Ls g wr (.slice aD nD cD) (.slice aU nU cU) (.slice aT nT cT) D U T nT)∧-9223372036854775808≤k∧k≤9223372036854775807
theorem DY.wrG (h:DY g aD nD cD aU nU cU k aT nT cT wr) (hw:WrG g wr w'):DY g aD nD cD aU nU cU k aT nT cT w':=by
 obtain⟨⟨D,U,T,hl⟩,hk⟩:=h;exact⟨⟨D,U,T,hl.wrG hw⟩,hk⟩
theorem DY.typ (h:DY g aD nD cD aU nU cU k aT nT cT wr) {P:Nat} {t:TypeId} {cs:Array Value} {fr:Nat×Nat} (hp:wr.heap[P]?=some (.cells cs t fr)) (h1:t≠2) (h2:t≠70) (hw:Wr P wr w'):DY g aD nD cD aU nU cU k aT nT cT w':=by
 obtain⟨⟨D,U,T,hl⟩,hk⟩:=h;exact⟨⟨D,U,T,hl.set hp h1 h2 hw⟩,hk⟩
theorem DX.bnd (h:DX g aD nD cD aU nU cU k aT nT cT ak nk ck ta tn tc wr):nD≤300∧nU≤300∧nT≤300:=by
 obtain⟨D,U,T,hl⟩:=h.ls;obtain⟨_,e1,_⟩:=hl.d.sat;obtain⟨_,e2,_⟩:=hl.u.sat;have:=hl.l;omega
theorem IO.hd {B:Nat} {a:Option Addr} {m c:Nat} {xs:List Int} (h:IO B wr (.slice a m c) xs) (hm:0<m):∃ q z,a=some ⟨q,0,none⟩∧wr.cell? ⟨q,0,none⟩=some (.int .i64 z):=by
 have hl:=h.sat.2.1;rcases h.2 with⟨h',_⟩|⟨q,c',cur,h',_⟩
 ·cases h';omega
 ·cases h';refine⟨q,xs.getD 0 0,rfl,?_⟩;have hx:0<xs.length:=by omega
  rw[World.ownsRow.cellAt h 0 (by omega)];simp[hx]
structure ZR (tO:TypeId) (zO:Array Value) (w:World) (S O:Nat) (cs co:Array Value) (f1 f3:Bool) (wr:World):Prop where
 bel:Below w.heap.size w wr
 s:wr.heap[S]?=some (.cells cs 26 (0,0))
 o:wr.heap[O]?=some (.cells co tO (0,0))
 r1:wr.heap[w.heap.size]?=some (.cells (if f1=true then cs else #[.slice none 0 0,.slice none 0 0,.int .i64 0,.slice none 0 0]) 26 (0,0))
 r3:wr.heap[w.heap.size+1]?=some (.cells (if f3=true then co else zO) tO (0,0))
theorem ZR.one {f3:Bool} (h:ZR tO zO w S O cs co false f3 wr) (hS:w.heap.size+1<S∧w.heap.size+1<O):ZR tO zO w S O cs co true f3 (wr.setRow w.heap.size cs):=by
 have hw:=Wr.setRow w.heap.size wr cs;exact⟨h.bel.trans (hw.below (Nat.le_refl _)),by rw[hw.block _ (by omega)];exact h.s,by rw[hw.block _ (by omega)];exact h.o,setRow_heap _ _ _ _ _ _ h.r1,by rw[hw.block _ (by omega)];exact h.r3⟩
theorem ZR.two {f1:Bool} (h:ZR tO zO w S O cs co f1 false wr) (hS:w.heap.size+1<S∧w.heap.size+1<O):ZR tO zO w S O cs co f1 true (wr.setRow (w.heap.size+1) co):=by
 have hw:=Wr.setRow (w.heap.size+1) wr co;exact⟨h.bel.trans (hw.below (by omega)),by rw[hw.block _ (by omega)];exact h.s,by rw[hw.block _ (by omega)];exact h.o,by rw[hw.block _ (by omega)];exact h.r1,setRow_heap _ _ _ _ _ _ h.r3⟩
theorem Tryz.sizeSt:(Tryz.prog.info? 26).map (·.size)=some 4:=by kernel_rfl
theorem Tryz.sizeOp:(Tryz.prog.info? 28).map (·.size)=some 4:=by kernel_rfl
theorem results_so {fn:Func} {p u q:Tmp} (h:fn.results=#[.cell p 26,.tmp u,.cell q 28]) (tmps:Array Value) (w:World) (g g':Nat) (c0 c1 c2 c3 b0 b1 b2 b3:Value)
  (hp:tmps.getD p undef=.pointer (some ⟨g,0,none⟩)) (hq:tmps.getD q undef=.pointer (some ⟨g',0,none⟩)) (hg:w.heap[g]?=some (.cells #[c0,c1,c2,c3] 26 (0,0))) (hg':w.heap[g']?=some (.cells #[b0,b1,b2,b3] 28 (0,0))) :
  (results fn tmps).run Tryz.prog w=.ok (.tuple #[.agg #[c0,c1,c2,c3],tmps.getD u undef,.agg #[b0,b1,b2,b3]]) w:=by
 have hp':tmps[p]?.getD undef=.pointer (some ⟨g,0,none⟩):=by simpa using hp
 have hq':tmps[q]?.getD undef=.pointer (some ⟨g',0,none⟩):=by simpa using hq
 have h1:=run_loadVar_row (P:=Tryz.prog) w g 26 26 #[c0,c1,c2,c3] (0,0) _ hg Tryz.underlying26 rfl Tryz.sizeSt;have h2:=run_loadVar_row (P:=Tryz.prog) w g' 28 28 #[b0,b1,b2,b3] (0,0) _ hg' Tryz.underlying28 rfl Tryz.sizeOp;simp[results,h,hp',hq',asAddr,h1,h2]
end
theorem TxO.frm {w:World} {B:Nat} {v:Value} {m:Nat} (h:TxO w B v m):∃ q c,v=.slice (some ⟨q,0,none⟩) m c:=by
 obtain⟨zs,h1,h2,h3⟩:=h;obtain⟨q,c,e⟩:=h1.2;exact⟨q,c,by rw[e,h2]⟩
set_option maxRecDepth 100000 in
set_option maxHeartbeats 8000000 in
theorem pool_any (g:Nat) (x:Option Addr) (n cap:Nat) (a:Int) (sg:Nat) (w:World) (hc:CurB w g x n cap) (ht:CurT w g x n) (ha0:1≤a) (ha1:a≤1000) (hs0:1≤sg) (hs1:sg≤8) :
  Calls Tryz.prog 17 #[.pointer (some ⟨g,0,none⟩),.int .i64 a,.int .i64 sg] w fun e w'=>∃ v m vs,e=.returned v∧sg+3≤m∧m≤16∧PS 0 w g x n cap v m vs w':=by
 have HCT:=hdI ht;have HS0:=hdI (PS.start 72 hc);go_enter Tryz.func17,Tryz.ntmps17;go_wp2_with fail
 go_loopw [7,8] (fun v i wr=>∃(k:Nat) (vs:List Value),k≤sg∧i=.int .i64 k∧PS 72 w g x n cap v k vs wr) (fun _ i _=>sg-(intOf i).toNat)
 case atStart=>exact⟨0,[],Nat.zero_le _,rfl,HS0.out⟩
 case round=>
  obtain⟨k,vs,hk,rfl,hp⟩:=hrel;obtain⟨av,cv,rfl⟩:=hp.form;have HP:=hdI hp;by_cases hlt:k<sg
  ·have hlt':(k:Int)<sg:=by omega
   go_wp2_with fail;refine(below_any g x n cap 3 _ HP.out.cb (HP.out.ct HCT.out) (by decide) (by decide)).mono ?_;rintro e w1 ⟨y1,rfl,h10,h11,hc1,hw1⟩;have HP1:=hdI (HP.out.cur hc1 hw1);go_wp2_with fail;refine(below_any g x n cap 100 _ HP1.out.cb (HP1.out.ct HCT.out) (by decide) (by decide)).mono ?_;rintro e w2 ⟨y2,rfl,h20,h21,hc2,hw2⟩;have HP2:=hdI (HP1.out.cur hc2 hw2);go_wp2_with fail;refine(below_any g x n cap 200 _ HP2.out.cb (HP2.out.ct HCT.out) (by decide) (by decide)).mono ?_;rintro e w3 ⟨y3,rfl,h30,h31,hc3,hw3⟩;have HP3:=hdI (HP2.out.cur hc3 hw3);go_wp2_with fail;refine(ticket_any a (1+y3) (3*k+y1) (40+y2) w3 (by omega) ha1 (by omega) (by omega) (by omega) (by omega) (by omega) (by omega)).mono ?_;rintro e w4 ⟨u,rfl,hu,hb4⟩;obtain⟨q4,c4,rfl⟩:=hu.frm;have bA:=below_new w4 (.cells #[.slice (some ⟨q4,0,none⟩) 72 c4] 22);have HU:=hdI ((TxB.of_txO (hu.lower HP3.out.wg.size)).below bA);have HP4:=hdI ((HP3.out.call hb4).call bA);have hz4:=hdI (Nat.le_trans HP3.out.wg.size hb4.size);go_wp2_with (at_builtin;refine wpList_appP1 w4 rfl _ _ rfl w.heap.size (.slice av k cv) k vs (.slice (some ⟨q4,0,none⟩) 72 c4) rfl HP4.out.row rfl rfl ?c1 hz4.out ?_)
   case c1=>omega
   intro v5 w5 hr5 hg5;have HP5:=hdI (HP4.out.app HU.out (by decide) (by decide) hg5 hr5);go_wp2;go_roundw
   case rel=>exact⟨k+1,_,by omega,by go_num,HP5.out⟩
   case measure=>simp[intOf];omega
  ·have hkn:k=sg:=by omega
   subst hkn;go_wp2_with fail;refine(below_any g x n cap 12 _ HP.out.cb (HP.out.ct HCT.out) (by decide) (by decide)).mono ?_;rintro e w1 ⟨y1,rfl,h10,h11,hc1,hw1⟩;have HP1:=hdI (HP.out.cur hc1 hw1);go_wp2_with fail;refine(below_any g x n cap 60 _ HP1.out.cb (HP1.out.ct HCT.out) (by decide) (by decide)).mono ?_;rintro e w2 ⟨y2,rfl,h20,h21,hc2,hw2⟩;have HP2:=hdI (HP1.out.cur hc2 hw2);go_wp2_with fail;refine(ticket_any 0 0 y1 90 w2 (by omega) (by omega) (by omega) (by omega) (by omega) (by omega) (by omega) (by omega)).mono ?_;rintro e w4 ⟨u,rfl,hu,hb4⟩;obtain⟨q4,c4,rfl⟩:=hu.frm;have bA:=below_new w4 (.cells #[.slice (some ⟨q4,0,none⟩) 72 c4] 22);have HU:=hdI ((TxB.of_txO (hu.lower HP2.out.wg.size)).below bA);have HP4:=hdI ((HP2.out.call hb4).call bA);have hz4:=hdI (Nat.le_trans HP2.out.wg.size hb4.size);go_wp2_with (at_builtin;refine wpList_appP1 w4 rfl _ _ rfl w.heap.size (.slice av k cv) k vs (.slice (some ⟨q4,0,none⟩) 72 c4) rfl HP4.out.row rfl rfl ?c2 hz4.out ?_)
   case c2=>omega
   intro v5 w5 hr5 hg5;have HP5:=hdI (HP4.out.app HU.out (by decide) (by decide) hg5 hr5);obtain⟨a5,c5,rfl⟩:=HP5.out.form;go_wp2_with fail;refine(ticket_any 0 0 (250+y2) 90 w5 (by omega) (by omega) (by omega) (by omega) (by omega) (by omega) (by omega) (by omega)).mono ?_;rintro e w6 ⟨u2,rfl,hu2,hb6⟩;obtain⟨q6,c6,rfl⟩:=hu2.frm;have bA:=below_new w6 (.cells #[.slice (some ⟨q6,0,none⟩) 72 c6] 22);have HU:=hdI ((TxB.of_txO (hu2.lower HP5.out.wg.size)).below bA);have HP6:=hdI ((HP5.out.call hb6).call bA);have hz6:=hdI (Nat.le_trans HP5.out.wg.size hb6.size);generalize vs++[Value.slice (some ⟨q4,0,none⟩) 72 c4]=vs at *;go_wp2_with (at_builtin;refine wpList_appP1 w6 rfl _ _ rfl w.heap.size (.slice a5 (k+1) c5) (k+1) vs (.slice (some ⟨q6,0,none⟩) 72 c6) rfl HP6.out.row rfl rfl ?c3 hz6.out ?_)
   case c3=>omega
   intro v7 w7 hr7 hg7;have hp7:=HP6.out.app HU.out (by decide) (by decide) hg7 hr7;generalize vs++[Value.slice (some ⟨q6,0,none⟩) 72 c6]=vs at *;obtain⟨q7,c7,rfl,hc7,hq7,hce⟩:=hp7.form1 (by omega);have hl7:0<vs.length:=by rw[hp7.row.1];omega
   obtain⟨k0,l0,l1,T0⟩:=hp7.tx vs[0] (List.getElem_mem hl7);obtain rfl:k0=72:=by omega
   have hc0:=hce 0 (by omega);rw[List.getElem?_eq_getElem hl7] at hc0;generalize vs[0]=u0 at *;obtain⟨b0,o0,c0,rfl⟩:∃ b o c,u0=.slice (some ⟨b,o,none⟩) 72 c:=by obtain⟨b,o,c,zs,cs,fr,h1,_⟩:=T0;exact⟨b,o,c,h1⟩
   have HP7:=hdI hp7;have HT0:=hdI T0;have bE:=below_new w7 (.cells #[] 5);have HOE:=hdI (Own.empty w7 w7.heap.size (Nat.le_refl _));have HP8:=hdI (hp7.call bE);have HT8:=hdI (T0.below bE);have hc8:(w7.alloc (.cells #[] 5)).cell? ⟨q7,0,none⟩=some (.slice (some ⟨b0,o0,none⟩) 72 c0):=by
    rw[World.cell?_of_block (a:=⟨q7,0,none⟩) (bE.block q7 hp7.lt)];exact hc0
   obtain⟨y,rfl⟩:=Int.eq_ofNat_of_zero_le h20;clear hp7 T0 hce l0 l1 bE;go_wp2_with (at_builtin;refine wpList_cpy rfl _ _ rfl w7.heap.size w7.heap.size w.heap.size (.slice (some ⟨b0,o0,none⟩) 72 c0) 72 rfl HOE.out rfl HT8.out (by decide) ?c4 ?_)
   case c4=>simp
   intro v9 w9 zs O9 l9 y9 b9;obtain⟨q9,c9,e9⟩:=O9.2;rw[l9] at e9;subst e9;have hq9:w7.heap.size≤q9:=by obtain⟨_,_,e,h,_⟩:=O9.base;rw[l9] at e;cases e;exact h
   have hj:2+y<72:=by omega
   obtain⟨cj,fj,Oj⟩:=O9.setE l9 (2+y) (bits .xor .u8 (zs.getD (2+y) 0) (1+y1)) hj;have hsz:=HP7.out.wg.size;have HTB:=hdI ((TxB.of_own Oj (by simpa using l9) (byte_setE y9 _ (xor_bdP _ _))).mono hsz);have HPA:=hdI (HP7.out.call (((below_new w7 (.cells #[] 5)).trans b9).trans (below_setE (i:=2+y) (v:=.int .u8 (bits .xor .u8 (zs.getD (2+y) 0) (1+y1))) hq9)));have hj':(2:Int)+y<72:=by omega
   have ej:((2:Int)+y).toNat=2+y:=by omega
   have ex:(1+y1)%256=1+y1:=by omega
   generalize zs.getD (2+y) 0=zj at *
   go_upto_region 15 with fail
   generalize w9.setCell ⟨q9,2+y,none⟩ (.int .u8 (bits .xor .u8 zj (1+y1)))=wA at *;have bA:=below_new wA (.cells #[.slice (some ⟨q9,0,none⟩) 72 c9] 22);have HU:=hdI (HTB.out.below bA);have HPB:=hdI (HPA.out.call bA);have hzA:=hdI HPA.out.wg.size;go_wp2_with (at_builtin;refine wpList_appP1 wA rfl _ _ rfl w.heap.size (.slice (some ⟨q7,0,none⟩) (k+1+1) c7) (k+1+1) vs (.slice (some ⟨q9,0,none⟩) 72 c9) rfl HPB.out.row rfl rfl ?c5 hzA.out ?_)
   case c5=>omega
   intro vB wB hrB hgB;have hp:=HPB.out.app HU.out (by decide) (by decide) hgB hrB;generalize vs++[Value.slice (some ⟨q9,0,none⟩) 72 c9]=vs at *;obtain⟨qB,cB,rfl,hcB,hqB,hce⟩:=hp.form1 (by omega);have hl:0<vs.length:=by rw[hp.row.1];omega
   obtain⟨k0,l0,l1,T0⟩:=hp.tx vs[0] (List.getElem_mem hl);obtain rfl:k0=72:=by omega
   have hc0:=hce 0 (by omega);rw[List.getElem?_eq_getElem hl] at hc0;generalize vs[0]=u0 at *;obtain⟨b1,o1,c1,rfl,hc1⟩:∃ b o c,u0=.slice (some ⟨b,o,none⟩) 72 c∧72≤c:=by obtain⟨b,o,c,zs,cs,fr,h1,h2,_⟩:=T0;exact⟨b,o,c,h1,h2⟩
   have bC:=below_new wB (.cells #[.slice (some ⟨b1,o1,none⟩) y c1] 22);have HU:=hdI ((T0.cut y (by omega)).below bC);have HPC:=hdI (hp.weak.call bC);have hzC:=hdI hp.wg.size;have hyc:(y:Int)≤c1:=by omega
   clear hp T0 bC hce l0 l1 hcB hl;go_wp2_with (at_builtin;refine wpList_appP1 wB rfl _ _ rfl w.heap.size (.slice (some ⟨qB,0,none⟩) (k+1+1+1) cB) (k+1+1+1) vs (.slice (some ⟨b1,o1,none⟩) y c1) rfl HPC.out.row rfl rfl ?c6 hzC.out ?_)
   case c6=>omega
   intro vD wD hrD hgD;have HF:=hdI (HPC.out.app HU.out (Nat.zero_le _) (by omega) hgD hrD);go_wp2
   go_ret
   exact⟨_,_,_,rfl,by omega,by omega,HF.out⟩
theorem upTo_or (P Q:Nat→Bool) (a:Nat) (ha:P a=false) (hQ:∀ v,Q v=(P v || decide (v=a))) (k:Nat):(upTo Q k).length=(upTo P k).length+(if a<k then 1 else 0):=by
 induction k with
 |zero=>rfl
 |succ k ih=>
  rw[upTo_succ,upTo_succ];by_cases hk:a=k
  ·subst hk;rw[hQ,ha,if_pos (by simp),if_neg (by simp),List.length_append,ih,if_neg (Nat.lt_irrefl _),if_pos (Nat.lt_succ_self _)];simp
  ·have e:Q k=P k:=by rw[hQ,decide_eq_false (fun h=>hk h.symm)];simp
   rw[e];have e2:(if a<k+1 then 1 else 0)=(if a<k then 1 else 0):=by
    by_cases h:a<k
    ·rw[if_pos h,if_pos (by omega)]
    ·rw[if_neg h,if_neg (by omega)]
   rw[e2];split
   ·rw[List.length_append,List.length_append,ih];simp;omega
   ·exact ih
open Classical in
theorem withS_len {U:List Int} {a:Nat} (hU:SerP U) (ha:a<256) (hn:¬ (a:Int)∈U):(withS U a).length=U.length+1:=by
 have e:=SerP.eq_upTo hU (fun v=>decide ((v:Int)∈U)) (fun v _=>by simp);have:=upTo_or (fun v=>decide ((v:Int)∈U)) (fun v=>decide ((v:Int)∈U∨v=a)) a (decide_eq_false hn) (fun v=>by by_cases h1:(v:Int)∈U<;>by_cases h2:v=a<;>simp[h1,h2]) 256;rw[if_pos ha] at this;unfold withS;rw[this]
 conv=>rhs;rw[←e]
theorem mem_withS {U:List Int} {a:Nat} (hU:SerP U) {z:Int} (h:z∈U):z∈withS U a:=by
 obtain⟨h0,h1⟩:=hU.range h;obtain⟨v,rfl⟩:=Int.eq_ofNat_of_zero_le h0;exact(withS_mem (by omega)).1 (.inl h)
theorem apR_st {D U:List Int} {k:Int} {T:List Int} {n:Nat} {kind:Int} {a b:Nat} (h:StP D U k T n) (hT:T.length=n*2) (hb:b<4294967296) (ho:(apR D U k T n kind a b).ok=true) :
  StP (apR D U k T n kind a b).D (apR D U k T n kind a b).U (apR D U k T n kind a b).k (apR D U k T n kind a b).T (apR D U k T n kind a b).n∧(apR D U k T n kind a b).T.length=(apR D U k T n kind a b).n*2:=by
 obtain⟨sD,sU⟩:=apR_ser (k:=k) (T:=T) (n:=n) (kind:=kind) (a:=a) (b:=b) h.1 h.2.2.1;obtain⟨h1,h2,h3,h4,h5,h6⟩:=h;unfold apR at ho sD sU ⊢;by_cases k1:kind=1
 ·rw[if_pos k1] at ho sD sU ⊢;by_cases hc:a<256∧¬ (a:Int)∈U∧¬ (a:Int)∈D
  ·rw[if_pos hc] at sD sU ⊢;have hl:=withS_len h3 hc.1 hc.2.1;refine⟨⟨sD,h2,sU,h4,by show k+((n+1:Nat):Int)=((withS U a).length:Int);rw[hl];omega,fun i hi=>?_⟩,by show(T++_).length=(n+1)*2;rw[List.length_append,hT];simp;omega⟩;show tapI (withS U a) (T++[(a:Int),(b:Int)]) i
   have hgl:∀ j,j<n*2→(T++[(a:Int),(b:Int)]).getD j 0=T.getD j 0:=fun j hj=>by
    rw[List.getD,List.getD,List.getElem?_append_left (by omega)]
   by_cases hin:i<n
   ·obtain⟨t1,t2,t3⟩:=h6 i hin;refine⟨by rw[hgl _ (by omega)];exact mem_withS h3 t1,by rw[hgl _ (by omega)];exact t2,fun j hj=>?_⟩;rw[hgl _ (by omega),hgl _ (by omega)];exact t3 j hj
   ·obtain rfl:i=n:=by have:i<n+1:=hi;omega
    have e0:(T++[(a:Int),(b:Int)]).getD (i*2) 0=(a:Int):=by rw[List.getD,List.getElem?_append_right (by omega),hT,Nat.sub_self];rfl
    have e1:(T++[(a:Int),(b:Int)]).getD (i*2+1) 0=(b:Int):=by rw[List.getD,List.getElem?_append_right (by omega),hT,Nat.add_sub_cancel_left];rfl
    refine⟨by rw[e0];exact(withS_mem hc.1).1 (.inr rfl),by rw[e1];omega,fun j hj=>?_⟩;rw[hgl _ (by omega),e0];intro e;exact hc.2.1 (e ▸ (h6 j hj).1)
  ·rw[if_neg hc] at ho;cases ho
 ·rw[if_neg k1] at ho sD sU ⊢;by_cases k2:kind=2
  ·rw[if_pos k2] at ho sD sU ⊢;by_cases hc:b=1∧a<256∧¬ (a:Int)∈D∧¬ D.length=16
   ·rw[if_pos hc] at sD sU ⊢;have hl:=withS_len h1 hc.2.1 hc.2.2.1;exact⟨⟨sD,by show(withS D a).length≤16;rw[hl];omega,sU,h4,h5,h6⟩,hT⟩
   ·rw[if_neg hc] at ho sD sU ⊢;by_cases hc2:b=0∧a<256∧(a:Int)∈D
    ·rw[if_pos hc2] at sD sU ⊢;exact⟨⟨sD,Nat.le_trans (List.length_filter_le _ _) h2,sU,h4,h5,h6⟩,hT⟩
    ·rw[if_neg hc2] at ho;cases ho
  ·rw[if_neg k2] at ho sD sU ⊢;by_cases k3:kind=3
   ·rw[if_pos k3] at ho sD sU ⊢;by_cases hc:b=0∧(a:Int)≤k+n
    ·rw[if_pos hc] at sD sU ⊢;have hm:ackM k a≤n:=by unfold ackM;omega
     have hmk:(ackM k a:Int)=max (a:Int) k-k:=by unfold ackM;omega
     refine⟨⟨sD,h2,sU,by show 0≤max (a:Int) k;omega,by show max (a:Int) k+((n-ackM k a:Nat):Int)=(U.length:Int);rw[←h5,Int.ofNat_sub hm,hmk];generalize max (a:Int) k=mx;omega,fun i hi=>?_⟩,by show(T.drop _).length=(n-ackM k a)*2;rw[List.length_drop,hT];omega⟩;have hi':i<n-ackM k a:=hi;have e:∀ j,(T.drop (ackM k a*2)).getD j 0=T.getD (ackM k a*2+j) 0:=fun j=>by simp[List.getD]
     obtain⟨t1,t2,t3⟩:=h6 (ackM k a+i) (by omega);show tapI U (T.drop (ackM k a*2)) i
     unfold tapI;rw[e,e,show ackM k a*2+i*2=(ackM k a+i)*2 by omega,show ackM k a*2+(i*2+1)=(ackM k a+i)*2+1 by omega];refine⟨t1,t2,fun j hj=>?_⟩;rw[e,show ackM k a*2+j*2=(ackM k a+j)*2 by omega];exact t3 _ (by omega)
    ·rw[if_neg hc] at ho;cases ho
   ·rw[if_neg k3] at ho;cases ho
structure SpR where
 c:Int
 D:List Int
 U:List Int
 k:Int
 T:List Int
 n:Nat
noncomputable def opR (D U:List Int) (k:Int) (T:List Int) (n:Nat) (ks:List Int) (kind:Int) (tk:List Int) (now N:Int):SpR:=
 if kind=1 then(if tapC D U ks tk now=1 then ⟨1,D,withS U (tkS tk).toNat,k,T++[tkS tk,now],n+1⟩ else ⟨tapC D U ks tk now,D,U,k,T,n⟩)
 else if kind=2 then(if 0≤N∧N<256 then(if memB N D=true then ⟨9,D,U,k,T,n⟩ else if D.length=16 then ⟨10,D,U,k,T,n⟩ else ⟨9,withS D N.toNat,U,k,T,n⟩) else ⟨10,D,U,k,T,n⟩)
 else if kind=3 then(if 0≤N∧N<256 then(if memB N D=true then ⟨9,lessS D N.toNat,U,k,T,n⟩ else ⟨9,D,U,k,T,n⟩) else ⟨10,D,U,k,T,n⟩)
 else if kind=4 then(if N<k then ⟨10,D,U,k,T,n⟩ else if k+(n:Int)<N then ⟨10,D,U,k,T,n⟩ else if N=k then ⟨9,D,U,k,T,n⟩ else ⟨9,D,U,N,T.drop ((N-k).toNat*2),n-(N-k).toNat⟩)
 else if kind=5 then ⟨9,D,U,k,T,n⟩ else ⟨10,D,U,k,T,n⟩
open Classical in
noncomputable def stR (D U:List Int) (k:Int) (T:List Int) (n:Nat) (ks:List Int) (kind:Int) (tk:List Int) (now N:Int):SpR:=
 if stB D U k T n=true∧ks.length=32 then opR D U k T n ks kind tk now N else ⟨10,D,U,k,T,n⟩
section
variable {D U:List Int} {k:Int} {T:List Int} {n:Nat} {ks:List Int} {kind:Int} {tk:List Int} {now N:Int}
theorem memB_of (h:memB N D=true):N∈D:=by unfold memB at h;simpa using h
theorem memB_not (h:¬ memB N D=true):¬ N∈D:=fun hm=>h (memB_yes hm)
theorem tapC_mem (h:tapC D U ks tk now=1):¬ tkS tk∈D∧¬ tkS tk∈U:=by
 unfold tapC at h;by_cases h0:now<0
 ·rw[if_pos h0] at h;omega
 rw[if_neg h0] at h;by_cases h1:4294967295<now
 ·rw[if_pos h1] at h;omega
 rw[if_neg h1] at h;by_cases h2:tkB tk=false
 ·rw[if_pos h2] at h;omega
 rw[if_neg h2] at h;by_cases h3:256≤tkS tk
 ·rw[if_pos h3] at h;omega
 rw[if_neg h3] at h;by_cases h4:tkE tk<now
 ·rw[if_pos h4] at h;omega
 rw[if_neg h4] at h;by_cases h5:memB (tkS tk) D=true
 ·rw[if_pos h5] at h;omega
 rw[if_neg h5] at h;by_cases h6:memB (tkS tk) U=true
 ·rw[if_pos h6] at h;omega
 exact⟨memB_not h5,memB_not h6⟩
theorem ackM_of (h:k≤N):ackM k N=(N-k).toNat:=by unfold ackM;rw[Int.max_eq_left h]
theorem du_op (hst:stB D U k T n=true) (hz:Byte tk) (h0:0≤k) (h1:k≤1048576) (hn:n≤1048576) (hD:D.length≤16) (hk1:1≤kind) (hk5:kind≤5) :
  ((duR D U k n ks kind tk now N).fk=0→opR D U k T n ks kind tk now N=⟨(duR D U k n ks kind tk now N).c,D,U,k,T,n⟩)∧
  (¬ (duR D U k n ks kind tk now N).fk=0→∃ o:SpR,opR D U k T n ks kind tk now N=o∧o.c=(duR D U k n ks kind tk now N).c∧apF D U k T n (duR D U k n ks kind tk now N).fk (duR D U k n ks kind tk now N).a (duR D U k n ks kind tk now N).b=⟨true,o.D,o.U,o.k,o.T,o.n⟩∧(duR D U k n ks kind tk now N).a<4294967296∧(duR D U k n ks kind tk now N).b<4294967296):=by
 have hap:∀ kd a b,apF D U k T n kd a b=apR D U k T n kd a b:=fun kd a b=>by unfold apF;rw[if_pos hst]
 obtain rfl|rfl|rfl|rfl|rfl:kind=1∨kind=2∨kind=3∨kind=4∨kind=5:=by omega
 ·have e1:duR D U k n ks 1 tk now N=if tapC D U ks tk now=1 then ⟨1,1,(tkS tk).toNat,now.toNat⟩ else ⟨tapC D U ks tk now,0,0,0⟩:=by unfold duR;rw[if_pos rfl]
  have e2:opR D U k T n ks 1 tk now N=if tapC D U ks tk now=1 then ⟨1,D,withS U (tkS tk).toNat,k,T++[tkS tk,now],n+1⟩ else ⟨tapC D U ks tk now,D,U,k,T,n⟩:=by unfold opR;rw[if_pos rfl]
  rw[e1,e2];by_cases hc:tapC D U ks tk now=1
  ·rw[if_pos hc,if_pos hc];obtain⟨s,m,hs,rfl,hs2,hm2,htb⟩:=tapC_one hz hc;obtain⟨hd,hu⟩:=tapC_mem hc;rw[hs] at hd hu ⊢;refine⟨fun h=>absurd h (by simp),fun _=>⟨_,rfl,rfl,?_,by simp;omega,by simp;omega⟩⟩;dsimp only;rw[hap];exact apR_tap ⟨by simpa using hs2,by simpa using hu,by simpa using hd⟩
  ·rw[if_neg hc,if_neg hc];exact⟨fun _=>rfl,fun h=>absurd rfl h⟩
 ·have e1:duR D U k n ks 2 tk now N=if 0≤N∧N<256 then(if memB N D=true then ⟨9,0,0,0⟩ else if D.length=16 then ⟨10,0,0,0⟩ else ⟨9,2,N.toNat,1⟩) else ⟨10,0,0,0⟩:=by unfold duR;rw[if_neg (by decide),if_pos rfl]
  have e2:opR D U k T n ks 2 tk now N=if 0≤N∧N<256 then(if memB N D=true then ⟨9,D,U,k,T,n⟩ else if D.length=16 then ⟨10,D,U,k,T,n⟩ else ⟨9,withS D N.toNat,U,k,T,n⟩) else ⟨10,D,U,k,T,n⟩:=by unfold opR;rw[if_neg (by decide),if_pos rfl]
  rw[e1,e2];by_cases hs:0≤N∧N<256
  ·rw[if_pos hs,if_pos hs];by_cases hm:memB N D=true
   ·rw[if_pos hm,if_pos hm];exact⟨fun _=>rfl,fun h=>absurd rfl h⟩
   ·rw[if_neg hm,if_neg hm];by_cases h16:D.length=16
    ·rw[if_pos h16,if_pos h16];exact⟨fun _=>rfl,fun h=>absurd rfl h⟩
    ·rw[if_neg h16,if_neg h16];refine⟨fun h=>absurd h (by simp),fun _=>⟨_,rfl,rfl,?_,by simp;omega,by simp⟩⟩;dsimp only;rw[hap];exact apR_add ⟨by omega,by rw[Int.toNat_of_nonneg hs.1];exact memB_not hm,h16⟩
  ·rw[if_neg hs,if_neg hs];exact⟨fun _=>rfl,fun h=>absurd rfl h⟩
 ·have e1:duR D U k n ks 3 tk now N=if 0≤N∧N<256 then(if memB N D=true then ⟨9,2,N.toNat,0⟩ else ⟨9,0,0,0⟩) else ⟨10,0,0,0⟩:=by unfold duR;rw[if_neg (by decide),if_neg (by decide),if_pos rfl]
  have e2:opR D U k T n ks 3 tk now N=if 0≤N∧N<256 then(if memB N D=true then ⟨9,lessS D N.toNat,U,k,T,n⟩ else ⟨9,D,U,k,T,n⟩) else ⟨10,D,U,k,T,n⟩:=by unfold opR;rw[if_neg (by decide),if_neg (by decide),if_pos rfl]
  rw[e1,e2];by_cases hs:0≤N∧N<256
  ·rw[if_pos hs,if_pos hs];by_cases hm:memB N D=true
   ·rw[if_pos hm,if_pos hm];refine⟨fun h=>absurd h (by simp),fun _=>⟨_,rfl,rfl,?_,by simp;omega,by simp⟩⟩;dsimp only;rw[hap];exact apR_rem ⟨by omega,by rw[Int.toNat_of_nonneg hs.1];exact memB_of hm⟩
   ·rw[if_neg hm,if_neg hm];exact⟨fun _=>rfl,fun h=>absurd rfl h⟩
  ·rw[if_neg hs,if_neg hs];exact⟨fun _=>rfl,fun h=>absurd rfl h⟩
 ·have e2:opR D U k T n ks 4 tk now N=if N<k then ⟨10,D,U,k,T,n⟩ else if k+(n:Int)<N then ⟨10,D,U,k,T,n⟩ else if N=k then ⟨9,D,U,k,T,n⟩ else ⟨9,D,U,N,T.drop ((N-k).toNat*2),n-(N-k).toNat⟩:=by unfold opR;rw[if_neg (by decide),if_neg (by decide),if_neg (by decide),if_pos rfl]
  rw[duR_4,e2];by_cases hlo:N<k
  ·rw[if_pos hlo,if_pos hlo];exact⟨fun _=>rfl,fun h=>absurd rfl h⟩
  rw[if_neg hlo,if_neg hlo];by_cases hhi:k+(n:Int)<N
  ·rw[if_pos hhi,if_pos hhi];exact⟨fun _=>rfl,fun h=>absurd rfl h⟩
  rw[if_neg hhi,if_neg hhi];by_cases hne:N=k
  ·rw[if_pos hne,if_pos hne];exact⟨fun _=>rfl,fun h=>absurd rfl h⟩
  rw[if_neg hne,if_neg hne];obtain⟨m,rfl⟩:∃ m:Nat,N=m:=⟨N.toNat,by omega⟩
  refine⟨fun h=>absurd h (by simp),fun _=>⟨_,rfl,rfl,?_,by simp;omega,by simp⟩⟩;dsimp only;rw[hap,Int.toNat_natCast,apR_ack (by omega),ackM_of (by omega),Int.max_eq_left (by omega)]
 ·have e1:duR D U k n ks 5 tk now N=⟨9,0,0,0⟩:=by unfold duR;rw[if_neg (by decide),if_neg (by decide),if_neg (by decide),if_neg (by decide)]
  have e2:opR D U k T n ks 5 tk now N=⟨9,D,U,k,T,n⟩:=by unfold opR;rw[if_neg (by decide),if_neg (by decide),if_neg (by decide),if_neg (by decide),if_pos rfl]
  rw[e1,e2];exact⟨fun _=>rfl,fun h=>absurd rfl h⟩
end
def WSV (lo:Nat) (w:World) (v:Value) (r:SpR):Prop:=
 ∃ aD nD cD aU nU cU aT nT cT,v=.agg #[.int .i64 r.c,.slice aD nD cD,.slice aU nU cU,.int .i64 r.k,.slice aT nT cT]∧At .i64 w aD r.D∧At .i64 w aU r.U∧At .i64 w aT r.T∧r.D.length=nD∧r.U.length=nU∧r.T.length=nT*2∧Lies lo w aD∧Lies lo w aU∧Lies lo w aT∧nT≤cT∧cT≤9223372036854775807
def BkP (H B g:Nat) (w:World) (r:SpR) (e:Ending) (w':World):Prop:=
 e=.returned (.int .i64 r.c)∧Below H w w'∧∃ d u v,Bk w' g d u r.k v∧SetB d (fun x=>(x:Int)∈r.D)∧SetB u (fun x=>(x:Int)∈r.U)∧TapV B w' v r.T r.n∧NeG g v
structure BkV (H B g:Nat) (w:World) (d u:List Int) (v:Value) (D U:List Int) (k:Int) (T:List Int) (n:Nat):Prop where
 bk:Bk w g d u k v
 sd:SetB d (fun x=>(x:Int)∈D)
 su:SetB u (fun x=>(x:Int)∈U)
 tv:TapV B w v T n
 ser:SerP D
 h0:0≤k
 h1:k≤1048576
 hn:n≤1048576
 hH:H≤g
 hHB:H≤B
 ne:NeG g v
 hBw:B≤w.heap.size
section
variable {H B g:Nat} {w w':World} {d u:List Int} {v:Value} {D U:List Int} {k:Int} {T:List Int} {n:Nat} {ks tk:List Int} {now N:Int}
theorem BkV.same (h:BkV H B g w d u v D U k T n) (c:Int):BkP H B g w ⟨c,D,U,k,T,n⟩ (.returned (.int .i64 c)) w:=⟨rfl,Below.refl _ _,d,u,v,h.bk,h.sd,h.su,h.tv,h.ne⟩
theorem BkV.drew (h:BkV H B g w d u v D U k T n) (q:Nat):BkV H B g (w.drewN q) d u v D U k T n:=⟨h.bk.drew q,h.sd,h.su,h.tv.drew q,h.ser,h.h0,h.h1,h.hn,h.hH,h.hHB,h.ne,h.hBw⟩
theorem BkV.below (h:BkV H B g w d u v D U k T n) (b:Below w.heap.size w w'):BkV H B g w' d u v D U k T n:=
 ⟨h.bk.below b h.bk.lt,h.sd,h.su,h.tv.block b.size (fun t _ ht=>b.block t ht),h.ser,h.h0,h.h1,h.hn,h.hH,h.hHB,h.ne,Nat.le_trans h.hBw b.size⟩
theorem BkP.from {r:SpR} {e:Ending} {w1:World} (h:BkP H B g w1 r e w') (b:Below H w w1):BkP H B g w r e w':=⟨h.1,b.trans h.2.1,h.2.2⟩
theorem opR_2:opR D U k T n ks 2 tk now N=if 0≤N∧N<256 then(if memB N D=true then ⟨9,D,U,k,T,n⟩ else if D.length=16 then ⟨10,D,U,k,T,n⟩ else ⟨9,withS D N.toNat,U,k,T,n⟩) else ⟨10,D,U,k,T,n⟩:=by unfold opR;rw[if_neg (by decide),if_pos rfl]
theorem opR_3:opR D U k T n ks 3 tk now N=if 0≤N∧N<256 then(if memB N D=true then ⟨9,lessS D N.toNat,U,k,T,n⟩ else ⟨9,D,U,k,T,n⟩) else ⟨10,D,U,k,T,n⟩:=by unfold opR;rw[if_neg (by decide),if_neg (by decide),if_pos rfl]
theorem opR_4:opR D U k T n ks 4 tk now N=if N<k then ⟨10,D,U,k,T,n⟩ else if k+(n:Int)<N then ⟨10,D,U,k,T,n⟩ else if N=k then ⟨9,D,U,k,T,n⟩ else ⟨9,D,U,N,T.drop ((N-k).toNat*2),n-(N-k).toNat⟩:=by unfold opR;rw[if_neg (by decide),if_neg (by decide),if_neg (by decide),if_pos rfl]
set_option maxRecDepth 100000 in
set_option maxHeartbeats 1000000 in
theorem dny_any (h:BkV H B g w d u v D U k T n) :
  Calls Tryz.prog 48 #[.pointer (some ⟨g,0,none⟩),.int .i64 N] w (BkP H B g w (opR D U k T n ks 2 tk now N)):=by
 have HB:=hid_ofS h;clear h;by_cases hs:0≤N∧N<256
 ·obtain⟨m,rfl⟩:∃ m:Nat,N=m:=⟨N.toNat,by omega⟩
  have hm:m<256:=by omega
  have HSO:=hdI <| ser_yes hm
  by_cases hin:memB (m:Int) D=true
  ·have HR:Hid (opR D U k T n ks 2 tk now (m:Int)=⟨9,D,U,k,T,n⟩):=by show _=_;rw[opR_2,if_pos hs,if_pos hin]
   have HQ:Hid (m<256∧(m:Int)∈D):=⟨hm,memB_of hin⟩
   clear hs hin;go_enter Tryz.func48,Tryz.ntmps48;go_wp2_with fail;refine(isSerial_any _ _).mono ?_;rintro e w1 ⟨rfl,e1⟩;obtain rfl:w=w1:=e1.symm;rw[HSO.out];go_wp2_with fail;refine(hasYes_any m HB.out.bk.batd HB.out.sd HQ.out).mono ?_;rintro e w1 ⟨rfl,e1⟩;obtain rfl:w=w1:=e1.symm;have HF:=hid_ofS (HB.out.same 9);clear HB HSO HQ;go_wp2
   go_ret
   rw[HR.out];exact HF.out
  ·have HQ:Hid (¬ (m<256∧(m:Int)∈D)):=fun h=>memB_not hin h.2
   by_cases h16:D.length=16
   ·have HR:Hid (opR D U k T n ks 2 tk now (m:Int)=⟨10,D,U,k,T,n⟩):=by show _=_;rw[opR_2,if_pos hs,if_neg hin,if_pos h16]
    have HP:=hdI <| decide_eq_true ((pop_len HB.out.sd HB.out.ser).trans h16)
    clear hs hin h16;go_enter Tryz.func48,Tryz.ntmps48;go_wp2_with fail;refine(isSerial_any _ _).mono ?_;rintro e w1 ⟨rfl,e1⟩;obtain rfl:w=w1:=e1.symm;rw[HSO.out];go_wp2_with fail;refine(hasNo_any m HB.out.bk.batd HB.out.sd HQ.out).mono ?_;rintro e w1 ⟨rfl,e1⟩;obtain rfl:w=w1:=e1.symm;go_wp2_with fail;refine(full_any HB.out.bk).mono ?_;rintro e w1 ⟨rfl,e1⟩;obtain rfl:w=w1:=e1.symm;rw[HP.out];have HF:=hid_ofS (HB.out.same 10);clear HB HSO HQ HP;go_wp2
    go_ret
    rw[HR.out];exact HF.out
   ·have HR:Hid (opR D U k T n ks 2 tk now (m:Int)=⟨9,withS D m,U,k,T,n⟩):=by show _=_;rw[opR_2,if_pos hs,if_neg hin,if_neg h16];rfl
    have HP:Hid (decide (popS d 32=16)=false):=decide_eq_false (fun h=>h16 ((pop_len HB.out.sd HB.out.ser).symm.trans h));have HF:∀ q,Hid (BkP H B g w ⟨9,withS D m,U,k,T,n⟩ (.returned (.int .i64 9)) ((w.setCell ⟨g,0+m/8,none⟩ (.int .u8 ((addB d m).getD (m/8) 0))).drewN q)):=fun q=>by
     have hw:Wr g w ((w.setCell ⟨g,0+m/8,none⟩ (.int .u8 ((addB d m).getD (m/8) 0))).drewN q):=((Wr.refl _ _).setCell _ _).drewN _;exact⟨rfl,hw.below HB.out.hH,_,_,_,(HB.out.bk.addD m hm).drew q,(HB.out.sd.add m hm).congr (fun x hx=>withS_mem hx),HB.out.su,HB.out.tv.wr hw HB.out.ne,HB.out.ne⟩
    clear hs hin h16;go_enter Tryz.func48,Tryz.ntmps48;go_wp2_with fail;refine(isSerial_any _ _).mono ?_;rintro e w1 ⟨rfl,e1⟩;obtain rfl:w=w1:=e1.symm;rw[HSO.out];go_wp2_with fail;refine(hasNo_any m HB.out.bk.batd HB.out.sd HQ.out).mono ?_;rintro e w1 ⟨rfl,e1⟩;obtain rfl:w=w1:=e1.symm;go_wp2_with fail;refine(full_any HB.out.bk).mono ?_;rintro e w1 ⟨rfl,e1⟩;obtain rfl:w=w1:=e1.symm;rw[HP.out];go_wp2_with fail;refine(addS_any g 0 m d _ hm HB.out.bk.batd).mono ?_;rintro e w4 ⟨rfl,q,rfl⟩;have H2:=HF q;clear HF HB HSO HQ HP;generalize (w.setCell ⟨g,0+m/8,none⟩ (.int .u8 ((addB d m).getD (m/8) 0))).drewN q=w4 at *;go_wp2
    go_ret
    rw[HR.out];exact H2.out
 ·have HR:Hid (opR D U k T n ks 2 tk now N=⟨10,D,U,k,T,n⟩):=by show _=_;rw[opR_2,if_neg hs]
  have HSO:Hid (serOk N=false):=decide_eq_false hs;clear hs;go_enter Tryz.func48,Tryz.ntmps48;go_wp2_with fail;refine(isSerial_any _ _).mono ?_;rintro e w1 ⟨rfl,e1⟩;obtain rfl:w=w1:=e1.symm;rw[HSO.out];have HF:=hid_ofS (HB.out.same 10);clear HB HSO;go_wp2
  go_ret
  rw[HR.out];exact HF.out
set_option maxRecDepth 100000 in
set_option maxHeartbeats 1000000 in
theorem alw_any (h:BkV H B g w d u v D U k T n) :
  Calls Tryz.prog 49 #[.pointer (some ⟨g,0,none⟩),.int .i64 N] w (BkP H B g w (opR D U k T n ks 3 tk now N)):=by
 have HB:=hid_ofS h;clear h;by_cases hs:0≤N∧N<256
 ·obtain⟨m,rfl⟩:∃ m:Nat,N=m:=⟨N.toNat,by omega⟩
  have hm:m<256:=by omega
  have HSO:Hid (serOk (m:Int)=true):=ser_yes hm;have HF:∀ q,Hid (BkP H B g w (opR D U k T n ks 3 tk now (m:Int)) (.returned (.int .i64 9)) ((w.setCell ⟨g,0+m/8,none⟩ (.int .u8 ((remB d m).getD (m/8) 0))).drewN q)):=fun q=>by
   have hw:Wr g w ((w.setCell ⟨g,0+m/8,none⟩ (.int .u8 ((remB d m).getD (m/8) 0))).drewN q):=((Wr.refl _ _).setCell _ _).drewN _;show BkP _ _ _ _ _ _ _
   by_cases hin:memB (m:Int) D=true
   ·rw[opR_3,if_pos hs,if_pos hin];exact⟨rfl,hw.below HB.out.hH,_,_,_,(HB.out.bk.remD m hm).drew q,(HB.out.sd.rem m hm).congr (fun x hx=>lessS_mem),HB.out.su,HB.out.tv.wr hw HB.out.ne,HB.out.ne⟩
   ·rw[opR_3,if_pos hs,if_neg hin];refine⟨rfl,hw.below HB.out.hH,_,_,_,(HB.out.bk.remD m hm).drew q,(HB.out.sd.rem m hm).congr (fun x hx=>⟨fun h=>h.1,fun h=>⟨h,fun e=>?_⟩⟩),HB.out.su,HB.out.tv.wr hw HB.out.ne,HB.out.ne⟩;subst e;exact memB_not hin h
  clear hs;go_enter Tryz.func49,Tryz.ntmps49;go_wp2_with fail;refine(isSerial_any _ _).mono ?_;rintro e w1 ⟨rfl,e1⟩;obtain rfl:w=w1:=e1.symm;rw[HSO.out];go_wp2_with fail;refine(remS_any g 0 m d _ hm HB.out.bk.batd).mono ?_;rintro e w4 ⟨rfl,q,rfl⟩;have H2:=HF q;clear HF HB HSO;generalize (w.setCell ⟨g,0+m/8,none⟩ (.int .u8 ((remB d m).getD (m/8) 0))).drewN q=w4 at *;go_wp2
  go_ret
  exact H2.out
 ·have HR:Hid (opR D U k T n ks 3 tk now N=⟨10,D,U,k,T,n⟩):=by show _=_;rw[opR_3,if_neg hs]
  have HSO:Hid (serOk N=false):=decide_eq_false hs;clear hs;go_enter Tryz.func49,Tryz.ntmps49;go_wp2_with fail;refine(isSerial_any _ _).mono ?_;rintro e w1 ⟨rfl,e1⟩;obtain rfl:w=w1:=e1.symm;rw[HSO.out];have HF:=hid_ofS (HB.out.same 10);clear HB HSO;go_wp2
  go_ret
  rw[HR.out];exact HF.out
set_option maxRecDepth 100000 in
set_option maxHeartbeats 1000000 in
theorem bak_any (h:BkV H B g w d u v D U k T n) :
  Calls Tryz.prog 50 #[.pointer (some ⟨g,0,none⟩),.int .i64 N] w (BkP H B g w (opR D U k T n ks 4 tk now N)):=by
 have HB:=hid_ofS h;obtain⟨ad,c,rfl⟩:=h.tv.slice;have c0:=h.bk.ck;have h0:=h.h0;have h1:=h.h1;have hn:=h.hn;clear h;by_cases hlo:N<k
 ·have HR:Hid (opR D U k T n ks 4 tk now N=⟨10,D,U,k,T,n⟩):=by show _=_;rw[opR_4,if_pos hlo]
  have HF:=hid_ofS (HB.out.same 10);clear HB;go_enter Tryz.func50,Tryz.ntmps50;go_wp2
  go_ret
  rw[HR.out];exact HF.out
 have HAD:=admitted_any ad n c HB.out.bk h0 h1 hn;by_cases hhi:k+(n:Int)<N
 ·have HR:Hid (opR D U k T n ks 4 tk now N=⟨10,D,U,k,T,n⟩):=by show _=_;rw[opR_4,if_neg hlo,if_pos hhi]
  go_enter Tryz.func50,Tryz.ntmps50;go_wp2_with fail;refine HAD.mono ?_;rintro e w1 ⟨rfl,q,rfl⟩;have HF:=hid_ofS (((HB.out.drew q).same 10).from (w:=w) (below_dq (Below.refl _ _) q));clear HB HAD c0;generalize w.drewN q=w1 at *;go_wp2
  go_ret
  rw[HR.out];exact HF.out
 ·obtain⟨m,rfl⟩:∃ m:Nat,N=k+m:=⟨(N-k).toNat,by omega⟩
  have HR:Hid (opR D U k T n ks 4 tk now (k+(m:Int))=⟨9,D,U,k+(m:Int),T.drop (m*2),n-m⟩):=by
   show _=_
   rw[opR_4,if_neg hlo,if_neg hhi];by_cases hm:k+(m:Int)=k
   ·have:m=0:=by omega
    subst this;rw[if_pos hm];simp
   ·rw[if_neg hm,show(k+(m:Int)-k).toNat=m by omega]
  go_enter Tryz.func50,Tryz.ntmps50;go_wp2_with fail;refine HAD.mono ?_;rintro e w1 ⟨rfl,q,rfl⟩;have HB1:=hid_ofS (HB.out.drew q);have HW1:Hid (Below H w (w.drewN q)):=below_dq (Below.refl _ _) q;clear HB HAD c0;generalize w.drewN q=w1 at *;go_wp2_with fail;refine(ack_any m HB1.out.bk HB1.out.tv h0 h1 (by omega) hn HB1.out.hH HB1.out.ne).mono ?_;rintro e w2 ⟨rfl,hb2,v',r1,r2,r3⟩;have HF:Hid (BkP H B g w ⟨9,D,U,k+(m:Int),T.drop (m*2),n-m⟩ (.returned (.int .i64 9)) w2):=⟨rfl,HW1.out.trans hb2,_,_,_,r1,HB1.out.sd,HB1.out.su,r2,r3⟩
  clear hb2 r1 r2 r3 HB1 HW1;go_wp2
  go_ret
  rw[HR.out];exact HF.out
end
end Go.Proofs.YtncomnkdlpoelaaGreatDoor
namespace Go.Proofs.YtncomnkdlpoelaaGreatDoor
open Go.ChangeShapes Go.WideShapes Go.ChangeAt Go.RowKit Go.Joins
set_option linter.unusedVariables false
def bW:List Int:=[7378697629483820632,7378697629483820646,7378697629483820646,7378697629483820646]
theorem bW_val:val 18446744073709551616 bW=baseY:=by decide
theorem bW_wrd:Wrd bW:=by unfold Wrd bW;decide
set_option maxHeartbeats 400000 in
theorem ibas_any (w:World):Calls Tryz.prog 104 #[] w (CodePb w baseY):=by
 have HR:Hid (RowW (w.alloc (.cells #[.int .u64 0,.int .u64 0,.int .u64 0,.int .u64 0] 146)) w.heap.size 146 [0,0,0,0]):=heap_alloc_new w _;have HSZ:Hid ((Tryz.prog.info? 146).map (·.size)=some ((bW.map (Value.int .u64)).toArray).size):=sizeNum rfl;go_enter Tryz.func104,Tryz.ntmps104;go_wp2_with (first
  |(refine wpList_store_row rfl 146 (.tmp 1) (.tmp 2) rfl w.heap.size ((bW.map (Value.int .u64)).toArray) rfl rfl 146 _ HR.out HSZ.out rfl (all_oneCell_toArray (ints_oneCell _ _)) ?_)
  |fail)
 have R1:RowW ((w.alloc (.cells #[.int .u64 0,.int .u64 0,.int .u64 0,.int .u64 0] 146)).setRow w.heap.size (bW.map (Value.int .u64)).toArray) w.heap.size 146 bW:=HR.out.setRow bW;have B2:Below w.heap.size w ((w.alloc (.cells #[.int .u64 0,.int .u64 0,.int .u64 0,.int .u64 0] 146)).setRow w.heap.size (bW.map (Value.int .u64)).toArray):=(below_new2 _ _).trans ((Wr.setRow _ _ _).below (Nat.le_refl _));clear HR HSZ;generalize (w.alloc (.cells #[.int .u64 0,.int .u64 0,.int .u64 0,.int .u64 0] 146)).setRow w.heap.size (bW.map (Value.int .u64)).toArray=w2 at *;refine(text_any _ bW _ rfl R1 bW_wrd).mono ?_;rintro e w3 ⟨bs,hbl,hbb,hbv,rfl,O3,B3⟩;rw[bW_val] at hbv;have HP:Hid (CodePb w baseY (.returned (.slice (some ⟨w2.heap.size,0,none⟩) 32 32)) w3):=⟨_,bs,rfl,O3.lower3b B2.size,hbb,hbl,hbv,B2.trans (B3.mono B2.size)⟩
 clear hbv O3 B2 B3 R1;go_wp2
 go_ret
 exact HP.out
end Go.Proofs.YtncomnkdlpoelaaGreatDoor
namespace Go.Proofs.YtncomnkdlpoelaaGreatDoor
open Go.ChangeShapes Go.WideShapes Go.ChangeAt Go.RowKit Go.Joins
set_option linter.unusedVariables false
theorem tab_keepV {w w':World} (h:TabIn w) (hz:1<w.heap.size) (hb:Below w.heap.size w w'):TabIn w':=fun i hi=>by rw[hb.cell (p:=⟨1,i,none⟩) hz];exact h i hi
theorem pt_newV (w:World):Pt (w.alloc (.cells #[.int .u64 0,.int .u64 0,.int .u64 0,.int .u64 0,.int .u64 0,.int .u64 0,.int .u64 0,.int .u64 0,.int .u64 0,.int .u64 0,.int .u64 0,.int .u64 0,.int .u64 0,.int .u64 0,.int .u64 0,.int .u64 0,.int .u64 0,.int .u64 0,.int .u64 0,.int .u64 0] 143)) w.heap.size [0,0,0,0,0] [0,0,0,0,0] [0,0,0,0,0] [0,0,0,0,0]:=⟨heap_alloc_new w _,zero_ok,zero_ok,zero_ok,zero_ok⟩
theorem vsR_64 {pub msg sig:List Int} (h:¬ sig.length=64):vsR pub msg sig=false:=by unfold vsR;simp[h]
theorem vsR_q {pub msg sig:List Int} (h:decide (val 256 (sig.drop 32)<bigL)=false):vsR pub msg sig=false:=by unfold vsR;simp[h]
theorem vsR_p {pub msg sig:List Int} (h:mB pub mdD=false):vsR pub msg sig=false:=by unfold vsR;simp[h]
theorem vsR_r {pub msg sig:List Int} (h:mB (sig.take 32) mdD=false):vsR pub msg sig=false:=by unfold vsR;simp[h]
theorem vsR_e {pub msg sig:List Int} (h1:sig.length=64) (h2:decide (val 256 (sig.drop 32)<bigL)=true) (h3:mB pub mdD=true) (h4:mB (sig.take 32) mdD=true):vsR pub msg sig=eqnS pub msg sig:=by unfold vsR;rw[h2,h3,h4,decide_eq_true h1];simp
theorem dc_pt {zs x y z t:List Int} (hz:Byte zs) (hb:mB zs mdD=true) (hv:dcR zs=true→ev x=dcX zs∧ev y=dcY zs∧ev z=1∧ev t=dcX zs*dcY zs%fp):((ev x,ev y,ev z,ev t):Q4)=ptQ zs:=by
 obtain⟨e1,e2,e3,e4⟩:=hv (by rw[dec_same zs hz];exact hb);have q1:=decX_same zs (mB_len2 hb).1 hz (mB_len2 hb).2;unfold ptQ;rw[e1,q1,e2,e3,e4,q1];rfl
theorem ev_rd (x y z t:List Int):Rd ((ev x,ev y,ev z,ev t):Q4):=⟨ev_bd _,ev_bd _,ev_bd _,ev_bd _⟩
set_option maxRecDepth 100000 in
set_option maxHeartbeats 4000000 in
theorem vsI_any (bp op cp bm om cm bs os cs np nm ns:Nat) (pub msg sig:List Int) (w:World) (hpl:pub.length=np) (hml:msg.length=nm) (hsl:sig.length=ns) (hp:PtA w bp op pub) (hm:PtA w bm om msg) (hs:PtA w bs os sig)
  (zp:Byte pub) (zm:Byte msg) (zs:Byte sig) (hcs:ns≤cs) (bnp:np≤1048576) (bnm:nm≤1048576) (bns:ns≤1048576) (hT:TabIn w) (h0:1<w.heap.size) :
  Calls Tryz.prog 92 #[.slice (some ⟨bp,op,none⟩) np cp,.slice (some ⟨bm,om,none⟩) nm cm,.slice (some ⟨bs,os,none⟩) ns cs] w fun e w'=>e=.returned (.bool (vsR pub msg sig))∧Below w.heap.size w w':=by
 have HB0:Hid (Below w.heap.size w (((w.alloc (.cells #[.int .u64 0,.int .u64 0,.int .u64 0,.int .u64 0,.int .u64 0,.int .u64 0,.int .u64 0,.int .u64 0,.int .u64 0,.int .u64 0,.int .u64 0,.int .u64 0,.int .u64 0,.int .u64 0,.int .u64 0,.int .u64 0,.int .u64 0,.int .u64 0,.int .u64 0,.int .u64 0] 143)).alloc (.cells #[.int .u64 0,.int .u64 0,.int .u64 0,.int .u64 0,.int .u64 0,.int .u64 0,.int .u64 0,.int .u64 0,.int .u64 0,.int .u64 0,.int .u64 0,.int .u64 0,.int .u64 0,.int .u64 0,.int .u64 0,.int .u64 0,.int .u64 0,.int .u64 0,.int .u64 0,.int .u64 0] 143)).alloc (.cells #[.int .u64 0,.int .u64 0,.int .u64 0,.int .u64 0,.int .u64 0,.int .u64 0,.int .u64 0,.int .u64 0,.int .u64 0,.int .u64 0,.int .u64 0,.int .u64 0,.int .u64 0,.int .u64 0,.int .u64 0,.int .u64 0,.int .u64 0,.int .u64 0,.int .u64 0,.int .u64 0] 143))):=((below_new3 _ _).trans ((below_new3 _ _).mono (by simp))).trans ((below_new3 _ _).mono (by simp;omega));have HK0:Hid (Pt (((w.alloc (.cells #[.int .u64 0,.int .u64 0,.int .u64 0,.int .u64 0,.int .u64 0,.int .u64 0,.int .u64 0,.int .u64 0,.int .u64 0,.int .u64 0,.int .u64 0,.int .u64 0,.int .u64 0,.int .u64 0,.int .u64 0,.int .u64 0,.int .u64 0,.int .u64 0,.int .u64 0,.int .u64 0] 143)).alloc (.cells #[.int .u64 0,.int .u64 0,.int .u64 0,.int .u64 0,.int .u64 0,.int .u64 0,.int .u64 0,.int .u64 0,.int .u64 0,.int .u64 0,.int .u64 0,.int .u64 0,.int .u64 0,.int .u64 0,.int .u64 0,.int .u64 0,.int .u64 0,.int .u64 0,.int .u64 0,.int .u64 0] 143)).alloc (.cells #[.int .u64 0,.int .u64 0,.int .u64 0,.int .u64 0,.int .u64 0,.int .u64 0,.int .u64 0,.int .u64 0,.int .u64 0,.int .u64 0,.int .u64 0,.int .u64 0,.int .u64 0,.int .u64 0,.int .u64 0,.int .u64 0,.int .u64 0,.int .u64 0,.int .u64 0,.int .u64 0] 143)) w.heap.size [0,0,0,0,0] [0,0,0,0,0] [0,0,0,0,0] [0,0,0,0,0]):=((pt_newV w).below (below_new3 _ _) (by simp)).below (below_new3 _ _) (by simp;omega);have HN0:Hid (Pt (((w.alloc (.cells #[.int .u64 0,.int .u64 0,.int .u64 0,.int .u64 0,.int .u64 0,.int .u64 0,.int .u64 0,.int .u64 0,.int .u64 0,.int .u64 0,.int .u64 0,.int .u64 0,.int .u64 0,.int .u64 0,.int .u64 0,.int .u64 0,.int .u64 0,.int .u64 0,.int .u64 0,.int .u64 0] 143)).alloc (.cells #[.int .u64 0,.int .u64 0,.int .u64 0,.int .u64 0,.int .u64 0,.int .u64 0,.int .u64 0,.int .u64 0,.int .u64 0,.int .u64 0,.int .u64 0,.int .u64 0,.int .u64 0,.int .u64 0,.int .u64 0,.int .u64 0,.int .u64 0,.int .u64 0,.int .u64 0,.int .u64 0] 143)).alloc (.cells #[.int .u64 0,.int .u64 0,.int .u64 0,.int .u64 0,.int .u64 0,.int .u64 0,.int .u64 0,.int .u64 0,.int .u64 0,.int .u64 0,.int .u64 0,.int .u64 0,.int .u64 0,.int .u64 0,.int .u64 0,.int .u64 0,.int .u64 0,.int .u64 0,.int .u64 0,.int .u64 0] 143)) (w.heap.size+1) [0,0,0,0,0] [0,0,0,0,0] [0,0,0,0,0] [0,0,0,0,0]):=by
  have:=(pt_newV (w.alloc (.cells #[.int .u64 0,.int .u64 0,.int .u64 0,.int .u64 0,.int .u64 0,.int .u64 0,.int .u64 0,.int .u64 0,.int .u64 0,.int .u64 0,.int .u64 0,.int .u64 0,.int .u64 0,.int .u64 0,.int .u64 0,.int .u64 0,.int .u64 0,.int .u64 0,.int .u64 0,.int .u64 0] 143))).below (below_new3 ((w.alloc (.cells #[.int .u64 0,.int .u64 0,.int .u64 0,.int .u64 0,.int .u64 0,.int .u64 0,.int .u64 0,.int .u64 0,.int .u64 0,.int .u64 0,.int .u64 0,.int .u64 0,.int .u64 0,.int .u64 0,.int .u64 0,.int .u64 0,.int .u64 0,.int .u64 0,.int .u64 0,.int .u64 0] 143)).alloc (.cells #[.int .u64 0,.int .u64 0,.int .u64 0,.int .u64 0,.int .u64 0,.int .u64 0,.int .u64 0,.int .u64 0,.int .u64 0,.int .u64 0,.int .u64 0,.int .u64 0,.int .u64 0,.int .u64 0,.int .u64 0,.int .u64 0,.int .u64 0,.int .u64 0,.int .u64 0,.int .u64 0] 143)) (.cells #[.int .u64 0,.int .u64 0,.int .u64 0,.int .u64 0,.int .u64 0,.int .u64 0,.int .u64 0,.int .u64 0,.int .u64 0,.int .u64 0,.int .u64 0,.int .u64 0,.int .u64 0,.int .u64 0,.int .u64 0,.int .u64 0,.int .u64 0,.int .u64 0,.int .u64 0,.int .u64 0] 143)) (by simp);rw[show(w.alloc (.cells #[.int .u64 0,.int .u64 0,.int .u64 0,.int .u64 0,.int .u64 0,.int .u64 0,.int .u64 0,.int .u64 0,.int .u64 0,.int .u64 0,.int .u64 0,.int .u64 0,.int .u64 0,.int .u64 0,.int .u64 0,.int .u64 0,.int .u64 0,.int .u64 0,.int .u64 0,.int .u64 0] 143)).heap.size=w.heap.size+1 by simp] at this;exact this
 have HL0:Hid (Pt (((w.alloc (.cells #[.int .u64 0,.int .u64 0,.int .u64 0,.int .u64 0,.int .u64 0,.int .u64 0,.int .u64 0,.int .u64 0,.int .u64 0,.int .u64 0,.int .u64 0,.int .u64 0,.int .u64 0,.int .u64 0,.int .u64 0,.int .u64 0,.int .u64 0,.int .u64 0,.int .u64 0,.int .u64 0] 143)).alloc (.cells #[.int .u64 0,.int .u64 0,.int .u64 0,.int .u64 0,.int .u64 0,.int .u64 0,.int .u64 0,.int .u64 0,.int .u64 0,.int .u64 0,.int .u64 0,.int .u64 0,.int .u64 0,.int .u64 0,.int .u64 0,.int .u64 0,.int .u64 0,.int .u64 0,.int .u64 0,.int .u64 0] 143)).alloc (.cells #[.int .u64 0,.int .u64 0,.int .u64 0,.int .u64 0,.int .u64 0,.int .u64 0,.int .u64 0,.int .u64 0,.int .u64 0,.int .u64 0,.int .u64 0,.int .u64 0,.int .u64 0,.int .u64 0,.int .u64 0,.int .u64 0,.int .u64 0,.int .u64 0,.int .u64 0,.int .u64 0] 143)) (w.heap.size+1+1) [0,0,0,0,0] [0,0,0,0,0] [0,0,0,0,0] [0,0,0,0,0]):=by
  have:=pt_newV ((w.alloc (.cells #[.int .u64 0,.int .u64 0,.int .u64 0,.int .u64 0,.int .u64 0,.int .u64 0,.int .u64 0,.int .u64 0,.int .u64 0,.int .u64 0,.int .u64 0,.int .u64 0,.int .u64 0,.int .u64 0,.int .u64 0,.int .u64 0,.int .u64 0,.int .u64 0,.int .u64 0,.int .u64 0] 143)).alloc (.cells #[.int .u64 0,.int .u64 0,.int .u64 0,.int .u64 0,.int .u64 0,.int .u64 0,.int .u64 0,.int .u64 0,.int .u64 0,.int .u64 0,.int .u64 0,.int .u64 0,.int .u64 0,.int .u64 0,.int .u64 0,.int .u64 0,.int .u64 0,.int .u64 0,.int .u64 0,.int .u64 0] 143));rw[show((w.alloc (.cells #[.int .u64 0,.int .u64 0,.int .u64 0,.int .u64 0,.int .u64 0,.int .u64 0,.int .u64 0,.int .u64 0,.int .u64 0,.int .u64 0,.int .u64 0,.int .u64 0,.int .u64 0,.int .u64 0,.int .u64 0,.int .u64 0,.int .u64 0,.int .u64 0,.int .u64 0,.int .u64 0] 143)).alloc (.cells #[.int .u64 0,.int .u64 0,.int .u64 0,.int .u64 0,.int .u64 0,.int .u64 0,.int .u64 0,.int .u64 0,.int .u64 0,.int .u64 0,.int .u64 0,.int .u64 0,.int .u64 0,.int .u64 0,.int .u64 0,.int .u64 0,.int .u64 0,.int .u64 0,.int .u64 0,.int .u64 0] 143)).heap.size=w.heap.size+1+1 by simp] at this;exact this
 have HP:=hid_ofS hp;have HM:=hid_ofS hm;have HS:=hid_ofS hs;have HZ:=hid_ofS (And.intro zp (And.intro zm zs));have HT:=hid_ofS (And.intro hT h0);by_cases h64:ns=64
 ·subst h64;have hslh:=fun w=>run_sliceHi w bs os cs hcs
  have hsll:=fun w=>run_sliceLo w bs os cs hcs
  have hdl:(sig.drop 32).length=32:=by rw[List.length_drop,hsl]
  have htl:(sig.take 32).length=32:=by rw[List.length_take,hsl];rfl
  go_enter Tryz.func92,Tryz.ntmps92;go_wp2_with fail;generalize (((w.alloc (.cells #[.int .u64 0,.int .u64 0,.int .u64 0,.int .u64 0,.int .u64 0,.int .u64 0,.int .u64 0,.int .u64 0,.int .u64 0,.int .u64 0,.int .u64 0,.int .u64 0,.int .u64 0,.int .u64 0,.int .u64 0,.int .u64 0,.int .u64 0,.int .u64 0,.int .u64 0,.int .u64 0] 143)).alloc (.cells #[.int .u64 0,.int .u64 0,.int .u64 0,.int .u64 0,.int .u64 0,.int .u64 0,.int .u64 0,.int .u64 0,.int .u64 0,.int .u64 0,.int .u64 0,.int .u64 0,.int .u64 0,.int .u64 0,.int .u64 0,.int .u64 0,.int .u64 0,.int .u64 0,.int .u64 0,.int .u64 0] 143)).alloc (.cells #[.int .u64 0,.int .u64 0,.int .u64 0,.int .u64 0,.int .u64 0,.int .u64 0,.int .u64 0,.int .u64 0,.int .u64 0,.int .u64 0,.int .u64 0,.int .u64 0,.int .u64 0,.int .u64 0,.int .u64 0,.int .u64 0,.int .u64 0,.int .u64 0,.int .u64 0,.int .u64 0] 143))=w0 at *;refine(iok2_any (some ⟨bs,os+32,none⟩) 32 (cs-32) (sig.drop 32) _ hdl ((HS.out.below HB0.out).drop 32).at_ (byte_drop HZ.out.2.2 32)).mono ?_;rintro e w1 ⟨rfl,b1⟩;have HB1:=hdI <| HB0.out.trans (b1.mono HB0.out.size)
  have HK1:=hdI <| HK0.out.below b1 HK0.out.row.lt
  have HN1:=hdI <| HN0.out.below b1 HN0.out.row.lt
  have HL1:=hdI <| HL0.out.below b1 HL0.out.row.lt
  have hqq:decide (32=32∧val 256 (sig.drop 32)<bigL)=decide (val 256 (sig.drop 32)<bigL):=by simp
  rw[hqq];cases hq:decide (val 256 (sig.drop 32)<bigL) with
  |false=>
   have HV:=hid_ofS (vsR_q (pub:=pub) (msg:=msg) hq);go_wp2
   go_ret
   exact⟨by rw[HV.out];rfl,HB1.out⟩
  |true=>
   have HQ:=hid_ofS hq;go_wp2_with fail;refine(decode_any w.heap.size _ _ _ _ (some ⟨bp,op,none⟩) np cp pub _ hpl bnp (HP.out.below HB1.out).at_ HZ.out.1 HK1.out).mono ?_;rintro e w2 ⟨x1,y1,z1,t1,P1,hw1,rfl,hv1⟩;have HB2:=hdI <| HB1.out.trans (hw1.below w.heap.size (Nat.le_refl _) HB1.out.size)
   have HK2:=hdI <| P1
   have HN2:=hdI <| HN1.out.wrh2 hw1 (by omega)
   have HL2:=hdI <| HL1.out.wrh2 hw1 (by omega)
   have HV1:=hid_ofS hv1;rw[dec_same pub HZ.out.1];cases hb:mB pub mdD with
   |false=>
    have HV:=hid_ofS (vsR_p (msg:=msg) (sig:=sig) hb);go_wp2
    go_ret
    exact⟨by rw[HV.out];rfl,HB2.out⟩
   |true=>
    have HE1:=hid_ofS (dc_pt HZ.out.1 hb HV1.out);have HBP:=hid_ofS hb;obtain rfl:np=32:=by rw[←hpl];exact(mB_len2 hb).1
    go_wp2_with fail;refine(decode_any (w.heap.size+1) _ _ _ _ (some ⟨bs,os,none⟩) 32 cs (sig.take 32) _ htl (by decide) ((HS.out.below HB2.out).take 32).at_ (byte_take HZ.out.2.2 32) HN2.out).mono ?_;rintro e w3 ⟨x2,y2,z2,t2,P2,hw2,rfl,hv2⟩;have HB3:=hdI <| HB2.out.trans (hw2.below w.heap.size (by omega) HB2.out.size)
    have HK3:=hdI <| HK2.out.wrh2 hw2 (by omega)
    have HN3:=hdI <| P2
    have HL3:=hdI <| HL2.out.wrh2 hw2 (by omega)
    have HV2:=hid_ofS hv2;rw[dec_same (sig.take 32) (byte_take HZ.out.2.2 32)];cases hb2:mB (sig.take 32) mdD with
    |false=>
     have HV:=hid_ofS (vsR_r (msg:=msg) (pub:=pub) hb2);go_wp2
     go_ret
     exact⟨by rw[HV.out];rfl,HB3.out⟩
    |true=>
     have HE2:=hid_ofS (dc_pt (byte_take HZ.out.2.2 32) hb2 HV2.out);have HVR:=hid_ofS (vsR_e (msg:=msg) hsl HQ.out HBP.out hb2);go_wp2_with fail;refine(ibas_any _).mono ?_;rintro e w4 ⟨v4,b4s,rfl,o4,c1,c2,c3,b4⟩;obtain rfl:=bB_of c1 c2 c3;obtain⟨g4,c4,rfl,hA4,hc4⟩:=PtA.of_own o4;have HB4:=hdI <| HB3.out.trans (b4.mono HB3.out.size)
     have HK4:=hdI <| HK3.out.below b4 HK3.out.row.lt
     have HN4:=hdI <| HN3.out.below b4 HN3.out.row.lt
     have HL4:=hdI <| HL3.out.below b4 HL3.out.row.lt
     have HA4:=hid_ofS hA4;rw[bB_len];go_wp2_with fail;refine(decode_any (w.heap.size+1+1) _ _ _ _ (some ⟨g4,0,none⟩) 32 c4 bB _ bB_len (by decide) HA4.out.at_ bB_byte HL4.out).mono ?_;rintro e w5 ⟨x3,y3,z3,t3,P3,hw3,rfl,hv3⟩;have HB5:=hdI <| HB4.out.trans (hw3.below w.heap.size (by omega) HB4.out.size)
     have HK5:=hdI <| HK4.out.wrh2 hw3 (by omega)
     have HN5:=hdI <| HN4.out.wrh2 hw3 (by omega)
     have HL5:=hdI <| P3
     have HE3:=hid_ofS (dc_pt bB_byte bB_ok hv3);generalize dcR bB=rb at *;go_wp2_with fail;refine(nof_any (some ⟨bs,os+32,none⟩) 32 (cs-32) (sig.drop 32) _ hdl (by decide) (by decide) ((HS.out.below HB5.out).drop 32).at_ (byte_drop HZ.out.2.2 32)).mono ?_;rintro e w6 ⟨ms,hl,hw,hv,rfl,b6⟩;rw[List.take_of_length_le (by omega)] at hv;have HB6:=hdI <| HB5.out.trans (b6.mono HB5.out.size)
     have HK6:=hdI <| HK5.out.below b6 HK5.out.row.lt
     have HN6:=hdI <| HN5.out.below b6 HN5.out.row.lt
     have HL6:=hdI <| HL5.out.below b6 HL5.out.row.lt
     have CM:=hid_ofS (multiply_any (w.heap.size+1+1) x3 y3 z3 t3 ms w6 HL6.out hl hw);rw[HE3.out,hv] at CM;go_wp2_with fail;refine CM.out.mono ?_;rintro e w7 ⟨x4,y4,z4,t4,P4,hw4,rfl,hq4⟩;have HB7:=hdI <| HB6.out.trans (hw4.below w.heap.size (by omega) HB6.out.size)
     have HK7:=hdI <| HK6.out.wrh2 hw4 (by omega)
     have HN7:=hdI <| HN6.out.wrh2 hw4 (by omega)
     have HL7:=hdI <| P4
     have HQ4:=hid_ofS hq4;have hfl:[sig.take 32,pub,msg].flatten=sig.take 32++pub++msg:=by simp
     have hfn:(sig.take 32++pub++msg).length=32+32+nm:=by rw[List.length_append,List.length_append,htl,hpl,hml]
     have HAL:Hid (Below w7.heap.size w7 (w7.alloc (.cells #[.slice (some ⟨bs,os,none⟩) 32 cs,.slice (some ⟨bp,op,none⟩) 32 cp,.slice (some ⟨bm,om,none⟩) nm cm] 22))):=below_new3 _ _;have CC:Hid (Calls Tryz.prog 109 #[.slice (some ⟨w7.heap.size,0,none⟩) 3 3] (w7.alloc (.cells #[.slice (some ⟨bs,os,none⟩) 32 cs,.slice (some ⟨bp,op,none⟩) 32 cp,.slice (some ⟨bm,om,none⟩) nm cm] 22)) _):=
      conc_any w7.heap.size 3 3 [.slice (some ⟨bs,os,none⟩) 32 cs,.slice (some ⟨bp,op,none⟩) 32 cp,.slice (some ⟨bm,om,none⟩) nm cm] [sig.take 32,pub,msg] _ rfl (by simp)
       (fun i hi=>by
        rw[cell_of_row _ _ i _ _ _ (heap_alloc_new w7 _)]
        match i,hi with
        |0,_=>rfl
        |1,_=>rfl
        |2,_=>rfl)
       (fun i hi=>by
        have bx:=HB7.out.trans (HAL.out.mono HB7.out.size)
        match i,hi with
        |0,_=>exact((HS.out.below bx).take 32).part 32 cs htl
        |1,_=>exact(HP.out.below bx).part 32 cp hpl
        |2,_=>exact(HM.out.below bx).part nm cm hml)
       (by rw[hfl,hfn];omega) (by rw[hfl,hfn];omega) (by decide)
     rw[hfl] at CC;have HFN:=hid_ofS hfn;go_wp2_with fail;refine CC.out.mono ?_;rintro e w8 ⟨v8,rfl,o8,b8⟩;obtain⟨g8,c8,rfl,hA8,hc8⟩:=PtA.of_own o8;have b78:=HAL.out.trans (b8.mono HAL.out.size);have HB8:=hdI <| HB7.out.trans (b78.mono HB7.out.size)
     have HK8:=hdI <| HK7.out.below b78 HK7.out.row.lt
     have HN8:=hdI <| HN7.out.below b78 HN7.out.row.lt
     have HL8:=hdI <| HL7.out.below b78 HL7.out.row.lt
     have HBY:Hid (Byte (sig.take 32++pub++msg)):=fun z hz=>by
      simp only[List.mem_append] at hz;rcases hz with (h|h)|h
      ·exact byte_take HZ.out.2.2 32 z h
      ·exact HZ.out.1 z h
      ·exact HZ.out.2.1 z h
     have CH:=hid_ofS (shaI_any (some ⟨g8,0,none⟩) _ c8 (sig.take 32++pub++msg) w8 rfl hA8.at_ HBY.out (by rw[HFN.out];omega) hc8 (tab_keepV HT.out.1 HT.out.2 HB8.out) (Nat.lt_of_lt_of_le HT.out.2 HB8.out.size));rw[HFN.out] at CH ⊢;go_wp2_with fail;refine CH.out.mono ?_;rintro e w9 ⟨v9,rfl,o9,b9⟩;obtain⟨g9,c9,rfl,hA9,hc9⟩:=PtA.of_own o9;have HB9:=hdI <| HB8.out.trans (b9.mono HB8.out.size)
     have HK9:=hdI <| HK8.out.below b9 HK8.out.row.lt
     have HN9:=hdI <| HN8.out.below b9 HN8.out.row.lt
     have HL9:=hdI <| HL8.out.below b9 HL8.out.row.lt
     have hsl9:(shaL (sig.take 32++pub++msg)).length=64:=by unfold shaL;rw[txtW_len,(finL_w8 _ _ _).1]
     have CR:=hid_ofS (rnum_any (some ⟨g9,0,none⟩) 64 c9 (shaL (sig.take 32++pub++msg)) w9 hsl9 (by decide) hA9.at_ (by unfold shaL;exact txtW_byte _));rw[hsl9];go_wp2_with fail;refine CR.out.mono ?_;rintro e w10 ⟨ks,hl,hw,hv,rfl,b10⟩;have HB10:=hdI <| HB9.out.trans (b10.mono HB9.out.size)
     have HK10:=hdI <| HK9.out.below b10 HK9.out.row.lt
     have HN10:=hdI <| HN9.out.below b10 HN9.out.row.lt
     have HL10:=hdI <| HL9.out.below b10 HL9.out.row.lt
     have CM:=hid_ofS (multiply_any w.heap.size x1 y1 z1 t1 ks w10 HK10.out hl hw);rw[HE1.out,show val 18446744073709551616 ks=hsV pub msg sig from hv] at CM;go_wp2_with fail;refine CM.out.mono ?_;rintro e w11 ⟨x5,y5,z5,t5,P5,hw5,rfl,hq5⟩;have HB11:=hdI <| HB10.out.trans (hw5.below w.heap.size (Nat.le_refl _) HB10.out.size)
     have HK11:=hdI <| P5
     have HN11:=hdI <| HN10.out.wrh2 hw5 (by omega)
     have HL11:=hdI <| HL10.out.wrh2 hw5 (by omega)
     have HQ5:=hid_ofS hq5;have CA:=hid_ofS (add_any (w.heap.size+1) w.heap.size x2 y2 z2 t2 x5 y5 z5 t5 w11 HN11.out HK11.out);go_wp2_with fail;refine CA.out.mono ?_;intro e w12 h12;obtain⟨x6,y6,z6,t6,P6,hw6,rfl,hq6⟩:=h12.q4;have HB12:=hdI <| HB11.out.trans (hw6.below w.heap.size (by omega) HB11.out.size)
     have HN12:=hdI <| P6
     have HL12:=hdI <| HL11.out.wrh2 hw6 (by omega)
     have HEQ:Hid (decide (cdV (ev x4) (ev y4) (ev z4)=cdV (ev x6) (ev y6) (ev z6))=vsR pub msg sig):=by
      show _=_
      have hp1:Rd (ptQ pub):=by rw[←HE1.out];exact ev_rd _ _ _ _
      have hp2:Rd (ptQ (sig.take 32)):=by rw[←HE2.out];exact ev_rd _ _ _ _
      have hp3:Rd (ptQ bB):=by rw[←HE3.out];exact ev_rd _ _ _ _
      rw[HVR.out,←eqn_same pub msg sig hp1 hp2 hp3];unfold eqnI;rw[←HQ4.out,←HQ5.out,←HE2.out,←hq6];rfl
     obtain⟨vr,hvr⟩:∃ v,v=vsR pub msg sig:=⟨_,rfl⟩
     rw[←hvr] at HEQ;have HVV:=hid_ofS hvr;have CL:=hid_ofS (pcode_any (w.heap.size+1+1) x4 y4 z4 t4 w12 HL12.out);generalize cdV (ev x4) (ev y4) (ev z4)=V1 at *;go_wp2_with fail;refine CL.out.mono ?_;rintro e w13 ⟨ls,hl1,hw1,hv1,rfl,b13⟩;have HB13:=hdI <| HB12.out.trans (b13.mono HB12.out.size)
     have HN13:Hid (Pt w13 (w.heap.size+1) x6 y6 z6 t6):=HN12.out.below b13 HN12.out.row.lt;have CR:=hid_ofS (pcode_any (w.heap.size+1) x6 y6 z6 t6 w13 HN13.out);generalize cdV (ev x6) (ev y6) (ev z6)=V2 at *;have HW1:=hid_ofS (And.intro hw1 hv1);go_wp2_with fail;refine CR.out.mono ?_;rintro e w14 ⟨rs,hl2,hw2,hv2,rfl,b14⟩;have HB14:Hid (Below w.heap.size w w14):=HB13.out.trans (b14.mono HB13.out.size);have HQ:Hid (decide (ls=rs)=vr):=by
      show _=_
      rw[←HEQ.out];obtain⟨hw1,hv1⟩:=HW1.out;by_cases h:ls=rs
      ·rw[decide_eq_true h,decide_eq_true (by rw[←hv1,←hv2,h])]
      ·rw[decide_eq_false h,decide_eq_false (fun e=>h (val_inj (B:=18446744073709551616) (by decide) hw1 hw2 (by omega) (by rw[hv1,hv2,e])))]
     go_wp2_with (simp only[run_eqW _ 9998 4 146 Tryz.underlying146 ls rs hl1 hl2]);rw[HQ.out];simp only[Result.andThen_ok];go_simp;go_wp2
     go_ret
     exact⟨by rw[←HVV.out];rfl,HB14.out⟩
 ·have HV:=hid_ofS (vsR_64 (pub:=pub) (msg:=msg) (sig:=sig) (by rw[hsl];exact h64));have h65:¬ ((ns:Int)=64):=by omega
  have h66:((ns:Int) != 64)=true:=by simpa using h65
  go_enter Tryz.func92,Tryz.ntmps92;go_wp2
  go_ret
  exact⟨by rw[HV.out];rfl,HB0.out⟩
end Go.Proofs.YtncomnkdlpoelaaGreatDoor
namespace Go.Proofs.YtncomnkdlpoelaaGreatDoor
open Go.ChangeShapes Go.WideShapes Go.ChangeAt Go.RowKit
set_option linter.unusedVariables false
variable {w w':World} {g:Nat} {d u:List Int} {k:Int} {v:Value} {D U:Nat→Prop} {T:List Int} {n H B:Nat}
set_option maxRecDepth 100000 in
set_option maxHeartbeats 1000000 in
theorem applyAck_any (a:Int) (a0:0≤a) (a1:a≤4294967295) (hb:Bk w g d u k v) (hd:SetB d D) (hu:SetB u U) (hv:TapV B w v T n) (h0:0≤k) (h1:k≤1048576) (hn:n≤1048576) (hH:H≤g) (hgB:NeG g v) :
  Calls Tryz.prog 54 #[.pointer (some ⟨g,0,none⟩),.int .i64 a] w (ApP H B g w (decide (a≤k+n)) D U (max a k) (T.drop (ackM k a*2)) (n-ackM k a)):=by
 obtain⟨ad,c,rfl⟩:=hv.slice;have HB:=hdI <| hb
 have HV:=hdI <| hv
 have HSD:=hdI <| hd
 have HSU:=hdI <| hu
 clear hb hv hd hu;go_enter Tryz.func54,Tryz.ntmps54;go_wp2_with fail;refine(admitted_any ad n c HB.out h0 h1 hn).mono ?_;rintro e w1 ⟨rfl,q,rfl⟩;have HB1:=hdI <| HB.out.drew q
 have HV1:=hdI <| HV.out.drew q
 have HW1:Hid (Below H w (w.drewN q)):=below_dq (Below.refl _ _) q;clear HB HV;generalize w.drewN q=w1 at *;by_cases hle:a≤k+n
 ·have HD:=hdI <| decide_eq_true hle
  have hle':¬ (a>k+n):=by omega
  have c0:=HB1.out.ck;have f0:=HB1.out.fz 64;have HC:Hid (∀(e:Ending) (w2:World),(e=.returned (.tuple #[])∧Below H w1 w2∧∃ v',Bk w2 g d u (k+ackM k a) v'∧TapV B w2 v' (T.drop (ackM k a*2)) (n-ackM k a)∧NeG g v')→ApP H B g w (decide (a≤k+n)) D U (max a k) (T.drop (ackM k a*2)) (n-ackM k a) (.returned (.bool true)) w2):=by
   rintro e w2 ⟨rfl,r1,v',r2,r3,r4⟩;refine⟨by rw[HD.out],HW1.out.trans r1,fun _=>⟨d,u,v',?_,HSD.out,HSU.out,r3,r4⟩⟩;have e:k+(ackM k a:Int)=max a k:=by unfold ackM;omega
   rw[←e];exact r2
  have CA:=ack_any (ackM k a) HB1.out HV1.out h0 h1 (by unfold ackM;omega) hn hH hgB;by_cases hka:k≤a
  ·have e:k+(ackM k a:Int)=a:=by unfold ackM;omega
   rw[e] at CA;clear e;go_wp2_with fail;refine CA.mono ?_;intro e w2 h;have HF:=HC.out e w2 (by have e':k+(ackM k a:Int)=a:=by unfold ackM;omega
                                                                                                rw[e'];exact h)
   obtain⟨rfl,_⟩:=h;have HF':Hid _:=HF;clear HF HC CA HB1 HV1 HW1 HSD HSU c0 f0;go_wp2
   go_ret
   exact HF'.out
  ·have e:k+(ackM k a:Int)=k:=by unfold ackM;omega
   rw[e] at CA;clear e;go_wp2_with fail;refine CA.mono ?_;intro e w2 h;have HF:=HC.out e w2 (by have e':k+(ackM k a:Int)=k:=by unfold ackM;omega
                                                                                                rw[e'];exact h)
   obtain⟨rfl,_⟩:=h;have HF':Hid _:=HF;clear HF HC CA HB1 HV1 HW1 HSD HSU c0 f0;go_wp2
   go_ret
   exact HF'.out
 ·have HD:Hid (decide (a≤k+n)=false):=decide_eq_false hle;have hle':a>k+n:=by omega
  have HF:Hid (ApP H B g w (decide (a≤k+n)) D U (max a k) (T.drop (ackM k a*2)) (n-ackM k a) (.returned (.bool false)) w1):=⟨by rw[HD.out],HW1.out,fun h=>by rw[HD.out] at h;cases h⟩
  clear HB1 HV1 HSD HSU;go_wp2
  go_ret
  exact HF.out
end Go.Proofs.YtncomnkdlpoelaaGreatDoor
