import Derived.Test.YtncomnkdlpoelaaGreatDoorMEpl
import Derived.Test.YtncomnkdlpoelaaGreatDoorMCatF
import Derived.Deep.Cut
import Derived.BigRegion
import Derived.Test.YtncomnkdlpoelaaGreatDoorMCat
import Derived.Test.YtncomnkdlpoelaaGreatDoorMMuM
import Derived.Test.YtncomnkdlpoelaaGreatDoorMSvS
namespace Go.Proofs.YtncomnkdlpoelaaGreatDoor
open Go.ChangeShapes Go.WideShapes Go.ChangeAt Go.RowKit
set_option linter.unusedVariables false
def PoolI (g:Nat) (w:World) (v:Value) (m:Nat):Prop:=
 ∃ q c,v=.slice (some ⟨q,0,none⟩) m c∧m≤c∧g<q∧q<w.heap.size∧∀ i,i<m→∃ u k,w.cell? ⟨q,i,none⟩=some u∧k≤72∧TxB (g+1) w u k
theorem PoolI.wrG {g:Nat} {w w':World} {v:Value} {m:Nat} (h:PoolI g w v m) (b:WrG g w w'):PoolI g w' v m:=by
 obtain⟨q,c,h1,h2,h3,h4,h5⟩:=h;refine⟨q,c,h1,h2,h3,Nat.lt_of_lt_of_le h4 b.size,fun i hi=>?_⟩;obtain⟨u,k,p1,p2,p3⟩:=h5 i hi;exact⟨u,k,by rw[World.cell?_of_block (a:=⟨q,i,none⟩) (b.block q h4 (by omega))];exact p1,p2,p3.wrG b (Nat.lt_succ_self _)⟩
theorem PS.pool {lo:Nat} {w:World} {g:Nat} {x:Option Addr} {n cap:Nat} {v:Value} {m:Nat} {vs:List Value} {wr:World} (h:PS lo w g x n cap v m vs wr) (hm:0<m):PoolI g wr v m:=by
 obtain⟨q,c,h1,h2,h3,h4⟩:=h.form1 hm;have hg:=h.hg;rcases h.row.2 with⟨_,h0⟩|⟨q',c',cur,h1',_,hh,_⟩
 ·omega
 ·rw[h1] at h1';cases h1';refine⟨q,c,h1,h2,by omega,lt_of_heap hh,fun i hi=>?_⟩;have hl:i<vs.length:=by rw[h.row.1];omega
  obtain⟨k,_,k1,k2⟩:=h.tx vs[i] (List.getElem_mem hl);exact⟨vs[i],k,by rw[h4 i hi];simp[hl],k1,k2.mono (by omega)⟩
def TkV (B:Nat) (w:World) (v:Value):Prop:=v=.slice none 0 0∨∃ k,k≤72∧TxB B w v k
theorem TkV.keep {B:Nat} {w w':World} {v:Value} (h:TkV B w v) (hk:∀ b cs fr,B≤b→w.heap[b]?=some (.cells cs 5 fr)→w'.heap[b]?=w.heap[b]?):TkV B w' v:=by
 rcases h with h|⟨k,h1,h2⟩
 ·exact .inl h
 ·exact .inr ⟨k,h1,h2.keep hk⟩
theorem TkV.frm {B:Nat} {w:World} {v:Value} (h:TkV B w v):∃ a n c,v=.slice a n c:=by
 rcases h with h|⟨k,h1,h2⟩
 ·exact⟨_,_,_,h⟩
 ·obtain⟨a,c,zs,e,_⟩:=h2.at_;exact⟨_,_,_,e⟩
theorem TkV.rd {B:Nat} {w:World} {a:Option Addr} {n c:Nat} (h:TkV B w (.slice a n c)):n≤72∧n≤c∧∃ zs:List Int,zs.length=n∧Byte zs∧At .u8 w a zs:=by
 rcases h with h|⟨k,h1,h2⟩
 ·cases h;exact⟨by decide,Nat.le_refl _,[],rfl,fun _ h=>(by cases h),.inl rfl⟩
 ·obtain⟨a',c',zs,e,h2,h3,h4,h5⟩:=h2.at_;cases e;exact⟨h1,h2,zs,h3,h4,h5⟩
structure OpS (w:World) (g:Nat) (x:Option Addr) (n cap S:Nat) (kd:Int) (tv:Value) (nw nn:Int) (wr:World):Prop where
 wg:WrG g w wr
 cb:CurB wr g x n cap
 hg:g<w.heap.size
 hS:w.heap.size<S
 bx:wr.heap[w.heap.size]?=some (.cells #[.int .i64 0,.slice none 0 0,.int .i64 0,.int .i64 0] 28 (0,0))
 s:wr.heap[S]?=some (.cells #[.int .i64 kd,tv,.int .i64 nw,.int .i64 nn] 28 (0,0))
 tx:TkV w.heap.size wr tv
 nb:(-9223372036854775808≤nw∧nw≤9223372036854775807)∧-9223372036854775808≤nn∧nn≤9223372036854775807
section
variable {w:World} {g:Nat} {x:Option Addr} {n cap S:Nat} {kd:Int} {tv:Value} {nw nn:Int} {wr w':World}
theorem OpS.ct (h:OpS w g x n cap S kd tv nw nn wr) (ht:CurT w g x n):CurT wr g x n:=ht.wr (fun q hq=>h.wg.block q (Nat.lt_trans hq h.hg) (Nat.ne_of_lt hq))
theorem OpS.wrg (h:OpS w g x n cap S kd tv nw nn wr) (hc:CurB w' g x n cap) (hw:WrG g wr w'):OpS w g x n cap S kd tv nw nn w':=by
 have hg:=h.hg;have hS:=h.hS;exact⟨h.wg.trans hw,hc,h.hg,hS,by rw[hw.block _ (lt_of_heap h.bx) (by omega)];exact h.bx,by rw[hw.block S (lt_of_heap h.s) (by omega)];exact h.s,h.tx.keep (fun b _ _ hb hk=>hw.block b (lt_of_heap hk) (by omega)),h.nb⟩
theorem OpS.cur (h:OpS w g x n cap S kd tv nw nn wr) (hc:CurB w' g x n cap) (hw:Wr g wr w'):OpS w g x n cap S kd tv nw nn w':=h.wrg hc hw.wrG
theorem OpS.call (h:OpS w g x n cap S kd tv nw nn wr) (b:Below wr.heap.size wr w'):OpS w g x n cap S kd tv nw nn w':=h.wrg (h.cb.bel b).1 (WrG.of_below b)
theorem OpS.cells (h:OpS w g x n cap S kd tv nw nn wr):wr.cell? ⟨S,0,none⟩=some (.int .i64 kd)∧wr.cell? ⟨S,1,none⟩=some tv∧wr.cell? ⟨S,2,none⟩=some (.int .i64 nw)∧wr.cell? ⟨S,3,none⟩=some (.int .i64 nn)∧∀ i,wr.frozen? ⟨S,i,none⟩=false:=
 ⟨cell_of_row _ _ _ _ _ _ h.s,cell_of_row _ _ _ _ _ _ h.s,cell_of_row _ _ _ _ _ _ h.s,cell_of_row _ _ _ _ _ _ h.s,fun i=>frozen_of_row _ _ _ _ _ h.s⟩
theorem OpS.put (h:OpS w g x n cap S kd tv nw nn wr) (i:Nat) (v:Value) {kd':Int} {tv':Value} {nw' nn':Int} (e:(#[.int .i64 kd,tv,.int .i64 nw,.int .i64 nn]:Array Value).setIfInBounds i v=#[.int .i64 kd',tv',.int .i64 nw',.int .i64 nn']) (ht:TkV w.heap.size wr tv')
  (hb:(-9223372036854775808≤nw'∧nw'≤9223372036854775807)∧-9223372036854775808≤nn'∧nn'≤9223372036854775807):OpS w g x n cap S kd' tv' nw' nn' (wr.setCell ⟨S,i,none⟩ v):=by
 have hw:Wr S wr (wr.setCell ⟨S,i,none⟩ v):=(Wr.refl _ _).setCell _ _;have hg:=h.hg;have hS:=h.hS;refine⟨⟨hw.os.trans h.wg.os,hw.tape.trans h.wg.tape,hw.output.trans h.wg.output,by rw[hw.size];exact h.wg.size,fun k hk hne=>(hw.block k (by omega)).trans (h.wg.block k hk hne)⟩,?_,hg,hS,by rw[hw.block _ (by omega)];exact h.bx,by rw[←e];exact heap_setCell_same _ _ _ _ _ _ h.s,ht.keep (fun b cs fr _ hb=>hw.block b (fun e'=>?_)),hb⟩
 ·obtain⟨i',hh,p1,p2,p3,p4,p5⟩:=h.cb;exact⟨i',hh,p1,p2,p3,p4,by rw[hw.block g (by omega)];exact p5⟩
 ·subst e';rw[h.s] at hb;injection hb with hb;injection hb with _ hb _;exact absurd hb (by decide)
theorem OpS.start {w1:World} (hw:Wr g (w.alloc (.cells #[.int .i64 0,.slice none 0 0,.int .i64 0,.int .i64 0] 28)) w1) (hc:CurB w1 g x n cap) (hg:g<w.heap.size) :
  OpS w g x n cap w1.heap.size 0 (.slice none 0 0) 0 0 ((w1.alloc (.cells #[.int .i64 0,.slice none 0 0,.int .i64 0,.int .i64 0] 28)).setRow w1.heap.size #[.int .i64 0,.slice none 0 0,.int .i64 0,.int .i64 0]):=by
 have hs:=hw.size;simp at hs;have bx:w1.heap[w.heap.size]?=some (.cells #[.int .i64 0,.slice none 0 0,.int .i64 0,.int .i64 0] 28 (0,0)):=by rw[hw.block _ (by omega)];exact heap_alloc_new w _
 have b1:=below_new w1 (.cells #[.int .i64 0,.slice none 0 0,.int .i64 0,.int .i64 0] 28);have b2:=Wr.setRow w1.heap.size (w1.alloc (.cells #[.int .i64 0,.slice none 0 0,.int .i64 0,.int .i64 0] 28)) #[.int .i64 0,.slice none 0 0,.int .i64 0,.int .i64 0];have b:Below w1.heap.size w1 ((w1.alloc (.cells #[.int .i64 0,.slice none 0 0,.int .i64 0,.int .i64 0] 28)).setRow w1.heap.size #[.int .i64 0,.slice none 0 0,.int .i64 0,.int .i64 0]):=b1.trans (b2.below (Nat.le_refl _));exact⟨((WrG.of_below (below_new w _)).trans hw.wrG).trans (WrG.of_below b),(hc.bel b).1,hg,by omega,by rw[b.block _ (by omega)];exact bx,setRow_heap _ _ _ _ _ _ (heap_alloc_new w1 _),.inl rfl,by decide⟩
def SomP (w:World) (g:Nat) (x:Option Addr) (n cap:Nat) (e:Ending) (w':World):Prop:=
 ∃ kd ta tn tc nw nn,e=.returned (.agg #[.int .i64 kd,.slice ta tn tc,.int .i64 nw,.int .i64 nn])∧TkV w.heap.size w' (.slice ta tn tc)∧((-9223372036854775808≤nw∧nw≤9223372036854775807)∧-9223372036854775808≤nn∧nn≤9223372036854775807)∧CurB w' g x n cap∧WrG g w w'
theorem OpS.fin {ta:Option Addr} {tn tc:Nat} (h:OpS w g x n cap S kd (.slice ta tn tc) nw nn wr) (cs:Array Value):SomP w g x n cap (.returned (.agg #[.int .i64 kd,.slice ta tn tc,.int .i64 nw,.int .i64 nn])) (wr.setRow w.heap.size cs):=by
 have hw:=Wr.setRow w.heap.size wr cs;have hg:=h.hg;refine⟨_,_,_,_,_,_,rfl,h.tx.keep (fun b cs fr _ hb=>hw.block b (fun e=>?_)),h.nb,?_,⟨hw.os.trans h.wg.os,hw.tape.trans h.wg.tape,hw.output.trans h.wg.output,by rw[hw.size];exact h.wg.size,fun k hk hne=>(hw.block k (by omega)).trans (h.wg.block k hk hne)⟩⟩
 ·subst e;rw[h.bx] at hb;injection hb with hb;injection hb with _ hb _;exact absurd hb (by decide)
 ·obtain⟨i',hh,p1,p2,p3,p4,p5⟩:=h.cb;exact⟨i',hh,p1,p2,p3,p4,by rw[hw.block g (by omega)];exact p5⟩
end
section
variable {g:Nat} {wr w':World} {vD vU vT v':Value} {D U T D':List Int} {nT:Nat}
theorem Ls.growD (h:Ls g wr vD vU vT D U T nT) (hg:wr.grownBy w' vD.ownBlock) (ap:ApV vD vU) (hd:IO (g+1) w' v' D') (hl:D'.length≤300):Ls g w' v' vU vT D' U T nT:=by
 refine⟨hd,ownsRow_kp2 h.u (fun q hq=>hg.block q ?_ (fun e=>ap q e.symm hq)),ownsRow_kp h.t (fun q cs _ hc=>hg.block q (lt_of_heap hc) (fun e=>?_)),hl,h.l.2⟩
 ·obtain⟨_,cs,fr,hk⟩:=h.u.ty q hq;exact lt_of_heap hk
 ·obtain⟨_,cs',fr,hk⟩:=h.d.ty q e.symm;rw[hc] at hk;injection hk with hk;injection hk with _ hk _;exact absurd hk (by decide)
theorem Ls.growU (h:Ls g wr vD vU vT D U T nT) (hg:wr.grownBy w' vU.ownBlock) (ap:ApV vD vU) (hd:IO (g+1) w' v' D') (hl:D'.length≤300):Ls g w' vD v' vT D D' T nT:=by
 refine⟨ownsRow_kp2 h.d (fun q hq=>hg.block q ?_ (fun e=>ap q hq e.symm)),hd,ownsRow_kp h.t (fun q cs _ hc=>hg.block q (lt_of_heap hc) (fun e=>?_)),h.l.1,hl,h.l.2.2⟩
 ·obtain⟨_,cs,fr,hk⟩:=h.d.ty q hq;exact lt_of_heap hk
 ·obtain⟨_,cs',fr,hk⟩:=h.u.ty q e.symm;rw[hc] at hk;injection hk with hk;injection hk with _ hk _;exact absurd hk (by decide)
theorem Ls.tap {q c:Nat} (h:Ls g wr vD vU (.slice (some ⟨q,0,none⟩) nT c) D U T nT) (j:Nat) (z:Int):Ls g (wr.setCell ⟨q,j,none⟩ (.int .i64 z)) vD vU (.slice (some ⟨q,0,none⟩) nT c) D U (T.set j z) nT:=by
 have hw:Wr q wr (wr.setCell ⟨q,j,none⟩ (.int .i64 z)):=(Wr.refl _ _).setCell _ _;have hq:∃ cs,wr.heap[q]?=some (Obj.cells cs 70 (0,0)):=by
  rcases h.t.2 with⟨h',_⟩|⟨b,c',cur,h',hb,hh,_⟩
  ·cases h'
  ·cases h';exact⟨_,hh⟩
 obtain⟨cs,hq⟩:=hq;have kp:∀(b:Nat) (cs':Array Value),wr.heap[b]?=some (.cells cs' 2 (0,0))→(wr.setCell ⟨q,j,none⟩ (.int .i64 z)).heap[b]?=wr.heap[b]?:=fun b cs' hb=>hw.block b fun e=>by
  subst e;rw[hq] at hb;injection hb with hb;injection hb with _ hb _;exact absurd hb (by decide)
 refine⟨ownsRow_kp h.d fun b cs' _ hb=>kp b cs' hb,ownsRow_kp h.u fun b cs' _ hb=>kp b cs' hb,?_,h.l⟩;have:=(h.t.stored j (.int .i64 z)).1;unfold TapO;rw[List.map_set];exact this
theorem Ls.tapsome {a:Option Addr} {c:Nat} (h:Ls g wr vD vU (.slice a nT c) D U T nT) (hn:0<nT):∃ q,a=some ⟨q,0,none⟩:=by
 rcases h.t.2 with⟨_,h'⟩|⟨b,c',cur,h',_⟩
 ·omega
 ·cases h';exact⟨_,rfl⟩
theorem Ls.tapw {q c:Nat} (h:Ls g wr vD vU (.slice (some ⟨q,0,none⟩) nT c) D U T nT):(∀ j,j<nT*2→wr.cell? ⟨q,j,none⟩=some (.int .i64 (T.getD j 0)))∧(∀ j,wr.frozen? ⟨q,j,none⟩=false)∧(∀ j z,WrT g wr (wr.setCell ⟨q,j,none⟩ z))∧g<q∧nT≤c:=by
 rcases h.t.2 with⟨h',_⟩|⟨b,c',cur,h',hb,hh,hc,_⟩
 ·cases h'
 ·cases h';refine⟨fun j hj=>?_,fun j=>h.t.frozenAt j,fun j z=>?_,hb,hc⟩
  ·have hl:j<T.length:=by have:=h.t.1;simp at this;omega
   rw[h.t.cellAt j hj];simp[hl]
  ·have hw:Wr q wr (wr.setCell ⟨q,j,none⟩ z):=(Wr.refl _ _).setCell _ _;exact⟨hw.os,hw.tape,hw.output,by rw[hw.size];exact Nat.le_refl _,fun k h1 h2 h3=>hw.block k fun e=>by
    subst e;rcases h3 with h3|h3
    ·omega
    ·exact(h3 _ _).2 hh⟩
end
set_option maxRecDepth 100000 in
set_option maxHeartbeats 8000000 in
theorem spoilSt_any (g:Nat) (x:Option Addr) (n cap:Nat) (aD aU aT:Option Addr) (nD cD nU cU nT cT:Nat) (D U T:List Int) (k:Int) (w:World) (hc:CurB w g x n cap) (ht:CurT w g x n) (hl:Ls g w (.slice aD nD cD) (.slice aU nU cU) (.slice aT nT cT) D U T nT) (hd:D.length≤280∧U.length≤280) (ap:ApV (.slice aD nD cD) (.slice aU nU cU)) (hk:-9223372036854775808≤k∧k≤9223372036854775807) :
  Calls Tryz.prog 20 #[.pointer (some ⟨g,0,none⟩),.agg #[.slice aD nD cD,.slice aU nU cU,.int .i64 k,.slice aT nT cT]] w fun e w'=>∃ v,e=.returned v∧DSW g w' v∧CurB w' g x n cap∧WrT g w w':=by
 have HSZ:Hid ((Tryz.prog.info? 26).map (·.size)=some 4):=by show _=_;kernel_rfl
 have HAP:=hdI ap;have HLD:=hdI hd;have HK:=hdI hk;have b2:Below w.heap.size w ((w.alloc (.cells #[.slice aD nD cD,.slice aU nU cU,.int .i64 k,.slice aT nT cT] 26)).alloc (.cells #[.slice none 0 0,.slice none 0 0,.int .i64 0,.slice none 0 0] 26)):=((Below.refl _ _).alloc (Nat.le_refl _) _).alloc (by simp) _;have HS2:=hdI (show SS w g x n cap #[.slice aD nD cD,.slice aU nU cU,.int .i64 k,.slice aT nT cT] _ from⟨(WrG.of_below b2).wrT,(hc.bel b2).1,(hc.bel b2).2,heap_alloc2_old _ _ _,heap_alloc2_new _ _ _⟩);have HL2:=hdI (hl.wrG (WrG.of_below b2));have HB:=hdI (below_any g x n cap 7 _ HS2.out.cb (HS2.out.ct ht) (by decide) (by decide));clear hc ht hl hd ap hk b2;go_enter Tryz.func20,Tryz.ntmps20;go_wp2_with fail;generalize ((w.alloc (.cells #[.slice aD nD cD,.slice aU nU cU,.int .i64 k,.slice aT nT cT] 26)).alloc (.cells #[.slice none 0 0,.slice none 0 0,.int .i64 0,.slice none 0 0] 26))=w2 at *;refine HB.out.mono ?_;rintro e w3 ⟨q,rfl,q0,q1,hc3,hw3⟩;have HS3:=hdI (HS2.out.to hw3.wrG.wrT hc3);have HL3:=hdI (HL2.out.wrG hw3.wrG);clear HS2 HL2 HB hc3 hw3;have s0:=(HS3.out.cell 0).1;have s1:=(HS3.out.cell 1).1;have s2:=(HS3.out.cell 2).1;have s3:=(HS3.out.cell 3).1;have f0:=(HS3.out.cell 0).2;have f1:=(HS3.out.cell 1).2;have f2:=(HS3.out.cell 2).2;simp at s0 s1 s2 s3;obtain rfl|rfl|rfl|rfl|rfl|rfl|rfl:q=0∨q=1∨q=2∨q=3∨q=4∨q=5∨q=6:=by omega
 ·have HF:=hdI (HS3.out.set 2 (.int .i64 (wrap64 (k+1))) (cs':=#[.slice aD nD cD,.slice aU nU cU,.int .i64 (wrap64 (k+1)),.slice aT nT cT]) rfl);have HLF:=hdI (HL3.out.set HS3.out.p (by decide) (by decide) ((Wr.refl _ _).setCell 2 (.int .i64 (wrap64 (k+1)))))
  go_upto_region 20 with fail
  clear HS3 HL3 s0 s1 s2 s3 f0 f1 f2;generalize w3.setCell ⟨w.heap.size,2,none⟩ (.int .i64 (wrap64 (k+1)))=w9 at *;go_wp2_with (first
   |(refine wpList_load_row rfl 26 (.tmp 3) rfl w.heap.size rfl 26 _ (0,0) _ HF.out.p Tryz.underlying26 rfl HSZ.out ?_)
   |(refine wpList_store_row rfl 26 (.tmp 4) (.tmp 84) rfl (w.heap.size+1) #[.slice aD nD cD,.slice aU nU cU,.int .i64 (wrap64 (k+1)),.slice aT nT cT] rfl rfl 26 _ HF.out.r HSZ.out rfl (by simp[Value.oneCell']) ?_)
   |fail)
  (try simp only[Exit.inBlock,Exit.then])
  exact bodyPost_ret (results_cell_row rfl _ _ (w.heap.size+1) 26 _ (0,0) _ rfl (setRow_heap _ _ _ _ _ _ HF.out.r) Tryz.underlying26 rfl HSZ.out) rfl ⟨_,rfl,HF.out.fin HLF.out (wrap64_bd _) _⟩
 ·have b4:=below_new w3 (.cells #[.int .i64 3] 2);have HS4:=hdI (HS3.out.to (WrG.of_below b4).wrT (HS3.out.cb.bel b4).1);have HL4:=hdI (HL3.out.wrG (WrG.of_below b4));have HZ4:=hdI (show g+1≤w3.heap.size by have:=HS3.out.lt;have:=HS3.out.hg;omega);go_wp2_with (first
   |(at_builtin;refine wpList_appL w3 rfl _ _ rfl (g+1) (.slice aD nD cD) D 3 rfl HL4.out.d rfl ?c1 HZ4.out ?_)
   |fail)
  case c1=>have:=HLD.out;omega
  intro v5 w5 h5 hg5;have HS5:=hdI (HS4.out.to (grown_wrT HL4.out.d hg5) (grown_cb HL4.out.d hg5 HS4.out.cb));have HL5:=hdI (HL4.out.growD hg5 HAP.out h5 (by have:=HLD.out;simp;omega));obtain⟨a5,n5,c5,rfl⟩:=h5.form;have t0:=(HS5.out.cell 0).1;have g0:=(HS5.out.cell 0).2;simp at t0;have HF:=hdI (HS5.out.set 0 (.slice a5 n5 c5) (cs':=#[.slice a5 n5 c5,.slice aU nU cU,.int .i64 k,.slice aT nT cT]) rfl);have HLF:=hdI (HL5.out.set HS5.out.p (by decide) (by decide) ((Wr.refl _ _).setCell 0 (.slice a5 n5 c5)));clear HS3 HL3 HS4 HL4 HS5 HL5 h5 hg5 b4 HZ4 s0 s1 s2 s3 f0 f1 f2
  go_upto_region 20 with fail
  clear t0 g0;generalize w5.setCell ⟨w.heap.size,0,none⟩ (.slice a5 n5 c5)=w9 at *;go_wp2_with (first
   |(refine wpList_load_row rfl 26 (.tmp 3) rfl w.heap.size rfl 26 _ (0,0) _ HF.out.p Tryz.underlying26 rfl HSZ.out ?_)
   |(refine wpList_store_row rfl 26 (.tmp 4) (.tmp 84) rfl (w.heap.size+1) #[.slice a5 n5 c5,.slice aU nU cU,.int .i64 k,.slice aT nT cT] rfl rfl 26 _ HF.out.r HSZ.out rfl (by simp[Value.oneCell']) ?_)
   |fail)
  (try simp only[Exit.inBlock,Exit.then])
  exact bodyPost_ret (results_cell_row rfl _ _ (w.heap.size+1) 26 _ (0,0) _ rfl (setRow_heap _ _ _ _ _ _ HF.out.r) Tryz.underlying26 rfl HSZ.out) rfl ⟨_,rfl,HF.out.fin HLF.out HK.out _⟩
 ·have b4:=below_new w3 (.cells #[.int .i64 256] 2);have HS4:=hdI (HS3.out.to (WrG.of_below b4).wrT (HS3.out.cb.bel b4).1);have HL4:=hdI (HL3.out.wrG (WrG.of_below b4));have HZ4:=hdI (show g+1≤w3.heap.size by have:=HS3.out.lt;have:=HS3.out.hg;omega);go_wp2_with (first
   |(at_builtin;refine wpList_appL w3 rfl _ _ rfl (g+1) (.slice aU nU cU) U 256 rfl HL4.out.u rfl ?c2 HZ4.out ?_)
   |fail)
  case c2=>have:=HLD.out;omega
  intro v5 w5 h5 hg5;have HS5:=hdI (HS4.out.to (grown_wrT HL4.out.u hg5) (grown_cb HL4.out.u hg5 HS4.out.cb));have HL5:=hdI (HL4.out.growU hg5 HAP.out h5 (by have:=HLD.out;simp;omega));obtain⟨a5,n5,c5,rfl⟩:=h5.form;have t0:=(HS5.out.cell 1).1;have g0:=(HS5.out.cell 1).2;simp at t0;have HS6:=hdI (HS5.out.set 1 (.slice a5 n5 c5) (cs':=#[.slice aD nD cD,.slice a5 n5 c5,.int .i64 k,.slice aT nT cT]) rfl);have HL6:=hdI (HL5.out.set HS5.out.p (by decide) (by decide) ((Wr.refl _ _).setCell 1 (.slice a5 n5 c5)));clear HS3 HL3 HS4 HL4 HS5 HL5 h5 hg5 b4 HZ4 s0 s1 s2 s3 f0 f1 f2
  go_upto_region 8 with fail
  clear t0 g0;generalize w5.setCell ⟨w.heap.size,1,none⟩ (.slice a5 n5 c5)=w6 at *;have t0:=(HS6.out.cell 2).1;have g0:=(HS6.out.cell 2).2;simp at t0;have HF:=hdI (HS6.out.set 2 (.int .i64 (wrap64 (k+1))) (cs':=#[.slice aD nD cD,.slice a5 n5 c5,.int .i64 (wrap64 (k+1)),.slice aT nT cT]) rfl);have HLF:=hdI (HL6.out.set HS6.out.p (by decide) (by decide) ((Wr.refl _ _).setCell 2 (.int .i64 (wrap64 (k+1)))));clear HS6 HL6
  go_upto_region 20 with fail
  clear t0 g0;generalize w6.setCell ⟨w.heap.size,2,none⟩ (.int .i64 (wrap64 (k+1)))=w9 at *;go_wp2_with (first
   |(refine wpList_load_row rfl 26 (.tmp 3) rfl w.heap.size rfl 26 _ (0,0) _ HF.out.p Tryz.underlying26 rfl HSZ.out ?_)
   |(refine wpList_store_row rfl 26 (.tmp 4) (.tmp 84) rfl (w.heap.size+1) #[.slice aD nD cD,.slice a5 n5 c5,.int .i64 (wrap64 (k+1)),.slice aT nT cT] rfl rfl 26 _ HF.out.r HSZ.out rfl (by simp[Value.oneCell']) ?_)
   |fail)
  (try simp only[Exit.inBlock,Exit.then])
  exact bodyPost_ret (results_cell_row rfl _ _ (w.heap.size+1) 26 _ (0,0) _ rfl (setRow_heap _ _ _ _ _ _ HF.out.r) Tryz.underlying26 rfl HSZ.out) rfl ⟨_,rfl,HF.out.fin HLF.out (wrap64_bd _) _⟩
 ·by_cases hT:0<nT
  ·have hT':0<(nT:Int):=by omega
   obtain⟨qt,rfl⟩:=HL3.out.tapsome hT;obtain⟨tc,tf,tw,tg,tn⟩:=HL3.out.tapw;have t0:=tc 1 (by omega);have g0:=tf 1;have HF:=hdI (HS3.out.to (tw 1 (.int .i64 4294967296)) (HS3.out.cb.keepE (heap_setCell_other _ _ _ _ (by show g≠qt;omega))));have HLF:=hdI (HL3.out.tap 1 4294967296);clear HS3 HL3 tc tf tw;generalize T.getD 1 0=z0 at *
   go_upto_region 20 with fail
   clear t0 g0 s0 s1 s2 s3 f0 f1 f2;generalize w3.setCell ⟨qt,1,none⟩ (.int .i64 4294967296)=w9 at *;go_wp2_with (first
    |(refine wpList_load_row rfl 26 (.tmp 3) rfl w.heap.size rfl 26 _ (0,0) _ HF.out.p Tryz.underlying26 rfl HSZ.out ?_)
    |(refine wpList_store_row rfl 26 (.tmp 4) (.tmp 84) rfl (w.heap.size+1) #[.slice aD nD cD,.slice aU nU cU,.int .i64 k,.slice (some ⟨qt,0,none⟩) nT cT] rfl rfl 26 _ HF.out.r HSZ.out rfl (by simp[Value.oneCell']) ?_)
    |fail)
   (try simp only[Exit.inBlock,Exit.then])
   exact bodyPost_ret (results_cell_row rfl _ _ (w.heap.size+1) 26 _ (0,0) _ rfl (setRow_heap _ _ _ _ _ _ HF.out.r) Tryz.underlying26 rfl HSZ.out) rfl ⟨_,rfl,HF.out.fin HLF.out HK.out _⟩
  ·have hT':¬ (0<(nT:Int)):=by omega
   go_upto_region 20 with fail
   go_wp2_with (first
    |(refine wpList_load_row rfl 26 (.tmp 3) rfl w.heap.size rfl 26 _ (0,0) _ HS3.out.p Tryz.underlying26 rfl HSZ.out ?_)
    |(refine wpList_store_row rfl 26 (.tmp 4) (.tmp 84) rfl (w.heap.size+1) #[.slice aD nD cD,.slice aU nU cU,.int .i64 k,.slice aT nT cT] rfl rfl 26 _ HS3.out.r HSZ.out rfl (by simp[Value.oneCell']) ?_)
    |fail)
   (try simp only[Exit.inBlock,Exit.then])
   exact bodyPost_ret (results_cell_row rfl _ _ (w.heap.size+1) 26 _ (0,0) _ rfl (setRow_heap _ _ _ _ _ _ HS3.out.r) Tryz.underlying26 rfl HSZ.out) rfl ⟨_,rfl,HS3.out.fin HL3.out HK.out _⟩
 ·by_cases hT:1<nT
  ·have hT':1<(nT:Int):=by omega
   obtain⟨qt,rfl⟩:=HL3.out.tapsome (by omega);obtain⟨tc,tf,tw,tg,tn⟩:=HL3.out.tapw;have t0:=tc 0 (by omega);have t1:=tc 1 (by omega);have t2:=tc 2 (by omega);have t3:=tc 3 (by omega);have g0:=tf 0;have g1:=tf 1;generalize T.getD 2 0=z2 at *;generalize T.getD 3 0=z3 at *;generalize T.getD 0 0=z0 at *;generalize T.getD 1 0=z1 at *;have HLA:=hdI (HL3.out.tap 0 z2);have HFA:=hdI (HS3.out.to (tw 0 (.int .i64 z2)) (HS3.out.cb.keepE (heap_setCell_other _ _ _ _ (by show g≠qt;omega))));have HLB:=hdI (HLA.out.tap 1 z3);have HFB:=hdI (HFA.out.to (HLA.out.tapw.2.2.1 1 (.int .i64 z3)) (HFA.out.cb.keepE (heap_setCell_other _ _ _ _ (by show g≠qt;omega))));clear tc tf tw HLA HFA HS3 HL3
   go_upto_region 12 with fail
   go_region
   clear t0 t1 t2 t3 g0 g1 s0 s1 s2 s3 f0 f1 f2;have HF:=hdI (HFB.out.to (WrG.of_below ((Below.refl _ _).drew)).wrT (HFB.out.cb.bel ((Below.refl _ _).drew)).1);have HLF:=hdI (HLB.out.wrG (WrG.of_below ((Below.refl _ _).drew)));clear HFB HLB;generalize ((w3.setCell ⟨qt,0,none⟩ (.int .i64 z2)).setCell ⟨qt,1,none⟩ (.int .i64 z3)).drew=w9 at *
   go_upto_region 20 with fail
   go_wp2_with (first
    |(refine wpList_load_row rfl 26 (.tmp 3) rfl w.heap.size rfl 26 _ (0,0) _ HF.out.p Tryz.underlying26 rfl HSZ.out ?_)
    |(refine wpList_store_row rfl 26 (.tmp 4) (.tmp 84) rfl (w.heap.size+1) #[.slice aD nD cD,.slice aU nU cU,.int .i64 k,.slice (some ⟨qt,0,none⟩) nT cT] rfl rfl 26 _ HF.out.r HSZ.out rfl (by simp[Value.oneCell']) ?_)
    |fail)
   (try simp only[Exit.inBlock,Exit.then])
   exact bodyPost_ret (results_cell_row rfl _ _ (w.heap.size+1) 26 _ (0,0) _ rfl (setRow_heap _ _ _ _ _ _ HF.out.r) Tryz.underlying26 rfl HSZ.out) rfl ⟨_,rfl,HF.out.fin HLF.out HK.out _⟩
  ·have hT':¬ (1<(nT:Int)):=by omega
   go_upto_region 20 with fail
   go_wp2_with (first
    |(refine wpList_load_row rfl 26 (.tmp 3) rfl w.heap.size rfl 26 _ (0,0) _ HS3.out.p Tryz.underlying26 rfl HSZ.out ?_)
    |(refine wpList_store_row rfl 26 (.tmp 4) (.tmp 84) rfl (w.heap.size+1) #[.slice aD nD cD,.slice aU nU cU,.int .i64 k,.slice aT nT cT] rfl rfl 26 _ HS3.out.r HSZ.out rfl (by simp[Value.oneCell']) ?_)
    |fail)
   (try simp only[Exit.inBlock,Exit.then])
   exact bodyPost_ret (results_cell_row rfl _ _ (w.heap.size+1) 26 _ (0,0) _ rfl (setRow_heap _ _ _ _ _ _ HS3.out.r) Tryz.underlying26 rfl HSZ.out) rfl ⟨_,rfl,HS3.out.fin HL3.out HK.out _⟩
 ·go_wp2_with fail
  go_loopw [6] (fun i wz=>∃(j:Nat) (vd:Value) (D':List Int),j≤17∧i=.int .i64 j∧SS w g x n cap #[vd,.slice aU nU cU,.int .i64 k,.slice aT nT cT] wz∧Ls g wz vd (.slice aU nU cU) (.slice aT nT cT) D' U T nT) (fun i _=>17-(intOf i).toNat)
  case atStart=>exact⟨0,_,D,by omega,rfl,HS3.out,HL3.out⟩
  case round=>
   clear HS3 HL3 s0 s1 s2 s3 f0 f1 f2;obtain⟨j,vd,D',hj,rfl,hs,hl⟩:=hrel;obtain⟨ad,nd,cd,rfl⟩:=hl.d.form;obtain⟨sd,ed,_⟩:=hl.d.sat;have HS:=hdI hs;have HL:=hdI hl;have t0:=(hs.cell 0).1;simp at t0;have C:=with_any ad nd cd D' (2*j) wr ed (by have:=hl.l.1;omega) sd.at_;rw[show((2*j:Nat):Int)=2*(j:Int) by omega] at C;have HC:=hdI C;have hZ:=hdI (show g+1≤wr.heap.size by have:=hs.lt;have:=hs.hg;omega);clear hs hl sd ed C;by_cases hlt:j<17
   ·have hlt':(j:Int)<17:=by omega
    go_wp2_with fail;refine HC.out.mono ?_;rintro e w5 ⟨v5,rfl,h5,b5⟩;have HS5:=hdI (HS.out.to (WrG.of_below b5).wrT (HS.out.cb.bel b5).1);have HL5:=hdI (show Ls g w5 v5 _ _ _ U T nT from⟨IO.mono h5 hZ.out,(HL.out.wrG (WrG.of_below b5)).u,(HL.out.wrG (WrG.of_below b5)).t,Nat.le_trans (upTo_len _ _) (by decide),HL.out.l.2⟩);obtain⟨a5,n5,c5,rfl⟩:=h5.form;clear h5 b5 HS HL HC t0 hZ;have t0:=(HS5.out.cell 0).1;have g0:=(HS5.out.cell 0).2;simp at t0;have HF:=hdI (HS5.out.set 0 (.slice a5 n5 c5) (cs':=#[.slice a5 n5 c5,.slice aU nU cU,.int .i64 k,.slice aT nT cT]) rfl);have HLF:=hdI (HL5.out.set HS5.out.p (by decide) (by decide) ((Wr.refl _ _).setCell 0 (.slice a5 n5 c5)));clear HS5 HL5;go_wp2;go_roundw
    case rel=>exact⟨j+1,_,_,by omega,by go_num,HF.out,HLF.out⟩
    case measure=>simp[intOf];omega
   ·have hlt':¬ ((j:Int)<17):=by omega
    go_upto_region 20 with fail
    go_wp2_with (first
     |(refine wpList_load_row rfl 26 (.tmp 3) rfl w.heap.size rfl 26 _ (0,0) _ HS.out.p Tryz.underlying26 rfl HSZ.out ?_)
     |(refine wpList_store_row rfl 26 (.tmp 4) (.tmp 84) rfl (w.heap.size+1) #[.slice ad nd cd,.slice aU nU cU,.int .i64 k,.slice aT nT cT] rfl rfl 26 _ HS.out.r HSZ.out rfl (by simp[Value.oneCell']) ?_)
     |fail)
    (try simp only[Exit.inBlock,Exit.then])
    exact bodyPost_ret (results_cell_row rfl _ _ (w.heap.size+1) 26 _ (0,0) _ rfl (setRow_heap _ _ _ _ _ _ HS.out.r) Tryz.underlying26 rfl HSZ.out) rfl ⟨_,rfl,HS.out.fin HL.out HK.out _⟩
 ·by_cases hT:0<nT
  ·have hT':0<(nT:Int):=by omega
   obtain⟨qt,rfl⟩:=HL3.out.tapsome hT;obtain⟨tc,tf,tw,tg,tn⟩:=HL3.out.tapw;have t0:=tc 0 (by omega);have g0:=tf 0;have HF:=hdI (HS3.out.to (tw 0 (.int .i64 99)) (HS3.out.cb.keepE (heap_setCell_other _ _ _ _ (by show g≠qt;omega))));have HLF:=hdI (HL3.out.tap 0 99);clear HS3 HL3 tc tf tw;generalize T.getD 0 0=z0 at *
   go_upto_region 20 with fail
   clear t0 g0 s0 s1 s2 s3 f0 f1 f2;generalize w3.setCell ⟨qt,0,none⟩ (.int .i64 99)=w9 at *;go_wp2_with (first
    |(refine wpList_load_row rfl 26 (.tmp 3) rfl w.heap.size rfl 26 _ (0,0) _ HF.out.p Tryz.underlying26 rfl HSZ.out ?_)
    |(refine wpList_store_row rfl 26 (.tmp 4) (.tmp 84) rfl (w.heap.size+1) #[.slice aD nD cD,.slice aU nU cU,.int .i64 k,.slice (some ⟨qt,0,none⟩) nT cT] rfl rfl 26 _ HF.out.r HSZ.out rfl (by simp[Value.oneCell']) ?_)
    |fail)
   (try simp only[Exit.inBlock,Exit.then])
   exact bodyPost_ret (results_cell_row rfl _ _ (w.heap.size+1) 26 _ (0,0) _ rfl (setRow_heap _ _ _ _ _ _ HF.out.r) Tryz.underlying26 rfl HSZ.out) rfl ⟨_,rfl,HF.out.fin HLF.out HK.out _⟩
  ·have hT':¬ (0<(nT:Int)):=by omega
   go_upto_region 20 with fail
   go_wp2_with (first
    |(refine wpList_load_row rfl 26 (.tmp 3) rfl w.heap.size rfl 26 _ (0,0) _ HS3.out.p Tryz.underlying26 rfl HSZ.out ?_)
    |(refine wpList_store_row rfl 26 (.tmp 4) (.tmp 84) rfl (w.heap.size+1) #[.slice aD nD cD,.slice aU nU cU,.int .i64 k,.slice aT nT cT] rfl rfl 26 _ HS3.out.r HSZ.out rfl (by simp[Value.oneCell']) ?_)
    |fail)
   (try simp only[Exit.inBlock,Exit.then])
   exact bodyPost_ret (results_cell_row rfl _ _ (w.heap.size+1) 26 _ (0,0) _ rfl (setRow_heap _ _ _ _ _ _ HS3.out.r) Tryz.underlying26 rfl HSZ.out) rfl ⟨_,rfl,HS3.out.fin HL3.out HK.out _⟩
theorem TxB.wrT {g:Nat} {w w':World} {u:Value} {n:Nat} (h:TxB (g+1) w u n) (b:WrT g w w'):TxB (g+1) w' u n:=h.keep fun k _ _ hB hk=>by
 rw[b.typed hk (by decide) (by decide) (by omega),hk]
theorem TkV.wrT {g:Nat} {w w':World} {u:Value} (h:TkV (g+1) w u) (b:WrT g w w'):TkV (g+1) w' u:=h.keep fun k _ _ hB hk=>by
 rw[b.typed hk (by decide) (by decide) (by omega),hk]
theorem TkV.mono {B B':Nat} {w:World} {u:Value} (h:TkV B w u) (hB:B'≤B):TkV B' w u:=by
 rcases h with h|⟨k,h1,h2⟩
 ·exact .inl h
 ·exact .inr ⟨k,h1,h2.mono hB⟩
def zOp:Array Value:=#[.int .i64 0,.slice none 0 0,.int .i64 0,.int .i64 0]
structure DR (tO:TypeId) (zO:Array Value) (w:World) (x:Option Addr) (n cap S O:Nat) (cs co:Array Value) (wr:World):Prop where
 bel:Below w.heap.size w wr
 cb:CurB wr (w.heap.size+2) x n cap
 ct:CurT wr (w.heap.size+2) x n
 r1:wr.heap[w.heap.size]?=some (.cells #[.slice none 0 0,.slice none 0 0,.int .i64 0,.slice none 0 0] 26 (0,0))
 r3:wr.heap[w.heap.size+1]?=some (.cells zO tO (0,0))
 s:wr.heap[S]?=some (.cells cs 26 (0,0))
 o:wr.heap[O]?=some (.cells co tO (0,0))
 hS:S≠w.heap.size+2∧w.heap.size≤S
 hO:O≠w.heap.size+2∧w.heap.size≤O
 ht:tO≠2∧tO≠70
structure DX (g:Nat) (aD:Option Addr) (nD cD:Nat) (aU:Option Addr) (nU cU:Nat) (k:Int) (aT:Option Addr) (nT cT:Nat) (ak:Option Addr) (nk ck:Nat) (ta:Option Addr) (tn tc:Nat) (wr:World):Prop where
 ls:∃ D U T,Ls g wr (.slice aD nD cD) (.slice aU nU cU) (.slice aT nT cT) D U T nT
 ke:TxB (g+1) wr (.slice ak nk ck) nk
 tk:TkV (g+1) wr (.slice ta tn tc)
 nb:-9223372036854775808≤k∧k≤9223372036854775807
section
variable {tO:TypeId} {zO:Array Value} {w:World} {x:Option Addr} {n cap S O:Nat} {cs co cs' co':Array Value} {wr w':World} {g:Nat} {aD:Option Addr} {nD cD:Nat} {aU:Option Addr} {nU cU:Nat} {k:Int} {aT:Option Addr} {nT cT:Nat} {ak:Option Addr} {nk ck:Nat} {ta:Option Addr} {tn tc:Nat}
theorem DR.to (h:DR tO zO w x n cap S O cs co wr) (hw:WrT (w.heap.size+2) wr w') (hc:CurB w' (w.heap.size+2) x n cap):DR tO zO w x n cap S O cs co w':=by
 have hS:=h.hS;have hO:=h.hO;have hl:=lt_of_heap h.r3;have hc':=(h.cb.bel (Below.refl _ _)).2;exact⟨⟨hw.os.trans h.bel.os,hw.tape.trans h.bel.tape,hw.output.trans h.bel.output,Nat.le_trans h.bel.size hw.size,fun k hk=>(hw.block k (by omega) (by omega) (.inl (by omega))).trans (h.bel.block k hk)⟩,hc,h.ct.wr (fun q hq=>hw.block q (by omega) (by omega) (.inl hq)),hw.typed h.r1 (by decide) (by decide) (by omega),hw.typed h.r3 h.ht.1 h.ht.2 (by omega),hw.typed h.s (by decide) (by decide) (by omega),hw.typed h.o h.ht.1 h.ht.2 (by omega),hS,hO,h.ht⟩
theorem DR.cur (h:DR tO zO w x n cap S O cs co wr) (hc:CurB w' (w.heap.size+2) x n cap) (hw:Wr (w.heap.size+2) wr w'):DR tO zO w x n cap S O cs co w':=h.to hw.wrG.wrT hc
theorem CurB.wr_ {q:Nat} (h:CurB wr g x n cap) (hw:Wr q wr w') (hq:g≠q):CurB w' g x n cap:=by
 obtain⟨i',hh,p1,p2,p3,p4,p5⟩:=h;exact⟨i',hh,p1,p2,p3,p4,by rw[hw.block g hq];exact p5⟩
theorem DR.putO (h:DR tO zO w x n cap S O cs co wr) (hne:w.heap.size+1<O∧O≠S) (hw:Wr O wr w') (e:w'.heap[O]?=some (.cells co' tO (0,0))):DR tO zO w x n cap S O cs co' w':=by
 have hS:=h.hS;have hO:=h.hO;exact⟨h.bel.trans (hw.below (by omega)),h.cb.wr_ hw (by omega),h.ct.wr (fun q hq=>hw.block q (by omega)),by rw[hw.block _ (by omega)];exact h.r1,by rw[hw.block _ (by omega)];exact h.r3,by rw[hw.block _ (by omega)];exact h.s,e,hS,hO,h.ht⟩
theorem DR.putS (h:DR tO zO w x n cap S O cs co wr) (hne:w.heap.size+1<S∧O≠S) (hw:Wr S wr w') (e:w'.heap[S]?=some (.cells cs' 26 (0,0))):DR tO zO w x n cap S O cs' co w':=by
 have hS:=h.hS;have hO:=h.hO;exact⟨h.bel.trans (hw.below (by omega)),h.cb.wr_ hw (by omega),h.ct.wr (fun q hq=>hw.block q (by omega)),by rw[hw.block _ (by omega)];exact h.r1,by rw[hw.block _ (by omega)];exact h.r3,e,by rw[hw.block _ (by omega)];exact h.o,hS,hO,h.ht⟩
theorem DR.swS {S':Nat} (h:DR tO zO w x n cap S O cs co wr) (hs:wr.heap[S']?=some (.cells cs' 26 (0,0))) (h':S'≠w.heap.size+2∧w.heap.size≤S'):DR tO zO w x n cap S' O cs' co wr:=⟨h.bel,h.cb,h.ct,h.r1,h.r3,hs,h.o,h',h.hO,h.ht⟩
theorem DR.swO {O':Nat} (h:DR tO zO w x n cap S O cs co wr) (ho:wr.heap[O']?=some (.cells co' tO (0,0))) (h':O'≠w.heap.size+2∧w.heap.size≤O'):DR tO zO w x n cap S O' cs co' wr:=⟨h.bel,h.cb,h.ct,h.r1,h.r3,h.s,ho,h.hS,h',h.ht⟩
theorem DR.lt (h:DR tO zO w x n cap S O cs co wr):w.heap.size+2<wr.heap.size:=(h.cb.bel (Below.refl _ _)).2
theorem CurT.of_at {w w1:World} {g:Nat} {x:Option Addr} {n:Nat} {zs:List Int} (hl:zs.length=n) (hn:n≤1048576) (hz:Byte zs) (ha:At .u8 w x zs) (B:Below w.heap.size w w1) (hg:w.heap.size≤g):CurT w1 g x n:=⟨hn,zs,hl,hz,by
 rcases ha with h|⟨b,off,e,hb,hc⟩
 ·exact .inl h
 ·exact .inr ⟨b,off,e,by omega,fun i hi=>by rw[B.cell (p:=⟨b,off+i,none⟩) hb];exact hc i hi⟩⟩
theorem DX.wrG (h:DX g aD nD cD aU nU cU k aT nT cT ak nk ck ta tn tc wr) (hw:WrG g wr w'):DX g aD nD cD aU nU cU k aT nT cT ak nk ck ta tn tc w':=by
 obtain⟨D,U,T,hl⟩:=h.ls;exact⟨⟨D,U,T,hl.wrG hw⟩,h.ke.wrT hw.wrT,h.tk.wrT hw.wrT,h.nb⟩
theorem DX.typ (h:DX g aD nD cD aU nU cU k aT nT cT ak nk ck ta tn tc wr) {P:Nat} {t:TypeId} {cs:Array Value} {fr:Nat×Nat} (hp:wr.heap[P]?=some (.cells cs t fr)) (h1:t≠2) (h2:t≠70) (h3:t≠5) (hw:Wr P wr w'):DX g aD nD cD aU nU cU k aT nT cT ak nk ck ta tn tc w':=by
 obtain⟨D,U,T,hl⟩:=h.ls;have kp:∀(b:Nat) (cs':Array Value) (fr':Nat×Nat),g+1≤b→wr.heap[b]?=some (.cells cs' 5 fr')→w'.heap[b]?=wr.heap[b]?:=fun b cs' fr' _ hb=>hw.block b fun e=>by
  subst e;rw[hp] at hb;injection hb with hb;injection hb with _ hb _;exact h3 hb
 exact⟨⟨D,U,T,hl.set hp h1 h2 hw⟩,h.ke.keep kp,h.tk.keep kp,h.nb⟩
def DY (g:Nat) (aD:Option Addr) (nD cD:Nat) (aU:Option Addr) (nU cU:Nat) (k:Int) (aT:Option Addr) (nT cT:Nat) (wr:World):Prop:=
 (∃ D U T,Ls g wr (.slice aD nD cD) (.slice aU nU cU) (.slice aT nT cT) D U T nT)∧-9223372036854775808≤k∧k≤9223372036854775807
theorem DY.wrG (h:DY g aD nD cD aU nU cU k aT nT cT wr) (hw:WrG g wr w'):DY g aD nD cD aU nU cU k aT nT cT w':=by
 obtain⟨⟨D,U,T,hl⟩,hk⟩:=h;exact⟨⟨D,U,T,hl.wrG hw⟩,hk⟩
theorem DY.typ (h:DY g aD nD cD aU nU cU k aT nT cT wr) {P:Nat} {t:TypeId} {cs:Array Value} {fr:Nat×Nat} (hp:wr.heap[P]?=some (.cells cs t fr)) (h1:t≠2) (h2:t≠70) (hw:Wr P wr w'):DY g aD nD cD aU nU cU k aT nT cT w':=by
 obtain⟨⟨D,U,T,hl⟩,hk⟩:=h;exact⟨⟨D,U,T,hl.set hp h1 h2 hw⟩,hk⟩
theorem DX.bnd (h:DX g aD nD cD aU nU cU k aT nT cT ak nk ck ta tn tc wr):nD≤300∧nU≤300∧nT≤300:=by
 obtain⟨D,U,T,hl⟩:=h.ls;obtain⟨_,e1,_⟩:=hl.d.sat;obtain⟨_,e2,_⟩:=hl.u.sat;have:=hl.l;omega
theorem IO.hd {B:Nat} {a:Option Addr} {m c:Nat} {xs:List Int} (h:IO B wr (.slice a m c) xs) (hm:0<m):∃ q z,a=some ⟨q,0,none⟩∧wr.cell? ⟨q,0,none⟩=some (.int .i64 z):=by
 have hl:=h.sat.2.1;rcases h.2 with⟨h',_⟩|⟨q,c',cur,h',_⟩
 ·cases h';omega
 ·cases h';refine⟨q,xs.getD 0 0,rfl,?_⟩;have hx:0<xs.length:=by omega
  rw[World.ownsRow.cellAt h 0 (by omega)];simp[hx]
structure ZR (tO:TypeId) (zO:Array Value) (w:World) (S O:Nat) (cs co:Array Value) (f1 f3:Bool) (wr:World):Prop where
 bel:Below w.heap.size w wr
 s:wr.heap[S]?=some (.cells cs 26 (0,0))
 o:wr.heap[O]?=some (.cells co tO (0,0))
 r1:wr.heap[w.heap.size]?=some (.cells (if f1=true then cs else #[.slice none 0 0,.slice none 0 0,.int .i64 0,.slice none 0 0]) 26 (0,0))
 r3:wr.heap[w.heap.size+1]?=some (.cells (if f3=true then co else zO) tO (0,0))
theorem ZR.one {f3:Bool} (h:ZR tO zO w S O cs co false f3 wr) (hS:w.heap.size+1<S∧w.heap.size+1<O):ZR tO zO w S O cs co true f3 (wr.setRow w.heap.size cs):=by
 have hw:=Wr.setRow w.heap.size wr cs;exact⟨h.bel.trans (hw.below (Nat.le_refl _)),by rw[hw.block _ (by omega)];exact h.s,by rw[hw.block _ (by omega)];exact h.o,setRow_heap _ _ _ _ _ _ h.r1,by rw[hw.block _ (by omega)];exact h.r3⟩
theorem ZR.two {f1:Bool} (h:ZR tO zO w S O cs co f1 false wr) (hS:w.heap.size+1<S∧w.heap.size+1<O):ZR tO zO w S O cs co f1 true (wr.setRow (w.heap.size+1) co):=by
 have hw:=Wr.setRow (w.heap.size+1) wr co;exact⟨h.bel.trans (hw.below (by omega)),by rw[hw.block _ (by omega)];exact h.s,by rw[hw.block _ (by omega)];exact h.o,by rw[hw.block _ (by omega)];exact h.r1,setRow_heap _ _ _ _ _ _ h.r3⟩
theorem Tryz.sizeSt:(Tryz.prog.info? 26).map (·.size)=some 4:=by kernel_rfl
theorem Tryz.sizeOp:(Tryz.prog.info? 28).map (·.size)=some 4:=by kernel_rfl
theorem results_so {fn:Func} {p u q:Tmp} (h:fn.results=#[.cell p 26,.tmp u,.cell q 28]) (tmps:Array Value) (w:World) (g g':Nat) (c0 c1 c2 c3 b0 b1 b2 b3:Value)
  (hp:tmps.getD p undef=.pointer (some ⟨g,0,none⟩)) (hq:tmps.getD q undef=.pointer (some ⟨g',0,none⟩)) (hg:w.heap[g]?=some (.cells #[c0,c1,c2,c3] 26 (0,0))) (hg':w.heap[g']?=some (.cells #[b0,b1,b2,b3] 28 (0,0))) :
  (results fn tmps).run Tryz.prog w=.ok (.tuple #[.agg #[c0,c1,c2,c3],tmps.getD u undef,.agg #[b0,b1,b2,b3]]) w:=by
 have hp':tmps[p]?.getD undef=.pointer (some ⟨g,0,none⟩):=by simpa using hp
 have hq':tmps[q]?.getD undef=.pointer (some ⟨g',0,none⟩):=by simpa using hq
 have h1:=run_loadVar_row (P:=Tryz.prog) w g 26 26 #[c0,c1,c2,c3] (0,0) _ hg Tryz.underlying26 rfl Tryz.sizeSt;have h2:=run_loadVar_row (P:=Tryz.prog) w g' 28 28 #[b0,b1,b2,b3] (0,0) _ hg' Tryz.underlying28 rfl Tryz.sizeOp;simp[results,h,hp',hq',asAddr,h1,h2]
end
set_option maxRecDepth 100000 in
set_option maxHeartbeats 8000000 in
theorem someOp_any (g:Nat) (x:Option Addr) (n cap:Nat) (q m c sg:Nat) (w:World) (hc:CurB w g x n cap) (ht:CurT w g x n) (hp:PoolI g w (.slice (some ⟨q,0,none⟩) m c) m) (hs0:1≤sg) (hs1:sg≤m) (hm:m≤16) :
  Calls Tryz.prog 18 #[.pointer (some ⟨g,0,none⟩),.slice (some ⟨q,0,none⟩) m c,.int .i64 sg] w (SomP w g x n cap):=by
 have HCT:=hdI ht;have HPO:=hdI hp;have HSZ:Hid ((Tryz.prog.info? 28).map (·.size)=some 4):=by show _=_;kernel_rfl
 have bR:=below_new w (.cells #[.int .i64 0,.slice none 0 0,.int .i64 0,.int .i64 0] 28);have HB:=hdI (below_any g x n cap 16 _ (hc.bel bR).1 (ht.wr (fun k hk=>bR.block k (Nat.lt_trans hk (hc.bel bR).2))) (by decide) (by decide));have hg:=(hc.bel bR).2;clear hc ht hp bR;go_enter Tryz.func18,Tryz.ntmps18;go_wp2_with fail;refine HB.out.mono ?_;rintro e w1 ⟨k,rfl,hk0,hk1,hc1,hw1⟩;have HN:=hdI (heap_alloc_new w1 (.cells #[.int .i64 0,.slice none 0 0,.int .i64 0,.int .i64 0] 28));have HO:=hdI (OpS.start hw1 hc1 hg);clear hw1 hc1 HB
 go_upto_if 13 with (first
  |(refine wpList_store_row rfl 28 (.tmp 8) (.tmp 11) rfl w1.heap.size #[.int .i64 0,.slice none 0 0,.int .i64 0,.int .i64 0] rfl rfl 28 _ HN.out HSZ.out rfl (by simp[Value.oneCell']) ?_)
  |fail)
 clear HN;generalize (w1.alloc (.cells #[.int .i64 0,.slice none 0 0,.int .i64 0,.int .i64 0] 28)).setRow w1.heap.size #[.int .i64 0,.slice none 0 0,.int .i64 0,.int .i64 0]=w2 at *;generalize w1.heap.size=S at *;by_cases hk7:k<7
 ·obtain⟨s0,_,_,_,fz⟩:=HO.out.cells;have f0:=fz 0;have HO1:=hdI (HO.out.put 0 (.int .i64 (1)) rfl HO.out.tx HO.out.nb);clear HO fz
  go_upto_region 5 with fail
  clear s0 f0;generalize w2.setCell ⟨S,0,none⟩ (.int .i64 1)=w3 at *;have HE:=hdI (Own.empty w3 w3.heap.size (Nat.le_refl _));have bE:=below_new w3 (.cells #[] 5);have HOE:=hdI (HO1.out.call bE);have HBW:=hdI (below_any g x n cap sg _ HOE.out.cb (HOE.out.ct HCT.out) (by omega) (by omega));have HLT:=hdI (Nat.lt_of_lt_of_le HOE.out.hg HO1.out.wg.size);go_wp2_with fail;refine HBW.out.mono ?_;rintro e w5 ⟨y,rfl,hy0,hy1,hcy,hwy⟩;obtain⟨j,rfl⟩:=Int.eq_ofNat_of_zero_le hy0;have HOY:=hdI (HOE.out.cur hcy hwy);obtain⟨q',c',e',h2,h3,h4,h5⟩:=HPO.out.wrG HOY.out.wg;cases e';obtain⟨u,ku,cu,hku,T⟩:=h5 j (by omega);obtain⟨bu,ou,cc,rfl⟩:∃ b o c,u=.slice (some ⟨b,o,none⟩) ku c:=by obtain⟨b,o,c,zs,cs,fr,h1,_⟩:=T;exact⟨b,o,c,h1⟩
  have HT:=hdI T;have HEY:=hdI (HE.out.keepE (fun k hk hk'=>hwy.block k (by have:=HLT.out;omega)));have HCY:=hdI hcy;have HWY:=hdI ((WrG.of_below bE).trans hwy.wrG);have hsy:=hdI (show w3.heap.size≤w5.heap.size by have:=hwy.size;have:=bE.size;omega);have hj':(j:Int)<m:=by omega
  clear h5 T h2 h3 h4 HE HBW HOE hcy hwy bE hy0;go_wp2_with (at_builtin;refine wpList_cpy rfl _ _ rfl w3.heap.size w3.heap.size (g+1) (.slice (some ⟨bu,ou,none⟩) ku cc) ku rfl HEY.out rfl HT.out hku hsy.out ?_);intro v6 w6 zs O6 l6 y6 b6;obtain⟨q6,c6,e6⟩:=O6.2;have HO6:=hdI (HO1.out.wrg (HCY.out.keepE (b6.block g HLT.out)) (HWY.out.bel b6));have HT6:=hdI ((TxB.of_own O6 l6 y6).mono HO1.out.wg.size);rw[l6] at e6;subst e6;obtain⟨_,s1,_,_,fz⟩:=HO6.out.cells;have f1:=fz 1;have HO7:=hdI (HO6.out.put 1 (.slice (some ⟨q6,0,none⟩) ku c6) rfl (.inr ⟨ku,hku,HT6.out⟩) HO6.out.nb);clear O6 b6 HEY HT HCY HWY hsy HOY HO1 HT6 cu fz HO6
  go_upto_region 6 with fail
  clear s1 f1;generalize w6.setCell ⟨S,1,none⟩ (.slice (some ⟨q6,0,none⟩) ku c6)=w7 at *;have HBW:=hdI (below_any g x n cap 80 _ HO7.out.cb (HO7.out.ct HCT.out) (by decide) (by decide));go_wp2_with fail;refine HBW.out.mono ?_;rintro e w8 ⟨y8,rfl,y80,y81,hc,hw⟩;have HO8:=hdI (HO7.out.cur hc hw);clear HO7 HBW hc hw;obtain⟨_,_,s2,_,fz⟩:=HO8.out.cells;have f2:=fz 2;have HO9:=hdI (HO8.out.put 2 (.int .i64 (y8)) rfl HO8.out.tx (by omega));clear HO8 fz
  go_upto_region 7 with fail
  clear s2 f2;generalize w8.setCell ⟨S,2,none⟩ (.int .i64 y8)=w9 at *;have HBW:=hdI (once_any g x n cap 4 _ HO9.out.cb (HO9.out.ct HCT.out) (by decide) (by decide));go_wp2_with fail;refine HBW.out.mono ?_;rintro e wa ⟨bo,rfl,hc,hw⟩;have HOA:=hdI (HO9.out.cur hc hw);clear HO9 HBW hc hw
  go_upto_if 28 with fail
  try dsimp only[Act.put]
  go_cut [] from 9 (fun ww=>∃ tv nw,OpS w g x n cap S 1 tv nw 0 ww)
  case first=>
   cases bo with
   |false=>
    go_wp2
    go_meet
    case rel=>exact⟨_,_,HOA.out⟩
   |true=>
    go_upto_region 8 with fail
    have HE:=hdI (Own.empty wa wa.heap.size (Nat.le_refl _));have bE:=below_new wa (.cells #[] 5);have HOE:=hdI (HOA.out.call bE);have HBW:=hdI (below_any g x n cap m _ HOE.out.cb (HOE.out.ct HCT.out) (by omega) (by omega));have HLT:=hdI (Nat.lt_of_lt_of_le HOE.out.hg HOA.out.wg.size);go_wp2_with fail;refine HBW.out.mono ?_;rintro e wb ⟨y,rfl,hy0,hy1,hcy,hwy⟩;obtain⟨j,rfl⟩:=Int.eq_ofNat_of_zero_le hy0;have HOY:=hdI (HOE.out.cur hcy hwy);obtain⟨q',c',e',h2,h3,h4,h5⟩:=HPO.out.wrG HOY.out.wg;cases e';obtain⟨u,ku,cu,hku,T⟩:=h5 j (by omega);obtain⟨bu,ou,cc,rfl⟩:∃ b o c,u=.slice (some ⟨b,o,none⟩) ku c:=by obtain⟨b,o,c,zs,cs,fr,h1,_⟩:=T;exact⟨b,o,c,h1⟩
    have HT:=hdI T;have HEY:=hdI (HE.out.keepE (fun k hk hk'=>hwy.block k (by have:=HLT.out;omega)));have HCY:=hdI hcy;have HWY:=hdI ((WrG.of_below bE).trans hwy.wrG);have hsy:=hdI (show wa.heap.size≤wb.heap.size by have:=hwy.size;have:=bE.size;omega);have hj':(j:Int)<m:=by omega
    clear h5 T h2 h3 h4 HE HBW HOE hcy hwy bE hy0;go_wp2_with (at_builtin;refine wpList_cpy rfl _ _ rfl wa.heap.size wa.heap.size (g+1) (.slice (some ⟨bu,ou,none⟩) ku cc) ku rfl HEY.out rfl HT.out hku hsy.out ?_);intro v6 w6 zs O6 l6 y6 b6;obtain⟨q6,c6,e6⟩:=O6.2;have HO6:=hdI (HOA.out.wrg (HCY.out.keepE (b6.block g HLT.out)) (HWY.out.bel b6));have HT6:=hdI ((TxB.of_own O6 l6 y6).mono HOA.out.wg.size);rw[l6] at e6;subst e6;obtain⟨_,s1,_,_,fz⟩:=HO6.out.cells;have f1:=fz 1;have HO7:=hdI (HO6.out.put 1 (.slice (some ⟨q6,0,none⟩) ku c6) rfl (.inr ⟨ku,hku,HT6.out⟩) HO6.out.nb);clear O6 b6 HEY HT HCY HWY hsy HOY HOA HT6 cu fz HO6;go_wp2
    go_meet
    case rel=>exact⟨_,_,HO7.out⟩
  case rest=>
   obtain⟨tv,nw,ho⟩:=hcut;obtain⟨ta,tn,tc,rfl⟩:=ho.tx.frm;have HOA:=hdI ho;clear ho;have HBW:=hdI (once_any g x n cap 20 _ HOA.out.cb (HOA.out.ct HCT.out) (by decide) (by decide));go_wp2_with fail;refine HBW.out.mono ?_;rintro e wd ⟨bo,rfl,hc,hw⟩;have HOD:=hdI (HOA.out.cur hc hw);clear HOA HBW hc hw
   go_upto_if 40 with fail
   try dsimp only[Act.put]
   go_cut [] from 9 (fun ww=>∃ tv nw,OpS w g x n cap S 1 tv nw 0 ww)
   case first=>
    cases bo with
    |false=>
     go_wp2
     go_meet
     case rel=>exact⟨_,_,HOD.out⟩
    |true=>
     have HBW:=hdI (below_any g x n cap 2 _ HOD.out.cb (HOD.out.ct HCT.out) (by decide) (by decide));go_wp2_with fail;refine HBW.out.mono ?_;rintro e we ⟨ye,rfl,ye0,ye1,hc,hw⟩;have HOE:=hdI (HOD.out.cur hc hw);clear HOD HBW hc hw;obtain⟨_,_,s2,_,fz⟩:=HOE.out.cells;have f2:=fz 2;have HOF:=hdI (HOE.out.put 2 (.int .i64 (-1+4294967297*ye)) rfl HOE.out.tx (by omega));clear HOE fz;go_wp2
     go_meet
     case rel=>exact⟨_,_,HOF.out⟩
   case rest=>
    obtain⟨tv,nw,ho⟩:=hcut;obtain⟨ta,tn,tc,rfl⟩:=ho.tx.frm;have HO:=hdI ho;clear ho;go_wp2_with (first
     |(refine wpList_load_row rfl 28 (.tmp 8) rfl S rfl 28 _ (0,0) _ HO.out.s Tryz.underlying28 rfl HSZ.out ?_)
     |(refine wpList_store_row rfl 28 (.tmp 6) (.tmp 46) rfl w.heap.size #[.int .i64 1,.slice ta tn tc,.int .i64 nw,.int .i64 0] rfl rfl 28 _ HO.out.bx HSZ.out rfl (by simp[Value.oneCell']) ?_)
     |fail)
    (try simp only[Exit.inBlock,Exit.then])
    exact bodyPost_ret (results_cell_row rfl _ _ w.heap.size 28 _ (0,0) _ rfl (setRow_heap _ _ _ _ _ _ HO.out.bx) Tryz.underlying28 rfl HSZ.out) rfl (HO.out.fin _)
 ·have HBW:=hdI (below_any g x n cap 8 _ HO.out.cb (HO.out.ct HCT.out) (by decide) (by decide));go_wp2_with fail;refine HBW.out.mono ?_;rintro e w3 ⟨y3,rfl,y30,y31,hc,hw⟩;have HO3:=hdI (HO.out.cur hc hw);clear HO HBW hc hw;obtain⟨_,_,_,s3,fz⟩:=HO3.out.cells;have f3:=fz 3;have HO4:=hdI (HO3.out.put 3 (.int .i64 (y3)) rfl HO3.out.tx (by omega));clear HO3 fz
  go_upto_if 51 with fail
  clear s3 f3;generalize w3.setCell ⟨S,3,none⟩ (.int .i64 y3)=w4 at *;try dsimp only[Act.put]
  go_cut [] from 9 (fun ww=>∃ nn,OpS w g x n cap S 0 (.slice none 0 0) 0 nn ww)
  case first=>
   by_cases h7:k=7
   ·subst h7;have HBW:=hdI (below_any g x n cap 300 _ HO4.out.cb (HO4.out.ct HCT.out) (by decide) (by decide));go_wp2_with fail;refine HBW.out.mono ?_;rintro e w5 ⟨y5,rfl,y50,y51,hc,hw⟩;have HO5:=hdI (HO4.out.cur hc hw);clear HO4 HBW hc hw;obtain⟨_,_,_,s3,fz⟩:=HO5.out.cells;have f3:=fz 3;have HO6:=hdI (HO5.out.put 3 (.int .i64 (y5-20)) rfl HO5.out.tx (by omega));clear HO5 fz;go_wp2
    go_meet
    case rel=>exact⟨_,HO6.out⟩
   ·have h7':(k == 7)=false:=by simp[h7]
    go_wp2
    go_meet
    case rel=>exact⟨_,HO4.out⟩
  case rest=>
   obtain⟨nn,ho⟩:=hcut;have HO5:=hdI ho;clear ho
   go_upto_if 57 with fail
   try dsimp only[Act.put]
   go_cut [] from 9 (fun ww=>∃ kd nn,OpS w g x n cap S kd (.slice none 0 0) 0 nn ww)
   case first=>
    by_cases h10:k<10
    ·obtain⟨s0,_,_,_,fz⟩:=HO5.out.cells;have f0:=fz 0;have HO6:=hdI (HO5.out.put 0 (.int .i64 (2)) rfl HO5.out.tx HO5.out.nb);clear HO5 fz;go_wp2
     go_meet
     case rel=>exact⟨_,_,HO6.out⟩
    ·by_cases h11:k=10
     ·have h11':(k == 10)=true:=by simp[h11]
      clear h11;obtain⟨s0,_,_,_,fz⟩:=HO5.out.cells;have f0:=fz 0;have HO6:=hdI (HO5.out.put 0 (.int .i64 (3)) rfl HO5.out.tx HO5.out.nb);clear HO5 fz;go_wp2
      go_meet
      case rel=>exact⟨_,_,HO6.out⟩
     ·have h11':(k == 10)=false:=by simp[h11]
      by_cases h14:k<14
      ·obtain⟨s0,_,_,_,fz⟩:=HO5.out.cells;have f0:=fz 0;have HO6:=hdI (HO5.out.put 0 (.int .i64 (4)) rfl HO5.out.tx HO5.out.nb);clear HO5 fz
       go_upto_region 21 with fail
       clear s0 f0;generalize World.setCell _ ⟨S,0,none⟩ (.int .i64 4)=w6 at *;have HBW:=hdI (below_any g x n cap 5 _ HO6.out.cb (HO6.out.ct HCT.out) (by decide) (by decide));go_wp2_with fail;refine HBW.out.mono ?_;rintro e w7 ⟨y7,rfl,y70,y71,hc,hw⟩;have HO7:=hdI (HO6.out.cur hc hw);clear HO6 HBW hc hw;obtain⟨_,_,_,s3,fz⟩:=HO7.out.cells;have f3:=fz 3;have HO8:=hdI (HO7.out.put 3 (.int .i64 (y7)) rfl HO7.out.tx (by omega));clear HO7 fz;go_wp2
       go_meet
       case rel=>exact⟨_,_,HO8.out⟩
      ·obtain⟨s0,_,_,_,fz⟩:=HO5.out.cells;have f0:=fz 0;have HO6:=hdI (HO5.out.put 0 (.int .i64 (5)) rfl HO5.out.tx HO5.out.nb);clear HO5 fz;go_wp2
       go_meet
       case rel=>exact⟨_,_,HO6.out⟩
   case rest=>
    obtain⟨kd,nn,ho⟩:=hcut;have HO:=hdI ho;clear ho;go_wp2_with (first
     |(refine wpList_load_row rfl 28 (.tmp 8) rfl S rfl 28 _ (0,0) _ HO.out.s Tryz.underlying28 rfl HSZ.out ?_)
     |(refine wpList_store_row rfl 28 (.tmp 6) (.tmp 69) rfl w.heap.size #[.int .i64 kd,.slice none 0 0,.int .i64 0,.int .i64 nn] rfl rfl 28 _ HO.out.bx HSZ.out rfl (by simp[Value.oneCell']) ?_)
     |fail)
    (try simp only[Exit.inBlock,Exit.then])
    exact bodyPost_ret (results_cell_row rfl _ _ w.heap.size 28 _ (0,0) _ rfl (setRow_heap _ _ _ _ _ _ HO.out.bx) Tryz.underlying28 rfl HSZ.out) rfl (HO.out.fin _)
theorem upTo_or (P Q:Nat→Bool) (a:Nat) (ha:P a=false) (hQ:∀ v,Q v=(P v || decide (v=a))) (k:Nat):(upTo Q k).length=(upTo P k).length+(if a<k then 1 else 0):=by
 induction k with
 |zero=>rfl
 |succ k ih=>
  rw[upTo_succ,upTo_succ];by_cases hk:a=k
  ·subst hk;rw[hQ,ha,if_pos (by simp),if_neg (by simp),List.length_append,ih,if_neg (Nat.lt_irrefl _),if_pos (Nat.lt_succ_self _)];simp
  ·have e:Q k=P k:=by rw[hQ,decide_eq_false (fun h=>hk h.symm)];simp
   rw[e];have e2:(if a<k+1 then 1 else 0)=(if a<k then 1 else 0):=by
    by_cases h:a<k
    ·rw[if_pos h,if_pos (by omega)]
    ·rw[if_neg h,if_neg (by omega)]
   rw[e2];split
   ·rw[List.length_append,List.length_append,ih];simp;omega
   ·exact ih
open Classical in
theorem withS_len {U:List Int} {a:Nat} (hU:SerP U) (ha:a<256) (hn:¬ (a:Int)∈U):(withS U a).length=U.length+1:=by
 have e:=SerP.eq_upTo hU (fun v=>decide ((v:Int)∈U)) (fun v _=>by simp);have:=upTo_or (fun v=>decide ((v:Int)∈U)) (fun v=>decide ((v:Int)∈U∨v=a)) a (decide_eq_false hn) (fun v=>by by_cases h1:(v:Int)∈U<;>by_cases h2:v=a<;>simp[h1,h2]) 256;rw[if_pos ha] at this;unfold withS;rw[this]
 conv=>rhs;rw[←e]
theorem mem_withS {U:List Int} {a:Nat} (hU:SerP U) {z:Int} (h:z∈U):z∈withS U a:=by
 obtain⟨h0,h1⟩:=hU.range h;obtain⟨v,rfl⟩:=Int.eq_ofNat_of_zero_le h0;exact(withS_mem (by omega)).1 (.inl h)
theorem apR_st {D U:List Int} {k:Int} {T:List Int} {n:Nat} {kind:Int} {a b:Nat} (h:StP D U k T n) (hT:T.length=n*2) (hb:b<4294967296) (ho:(apR D U k T n kind a b).ok=true) :
  StP (apR D U k T n kind a b).D (apR D U k T n kind a b).U (apR D U k T n kind a b).k (apR D U k T n kind a b).T (apR D U k T n kind a b).n∧(apR D U k T n kind a b).T.length=(apR D U k T n kind a b).n*2:=by
 obtain⟨sD,sU⟩:=apR_ser (k:=k) (T:=T) (n:=n) (kind:=kind) (a:=a) (b:=b) h.1 h.2.2.1;obtain⟨h1,h2,h3,h4,h5,h6⟩:=h;unfold apR at ho sD sU ⊢;by_cases k1:kind=1
 ·rw[if_pos k1] at ho sD sU ⊢;by_cases hc:a<256∧¬ (a:Int)∈U∧¬ (a:Int)∈D
  ·rw[if_pos hc] at sD sU ⊢;have hl:=withS_len h3 hc.1 hc.2.1;refine⟨⟨sD,h2,sU,h4,by show k+((n+1:Nat):Int)=((withS U a).length:Int);rw[hl];omega,fun i hi=>?_⟩,by show(T++_).length=(n+1)*2;rw[List.length_append,hT];simp;omega⟩;show tapI (withS U a) (T++[(a:Int),(b:Int)]) i
   have hgl:∀ j,j<n*2→(T++[(a:Int),(b:Int)]).getD j 0=T.getD j 0:=fun j hj=>by
    rw[List.getD,List.getD,List.getElem?_append_left (by omega)]
   by_cases hin:i<n
   ·obtain⟨t1,t2,t3⟩:=h6 i hin;refine⟨by rw[hgl _ (by omega)];exact mem_withS h3 t1,by rw[hgl _ (by omega)];exact t2,fun j hj=>?_⟩;rw[hgl _ (by omega),hgl _ (by omega)];exact t3 j hj
   ·obtain rfl:i=n:=by have:i<n+1:=hi;omega
    have e0:(T++[(a:Int),(b:Int)]).getD (i*2) 0=(a:Int):=by rw[List.getD,List.getElem?_append_right (by omega),hT,Nat.sub_self];rfl
    have e1:(T++[(a:Int),(b:Int)]).getD (i*2+1) 0=(b:Int):=by rw[List.getD,List.getElem?_append_right (by omega),hT,Nat.add_sub_cancel_left];rfl
    refine⟨by rw[e0];exact(withS_mem hc.1).1 (.inr rfl),by rw[e1];omega,fun j hj=>?_⟩;rw[hgl _ (by omega),e0];intro e;exact hc.2.1 (e ▸ (h6 j hj).1)
  ·rw[if_neg hc] at ho;cases ho
 ·rw[if_neg k1] at ho sD sU ⊢;by_cases k2:kind=2
  ·rw[if_pos k2] at ho sD sU ⊢;by_cases hc:b=1∧a<256∧¬ (a:Int)∈D∧¬ D.length=16
   ·rw[if_pos hc] at sD sU ⊢;have hl:=withS_len h1 hc.2.1 hc.2.2.1;exact⟨⟨sD,by show(withS D a).length≤16;rw[hl];omega,sU,h4,h5,h6⟩,hT⟩
   ·rw[if_neg hc] at ho sD sU ⊢;by_cases hc2:b=0∧a<256∧(a:Int)∈D
    ·rw[if_pos hc2] at sD sU ⊢;exact⟨⟨sD,Nat.le_trans (List.length_filter_le _ _) h2,sU,h4,h5,h6⟩,hT⟩
    ·rw[if_neg hc2] at ho;cases ho
  ·rw[if_neg k2] at ho sD sU ⊢;by_cases k3:kind=3
   ·rw[if_pos k3] at ho sD sU ⊢;by_cases hc:b=0∧(a:Int)≤k+n
    ·rw[if_pos hc] at sD sU ⊢;have hm:ackM k a≤n:=by unfold ackM;omega
     have hmk:(ackM k a:Int)=max (a:Int) k-k:=by unfold ackM;omega
     refine⟨⟨sD,h2,sU,by show 0≤max (a:Int) k;omega,by show max (a:Int) k+((n-ackM k a:Nat):Int)=(U.length:Int);rw[←h5,Int.ofNat_sub hm,hmk];generalize max (a:Int) k=mx;omega,fun i hi=>?_⟩,by show(T.drop _).length=(n-ackM k a)*2;rw[List.length_drop,hT];omega⟩;have hi':i<n-ackM k a:=hi;have e:∀ j,(T.drop (ackM k a*2)).getD j 0=T.getD (ackM k a*2+j) 0:=fun j=>by simp[List.getD]
     obtain⟨t1,t2,t3⟩:=h6 (ackM k a+i) (by omega);show tapI U (T.drop (ackM k a*2)) i
     unfold tapI;rw[e,e,show ackM k a*2+i*2=(ackM k a+i)*2 by omega,show ackM k a*2+(i*2+1)=(ackM k a+i)*2+1 by omega];refine⟨t1,t2,fun j hj=>?_⟩;rw[e,show ackM k a*2+j*2=(ackM k a+j)*2 by omega];exact t3 _ (by omega)
    ·rw[if_neg hc] at ho;cases ho
   ·rw[if_neg k3] at ho;cases ho
def BkP (H B g:Nat) (w:World) (r:SpR) (e:Ending) (w':World):Prop:=
 e=.returned (.int .i64 r.c)∧Below H w w'∧∃ d u v,Bk w' g d u r.k v∧SetB d (fun x=>(x:Int)∈r.D)∧SetB u (fun x=>(x:Int)∈r.U)∧TapV B w' v r.T r.n∧NeG g v
structure BkV (H B g:Nat) (w:World) (d u:List Int) (v:Value) (D U:List Int) (k:Int) (T:List Int) (n:Nat):Prop where
 bk:Bk w g d u k v
 sd:SetB d (fun x=>(x:Int)∈D)
 su:SetB u (fun x=>(x:Int)∈U)
 tv:TapV B w v T n
 ser:SerP D
 h0:0≤k
 h1:k≤1048576
 hn:n≤1048576
 hH:H≤g
 hHB:H≤B
 ne:NeG g v
 hBw:B≤w.heap.size
section
variable {H B g:Nat} {w w':World} {d u:List Int} {v:Value} {D U:List Int} {k:Int} {T:List Int} {n:Nat} {ks tk:List Int} {now N:Int}
theorem BkV.same (h:BkV H B g w d u v D U k T n) (c:Int):BkP H B g w ⟨c,D,U,k,T,n⟩ (.returned (.int .i64 c)) w:=⟨rfl,Below.refl _ _,d,u,v,h.bk,h.sd,h.su,h.tv,h.ne⟩
theorem BkV.drew (h:BkV H B g w d u v D U k T n) (q:Nat):BkV H B g (w.drewN q) d u v D U k T n:=⟨h.bk.drew q,h.sd,h.su,h.tv.drew q,h.ser,h.h0,h.h1,h.hn,h.hH,h.hHB,h.ne,h.hBw⟩
theorem BkV.below (h:BkV H B g w d u v D U k T n) (b:Below w.heap.size w w'):BkV H B g w' d u v D U k T n:=
 ⟨h.bk.below b h.bk.lt,h.sd,h.su,h.tv.block b.size (fun t _ ht=>b.block t ht),h.ser,h.h0,h.h1,h.hn,h.hH,h.hHB,h.ne,Nat.le_trans h.hBw b.size⟩
theorem BkP.from {r:SpR} {e:Ending} {w1:World} (h:BkP H B g w1 r e w') (b:Below H w w1):BkP H B g w r e w':=⟨h.1,b.trans h.2.1,h.2.2⟩
theorem opR_2:opR D U k T n ks 2 tk now N=if 0≤N∧N<256 then(if memB N D=true then ⟨9,D,U,k,T,n⟩ else if D.length=16 then ⟨10,D,U,k,T,n⟩ else ⟨9,withS D N.toNat,U,k,T,n⟩) else ⟨10,D,U,k,T,n⟩:=by unfold opR;rw[if_neg (by decide),if_pos rfl]
theorem opR_3:opR D U k T n ks 3 tk now N=if 0≤N∧N<256 then(if memB N D=true then ⟨9,lessS D N.toNat,U,k,T,n⟩ else ⟨9,D,U,k,T,n⟩) else ⟨10,D,U,k,T,n⟩:=by unfold opR;rw[if_neg (by decide),if_neg (by decide),if_pos rfl]
theorem opR_4:opR D U k T n ks 4 tk now N=if N<k then ⟨10,D,U,k,T,n⟩ else if k+(n:Int)<N then ⟨10,D,U,k,T,n⟩ else if N=k then ⟨9,D,U,k,T,n⟩ else ⟨9,D,U,N,T.drop ((N-k).toNat*2),n-(N-k).toNat⟩:=by unfold opR;rw[if_neg (by decide),if_neg (by decide),if_neg (by decide),if_pos rfl]
set_option maxRecDepth 100000 in
set_option maxHeartbeats 1000000 in
theorem dny_any (h:BkV H B g w d u v D U k T n) :
  Calls Tryz.prog 48 #[.pointer (some ⟨g,0,none⟩),.int .i64 N] w (BkP H B g w (opR D U k T n ks 2 tk now N)):=by
 have HB:=hid_ofS h;clear h;by_cases hs:0≤N∧N<256
 ·obtain⟨m,rfl⟩:∃ m:Nat,N=m:=⟨N.toNat,by omega⟩
  have hm:m<256:=by omega
  have HSO:=hdI <| ser_yes hm
  by_cases hin:memB (m:Int) D=true
  ·have HR:Hid (opR D U k T n ks 2 tk now (m:Int)=⟨9,D,U,k,T,n⟩):=by show _=_;rw[opR_2,if_pos hs,if_pos hin]
   have HQ:Hid (m<256∧(m:Int)∈D):=⟨hm,memB_of hin⟩
   clear hs hin;go_enter Tryz.func48,Tryz.ntmps48;go_wp2_with fail;refine(isSerial_any _ _).mono ?_;rintro e w1 ⟨rfl,e1⟩;obtain rfl:w=w1:=e1.symm;rw[HSO.out];go_wp2_with fail;refine(hasYes_any m HB.out.bk.batd HB.out.sd HQ.out).mono ?_;rintro e w1 ⟨rfl,e1⟩;obtain rfl:w=w1:=e1.symm;have HF:=hid_ofS (HB.out.same 9);clear HB HSO HQ;go_wp2
   go_ret
   rw[HR.out];exact HF.out
  ·have HQ:Hid (¬ (m<256∧(m:Int)∈D)):=fun h=>memB_not hin h.2
   by_cases h16:D.length=16
   ·have HR:Hid (opR D U k T n ks 2 tk now (m:Int)=⟨10,D,U,k,T,n⟩):=by show _=_;rw[opR_2,if_pos hs,if_neg hin,if_pos h16]
    have HP:=hdI <| decide_eq_true ((pop_len HB.out.sd HB.out.ser).trans h16)
    clear hs hin h16;go_enter Tryz.func48,Tryz.ntmps48;go_wp2_with fail;refine(isSerial_any _ _).mono ?_;rintro e w1 ⟨rfl,e1⟩;obtain rfl:w=w1:=e1.symm;rw[HSO.out];go_wp2_with fail;refine(hasNo_any m HB.out.bk.batd HB.out.sd HQ.out).mono ?_;rintro e w1 ⟨rfl,e1⟩;obtain rfl:w=w1:=e1.symm;go_wp2_with fail;refine(full_any HB.out.bk).mono ?_;rintro e w1 ⟨rfl,e1⟩;obtain rfl:w=w1:=e1.symm;rw[HP.out];have HF:=hid_ofS (HB.out.same 10);clear HB HSO HQ HP;go_wp2
    go_ret
    rw[HR.out];exact HF.out
   ·have HR:Hid (opR D U k T n ks 2 tk now (m:Int)=⟨9,withS D m,U,k,T,n⟩):=by show _=_;rw[opR_2,if_pos hs,if_neg hin,if_neg h16];rfl
    have HP:Hid (decide (popS d 32=16)=false):=decide_eq_false (fun h=>h16 ((pop_len HB.out.sd HB.out.ser).symm.trans h));have HF:∀ q,Hid (BkP H B g w ⟨9,withS D m,U,k,T,n⟩ (.returned (.int .i64 9)) ((w.setCell ⟨g,0+m/8,none⟩ (.int .u8 ((addB d m).getD (m/8) 0))).drewN q)):=fun q=>by
     have hw:Wr g w ((w.setCell ⟨g,0+m/8,none⟩ (.int .u8 ((addB d m).getD (m/8) 0))).drewN q):=((Wr.refl _ _).setCell _ _).drewN _;exact⟨rfl,hw.below HB.out.hH,_,_,_,(HB.out.bk.addD m hm).drew q,(HB.out.sd.add m hm).congr (fun x hx=>withS_mem hx),HB.out.su,HB.out.tv.wr hw HB.out.ne,HB.out.ne⟩
    clear hs hin h16;go_enter Tryz.func48,Tryz.ntmps48;go_wp2_with fail;refine(isSerial_any _ _).mono ?_;rintro e w1 ⟨rfl,e1⟩;obtain rfl:w=w1:=e1.symm;rw[HSO.out];go_wp2_with fail;refine(hasNo_any m HB.out.bk.batd HB.out.sd HQ.out).mono ?_;rintro e w1 ⟨rfl,e1⟩;obtain rfl:w=w1:=e1.symm;go_wp2_with fail;refine(full_any HB.out.bk).mono ?_;rintro e w1 ⟨rfl,e1⟩;obtain rfl:w=w1:=e1.symm;rw[HP.out];go_wp2_with fail;refine(addS_any g 0 m d _ hm HB.out.bk.batd).mono ?_;rintro e w4 ⟨rfl,q,rfl⟩;have H2:=HF q;clear HF HB HSO HQ HP;generalize (w.setCell ⟨g,0+m/8,none⟩ (.int .u8 ((addB d m).getD (m/8) 0))).drewN q=w4 at *;go_wp2
    go_ret
    rw[HR.out];exact H2.out
 ·have HR:Hid (opR D U k T n ks 2 tk now N=⟨10,D,U,k,T,n⟩):=by show _=_;rw[opR_2,if_neg hs]
  have HSO:Hid (serOk N=false):=decide_eq_false hs;clear hs;go_enter Tryz.func48,Tryz.ntmps48;go_wp2_with fail;refine(isSerial_any _ _).mono ?_;rintro e w1 ⟨rfl,e1⟩;obtain rfl:w=w1:=e1.symm;rw[HSO.out];have HF:=hid_ofS (HB.out.same 10);clear HB HSO;go_wp2
  go_ret
  rw[HR.out];exact HF.out
set_option maxRecDepth 100000 in
set_option maxHeartbeats 1000000 in
theorem alw_any (h:BkV H B g w d u v D U k T n) :
  Calls Tryz.prog 49 #[.pointer (some ⟨g,0,none⟩),.int .i64 N] w (BkP H B g w (opR D U k T n ks 3 tk now N)):=by
 have HB:=hid_ofS h;clear h;by_cases hs:0≤N∧N<256
 ·obtain⟨m,rfl⟩:∃ m:Nat,N=m:=⟨N.toNat,by omega⟩
  have hm:m<256:=by omega
  have HSO:Hid (serOk (m:Int)=true):=ser_yes hm;have HF:∀ q,Hid (BkP H B g w (opR D U k T n ks 3 tk now (m:Int)) (.returned (.int .i64 9)) ((w.setCell ⟨g,0+m/8,none⟩ (.int .u8 ((remB d m).getD (m/8) 0))).drewN q)):=fun q=>by
   have hw:Wr g w ((w.setCell ⟨g,0+m/8,none⟩ (.int .u8 ((remB d m).getD (m/8) 0))).drewN q):=((Wr.refl _ _).setCell _ _).drewN _;show BkP _ _ _ _ _ _ _
   by_cases hin:memB (m:Int) D=true
   ·rw[opR_3,if_pos hs,if_pos hin];exact⟨rfl,hw.below HB.out.hH,_,_,_,(HB.out.bk.remD m hm).drew q,(HB.out.sd.rem m hm).congr (fun x hx=>lessS_mem),HB.out.su,HB.out.tv.wr hw HB.out.ne,HB.out.ne⟩
   ·rw[opR_3,if_pos hs,if_neg hin];refine⟨rfl,hw.below HB.out.hH,_,_,_,(HB.out.bk.remD m hm).drew q,(HB.out.sd.rem m hm).congr (fun x hx=>⟨fun h=>h.1,fun h=>⟨h,fun e=>?_⟩⟩),HB.out.su,HB.out.tv.wr hw HB.out.ne,HB.out.ne⟩;subst e;exact memB_not hin h
  clear hs;go_enter Tryz.func49,Tryz.ntmps49;go_wp2_with fail;refine(isSerial_any _ _).mono ?_;rintro e w1 ⟨rfl,e1⟩;obtain rfl:w=w1:=e1.symm;rw[HSO.out];go_wp2_with fail;refine(remS_any g 0 m d _ hm HB.out.bk.batd).mono ?_;rintro e w4 ⟨rfl,q,rfl⟩;have H2:=HF q;clear HF HB HSO;generalize (w.setCell ⟨g,0+m/8,none⟩ (.int .u8 ((remB d m).getD (m/8) 0))).drewN q=w4 at *;go_wp2
  go_ret
  exact H2.out
 ·have HR:Hid (opR D U k T n ks 3 tk now N=⟨10,D,U,k,T,n⟩):=by show _=_;rw[opR_3,if_neg hs]
  have HSO:Hid (serOk N=false):=decide_eq_false hs;clear hs;go_enter Tryz.func49,Tryz.ntmps49;go_wp2_with fail;refine(isSerial_any _ _).mono ?_;rintro e w1 ⟨rfl,e1⟩;obtain rfl:w=w1:=e1.symm;rw[HSO.out];have HF:=hid_ofS (HB.out.same 10);clear HB HSO;go_wp2
  go_ret
  rw[HR.out];exact HF.out
set_option maxRecDepth 100000 in
set_option maxHeartbeats 1000000 in
theorem bak_any (h:BkV H B g w d u v D U k T n) :
  Calls Tryz.prog 50 #[.pointer (some ⟨g,0,none⟩),.int .i64 N] w (BkP H B g w (opR D U k T n ks 4 tk now N)):=by
 have HB:=hid_ofS h;obtain⟨ad,c,rfl⟩:=h.tv.slice;have c0:=h.bk.ck;have h0:=h.h0;have h1:=h.h1;have hn:=h.hn;clear h;by_cases hlo:N<k
 ·have HR:Hid (opR D U k T n ks 4 tk now N=⟨10,D,U,k,T,n⟩):=by show _=_;rw[opR_4,if_pos hlo]
  have HF:=hid_ofS (HB.out.same 10);clear HB;go_enter Tryz.func50,Tryz.ntmps50;go_wp2
  go_ret
  rw[HR.out];exact HF.out
 have HAD:=admitted_any ad n c HB.out.bk h0 h1 hn;by_cases hhi:k+(n:Int)<N
 ·have HR:Hid (opR D U k T n ks 4 tk now N=⟨10,D,U,k,T,n⟩):=by show _=_;rw[opR_4,if_neg hlo,if_pos hhi]
  go_enter Tryz.func50,Tryz.ntmps50;go_wp2_with fail;refine HAD.mono ?_;rintro e w1 ⟨rfl,q,rfl⟩;have HF:=hid_ofS (((HB.out.drew q).same 10).from (w:=w) (below_dq (Below.refl _ _) q));clear HB HAD c0;generalize w.drewN q=w1 at *;go_wp2
  go_ret
  rw[HR.out];exact HF.out
 ·obtain⟨m,rfl⟩:∃ m:Nat,N=k+m:=⟨(N-k).toNat,by omega⟩
  have HR:Hid (opR D U k T n ks 4 tk now (k+(m:Int))=⟨9,D,U,k+(m:Int),T.drop (m*2),n-m⟩):=by
   show _=_
   rw[opR_4,if_neg hlo,if_neg hhi];by_cases hm:k+(m:Int)=k
   ·have:m=0:=by omega
    subst this;rw[if_pos hm];simp
   ·rw[if_neg hm,show(k+(m:Int)-k).toNat=m by omega]
  go_enter Tryz.func50,Tryz.ntmps50;go_wp2_with fail;refine HAD.mono ?_;rintro e w1 ⟨rfl,q,rfl⟩;have HB1:=hid_ofS (HB.out.drew q);have HW1:Hid (Below H w (w.drewN q)):=below_dq (Below.refl _ _) q;clear HB HAD c0;generalize w.drewN q=w1 at *;go_wp2_with fail;refine(ack_any m HB1.out.bk HB1.out.tv h0 h1 (by omega) hn HB1.out.hH HB1.out.ne).mono ?_;rintro e w2 ⟨rfl,hb2,v',r1,r2,r3⟩;have HF:Hid (BkP H B g w ⟨9,D,U,k+(m:Int),T.drop (m*2),n-m⟩ (.returned (.int .i64 9)) w2):=⟨rfl,HW1.out.trans hb2,_,_,_,r1,HB1.out.sd,HB1.out.su,r2,r3⟩
  clear hb2 r1 r2 r3 HB1 HW1;go_wp2
  go_ret
  rw[HR.out];exact HF.out
end
end Go.Proofs.YtncomnkdlpoelaaGreatDoor
namespace Go.Proofs.YtncomnkdlpoelaaGreatDoor
open Go.ChangeShapes Go.WideShapes Go.ChangeAt Go.RowKit
set_option linter.unusedVariables false
variable {w w':World} {g:Nat} {d u:List Int} {k:Int} {v:Value} {D U:Nat→Prop} {T:List Int} {n H B:Nat}
set_option maxRecDepth 100000 in
set_option maxHeartbeats 1000000 in
theorem applyAck_any (a:Int) (a0:0≤a) (a1:a≤4294967295) (hb:Bk w g d u k v) (hd:SetB d D) (hu:SetB u U) (hv:TapV B w v T n) (h0:0≤k) (h1:k≤1048576) (hn:n≤1048576) (hH:H≤g) (hgB:NeG g v) :
  Calls Tryz.prog 54 #[.pointer (some ⟨g,0,none⟩),.int .i64 a] w (ApP H B g w (decide (a≤k+n)) D U (max a k) (T.drop (ackM k a*2)) (n-ackM k a)):=by
 obtain⟨ad,c,rfl⟩:=hv.slice;have HB:=hdI <| hb
 have HV:=hdI <| hv
 have HSD:=hdI <| hd
 have HSU:=hdI <| hu
 clear hb hv hd hu;go_enter Tryz.func54,Tryz.ntmps54;go_wp2_with fail;refine(admitted_any ad n c HB.out h0 h1 hn).mono ?_;rintro e w1 ⟨rfl,q,rfl⟩;have HB1:=hdI <| HB.out.drew q
 have HV1:=hdI <| HV.out.drew q
 have HW1:Hid (Below H w (w.drewN q)):=below_dq (Below.refl _ _) q;clear HB HV;generalize w.drewN q=w1 at *;by_cases hle:a≤k+n
 ·have HD:=hdI <| decide_eq_true hle
  have hle':¬ (a>k+n):=by omega
  have c0:=HB1.out.ck;have f0:=HB1.out.fz 64;have HC:Hid (∀(e:Ending) (w2:World),(e=.returned (.tuple #[])∧Below H w1 w2∧∃ v',Bk w2 g d u (k+ackM k a) v'∧TapV B w2 v' (T.drop (ackM k a*2)) (n-ackM k a)∧NeG g v')→ApP H B g w (decide (a≤k+n)) D U (max a k) (T.drop (ackM k a*2)) (n-ackM k a) (.returned (.bool true)) w2):=by
   rintro e w2 ⟨rfl,r1,v',r2,r3,r4⟩;refine⟨by rw[HD.out],HW1.out.trans r1,fun _=>⟨d,u,v',?_,HSD.out,HSU.out,r3,r4⟩⟩;have e:k+(ackM k a:Int)=max a k:=by unfold ackM;omega
   rw[←e];exact r2
  have CA:=ack_any (ackM k a) HB1.out HV1.out h0 h1 (by unfold ackM;omega) hn hH hgB;by_cases hka:k≤a
  ·have e:k+(ackM k a:Int)=a:=by unfold ackM;omega
   rw[e] at CA;clear e;go_wp2_with fail;refine CA.mono ?_;intro e w2 h;have HF:=HC.out e w2 (by have e':k+(ackM k a:Int)=a:=by unfold ackM;omega
                                                                                                rw[e'];exact h)
   obtain⟨rfl,_⟩:=h;have HF':Hid _:=HF;clear HF HC CA HB1 HV1 HW1 HSD HSU c0 f0;go_wp2
   go_ret
   exact HF'.out
  ·have e:k+(ackM k a:Int)=k:=by unfold ackM;omega
   rw[e] at CA;clear e;go_wp2_with fail;refine CA.mono ?_;intro e w2 h;have HF:=HC.out e w2 (by have e':k+(ackM k a:Int)=k:=by unfold ackM;omega
                                                                                                rw[e'];exact h)
   obtain⟨rfl,_⟩:=h;have HF':Hid _:=HF;clear HF HC CA HB1 HV1 HW1 HSD HSU c0 f0;go_wp2
   go_ret
   exact HF'.out
 ·have HD:Hid (decide (a≤k+n)=false):=decide_eq_false hle;have hle':a>k+n:=by omega
  have HF:Hid (ApP H B g w (decide (a≤k+n)) D U (max a k) (T.drop (ackM k a*2)) (n-ackM k a) (.returned (.bool false)) w1):=⟨by rw[HD.out],HW1.out,fun h=>by rw[HD.out] at h;cases h⟩
  clear HB1 HV1 HSD HSU;go_wp2
  go_ret
  exact HF.out
end Go.Proofs.YtncomnkdlpoelaaGreatDoor
