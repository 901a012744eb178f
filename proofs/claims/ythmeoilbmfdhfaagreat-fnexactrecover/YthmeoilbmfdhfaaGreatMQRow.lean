import Derived.Test.YthmeoilbmfdhfaaGreatMLlB
import Derived.Test.YthmeoilbmfdhfaaGreatMEqSn
import Derived.Test.YthmeoilbmfdhfaaGreatMSvP
import Derived.Test.YthmeoilbmfdhfaaGreatMCatF
import Derived.Test.YthmeoilbmfdhfaaGreatMReg
namespace Go.Proofs.YthmeoilbmfdhfaaGreat
open Go.ChangeShapes Go.WideShapes Go.ChangeAt Go.RowKit
set_option linter.unusedVariables false
structure Q1 where
 s:Int
 a:Option Addr
 c:Nat
 z:List Int
def qcells (qs:List Q1):List Value:=qs.flatMap fun q=>[.int .i64 q.s,.slice q.a q.z.length q.c]
def qps (qs:List Q1):List PD:=qs.map fun q=>(q.s,q.z)
theorem qcells_len (qs:List Q1):(qcells qs).length=qs.length*2:=by
 induction qs with
 |nil=>rfl
 |cons q qs ih=>unfold qcells at *;rw[List.flatMap_cons,List.length_append,ih];simp;omega
theorem qcells_snoc (qs:List Q1) (q:Q1):qcells (qs++[q])=qcells qs++[.int .i64 q.s,.slice q.a q.z.length q.c]:=by simp[qcells]
theorem qcells_get (qs:List Q1) (i:Nat) (q:Q1) (h:qs[i]?=some q):(qcells qs)[i*2]?=some (.int .i64 q.s)∧(qcells qs)[i*2+1]?=some (.slice q.a q.z.length q.c):=by
 induction qs generalizing i with
 |nil=>simp at h
 |cons p qs ih=>
  unfold qcells at *;rw[List.flatMap_cons];cases i with
  |zero=>simp at h;subst h;exact⟨rfl,rfl⟩
  |succ i=>
   have h':qs[i]?=some q:=by simpa using h
   obtain⟨h1,h2⟩:=ih i h';constructor
   ·rw[show(i+1)*2=i*2+2 by omega,List.getElem?_append_right (by simp)];simpa using h1
   ·rw[show(i+1)*2+1=i*2+1+2 by omega,List.getElem?_append_right (by simp)];simpa using h2
def Q1.v (q:Q1):Value:=.slice q.a q.z.length q.c
theorem OwnN.lt {w:World} {B:Nat} {v:Value} {z:List Int} (h:OwnN w B v z):∀ k,v.ownBlock=some k→B≤k∧k<w.heap.size∧∃ cur,w.heap[k]?=some (.cells cur 5 (0,0)):=by
 intro k e;rcases h with⟨rfl,_⟩|h
 ·cases e
 ·obtain⟨⟨h1,⟨h2,_⟩|⟨g,cap,cur,h2,hb,hh,_⟩⟩,_⟩:=h
  ·rw[h2] at e;cases e
  ·rw[h2] at e;cases e;exact⟨hb,(Array.getElem?_eq_some_iff.1 hh).1,cur,hh⟩
theorem ownsRow_keep {w w':World} {B:Nat} {e:TypeId} {sz:Nat} {v:Value} {n:Nat} {xs:List Value} (h:w.ownsRow B e sz v n xs) (hk:∀ k,v.ownBlock=some k→w'.heap[k]?=w.heap[k]?):w'.ownsRow B e sz v n xs:=by
 obtain⟨h1,h2|⟨g,cap,cur,h2,hb,hh,h3,h4,h5,h6⟩⟩:=h
 ·exact⟨h1,.inl h2⟩
 ·exact⟨h1,.inr ⟨g,cap,cur,h2,hb,by rw[hk g (by rw[h2];rfl)];exact hh,h3,h4,h5,h6⟩⟩
theorem ownsRow_lt {w:World} {B:Nat} {e:TypeId} {sz:Nat} {v:Value} {n:Nat} {xs:List Value} (h:w.ownsRow B e sz v n xs):∀ k,v.ownBlock=some k→B≤k∧k<w.heap.size∧∃ cur,w.heap[k]?=some (.cells cur e (0,0)):=by
 intro k hk;obtain⟨h1,⟨h2,_⟩|⟨g,cap,cur,h2,hb,hh,h3,h4,h5,h6⟩⟩:=h
 ·rw[h2] at hk;cases hk
 ·rw[h2] at hk;cases hk;exact⟨hb,(Array.getElem?_eq_some_iff.1 hh).1,cur,hh⟩
theorem ownsRow_mono {w:World} {B B':Nat} {e:TypeId} {sz:Nat} {v:Value} {n:Nat} {xs:List Value} (h:w.ownsRow B e sz v n xs) (hB:B'≤B):w.ownsRow B' e sz v n xs:=by
 obtain⟨h1,h2|⟨g,cap,cur,h2,hb,hh,h3,h4,h5,h6⟩⟩:=h
 ·exact⟨h1,.inl h2⟩
 ·exact⟨h1,.inr ⟨g,cap,cur,h2,by omega,hh,h3,h4,h5,h6⟩⟩
theorem Own.keep {w w':World} {B:Nat} {v:Value} {zs:List Int} (h:Own w B v zs) (hk:∀ k,v.ownBlock=some k→w'.heap[k]?=w.heap[k]?):Own w' B v zs:=⟨ownsRow_keep h.1 hk,h.2⟩
theorem Own.mono {w:World} {B B':Nat} {v:Value} {zs:List Int} (h:Own w B v zs) (hB:B'≤B):Own w B' v zs:=⟨ownsRow_mono h.1 hB,h.2⟩
theorem OwnN.keep {w w':World} {B:Nat} {v:Value} {zs:List Int} (h:OwnN w B v zs) (hk:∀ k,v.ownBlock=some k→w'.heap[k]?=w.heap[k]?):OwnN w' B v zs:=by
 rcases h with h|h
 ·exact .inl h
 ·exact .inr (h.keep hk)
theorem OwnN.mono {w:World} {B B':Nat} {v:Value} {zs:List Int} (h:OwnN w B v zs) (hB:B'≤B):OwnN w B' v zs:=by
 rcases h with h|h
 ·exact .inl h
 ·exact .inr (h.mono hB)
def QOk (w:World) (B:Nat) (q:Q1):Prop:=OwnN w B q.v q.z∨∃ k,q.v=.slice (some ⟨k,0,none⟩) 64 64∧B≤k∧q.z.length=64∧Row w k 122 q.z
theorem QOk.lt {w:World} {B:Nat} {q:Q1} (h:QOk w B q):∀ k,q.v.ownBlock=some k→B≤k∧k<w.heap.size∧∃ cur t,w.heap[k]?=some (.cells cur t (0,0))∧t≠106∧t≠40:=by
 intro k e;rcases h with h|⟨k',hv,hb,hl,hr⟩
 ·obtain⟨h1,h2,cur,h3⟩:=h.lt k e;exact⟨h1,h2,cur,_,h3,by decide,by decide⟩
 ·rw[hv] at e;cases e;exact⟨hb,hr.lt,_,_,hr,by decide,by decide⟩
theorem QOk.keep {w w':World} {B:Nat} {q:Q1} (h:QOk w B q) (hk:∀ k,q.v.ownBlock=some k→w'.heap[k]?=w.heap[k]?):QOk w' B q:=by
 rcases h with h|⟨k',hv,hb,hl,hr⟩
 ·exact .inl (h.keep hk)
 ·exact .inr ⟨k',hv,hb,hl,by unfold Row;rw[hk k' (by rw[hv];rfl)];exact hr⟩
theorem QOk.mono {w:World} {B B':Nat} {q:Q1} (h:QOk w B q) (hB:B'≤B):QOk w B' q:=by
 rcases h with h|⟨k',hv,hb,hl,hr⟩
 ·exact .inl (h.mono hB)
 ·exact .inr ⟨k',hv,by omega,hl,hr⟩
structure POwn (w:World) (B:Nat) (v:Value) (qs:List Q1):Prop where
 row:w.ownsRow B 106 2 v qs.length (qcells qs)
 each:∀(i:Nat) (q:Q1),qs[i]?=some q→QOk w B q
 ord:∀(i j:Nat) (q q':Q1) (k k':Nat),qs[i]?=some q→qs[j]?=some q'→i<j→q.v.ownBlock=some k→q'.v.ownBlock=some k'→k<k'
theorem POwn.nil (w:World) (B:Nat):POwn w B (.slice none 0 0) []:=⟨⟨rfl,.inl ⟨rfl,rfl⟩⟩,fun i q h=>by simp at h,fun i j q q' ad ad' h=>by simp at h⟩
theorem POwn.below {w w':World} {B:Nat} {v:Value} {qs:List Q1} (h:POwn w B v qs) (hb:Below w.heap.size w w'):POwn w' B v qs:=
 ⟨ownsRow_keep h.row (fun k hk=>hb.block k (ownsRow_lt h.row k hk).2.1),fun i q hq=>(h.each i q hq).keep (fun k hk=>hb.block k ((h.each i q hq).lt k hk).2.1),h.ord⟩
theorem POwn.keep {w w':World} {B:Nat} {v:Value} {qs:List Q1} (h:POwn w B v qs) (hk:∀ k,B≤k→k<w.heap.size→w'.heap[k]?=w.heap[k]?):POwn w' B v qs:=
 ⟨ownsRow_keep h.row (fun k e=>hk k (ownsRow_lt h.row k e).1 (ownsRow_lt h.row k e).2.1),fun i q hq=>(h.each i q hq).keep (fun k e=>hk k ((h.each i q hq).lt k e).1 ((h.each i q hq).lt k e).2.1),h.ord⟩
theorem POwn.mine {w:World} {B:Nat} {v:Value} {qs:List Q1} (h:POwn w B v qs):∃ a c,v=.slice a qs.length c∧PMine B w.heap.size w a (qps qs):=by
 obtain⟨h1,⟨h2,h3⟩|⟨g,cap,cur,h2,hb,hh,hc,hm,hs,ht⟩⟩:=h.row
 ·exact⟨none,0,by rw[h2,h3],.inl (by rw[List.eq_nil_of_length_eq_zero h3];rfl)⟩
 ·refine⟨_,cap,h2,?_⟩;have hlt:=(Array.getElem?_eq_some_iff.1 hh).1;refine .inr ⟨g,0,fun i=>(qs.getD i ⟨0,none,0,[]⟩).a,fun i=>(qs.getD i ⟨0,none,0,[]⟩).c,rfl,hb,hlt,Nat.le_refl _,fun i hi=>?_,fun i j ad ad' hi hj hij e e'=>?_⟩
  ·have hi':i<qs.length:=by simpa[qps] using hi
   have hq:qs[i]?=some qs[i]:=List.getElem?_eq_getElem hi';have hd:qs.getD i ⟨0,none,0,[]⟩=qs[i]:=by rw[List.getD_eq_getElem?_getD,hq];rfl
   have hp:(qps qs).getD i (0,[])=(qs[i].s,qs[i].z):=by simp[qps,List.getD,hq]
   obtain⟨c1,c2⟩:=qcells_get qs i _ hq;have hcell:∀ t x,(qcells qs)[t]?=some x→w.cell? ⟨g,0+t,none⟩=some x:=fun t x hx=>by
    have htl:t<qs.length*2:=by have:=(List.getElem?_eq_some_iff.1 hx).1;rw[qcells_len] at this;exact this
    rw[cell_of_row w g (0+t) cur _ (0,0) hh,Nat.zero_add];have:(cur.toList.take (qs.length*2))[t]?=(qcells qs)[t]?:=by rw[ht]
    rw[List.getElem?_take_of_lt htl,hx] at this;simpa using this
   have hE:=h.each i _ hq;dsimp only;rw[hd,hp];refine⟨hcell _ _ c1,frozen_of_row w g _ cur _ hh,by rw[Nat.add_assoc];exact hcell _ _ c2,?_,?_,fun ad e=>?_,?_⟩
   ·rcases hE with (⟨_,h0⟩|hO)|⟨k',hv,hb',hl,hr⟩
    ·exact .inl h0
    ·obtain⟨g',c',hv,_,_,_,hA,_⟩:=hO.at_;have:qs[i].a=some ⟨g',0,none⟩:=by unfold Q1.v at hv;simp at hv;exact hv.1
     rw[this];exact hA
    ·have:qs[i].a=some ⟨k',0,none⟩:=by unfold Q1.v at hv;simp at hv;exact hv.1
     rw[this];exact hr.at_
   ·rcases hE with (⟨_,h0⟩|hO)|⟨k',hv,hb',hl,hr⟩
    ·exact .inl (by rw[h0];rfl)
    ·obtain⟨g',c',hv,_,_,_,_,hA⟩:=hO.at_;have:qs[i].a=some ⟨g',0,none⟩:=by unfold Q1.v at hv;simp at hv;exact hv.1
     rw[this];exact hA
    ·have:qs[i].a=some ⟨k',0,none⟩:=by unfold Q1.v at hv;simp at hv;exact hv.1
     rw[this];exact hr.open_
   ·obtain⟨l1,l2,cur',t',l3,l4,_⟩:=hE.lt ad.block (by unfold Q1.v;rw[e];rfl);refine⟨l1,l2,fun eg=>?_⟩;rw[eg,hh] at l3;simp at l3;exact l4 l3.2.symm
   ·rcases hE with (⟨hv,h0⟩|hO)|⟨k',hv,hb',hl,hr⟩
    ·rw[h0];exact Nat.zero_le _
    ·obtain⟨g',c',hv,_,_,hle,_,_⟩:=hO.at_;have:qs[i].c=c':=by unfold Q1.v at hv;simp at hv;exact hv.2
     rw[this];exact hle
    ·have:qs[i].c=64:=by unfold Q1.v at hv;simp at hv;exact hv.2.2
     rw[this,hl];exact Nat.le_refl _
  ·have hi':i<qs.length:=by simpa[qps] using hi
   have hj':j<qs.length:=by simpa[qps] using hj
   have hd:∀ t (ht:t<qs.length),qs.getD t ⟨0,none,0,[]⟩=qs[t]:=fun t ht=>by rw[List.getD_eq_getElem?_getD,List.getElem?_eq_getElem ht];rfl
   simp only[hd i hi',hd j hj'] at e e';rcases Nat.lt_or_ge i j with hlt'|hge
   ·have:=h.ord i j _ _ ad.block ad'.block (List.getElem?_eq_getElem hi') (List.getElem?_eq_getElem hj') hlt' (by unfold Q1.v;rw[e];rfl) (by unfold Q1.v;rw[e'];rfl);omega
   ·have:=h.ord j i _ _ ad'.block ad.block (List.getElem?_eq_getElem hj') (List.getElem?_eq_getElem hi') (by omega) (by unfold Q1.v;rw[e'];rfl) (by unfold Q1.v;rw[e];rfl);omega
theorem all4e (a a':Option Addr) (l l' c c':Nat) (f:Int) (d:Bool):(#[Value.slice a l c,.slice a' l' c',.int .i64 f,.bool d].all (fun v=>v.oneCell'))=true:=by simp[Value.oneCell']
theorem Tryz.sizeDv:(Tryz.prog.info? 40).map (·.size)=some 4:=by kernel_rfl
theorem PMine.entry {B U:Nat} {w:World} {a:Option Addr} {ps:List PD} (h:PMine B U w a ps) {i:Nat} (hi:i<ps.length) (hz:0<(ps.getD i (0,[])).2.length) :
  ∃ b off b' off' c,a=some ⟨b,off,none⟩∧b<w.heap.size∧w.cell? ⟨b,off+i*2,none⟩=some (.int .i64 (ps.getD i (0,[])).1)∧
   w.cell? ⟨b,off+i*2+1,none⟩=some (.slice (some ⟨b',off',none⟩) (ps.getD i (0,[])).2.length c)∧(ps.getD i (0,[])).2.length≤c∧At .u8 w (some ⟨b',off',none⟩) (ps.getD i (0,[])).2:=by
 rcases h with h|⟨g,o,X,C,ha,hB,hg,hU,h1,h2⟩
 ·subst h;simp at hi
 ·obtain⟨p1,p2,p3,p4,p5,p6,p7⟩:=h1 i hi;obtain⟨b',off',e,_,_⟩:=p4.get hz;rw[e] at p3 p4;exact⟨g,o,b',off',C i,ha,by omega,p1,p3,p7,p4⟩
def GS (D g n c s S B:Nat) (zs z:List Int):Nat→World→(Nat→Value)→Prop
 |0,_,u=>u 0=.pointer (some ⟨D,0,none⟩)
 |1,_,u=>u 1=.pointer (some ⟨D,0,none⟩)
 |2,_,u=>u 2=.pointer (some ⟨D,0,none⟩)
 |3,_,u=>u 3=.slice (some ⟨g,0,none⟩) n c
 |4,_,u=>u 4=.int .i64 s
 |5,_,u=>u 5=.int .i64 ((s*64:Nat):Int)
 |6,_,u=>u 6=.slice (some ⟨g,s*64,none⟩) (n-s*64) (c-s*64)
 |7,_,u=>u 7=.slice (some ⟨S,0,none⟩) 64 64
 |_,w,_=>Own w B (.slice (some ⟨g,0,none⟩) n c) (overL zs s z)
structure XS (w w':World) (g n c s B:Nat) (zs z:List Int):Prop where
 ch:Ch g (g+1) w w'
 own:∃ y,Own w' B (.slice (some ⟨g,0,none⟩) n c) y∧y.length=n∧y.take (s*64)=zs.take (s*64)∧y.drop (s*64+64)=zs.drop (s*64+64)
 z:Row w' w.heap.size 122 z
set_option maxHeartbeats 1000000 in
set_option maxRecDepth 100000 in
theorem store_any (D:Nat) (g n c:Nat) (x:Option Addr) (m cx:Nat) (f:Int) (dd:Bool) (s:Nat) (B:Nat) (zs z:List Int) (w:World) {X:List Value} {T:TypeId} (hD:w.heap[D]?=some (.cells (List.toArray (.slice (some ⟨g,0,none⟩) n c::.slice x m cx::.int .i64 f::.bool dd::X)) T (0,0)))
  (hO:Own w B (.slice (some ⟨g,0,none⟩) n c) zs) (hn:zs.length=n) (hn2:n≤1048576) (hz:z.length=64) (hs:s*64+64≤n) (hT:T≠5:=by decide) :
  Calls Tryz.prog 150 #[.pointer (some ⟨D,0,none⟩),.int .i64 s,secV z] w fun e w'=>e=.returned (.tuple #[])∧Own w' B (.slice (some ⟨g,0,none⟩) n c) (overL zs s z)∧Ch g (g+1) w w':=by
 have c0:w.cell? ⟨D,0,none⟩=some (.slice (some ⟨g,0,none⟩) n c):=by rw[cell_of_row w D 0 _ _ _ hD];rfl
 have hDl:D<w.heap.size:=(Array.getElem?_eq_some_iff.1 hD).1;obtain⟨gg,cc,ee,hBg,hgl,hnc⟩:=hO.base;rw[hn] at ee hnc;cases ee;have hDg:D≠g:=by
  intro e;subst e;obtain⟨h1,⟨h2,_⟩|⟨g',cap,cur,hv,hb,hh,_⟩⟩:=hO.1
  ·cases h2
  ·cases hv;rw[hD] at hh;simp at hh;exact hT hh.2
 have HO:Hid _:=hO;have HZ:Hid _:=hz;have HN:Hid _:=hn;have hcs:¬ (c=s*64):=by omega
 clear hD hO hz hn;unfold secV;have t1:(s:Int)*64≤n:=by omega
 go_enter Tryz.func150,Tryz.ntmps150;go_wp2_with fail;have hb1:=(Below.refl w.heap.size w).alloc (Nat.le_refl _) (.cells (z.map (Value.int .u8)).toArray 122);have st0:XS w (w.alloc (.cells (z.map (Value.int .u8)).toArray 122)) g n c s B zs z:=⟨Ch.of_below hb1,⟨zs,(show Own _ _ _ _ from HO.out).alloc _,HN.out,rfl,rfl⟩,heap_alloc_new w _⟩
 clear hb1;generalize (w.alloc (.cells (z.map (Value.int .u8)).toArray 122))=w1 at *;refine wp_region_any (by kernel_rfl) ?_;refine wpAny_slots2 (frame:=fun t=>{ tmps:=#[Value.pointer (some { block:=D,off:=0 }),Value.int IntKind.i64 ↑s,Value.agg (List.map (Value.int IntKind.u8) z).toArray,undef,undef,Value.pointer (some { block:=w.heap.size,off:=0 }),t 0,t 1,t 2,t 3,t 4,t 5,t 6,t 7,t 8],defers:=[] })
  (Ext:=fun w'=>XS w w' g n c s B zs z) (Good:=GS D g n c s w.heap.size B zs z) (M:=fun i w w'=>i≠8→w'=w) ?hstab (by kernel_rfl) ?hop ?hdone _ _ (fun _=>undef) _ (by simp) ?ext ?start ?clo (by simp)
 case start=>intro i hi h;exact absurd h (by rw[Array.getD_eq_getD_getElem?,Array.getElem?_replicate];split<;>simp)
 case clo=>intro i o ho h;exact absurd h (by rw[Array.getD_eq_getD_getElem?,Array.getElem?_replicate];split<;>simp)
 case ext=>exact⟨⟨st0.ch.os,st0.ch.tape,st0.ch.output,st0.ch.size,st0.ch.block⟩,st0.own,st0.z⟩
 case hstab=>
  intro j o w1 w2 u i v ho hM hij _ hg;have hj:j<9:=(Array.getElem?_eq_some_iff.1 ho).1;obtain rfl|rfl|rfl|rfl|rfl|rfl|rfl|rfl|rfl:j=0∨j=1∨j=2∨j=3∨j=4∨j=5∨j=6∨j=7∨j=8:=by omega
  all_goals simp only[GS] at hg ⊢
  all_goals first
   |(rw[upd_ne2 hij];exact hg)
   |(rw[hM hij];exact hg)
 case hdone=>
  intro t w2 hx hg;have h8:Own w2 B (.slice (some ⟨g,0,none⟩) n c) (overL zs s z):=hg 8 (by decide);have H8:Hid _:=h8;have HC:Hid _:=hx.ch;clear hg hx h8;go_wp2
  go_end0
  exact⟨rfl,H8.out,HC.out⟩
 case hop=>
  intro i o t w' ho hx hdep K hK;have hi:i<9:=(Array.getElem?_eq_some_iff.1 ho).1;have k0:w'.cell? ⟨D,0,none⟩=some (.slice (some ⟨g,0,none⟩) n c):=by
   rw[World.cell?_of_block (a:=⟨D,0,none⟩) (w:=w) (hx.ch.block D hDl (by omega))];exact c0
  obtain rfl|rfl|rfl|rfl|rfl|rfl|rfl|rfl|rfl:i=0∨i=1∨i=2∨i=3∨i=4∨i=5∨i=6∨i=7∨i=8:=by omega
  all_goals(simp at ho;subst ho)
  ·clear hdep;go_simp;exact hK w' _ rfl hx (fun _=>rfl)
  ·have d:t 0=_:=hdep ⟨0,.data⟩ (by simp) rfl;clear hdep;go_simp;simpa[upd,d] using hK w' (.pointer (some ⟨D,0,none⟩)) rfl hx (fun _=>rfl)
  ·have d:t 1=_:=hdep ⟨1,.data⟩ (by simp) rfl;clear hdep;go_simp;simpa[upd,d] using hK w' (.pointer (some ⟨D,0,none⟩)) rfl hx (fun _=>rfl)
  ·have d:t 2=_:=hdep ⟨2,.data⟩ (by simp) rfl;clear hdep;go_simp;simpa[upd,d] using hK w' (.slice (some ⟨g,0,none⟩) n c) rfl hx (fun _=>rfl)
  ·clear hdep;go_simp;exact hK w' _ rfl hx (fun _=>rfl)
  ·have d:t 4=_:=hdep ⟨4,.data⟩ (by simp) rfl;clear hdep;have hwr:IntKind.i64.wrap ((s:Int)*64)=(s:Int)*64:=by rw[IntKind.wrap_i64];omega
   go_simp;simpa[upd,d] using hK w' (.int .i64 ((s*64:Nat):Int)) rfl hx (fun _=>rfl)
  ·have d3:t 3=_:=hdep ⟨3,.data⟩ (by simp) rfl;have d5:t 5=_:=hdep ⟨5,.data⟩ (by simp) rfl;clear hdep;have hnc':(n:Int)≤c:=by omega
   have hsn':((s*64:Nat):Int)≤n:=by omega
   have hfin:=hK w' (.slice (some ⟨g,s*64,none⟩) (n-s*64) (c-s*64)) rfl hx (fun _=>rfl);clear hK hx k0 st0;generalize s*64=s64 at *;go_simp;simpa[upd,d3,d5,hcs] using hfin
  ·clear hdep;go_simp;exact hK w' _ rfl hx (fun _=>rfl)
  ·have d6:t 6=_:=hdep ⟨6,.data⟩ (by simp) rfl;have d7:t 7=_:=hdep ⟨7,.data⟩ (by simp) rfl;obtain⟨y,hy,hyl,hyt,hyd⟩:=hx.own;have hzl:=HZ.out;obtain⟨cur,hcur,hcs2⟩:∃ cur,w'.heap[g]?=some (.cells cur 5 (0,0))∧cur.size=c:=by
    obtain⟨h1,⟨h2,_⟩|⟨g',cap,cur,hv,hb,hh,_,_,hcz,_⟩⟩:=hy.1
    ·cases h2
    ·cases hv;exact⟨cur,hh,by omega⟩
   rw[if_pos (by rfl)];refine wp_copyG (.tmp 12) (.tmp 13) rfl (some ⟨g,s*64,none⟩) (some ⟨w.heap.size,0,none⟩) g (s*64) (n-s*64) (c-s*64) 64 64 d6 d7 cur 5 hcur z (by rw[hzl];exact(Nat.min_eq_left (by omega)).symm) (fun _=>⟨rfl,_,rfl,fun j hj=>?_⟩) (by rw[hzl];omega) ?_
   ·rw[Addr.add_lit,Nat.zero_add,Row.cell hx.z j hj]
   ·intro w2 h2 hw2;have hnew:=hy.splice (s*64) (by omega) hcur h2;rw[hzl] at hnew;have he:y.take (s*64)++(z++y.drop (s*64+64))=overL zs s z:=by unfold overL;rw[hyt,hyd,hzl]
    rw[he] at hnew;have hsl:w.heap.size≠g:=by omega
    refine hK w2 _ hnew ⟨hx.ch.trans ⟨hw2.os,hw2.tape,hw2.output,by rw[hw2.size];exact Nat.le_refl _,fun j _ hj=>hw2.block j (by omega)⟩,⟨_,hnew,by rw[overL_len zs s z (by have:=HN.out;omega)];exact HN.out,?_,?_⟩,hw2.row hx.z hsl⟩ (fun h=>absurd rfl h)
    ·have hn:=HN.out;unfold overL;rw[List.take_append_of_le_length (by simp;omega),List.take_take,Nat.min_self]
    ·have hn:=HN.out;unfold overL;rw[hzl,←List.append_assoc,List.drop_append_of_le_length (by simp;omega),List.drop_eq_nil_of_le (by simp;omega)];simp
theorem wpList_storeW {ops:Array Oper} {rest:List Oper} {o:Oper} {a:Act} {w:World} {Q:Exit→Act→World→Prop} (hgd:o.guard=none) (ty:TypeId) (x y:Operand) (ho:o.op=.store ty x y)
  (g:Nat) (cells:Array Value) (hx:a.eval x=.pointer (some ⟨g,0,none⟩)) (hy:a.eval y=.agg cells)
  (t:TypeId) (old:Array Value) (hg:w.heap[g]?=some (.cells old t (0,0))) (hi:(Tryz.prog.info? ty).map (·.size)=some cells.size)
  (hold:old.size=cells.size) (h1:cells.all (·.oneCell')=true)
  (h:∀ w',w'.heap[g]?=some (.cells cells t (0,0))→Wr g w w'→wpList Tryz.prog ops Q rest (a.put o.dst undef) w'):wpList Tryz.prog ops Q (o::rest) a w:=
 wpList_store_row hgd ty x y ho g cells hx hy t old hg hi hold h1 (h _ (setRow_heap _ _ _ _ _ _ hg) (Wr.setRow _ _ _))
theorem all2p (s:Int) (a:Option Addr) (l c:Nat):(#[Value.int .i64 s,.slice a l c].all (fun v=>v.oneCell'))=true:=by simp[Value.oneCell']
theorem Tryz.sizePd:(Tryz.prog.info? 106).map (·.size)=some 2:=by kernel_rfl
theorem row2 {w:World} {g:Nat} {t:TypeId} {a0 a1:Value} (h:w.heap[g]?=some (.cells #[a0,a1] t (0,0))) :
  w.cell? ⟨g,0,none⟩=some a0∧w.cell? ⟨g,1,none⟩=some a1:=
 ⟨cell_of_row _ _ _ _ _ _ h,cell_of_row _ _ _ _ _ _ h⟩
theorem PAt.entry {w:World} {a:Option Addr} {ps:List PD} (h:PAt w a ps) {i:Nat} (hi:i<ps.length) (hz:0<(ps.getD i (0,[])).2.length) :
  ∃ b off b' off' c,a=some ⟨b,off,none⟩∧b<w.heap.size∧w.cell? ⟨b,off+i*2,none⟩=some (.int .i64 (ps.getD i (0,[])).1)∧
   w.cell? ⟨b,off+i*2+1,none⟩=some (.slice (some ⟨b',off',none⟩) (ps.getD i (0,[])).2.length c)∧At .u8 w (some ⟨b',off',none⟩) (ps.getD i (0,[])).2:=by
 obtain⟨b,off,ha,hl,hc⟩:=h.get (by omega);obtain⟨x,c,h1,h2,h3⟩:=hc i hi;obtain⟨b',off',e,_,_⟩:=h3.get hz;rw[e] at h2 h3;exact⟨b,off,b',off',c,ha,hl,h1,h2,h3⟩
end Go.Proofs.YthmeoilbmfdhfaaGreat
