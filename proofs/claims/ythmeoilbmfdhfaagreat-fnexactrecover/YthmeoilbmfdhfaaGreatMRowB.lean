import Derived.Test.YthmeoilbmfdhfaaGreatMBase
namespace Go.Proofs.YthmeoilbmfdhfaaGreat
open Go.ChangeShapes Go.WideShapes Go.ChangeAt Go.RowKit
set_option linter.unusedVariables false
def Row (w:World) (g:Nat) (e:TypeId) (zs:List Int):Prop:=w.heap[g]?=some (.cells (zs.map (Value.int .u8)).toArray e (0,0))
structure Wr (g:Nat) (w w':World):Prop where
 os:w'.os=w.os
 tape:w'.tape=w.tape
 output:w'.output=w.output
 size:w'.heap.size=w.heap.size
 block:∀ k,k≠g→w'.heap[k]?=w.heap[k]?
theorem Wr.refl (g:Nat) (w:World):Wr g w w:=⟨rfl,rfl,rfl,rfl,fun _ _=>rfl⟩
theorem Wr.trans {g:Nat} {a b c:World} (h:Wr g a b) (k:Wr g b c):Wr g a c:=
 ⟨k.os.trans h.os,k.tape.trans h.tape,k.output.trans h.output,k.size.trans h.size,fun i hi=>(k.block i hi).trans (h.block i hi)⟩
theorem Wr.setCell {g:Nat} {a w:World} (h:Wr g a w) (o:Nat) (u:Value):Wr g a (w.setCell ⟨g,o,none⟩ u):=
 h.trans ⟨rfl,rfl,rfl,by simp[World.setCell],fun k hk=>heap_setCell_other w _ k u hk⟩
theorem Wr.setRow (g:Nat) (w:World) (cs:Array Value):Wr g w (w.setRow g cs):=⟨rfl,rfl,rfl,size_setRow w g cs,fun k hk=>setRow_other w g k cs hk⟩
theorem Wr.drewN {g:Nat} {a w:World} (h:Wr g a w) (n:Nat):Wr g a (w.drewN n):=⟨h.os,h.tape,h.output,h.size,h.block⟩
theorem Wr.drew {g:Nat} {a w:World} (h:Wr g a w):Wr g a w.drew:=⟨h.os,h.tape,h.output,h.size,h.block⟩
theorem Wr.below {g B:Nat} {w w':World} (h:Wr g w w') (hB:B≤g):Below B w w':=⟨h.os,h.tape,h.output,by rw[h.size];exact Nat.le_refl _,fun k hk=>h.block k (by omega)⟩
theorem Wr.row {g g':Nat} {w w':World} {e:TypeId} {zs:List Int} (h:Wr g w w') (hr:Row w g' e zs) (hg:g'≠g):Row w' g' e zs:=by
 unfold Row;rw[h.block g' hg];exact hr
theorem Row.lt {w:World} {g:Nat} {e:TypeId} {zs:List Int} (h:Row w g e zs):g<w.heap.size:=(Array.getElem?_eq_some_iff.1 h).1
theorem Row.cell {w:World} {g:Nat} {e:TypeId} {zs:List Int} (h:Row w g e zs) (i:Nat) (hi:i<zs.length):w.cell? ⟨g,i,none⟩=some (.int .u8 (zs.getD i 0)):=by
 rw[cell_of_row w g i _ e _ h];simp[hi]
theorem Row.frozen {w:World} {g:Nat} {e:TypeId} {zs:List Int} (h:Row w g e zs) (i:Nat):w.frozen? ⟨g,i,none⟩=false:=frozen_of_row w g i _ e h
theorem Row.set {w:World} {g:Nat} {e:TypeId} {zs:List Int} (h:Row w g e zs) (i:Nat) (x:Int):Row (w.setCell ⟨g,i,none⟩ (.int .u8 x)) g e (zs.set i x):=by
 unfold Row;rw[heap_setCell_same w g i _ e _ h];simp[List.map_set]
theorem Row.drew {w:World} {g:Nat} {e:TypeId} {zs:List Int} (h:Row w g e zs):Row w.drew g e zs:=h
theorem Row.at_ {w:World} {g:Nat} {e:TypeId} {zs:List Int} (h:Row w g e zs):At .u8 w (some ⟨g,0,none⟩) zs:=
 .inr ⟨g,0,rfl,h.lt,fun i hi=>by rw[Nat.zero_add];exact h.cell i hi⟩
theorem Row.atTake {w:World} {g:Nat} {e:TypeId} {zs:List Int} (h:Row w g e zs) (n:Nat):At .u8 w (some ⟨g,0,none⟩) (zs.take n):=
 .inr ⟨g,0,rfl,h.lt,fun i hi=>by
  have hi':i<n∧i<zs.length:=by simp at hi;omega
  rw[Nat.zero_add,h.cell i hi'.2];simp[List.getD,hi'.1]⟩
structure WrO (a:Option Addr) (w w':World):Prop where
 os:w'.os=w.os
 tape:w'.tape=w.tape
 output:w'.output=w.output
 size:w'.heap.size=w.heap.size
 block:∀ k,(∀ ad,a=some ad→k≠ad.block)→w'.heap[k]?=w.heap[k]?
theorem WrO.refl (a:Option Addr) (w:World):WrO a w w:=⟨rfl,rfl,rfl,rfl,fun _ _=>rfl⟩
theorem WrO.setCell {a:Option Addr} {w w':World} (h:WrO a w w') (ad:Addr) (ha:a=some ad) (o:Nat) (v:Value):WrO a w (w'.setCell ⟨ad.block,o,none⟩ v):=
 ⟨h.os,h.tape,h.output,by simp[World.setCell];exact h.size,fun k hk=>(heap_setCell_other w' ⟨ad.block,o,none⟩ k v (hk ad ha)).trans (h.block k hk)⟩
theorem WrO.below {a:Option Addr} {w w':World} (h:WrO a w w') (B:Nat) (hB:∀ ad,a=some ad→B≤ad.block):Below B w w':=
 ⟨h.os,h.tape,h.output,by rw[h.size];exact Nat.le_refl _,fun k hk=>h.block k (fun ad e=>by have:=hB ad e;omega)⟩
def Open (w:World) (a:Option Addr) (n:Nat):Prop:=
 n=0∨∃ g o,a=some ⟨g,o,none⟩∧g<w.heap.size∧∀ i,i<n→(w.cell? ⟨g,o+i,none⟩).isSome=true∧w.frozen? ⟨g,o+i,none⟩=false
theorem Open.below {w w':World} {a:Option Addr} {n:Nat} (h:Open w a n) (hb:Below w.heap.size w w'):Open w' a n:=by
 rcases h with h|⟨g,o,h1,h2,h3⟩
 ·exact .inl h
 ·exact .inr ⟨g,o,h1,by have:=hb.size;omega,fun i hi=>by rw[hb.cell (p:=⟨g,o+i,none⟩) h2,hb.frozen (p:=⟨g,o+i,none⟩) h2];exact h3 i hi⟩
def marks (k:Int) (n:Nat):List Int:=(List.range n).map (fun i:Nat=>(k+(i:Int))%256)
theorem marks_len (k:Int) (n:Nat):(marks k n).length=n:=by simp[marks]
theorem marks_get (k:Int) (n i:Nat) (h:i<n):(marks k n).getD i 0=(k+i)%256:=by simp[marks,h]
set_option maxHeartbeats 400000 in
theorem markB_any (a:Option Addr) (n cap:Nat) (k:Int) (w:World) (ho:Open w a n) (hk:0≤k) (hk':k+n≤1099511627776) :
  Calls Tryz.prog 20 #[.slice a n cap,.int .i64 k] w fun e w'=>e=.returned (.int .i64 (k+n))∧At .u8 w' a (marks k n)∧WrO a w w':=by
 go_enter Tryz.func20,Tryz.ntmps20;go_wp2
 go_loopw [1,5] (fun q i wr=>∃ j:Nat,j≤n∧i=.int .i64 j∧q=.int .i64 (k+j)∧WrO a w wr∧
   (n=0∨∃ g o,a=some ⟨g,o,none⟩∧g<w.heap.size∧(∀ t,t<n→(wr.cell? ⟨g,o+t,none⟩).isSome=true∧wr.frozen? ⟨g,o+t,none⟩=false)∧∀ t,t<j→wr.cell? ⟨g,o+t,none⟩=some (.int .u8 ((k+(t:Int))%256)))) (fun _ i _=>n-(intOf i).toNat)
 case atStart=>
  refine⟨0,Nat.zero_le _,rfl,by simp,WrO.refl _ _,?_⟩;rcases ho with h|⟨g,o,h1,h2,h3⟩
  ·exact .inl h
  ·exact .inr ⟨g,o,h1,h2,h3,fun t ht=>by omega⟩
 case round=>
  obtain⟨j,hj,rfl,rfl,hwr,hs⟩:=hrel;by_cases hlt:j<n
  ·rcases hs with h|⟨g,o,rfl,hg,hc,hd⟩
   ·omega
   ·obtain⟨hc1,hf1⟩:=hc j hlt;obtain⟨v0,hv0⟩:=Option.isSome_iff_exists.1 hc1;have HW:Hid (WrO (some ⟨g,o,none⟩) w (wr.setCell ⟨g,o+j,none⟩ (.int .u8 ((k+(j:Int))%256)))):=hwr.setCell _ rfl _ _;have HC:Hid (∀ t,t<n→((wr.setCell ⟨g,o+j,none⟩ (.int .u8 ((k+(j:Int))%256))).cell? ⟨g,o+t,none⟩).isSome=true∧(wr.setCell ⟨g,o+j,none⟩ (.int .u8 ((k+(j:Int))%256))).frozen? ⟨g,o+t,none⟩=false):=by
     intro t ht;obtain⟨u,hu⟩:=Option.isSome_iff_exists.1 (hc t ht).1;obtain⟨u',hu'⟩:=cell?_setCell_some (w:=wr) (p:=⟨g,o+j,none⟩) (x:=.int .u8 ((k+(j:Int))%256)) (q:=⟨g,o+t,none⟩) (v:=u) hu;refine⟨by rw[hu'];rfl,?_⟩;rw[World.frozen?_setCell];exact(hc t ht).2
    have HD:Hid (∀ t,t<j+1→(wr.setCell ⟨g,o+j,none⟩ (.int .u8 ((k+(j:Int))%256))).cell? ⟨g,o+t,none⟩=some (.int .u8 ((k+(t:Int))%256))):=by
     intro t ht;by_cases e:t=j
     ·subst e;exact World.cell?_setCell_same _ _ _ hv0
     ·rw[World.cell?_setCell_other _ _ _ _ (by simp;try omega)];exact hd t (by omega)
    clear hc hd hwr ho hc1;go_wp2;go_roundw
    case rel=>exact⟨j+1,by omega,by go_num,by go_num,HW.out,.inr ⟨g,o,rfl,hg,HC.out,HD.out⟩⟩
    case measure=>simp[intOf];omega
  ·have hjn:j=n:=by omega
   subst hjn;have HA:Hid (At .u8 wr a (marks k j)):=by
    rcases hs with h|⟨g,o,rfl,hg,hc,hd⟩
    ·subst h;exact .inl rfl
    ·exact .inr ⟨g,o,rfl,by rw[hwr.size];exact hg,fun i hi=>by rw[marks_len] at hi;rw[hd i hi,marks_get k j i hi]⟩
   clear hs ho;go_wp2
   go_ret
   exact⟨rfl,HA.out,hwr⟩
theorem Tryz.infoPend:(Tryz.prog.info? 106).map (fun i=>(i.zero,i.size,i.bytes))=some (some (.agg #[.int .i64 0,.slice none 0 0]),2,32):=by kernel_rfl
structure TP (w wr:World) (g n:Nat) (X:Nat→Nat) (ps:List PD) (k:Nat):Prop where
 below:Below w.heap.size w wr
 blk:∃ cur,wr.heap[g]?=some (.cells cur 106 (0,0))∧cur.size=n*2∧∀ i,i<k→cur[i*2]?=some (.int .i64 (ps.getD i (0,[])).1)∧cur[i*2+1]?=some (.slice (some ⟨X i,0,none⟩) (ps.getD i (0,[])).2.length (ps.getD i (0,[])).2.length)
 rows:∀ i,i<k→Row wr (X i) 5 (ps.getD i (0,[])).2∧g<X i
 ord:∀ i j,i<j→j<k→X i<X j
def PMine (B U:Nat) (w:World) (a:Option Addr) (ps:List PD):Prop:=
 ps=[]∨∃(g o:Nat) (X:Nat→Option Addr) (C:Nat→Nat),a=some ⟨g,o,none⟩∧B≤g∧g<U∧U≤w.heap.size∧
  (∀ i,i<ps.length→w.cell? ⟨g,o+i*2,none⟩=some (.int .i64 (ps.getD i (0,[])).1)∧w.frozen? ⟨g,o+i*2,none⟩=false∧w.cell? ⟨g,o+i*2+1,none⟩=some (.slice (X i) (ps.getD i (0,[])).2.length (C i))∧
   At .u8 w (X i) (ps.getD i (0,[])).2∧Open w (X i) (ps.getD i (0,[])).2.length∧(∀ ad,X i=some ad→B≤ad.block∧ad.block<U∧ad.block≠g)∧(ps.getD i (0,[])).2.length≤C i)∧
  ∀ i j ad ad',i<ps.length→j<ps.length→i≠j→X i=some ad→X j=some ad'→ad.block≠ad'.block
theorem PMine.at_ {B U:Nat} {w:World} {a:Option Addr} {ps:List PD} (h:PMine B U w a ps):PAt w a ps:=by
 rcases h with h|⟨g,o,X,C,ha,_,hg,hU,h1,_⟩
 ·exact .inl h
 ·exact .inr ⟨g,o,ha,by omega,fun i hi=>⟨X i,C i,(h1 i hi).1,(h1 i hi).2.2.1,(h1 i hi).2.2.2.1⟩⟩
theorem PMine.below {B U:Nat} {w w':World} {a:Option Addr} {ps:List PD} (h:PMine B U w a ps) (hb:Below w.heap.size w w'):PMine B U w' a ps:=by
 have hs:=hb.size;rcases h with h|⟨g,o,X,C,ha,hB,hg',hU,h1,h2⟩
 ·exact .inl h
 ·have hg:g<w.heap.size:=by omega
  refine .inr ⟨g,o,X,C,ha,hB,hg',by omega,fun i hi=>?_,h2⟩;obtain⟨p1,p2,p3,p4,p5,p6⟩:=h1 i hi;exact⟨by rw[hb.cell (p:=⟨g,o+i*2,none⟩) hg];exact p1,by rw[hb.frozen (p:=⟨g,o+i*2,none⟩) hg];exact p2,by rw[hb.cell (p:=⟨g,o+i*2+1,none⟩) hg];exact p3,p4.below hb,p5.below hb,
   p6⟩
theorem Row.open_ {w:World} {g:Nat} {t:TypeId} {zs:List Int} (h:Row w g t zs):Open w (some ⟨g,0,none⟩) zs.length:=
 .inr ⟨g,0,rfl,h.lt,fun i hi=>by rw[Nat.zero_add];exact⟨by rw[h.cell i hi];rfl,h.frozen i⟩⟩
theorem TP.mine {w wr:World} {g n:Nat} {X:Nat→Nat} {ps:List PD} (h:TP w wr g n X ps ps.length) (hg:w.heap.size≤g):PMine w.heap.size wr.heap.size wr (some ⟨g,0,none⟩) ps:=by
 obtain⟨cur,h1,h2,h3⟩:=h.blk;refine .inr ⟨g,0,fun i=>some ⟨X i,0,none⟩,fun i=>(ps.getD i (0,[])).2.length,rfl,hg,(Array.getElem?_eq_some_iff.1 h1).1,Nat.le_refl _,fun i hi=>?_,fun i j ad ad' hi hj hij e e'=>?_⟩
 ·obtain⟨c1,c2⟩:=h3 i hi;obtain⟨r1,r2⟩:=h.rows i hi;refine⟨by rw[cell_of_row wr g _ cur _ _ h1,Nat.zero_add];exact c1,frozen_of_row wr g _ cur _ h1,by rw[cell_of_row wr g _ cur _ _ h1,Nat.zero_add];exact c2,r1.at_,r1.open_,fun ad e=>?_,Nat.le_refl _⟩;cases e;exact⟨by show w.heap.size≤X i;omega,r1.lt,by show X i≠g;omega⟩
 ·cases e;cases e';show X i≠X j
  rcases Nat.lt_or_ge i j with h'|h'
  ·have:=h.ord i j h' hj;omega
  ·have:=h.ord j i (by omega) hi;omega
theorem TP.step {w wr w1:World} {g n k g1:Nat} {X:Nat→Nat} {ps:List PD} (h:TP w wr g n X ps k) (hk:k<n) (hg:w.heap.size≤g) (hb:Below wr.heap.size wr w1) (hg1:wr.heap.size≤g1) (hr:Row w1 g1 5 (ps.getD k (0,[])).2) :
  TP w ((w1.setCell ⟨g,k*2,none⟩ (.int .i64 (ps.getD k (0,[])).1)).setCell ⟨g,k*2+1,none⟩ (.slice (some ⟨g1,0,none⟩) (ps.getD k (0,[])).2.length (ps.getD k (0,[])).2.length)) g n (fun i=>if i=k then g1 else X i) ps (k+1):=by
 obtain⟨cur,h1,h2,h3⟩:=h.blk;have hgl:=(Array.getElem?_eq_some_iff.1 h1).1;have h1':w1.heap[g]?=some (.cells cur 106 (0,0)):=by rw[hb.block g hgl];exact h1
 have e1:=heap_setCell_same w1 g (k*2) _ _ (.int .i64 (ps.getD k (0,[])).1) h1';have e2:=heap_setCell_same _ g (k*2+1) _ _ (.slice (some ⟨g1,0,none⟩) (ps.getD k (0,[])).2.length (ps.getD k (0,[])).2.length) e1;refine⟨((h.below.trans (hb.mono h.below.size)).setCell hg _).setCell hg _,⟨_,e2,by simp[h2],fun i hi=>?_⟩,fun i hi=>?_,fun i j hij hj=>?_⟩
 ·by_cases e:i=k
  ·subst e;refine⟨?_,?_⟩
   ·rw[Array.getElem?_setIfInBounds_ne (by omega),Array.getElem?_setIfInBounds_self_of_lt (by omega)]
   ·rw[Array.getElem?_setIfInBounds_self_of_lt (by simp;omega)];simp
  ·obtain⟨c1,c2⟩:=h3 i (by omega);refine⟨?_,?_⟩
   ·rw[Array.getElem?_setIfInBounds_ne (by omega),Array.getElem?_setIfInBounds_ne (by omega)];exact c1
   ·rw[Array.getElem?_setIfInBounds_ne (by omega),Array.getElem?_setIfInBounds_ne (by omega),if_neg e];exact c2
 ·by_cases e:i=k
  ·subst e;rw[if_pos rfl];refine⟨?_,by omega⟩;unfold Row;rw[heap_setCell_other _ _ _ _ (by show g1≠g;omega),heap_setCell_other _ _ _ _ (by show g1≠g;omega)];exact hr
  ·rw[if_neg e];obtain⟨r1,r2⟩:=h.rows i (by omega);refine⟨?_,r2⟩;unfold Row;rw[heap_setCell_other _ _ _ _ (by show X i≠g;omega),heap_setCell_other _ _ _ _ (by show X i≠g;omega),hb.block _ r1.lt];exact r1
 ·have hiX:X i<wr.heap.size:=(h.rows i (by omega)).1.lt;rw[if_neg (by omega)];by_cases e:j=k
  ·rw[if_pos e];omega
  ·rw[if_neg e];exact h.ord i j hij (by omega)
set_option maxHeartbeats 400000 in
theorem toPS_any (a:Option Addr) (n cap:Nat) (ps:List PD) (w:World) (hl:ps.length=n) (hn:n≤1048576) (ha:PAt w a ps) (hps:∀ i,(ps.getD i (0,[])).2.length≤1048576) :
  Calls Tryz.prog 33 #[.slice a n cap] w fun e w'=>e=.returned (.slice (some ⟨w.heap.size,0,none⟩) n n)∧PMine w.heap.size w'.heap.size w' (some ⟨w.heap.size,0,none⟩) ps∧Below w.heap.size w w':=by
 obtain⟨i0,hi,hz0,hz1,hz2⟩:=info_parts Tryz.infoPend;have HI:Hid (i0.bytes=32):=hz2;clear hz2;go_enter Tryz.func33,Tryz.ntmps33;go_wp2_with (first
  |(at_make;refine wpList_make_full _ rfl _ _ 38 rfl w.heap.size 106 i0 (.agg #[.int .i64 0,.slice none 0 0]) 2 Tryz.underlying38 hi hz0 hz1 _ _ _ _ n rfl rfl rfl rfl ?c1 ?c2 ?c3 ?_)
  |fail)
 case c1=>rw[HI.out];omega
 case c2=>unfold maxLen;omega
 case c3=>exact Nat.le_refl _
 intro w1 hown hgrow;have hb1:Below w.heap.size w w1:=(Below.refl _ _).grown hgrow (Nat.le_refl _) (by simp);have hst:TP w w1 w.heap.size n (fun _=>0) ps 0:=by
  obtain⟨h1,⟨h2,_⟩|⟨g',cap,cur,hv,hb,hh,hc,hm,hs,ht⟩⟩:=hown
  ·cases h2
  ·cases hv;exact⟨hb1,⟨cur,hh,hs,fun i hi=>by omega⟩,fun i hi=>by omega,fun i j _ hj=>by omega⟩
 clear hown hgrow hb1;have HST:Hid _:=hst;clear hst;go_wp2;have hst:=HST.out
 go_loopw [4] (fun i wr=>∃(k:Nat) (X:Nat→Nat),k≤n∧i=.int .i64 k∧TP w wr w.heap.size n X ps k) (fun i _=>n-(intOf i).toNat)
 case atStart=>exact⟨0,_,Nat.zero_le _,rfl,hst⟩
 case round=>
  obtain⟨k,X,hk,rfl,st⟩:=hrel;by_cases hlt:k<n
  ·obtain⟨b,off,rfl,hb,hc⟩:=(ha.below st.below).get (by omega);obtain⟨x,c,h1,h2,h3⟩:=hc k (by omega);obtain⟨cur,c1,c2,c3⟩:=st.blk;have hgl:=(Array.getElem?_eq_some_iff.1 c1).1;have HST1:Hid _:=st;have HC1:Hid _:=c1;have hp:=hps k;clear hc ha c3 HST st c1 hst;generalize hs:(ps.getD k (0,[])).1=s at *;generalize hzs:(ps.getD k (0,[])).2=zs at *;have HS:Hid _:=hs;have HZS:Hid _:=hzs;clear hs hzs;go_wp2_with fail;refine(toP_any s x zs.length c zs wr rfl hp h3).mono ?_;rintro e w2 ⟨g1,rfl,hg1,hr1,hb2⟩;have HR1:Hid (Row w2 g1 5 zs):=hr1;have k1:w2.heap[w.heap.size]?=some (.cells cur 106 (0,0)):=by rw[hb2.block _ hgl];exact HC1.out
   have d0:w2.cell? ⟨w.heap.size,k*2,none⟩=some (cur[k*2]'(by omega)):=by rw[cell_of_row w2 _ _ _ _ _ k1];simp
   have d1:w2.cell? ⟨w.heap.size,k*2+1,none⟩=some (cur[k*2+1]'(by omega)):=by rw[cell_of_row w2 _ _ _ _ _ k1];simp
   have f0:=frozen_of_row w2 w.heap.size (k*2) _ _ k1;have f1:=frozen_of_row w2 w.heap.size (k*2+1) _ _ k1;generalize (cur[k*2]'(by omega))=o0 at *;generalize (cur[k*2+1]'(by omega))=o1 at *;have HB2:Hid _:=hb2;clear hr1 k1 hb2 h1 h2 h3;go_wp2;have hend:=HST1.out.step hlt (Nat.le_refl _) HB2.out hg1 (by rw[HZS.out];exact HR1.out);rw[HS.out,HZS.out] at hend;go_roundw
   case rel=>exact⟨k+1,_,by omega,by go_num,hend⟩
   case measure=>simp[intOf];omega
  ·have hkn:k=ps.length:=by omega
   rw[hkn] at st;have HM:Hid _:=st.mine (Nat.le_refl _);have HB:Hid _:=st.below;clear st HST hst;go_wp2
   go_ret
   exact⟨rfl,HM.out,HB.out⟩
def DAt (w:World) (v:Value) (zs:List Int) (ps:List PD) (f:Int) (d:Bool):Prop:=
 ∃ da dc ca cc,v=.agg #[.slice da zs.length dc,.slice ca ps.length cc,.int .i64 f,.bool d]∧At .u8 w da zs∧PAt w ca ps∧zs.length≤dc
def DMine (B U:Nat) (w:World) (v:Value) (zs:List Int) (ps:List PD) (f:Int) (d:Bool):Prop:=
 ∃ da dc ca cc B1,v=.agg #[.slice da zs.length dc,.slice ca ps.length cc,.int .i64 f,.bool d]∧At .u8 w da zs∧Open w da zs.length∧(∀ ad,da=some ad→B≤ad.block∧ad.block<B1)∧B≤B1∧B1≤U∧U≤w.heap.size∧PMine B1 U w ca ps∧zs.length≤dc
theorem DMine.at_ {B U:Nat} {w:World} {v:Value} {zs:List Int} {ps:List PD} {f:Int} {d:Bool} (h:DMine B U w v zs ps f d):DAt w v zs ps f d:=by
 obtain⟨da,dc,ca,cc,B1,hv,h1,_,_,_,_,_,h2,h3⟩:=h;exact⟨da,dc,ca,cc,hv,h1,h2.at_,h3⟩
theorem DAt.below {w w':World} {v:Value} {zs:List Int} {ps:List PD} {f:Int} {d:Bool} (h:DAt w v zs ps f d) (hb:Below w.heap.size w w'):DAt w' v zs ps f d:=by
 obtain⟨da,dc,ca,cc,hv,h1,h2,h3⟩:=h;exact⟨da,dc,ca,cc,hv,h1.below hb,h2.below hb,h3⟩
theorem DMine.below {B U:Nat} {w w':World} {v:Value} {zs:List Int} {ps:List PD} {f:Int} {d:Bool} (h:DMine B U w v zs ps f d) (hb:Below w.heap.size w w'):DMine B U w' v zs ps f d:=by
 obtain⟨da,dc,ca,cc,B1,hv,h1,h2,h3,h4,h5,h5',h6,h7⟩:=h;exact⟨da,dc,ca,cc,B1,hv,h1.below hb,h2.below hb,h3,h4,h5,by have:=hb.size;omega,h6.below hb,h7⟩
theorem At.keep {k:IntKind} {w w':World} {a:Option Addr} {zs:List Int} (h:At k w a zs) (hk:∀ ad,a=some ad→w'.heap[ad.block]?=w.heap[ad.block]?) (hs:w.heap.size≤w'.heap.size):At k w' a zs:=by
 rcases h with h|⟨b,off,rfl,hl,hc⟩
 ·exact .inl h
 ·exact .inr ⟨b,off,rfl,by omega,fun i hi=>by rw[World.cell?_of_block (a:=⟨b,off+i,none⟩) (w:=w) (hk ⟨b,off,none⟩ rfl)];exact hc i hi⟩
theorem frozen_of_block {w w':World} {a:Addr} (h:w'.heap[a.block]?=w.heap[a.block]?):w'.frozen? a=w.frozen? a:=by
 unfold World.frozen?;rw[h]
theorem Open.keep {w w':World} {a:Option Addr} {n:Nat} (h:Open w a n) (hk:∀ ad,a=some ad→w'.heap[ad.block]?=w.heap[ad.block]?) (hs:w.heap.size≤w'.heap.size):Open w' a n:=by
 rcases h with h|⟨g,o,rfl,h2,h3⟩
 ·exact .inl h
 ·exact .inr ⟨g,o,rfl,by omega,fun i hi=>by
   rw[World.cell?_of_block (a:=⟨g,o+i,none⟩) (w:=w) (hk ⟨g,o,none⟩ rfl),frozen_of_block (a:=⟨g,o+i,none⟩) (w:=w) (hk ⟨g,o,none⟩ rfl)];exact h3 i hi⟩
theorem PMine.keep {B U:Nat} {w w':World} {a:Option Addr} {ps:List PD} (h:PMine B U w a ps) (hk:∀ k,B≤k→k<U→w'.heap[k]?=w.heap[k]?) (hs:w.heap.size≤w'.heap.size):PMine B U w' a ps:=by
 rcases h with h|⟨g,o,X,C,ha,hB,hg,hU,h1,h2⟩
 ·exact .inl h
 ·refine .inr ⟨g,o,X,C,ha,hB,hg,by omega,fun i hi=>?_,h2⟩;obtain⟨p1,p2,p3,p4,p5,p6⟩:=h1 i hi;exact⟨by rw[World.cell?_of_block (a:=⟨g,o+i*2,none⟩) (w:=w) (hk _ hB hg)];exact p1,by rw[frozen_of_block (a:=⟨g,o+i*2,none⟩) (w:=w) (hk _ hB hg)];exact p2,by rw[World.cell?_of_block (a:=⟨g,o+i*2+1,none⟩) (w:=w) (hk _ hB hg)];exact p3,
   p4.keep (fun ad e=>hk _ (p6.1 ad e).1 (p6.1 ad e).2.1) hs,p5.keep (fun ad e=>hk _ (p6.1 ad e).1 (p6.1 ad e).2.1) hs,
   p6⟩
theorem row_setCell {w:World} {g i:Nat} {cs cs':Array Value} {t:TypeId} (v:Value) (h:w.heap[g]?=some (.cells cs t (0,0))) (he:cs.setIfInBounds i v=cs'):(w.setCell ⟨g,i,none⟩ v).heap[g]?=some (.cells cs' t (0,0)):=by
 rw[heap_setCell_same w g i cs t v h,he]
set_option maxHeartbeats 1000000 in
theorem toD_any (a:Option Addr) (n cap:Nat) (a':Option Addr) (n' cap':Nat) (zs:List Int) (ps:List PD) (f:Int) (d:Bool) (w:World) (hn:zs.length=n) (hn':ps.length=n') (hm:n≤1048576) (hm':n'≤1048576) (ha:At .u8 w a zs) (ha':PAt w a' ps) (hps:∀ i,(ps.getD i (0,[])).2.length≤1048576) :
  Calls Tryz.prog 8 #[.agg #[.slice a n cap,.slice a' n' cap',.int .i64 f,.bool d]] w fun e w'=>∃ v,e=.returned v∧DMine w.heap.size w'.heap.size w' v zs ps f d∧Below w.heap.size w w':=by
 go_enter Tryz.func8,Tryz.ntmps8;go_wp2_with fail;have hb:=(((Below.refl w.heap.size w).alloc (Nat.le_refl _) (.cells #[.slice a n cap,.slice a' n' cap',.int .i64 f,.bool d] 25)).alloc (by simp) (.cells #[.slice none 0 0,.slice none 0 0,.int .i64 0,.bool false] 40)).alloc (by simp;omega) (.cells #[.slice none 0 0,.slice none 0 0,.int .i64 0,.bool false] 40);have hz3:(((w.alloc (.cells #[.slice a n cap,.slice a' n' cap',.int .i64 f,.bool d] 25)).alloc (.cells #[.slice none 0 0,.slice none 0 0,.int .i64 0,.bool false] 40)).alloc (.cells #[.slice none 0 0,.slice none 0 0,.int .i64 0,.bool false] 40)).heap.size=w.heap.size+3:=by simp
 have h2:(((w.alloc (.cells #[.slice a n cap,.slice a' n' cap',.int .i64 f,.bool d] 25)).alloc (.cells #[.slice none 0 0,.slice none 0 0,.int .i64 0,.bool false] 40)).alloc (.cells #[.slice none 0 0,.slice none 0 0,.int .i64 0,.bool false] 40)).heap[w.heap.size+1+1]?=some (.cells #[.slice none 0 0,.slice none 0 0,.int .i64 0,.bool false] 40 (0,0)):=by
  have:=heap_alloc_new ((w.alloc (.cells #[.slice a n cap,.slice a' n' cap',.int .i64 f,.bool d] 25)).alloc (.cells #[.slice none 0 0,.slice none 0 0,.int .i64 0,.bool false] 40)) (.cells #[.slice none 0 0,.slice none 0 0,.int .i64 0,.bool false] 40);simpa using this
 have h1:(((w.alloc (.cells #[.slice a n cap,.slice a' n' cap',.int .i64 f,.bool d] 25)).alloc (.cells #[.slice none 0 0,.slice none 0 0,.int .i64 0,.bool false] 40)).alloc (.cells #[.slice none 0 0,.slice none 0 0,.int .i64 0,.bool false] 40)).heap[w.heap.size+1]?=some (.cells #[.slice none 0 0,.slice none 0 0,.int .i64 0,.bool false] 40 (0,0)):=by
  rw[((Below.refl _ ((w.alloc (.cells #[.slice a n cap,.slice a' n' cap',.int .i64 f,.bool d] 25)).alloc (.cells #[.slice none 0 0,.slice none 0 0,.int .i64 0,.bool false] 40))).alloc (Nat.le_refl _) _).block _ (by simp)];have:=heap_alloc_new (w.alloc (.cells #[.slice a n cap,.slice a' n' cap',.int .i64 f,.bool d] 25)) (.cells #[.slice none 0 0,.slice none 0 0,.int .i64 0,.bool false] 40);simpa using this
 have h0:(((w.alloc (.cells #[.slice a n cap,.slice a' n' cap',.int .i64 f,.bool d] 25)).alloc (.cells #[.slice none 0 0,.slice none 0 0,.int .i64 0,.bool false] 40)).alloc (.cells #[.slice none 0 0,.slice none 0 0,.int .i64 0,.bool false] 40)).heap[w.heap.size]?=some (.cells #[.slice a n cap,.slice a' n' cap',.int .i64 f,.bool d] 25 (0,0)):=by
  rw[((Below.refl _ ((w.alloc (.cells #[.slice a n cap,.slice a' n' cap',.int .i64 f,.bool d] 25)).alloc (.cells #[.slice none 0 0,.slice none 0 0,.int .i64 0,.bool false] 40))).alloc (Nat.le_refl _) _).block _ (by simp;omega),
   ((Below.refl _ (w.alloc (.cells #[.slice a n cap,.slice a' n' cap',.int .i64 f,.bool d] 25))).alloc (Nat.le_refl _) _).block _ (by simp)]
  exact heap_alloc_new w _
 generalize (((w.alloc (.cells #[.slice a n cap,.slice a' n' cap',.int .i64 f,.bool d] 25)).alloc (.cells #[.slice none 0 0,.slice none 0 0,.int .i64 0,.bool false] 40)).alloc (.cells #[.slice none 0 0,.slice none 0 0,.int .i64 0,.bool false] 40))=w3 at *;have ha3:=ha.below hb;have hp3:=ha'.below hb;have HZ3:Hid _:=hz3;clear hz3;refine(toB_any a n cap zs w3 hn hm ha3).mono ?_;rintro e w4 ⟨rfl,ho4,hb4⟩;have s4:=hb4.size;have k2:w4.heap[w.heap.size+1+1]?=some (.cells #[.slice none 0 0,.slice none 0 0,.int .i64 0,.bool false] 40 (0,0)):=by rw[hb4.block _ (by have:=HZ3.out;omega)];exact h2
 have k1:w4.heap[w.heap.size+1]?=some (.cells #[.slice none 0 0,.slice none 0 0,.int .i64 0,.bool false] 40 (0,0)):=by rw[hb4.block _ (by have:=HZ3.out;omega)];exact h1
 have k0:w4.heap[w.heap.size]?=some (.cells #[.slice a n cap,.slice a' n' cap',.int .i64 f,.bool d] 25 (0,0)):=by rw[hb4.block _ (by have:=HZ3.out;omega)];exact h0
 have hv:Row w4 w3.heap.size 5 zs:=owns_row ho4;have c20:=cell_of_row w4 (w.heap.size+1+1) 0 _ _ _ k2;have f20:=frozen_of_row w4 (w.heap.size+1+1) 0 _ _ k2;have c01:=cell_of_row w4 w.heap.size 1 _ _ _ k0;simp at c20 c01;have hp4:=hp3.below hb4;have m2:=row_setCell (i:=0) (.slice (some ⟨w3.heap.size,0,none⟩) n n) k2 rfl;have m1:=(heap_setCell_other w4 ⟨w.heap.size+1+1,0,none⟩ (w.heap.size+1) (.slice (some ⟨w3.heap.size,0,none⟩) n n) (by simp)).trans k1;have m0:=(heap_setCell_other w4 ⟨w.heap.size+1+1,0,none⟩ (w.heap.size) (.slice (some ⟨w3.heap.size,0,none⟩) n n) (by simp;omega)).trans k0;have hv5:Row (w4.setCell ⟨w.heap.size+1+1,0,none⟩ (.slice (some ⟨w3.heap.size,0,none⟩) n n)) w3.heap.size 5 zs:=by
  unfold Row;rw[heap_setCell_other _ _ _ _ (by have:=HZ3.out;simp;omega)];exact hv
 have hB4:Below w.heap.size w w4:=hb.trans (hb4.mono (by have:=HZ3.out;omega));have hB5:Below w.heap.size w (w4.setCell ⟨w.heap.size+1+1,0,none⟩ (.slice (some ⟨w3.heap.size,0,none⟩) n n)):=hB4.setCell (by simp;omega) _;have hs5:(w4.setCell ⟨w.heap.size+1+1,0,none⟩ (.slice (some ⟨w3.heap.size,0,none⟩) n n)).heap.size=w4.heap.size:=by simp[World.setCell]
 have hp5:=ha'.below hB5;have HM2:Hid _:=m2;have HM1:Hid _:=m1;have HM0:Hid _:=m0;have HV5:Hid _:=hv5;have HB5:Hid _:=hB5;have HP5:Hid _:=hp5;have HS5:Hid _:=hs5;have HS4:Hid _:=s4;clear m2 m1 m0 hv5 hB5 hp5 hs5 s4 hv ho4 hb4 hb k2 k1 k0 h2 h1 h0 ha3 hp3 hp4 hB4 ha ha';go_wp2_with fail;refine(toPS_any a' n' cap' ps _ hn' hm' HP5.out hps).mono ?_;rintro e w6 ⟨rfl,hP6,hb6⟩;have q2:=HM2.out;have q1:=HM1.out;have q0:=HM0.out;have qv:Row _ _ _ _:=HV5.out;have qB:=HB5.out;have qs:=HS5.out;have qs4:=HS4.out;have qz:=HZ3.out;clear HM2 HM1 HM0 HV5 HB5 HP5 HS5 HS4 HZ3 c20 c01 f20;generalize (w4.setCell { block:=w.heap.size+1+1,off:=0 } (Value.slice (some { block:=w3.heap.size,off:=0 }) n n))=w5 at *;have hv6:Row w6 w3.heap.size 5 zs:=by unfold Row;rw[hb6.block _ qv.lt];exact qv
 have hB6:Below w.heap.size w w6:=qB.trans (hb6.mono (by omega));have n2:w6.heap[w.heap.size+1+1]?=some (.cells #[.slice (some ⟨w3.heap.size,0,none⟩) n n,.slice none 0 0,.int .i64 0,.bool false] 40 (0,0)):=by rw[hb6.block _ (by omega)];exact q2
 have n1:w6.heap[w.heap.size+1]?=some (.cells #[.slice none 0 0,.slice none 0 0,.int .i64 0,.bool false] 40 (0,0)):=by rw[hb6.block _ (by omega)];exact q1
 have n0:w6.heap[w.heap.size]?=some (.cells #[.slice a n cap,.slice a' n' cap',.int .i64 f,.bool d] 25 (0,0)):=by rw[hb6.block _ (by omega)];exact q0
 have c20:=cell_of_row w6 (w.heap.size+1+1) 0 _ _ _ n2;have c21:=cell_of_row w6 (w.heap.size+1+1) 1 _ _ _ n2;have c22:=cell_of_row w6 (w.heap.size+1+1) 2 _ _ _ n2;have c23:=cell_of_row w6 (w.heap.size+1+1) 3 _ _ _ n2;have f21:=frozen_of_row w6 (w.heap.size+1+1) 1 _ _ n2;have f22:=frozen_of_row w6 (w.heap.size+1+1) 2 _ _ n2;have f23:=frozen_of_row w6 (w.heap.size+1+1) 3 _ _ n2;have c02:=cell_of_row w6 w.heap.size 2 _ _ _ n0;have c03:=cell_of_row w6 w.heap.size 3 _ _ _ n0;have c10:=cell_of_row w6 (w.heap.size+1) 0 _ _ _ n1;have c11:=cell_of_row w6 (w.heap.size+1) 1 _ _ _ n1;have c12:=cell_of_row w6 (w.heap.size+1) 2 _ _ _ n1;have c13:=cell_of_row w6 (w.heap.size+1) 3 _ _ _ n1;have f10:=frozen_of_row w6 (w.heap.size+1) 0 _ _ n1;have f11:=frozen_of_row w6 (w.heap.size+1) 1 _ _ n1;have f12:=frozen_of_row w6 (w.heap.size+1) 2 _ _ n1;have f13:=frozen_of_row w6 (w.heap.size+1) 3 _ _ n1;simp at c20 c21 c22 c23 c02 c03 c10 c11 c12 c13;have HV6:Hid _:=hv6;have HB6:Hid _:=hB6;have HP6:Hid _:=hP6;have HN1:Hid _:=n1;have HS6:Hid _:=hb6.size;have HQ:Hid _:=And.intro qs (And.intro qs4 (And.intro qz qv.lt));clear hv6 hB6 hP6 n2 n1 n0 hb6 q2 q1 q0 qv qB qs qs4 qz;go_wp2;obtain⟨qs,qs4,qz,qvl⟩:=HQ.out;have r1:=heap_setCell_same _ (w.heap.size+1) 0 _ _ (.slice (some ⟨w3.heap.size,0,none⟩) n n) ((heap_setCell_other _ ⟨w.heap.size+1+1,3,none⟩ (w.heap.size+1) (.bool d) (by simp)).trans ((heap_setCell_other _ ⟨w.heap.size+1+1,2,none⟩ (w.heap.size+1) (.int .i64 f) (by simp)).trans ((heap_setCell_other w6 ⟨w.heap.size+1+1,1,none⟩ (w.heap.size+1) (.slice (some ⟨w5.heap.size,0,none⟩) n' n') (by simp)).trans HN1.out)));have r2:=heap_setCell_same _ (w.heap.size+1) 1 _ _ (.slice (some ⟨w5.heap.size,0,none⟩) n' n') r1;have r3:=heap_setCell_same _ (w.heap.size+1) 2 _ _ (.int .i64 f) r2;have r4:=heap_setCell_same _ (w.heap.size+1) 3 _ _ (.bool d) r3;have hoth:∀ k,w.heap.size+2<k→(((((((w6.setCell ⟨w.heap.size+1+1,1,none⟩ (.slice (some ⟨w5.heap.size,0,none⟩) n' n')).setCell ⟨w.heap.size+1+1,2,none⟩ (.int .i64 f)).setCell ⟨w.heap.size+1+1,3,none⟩ (.bool d)).setCell ⟨w.heap.size+1,0,none⟩ (.slice (some ⟨w3.heap.size,0,none⟩) n n)).setCell ⟨w.heap.size+1,1,none⟩ (.slice (some ⟨w5.heap.size,0,none⟩) n' n')).setCell ⟨w.heap.size+1,2,none⟩ (.int .i64 f)).setCell ⟨w.heap.size+1,3,none⟩ (.bool d)).heap[k]?=w6.heap[k]?:=by
  intro k hk;rw[heap_setCell_other _ _ _ _ (by simp;omega),heap_setCell_other _ _ _ _ (by simp;omega),heap_setCell_other _ _ _ _ (by simp;omega),heap_setCell_other _ _ _ _ (by simp;omega),heap_setCell_other _ _ _ _ (by simp;omega),heap_setCell_other _ _ _ _ (by simp;omega),heap_setCell_other _ _ _ _ (by simp;omega)]
 have hB7:=((((((HB6.out.setCell (p:=⟨w.heap.size+1+1,1,none⟩) (by simp;omega) (.slice (some ⟨w5.heap.size,0,none⟩) n' n')).setCell (p:=⟨w.heap.size+1+1,2,none⟩) (by simp;omega) (.int .i64 f)).setCell (p:=⟨w.heap.size+1+1,3,none⟩) (by simp;omega) (.bool d)).setCell (p:=⟨w.heap.size+1,0,none⟩) (by simp) (.slice (some ⟨w3.heap.size,0,none⟩) n n)).setCell (p:=⟨w.heap.size+1,1,none⟩) (by simp) (.slice (some ⟨w5.heap.size,0,none⟩) n' n')).setCell (p:=⟨w.heap.size+1,2,none⟩) (by simp) (.int .i64 f)).setCell (p:=⟨w.heap.size+1,3,none⟩) (by simp) (.bool d);have hs7:(((((((w6.setCell ⟨w.heap.size+1+1,1,none⟩ (.slice (some ⟨w5.heap.size,0,none⟩) n' n')).setCell ⟨w.heap.size+1+1,2,none⟩ (.int .i64 f)).setCell ⟨w.heap.size+1+1,3,none⟩ (.bool d)).setCell ⟨w.heap.size+1,0,none⟩ (.slice (some ⟨w3.heap.size,0,none⟩) n n)).setCell ⟨w.heap.size+1,1,none⟩ (.slice (some ⟨w5.heap.size,0,none⟩) n' n')).setCell ⟨w.heap.size+1,2,none⟩ (.int .i64 f)).setCell ⟨w.heap.size+1,3,none⟩ (.bool d)).heap.size=w6.heap.size:=by simp[World.setCell]
 generalize (((((((w6.setCell ⟨w.heap.size+1+1,1,none⟩ (.slice (some ⟨w5.heap.size,0,none⟩) n' n')).setCell ⟨w.heap.size+1+1,2,none⟩ (.int .i64 f)).setCell ⟨w.heap.size+1+1,3,none⟩ (.bool d)).setCell ⟨w.heap.size+1,0,none⟩ (.slice (some ⟨w3.heap.size,0,none⟩) n n)).setCell ⟨w.heap.size+1,1,none⟩ (.slice (some ⟨w5.heap.size,0,none⟩) n' n')).setCell ⟨w.heap.size+1,2,none⟩ (.int .i64 f)).setCell ⟨w.heap.size+1,3,none⟩ (.bool d))=w7 at *;have hs6:=HS6.out;have hrow:Row w7 w3.heap.size 5 zs:=by unfold Row;rw[hoth _ (by omega)];exact HV6.out
 refine bodyPost_ret (v:=.agg #[.slice (some ⟨w3.heap.size,0,none⟩) n n,.slice (some ⟨w5.heap.size,0,none⟩) n' n',.int .i64 f,.bool d]) (results_cell_row rfl _ _ (w.heap.size+1) 40 _ (0,0) _ rfl r4 Tryz.underlying40 rfl (by kernel_rfl)) rfl ⟨_,rfl,?_,hB7⟩;refine⟨_,_,_,_,w5.heap.size,by rw[hn,hn'],hrow.at_,hrow.open_,fun ad e=>?_,by omega,by omega,Nat.le_refl _,?_,by omega⟩
 ·cases e;exact⟨by show w.heap.size≤w3.heap.size;omega,qvl⟩
 ·rw[hs7];exact PMine.keep (show PMine _ _ _ _ _ from HP6.out) (fun k hk hk'=>hoth k (by omega)) (by omega)
end Go.Proofs.YthmeoilbmfdhfaaGreat
