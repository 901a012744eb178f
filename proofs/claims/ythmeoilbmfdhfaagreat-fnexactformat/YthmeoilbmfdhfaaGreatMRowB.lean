import Derived.Test.YthmeoilbmfdhfaaGreatMBase
namespace Go.Proofs.YthmeoilbmfdhfaaGreat
open Go.ChangeShapes Go.WideShapes Go.ChangeAt Go.RowKit
set_option linter.unusedVariables false
def Row (w:World) (g:Nat) (e:TypeId) (zs:List Int):Prop:=w.heap[g]?=some (.cells (zs.map (Value.int .u8)).toArray e (0,0))
structure Wr (g:Nat) (w w':World):Prop where
 os:w'.os=w.os
 tape:w'.tape=w.tape
 output:w'.output=w.output
 size:w'.heap.size=w.heap.size
 block:∀ k,k≠g→w'.heap[k]?=w.heap[k]?
theorem Wr.refl (g:Nat) (w:World):Wr g w w:=⟨rfl,rfl,rfl,rfl,fun _ _=>rfl⟩
theorem Wr.trans {g:Nat} {a b c:World} (h:Wr g a b) (k:Wr g b c):Wr g a c:=
 ⟨k.os.trans h.os,k.tape.trans h.tape,k.output.trans h.output,k.size.trans h.size,fun i hi=>(k.block i hi).trans (h.block i hi)⟩
theorem Wr.setCell {g:Nat} {a w:World} (h:Wr g a w) (o:Nat) (u:Value):Wr g a (w.setCell ⟨g,o,none⟩ u):=
 h.trans ⟨rfl,rfl,rfl,by simp[World.setCell],fun k hk=>heap_setCell_other w _ k u hk⟩
theorem Wr.setRow (g:Nat) (w:World) (cs:Array Value):Wr g w (w.setRow g cs):=⟨rfl,rfl,rfl,size_setRow w g cs,fun k hk=>setRow_other w g k cs hk⟩
theorem Wr.drewN {g:Nat} {a w:World} (h:Wr g a w) (n:Nat):Wr g a (w.drewN n):=⟨h.os,h.tape,h.output,h.size,h.block⟩
theorem Wr.drew {g:Nat} {a w:World} (h:Wr g a w):Wr g a w.drew:=⟨h.os,h.tape,h.output,h.size,h.block⟩
theorem Wr.below {g B:Nat} {w w':World} (h:Wr g w w') (hB:B≤g):Below B w w':=⟨h.os,h.tape,h.output,by rw[h.size];exact Nat.le_refl _,fun k hk=>h.block k (by omega)⟩
theorem Wr.row {g g':Nat} {w w':World} {e:TypeId} {zs:List Int} (h:Wr g w w') (hr:Row w g' e zs) (hg:g'≠g):Row w' g' e zs:=by
 unfold Row;rw[h.block g' hg];exact hr
theorem Row.lt {w:World} {g:Nat} {e:TypeId} {zs:List Int} (h:Row w g e zs):g<w.heap.size:=(Array.getElem?_eq_some_iff.1 h).1
theorem Row.cell {w:World} {g:Nat} {e:TypeId} {zs:List Int} (h:Row w g e zs) (i:Nat) (hi:i<zs.length):w.cell? ⟨g,i,none⟩=some (.int .u8 (zs.getD i 0)):=by
 rw[cell_of_row w g i _ e _ h];simp[hi]
theorem Row.frozen {w:World} {g:Nat} {e:TypeId} {zs:List Int} (h:Row w g e zs) (i:Nat):w.frozen? ⟨g,i,none⟩=false:=frozen_of_row w g i _ e h
theorem Row.set {w:World} {g:Nat} {e:TypeId} {zs:List Int} (h:Row w g e zs) (i:Nat) (x:Int):Row (w.setCell ⟨g,i,none⟩ (.int .u8 x)) g e (zs.set i x):=by
 unfold Row;rw[heap_setCell_same w g i _ e _ h];simp[List.map_set]
theorem Row.drew {w:World} {g:Nat} {e:TypeId} {zs:List Int} (h:Row w g e zs):Row w.drew g e zs:=h
theorem Row.at_ {w:World} {g:Nat} {e:TypeId} {zs:List Int} (h:Row w g e zs):At .u8 w (some ⟨g,0,none⟩) zs:=
 .inr ⟨g,0,rfl,h.lt,fun i hi=>by rw[Nat.zero_add];exact h.cell i hi⟩
theorem Row.atTake {w:World} {g:Nat} {e:TypeId} {zs:List Int} (h:Row w g e zs) (n:Nat):At .u8 w (some ⟨g,0,none⟩) (zs.take n):=
 .inr ⟨g,0,rfl,h.lt,fun i hi=>by
  have hi':i<n∧i<zs.length:=by simp at hi;omega
  rw[Nat.zero_add,h.cell i hi'.2];simp[List.getD,hi'.1]⟩
structure WrO (a:Option Addr) (w w':World):Prop where
 os:w'.os=w.os
 tape:w'.tape=w.tape
 output:w'.output=w.output
 size:w'.heap.size=w.heap.size
 block:∀ k,(∀ ad,a=some ad→k≠ad.block)→w'.heap[k]?=w.heap[k]?
theorem WrO.refl (a:Option Addr) (w:World):WrO a w w:=⟨rfl,rfl,rfl,rfl,fun _ _=>rfl⟩
theorem WrO.setCell {a:Option Addr} {w w':World} (h:WrO a w w') (ad:Addr) (ha:a=some ad) (o:Nat) (v:Value):WrO a w (w'.setCell ⟨ad.block,o,none⟩ v):=
 ⟨h.os,h.tape,h.output,by simp[World.setCell];exact h.size,fun k hk=>(heap_setCell_other w' ⟨ad.block,o,none⟩ k v (hk ad ha)).trans (h.block k hk)⟩
theorem WrO.below {a:Option Addr} {w w':World} (h:WrO a w w') (B:Nat) (hB:∀ ad,a=some ad→B≤ad.block):Below B w w':=
 ⟨h.os,h.tape,h.output,by rw[h.size];exact Nat.le_refl _,fun k hk=>h.block k (fun ad e=>by have:=hB ad e;omega)⟩
def Open (w:World) (a:Option Addr) (n:Nat):Prop:=
 n=0∨∃ g o,a=some ⟨g,o,none⟩∧g<w.heap.size∧∀ i,i<n→(w.cell? ⟨g,o+i,none⟩).isSome=true∧w.frozen? ⟨g,o+i,none⟩=false
theorem Open.below {w w':World} {a:Option Addr} {n:Nat} (h:Open w a n) (hb:Below w.heap.size w w'):Open w' a n:=by
 rcases h with h|⟨g,o,h1,h2,h3⟩
 ·exact .inl h
 ·exact .inr ⟨g,o,h1,by have:=hb.size;omega,fun i hi=>by rw[hb.cell (p:=⟨g,o+i,none⟩) h2,hb.frozen (p:=⟨g,o+i,none⟩) h2];exact h3 i hi⟩
def marks (k:Int) (n:Nat):List Int:=(List.range n).map (fun i:Nat=>(k+(i:Int))%256)
theorem marks_len (k:Int) (n:Nat):(marks k n).length=n:=by simp[marks]
theorem marks_get (k:Int) (n i:Nat) (h:i<n):(marks k n).getD i 0=(k+i)%256:=by simp[marks,h]
set_option maxHeartbeats 400000 in
theorem markB_any (a:Option Addr) (n cap:Nat) (k:Int) (w:World) (ho:Open w a n) (hk:0≤k) (hk':k+n≤1099511627776) :
  Calls Tryz.prog 20 #[.slice a n cap,.int .i64 k] w fun e w'=>e=.returned (.int .i64 (k+n))∧At .u8 w' a (marks k n)∧WrO a w w':=by
 go_enter Tryz.func20,Tryz.ntmps20
 go_wp2
 go_loopw [1,5] (fun q i wr=>∃ j:Nat,j≤n∧i=.int .i64 j∧q=.int .i64 (k+j)∧WrO a w wr∧
   (n=0∨∃ g o,a=some ⟨g,o,none⟩∧g<w.heap.size∧(∀ t,t<n→(wr.cell? ⟨g,o+t,none⟩).isSome=true∧wr.frozen? ⟨g,o+t,none⟩=false)∧∀ t,t<j→wr.cell? ⟨g,o+t,none⟩=some (.int .u8 ((k+(t:Int))%256)))) (fun _ i _=>n-(intOf i).toNat)
 case atStart=>
  refine⟨0,Nat.zero_le _,rfl,by simp,WrO.refl _ _,?_⟩;rcases ho with h|⟨g,o,h1,h2,h3⟩
  ·exact .inl h
  ·exact .inr ⟨g,o,h1,h2,h3,fun t ht=>by omega⟩
 case round=>
  obtain⟨j,hj,rfl,rfl,hwr,hs⟩:=hrel;by_cases hlt:j<n
  ·rcases hs with h|⟨g,o,rfl,hg,hc,hd⟩
   ·omega
   ·obtain⟨hc1,hf1⟩:=hc j hlt;obtain⟨v0,hv0⟩:=Option.isSome_iff_exists.1 hc1;have HW:Hid (WrO (some ⟨g,o,none⟩) w (wr.setCell ⟨g,o+j,none⟩ (.int .u8 ((k+(j:Int))%256)))):=hwr.setCell _ rfl _ _;have HC:Hid (∀ t,t<n→((wr.setCell ⟨g,o+j,none⟩ (.int .u8 ((k+(j:Int))%256))).cell? ⟨g,o+t,none⟩).isSome=true∧(wr.setCell ⟨g,o+j,none⟩ (.int .u8 ((k+(j:Int))%256))).frozen? ⟨g,o+t,none⟩=false):=by
     intro t ht;obtain⟨u,hu⟩:=Option.isSome_iff_exists.1 (hc t ht).1;obtain⟨u',hu'⟩:=cell?_setCell_some (w:=wr) (p:=⟨g,o+j,none⟩) (x:=.int .u8 ((k+(j:Int))%256)) (q:=⟨g,o+t,none⟩) (v:=u) hu;refine⟨by rw[hu'];rfl,?_⟩;rw[World.frozen?_setCell];exact(hc t ht).2
    have HD:Hid (∀ t,t<j+1→(wr.setCell ⟨g,o+j,none⟩ (.int .u8 ((k+(j:Int))%256))).cell? ⟨g,o+t,none⟩=some (.int .u8 ((k+(t:Int))%256))):=by
     intro t ht;by_cases e:t=j
     ·subst e;exact World.cell?_setCell_same _ _ _ hv0
     ·rw[World.cell?_setCell_other _ _ _ _ (by simp;try omega)];exact hd t (by omega)
    clear hc hd hwr ho hc1;go_wp2;go_roundw
    case rel=>exact⟨j+1,by omega,by go_num,by go_num,HW.out,.inr ⟨g,o,rfl,hg,HC.out,HD.out⟩⟩
    case measure=>simp[intOf];omega
  ·have hjn:j=n:=by omega
   subst hjn;have HA:Hid (At .u8 wr a (marks k j)):=by
    rcases hs with h|⟨g,o,rfl,hg,hc,hd⟩
    ·subst h;exact .inl rfl
    ·exact .inr ⟨g,o,rfl,by rw[hwr.size];exact hg,fun i hi=>by rw[marks_len] at hi;rw[hd i hi,marks_get k j i hi]⟩
   clear hs ho;go_wp2
   go_ret
   exact⟨rfl,HA.out,hwr⟩
def PMine (B U:Nat) (w:World) (a:Option Addr) (ps:List PD):Prop:=
 ps=[]∨∃(g o:Nat) (X:Nat→Option Addr) (C:Nat→Nat),a=some ⟨g,o,none⟩∧B≤g∧g<U∧U≤w.heap.size∧
  (∀ i,i<ps.length→w.cell? ⟨g,o+i*2,none⟩=some (.int .i64 (ps.getD i (0,[])).1)∧w.frozen? ⟨g,o+i*2,none⟩=false∧w.cell? ⟨g,o+i*2+1,none⟩=some (.slice (X i) (ps.getD i (0,[])).2.length (C i))∧
   At .u8 w (X i) (ps.getD i (0,[])).2∧Open w (X i) (ps.getD i (0,[])).2.length∧(∀ ad,X i=some ad→B≤ad.block∧ad.block<U∧ad.block≠g)∧(ps.getD i (0,[])).2.length≤C i)∧
  ∀ i j ad ad',i<ps.length→j<ps.length→i≠j→X i=some ad→X j=some ad'→ad.block≠ad'.block
theorem PMine.at_ {B U:Nat} {w:World} {a:Option Addr} {ps:List PD} (h:PMine B U w a ps):PAt w a ps:=by
 rcases h with h|⟨g,o,X,C,ha,_,hg,hU,h1,_⟩
 ·exact .inl h
 ·exact .inr ⟨g,o,ha,by omega,fun i hi=>⟨X i,C i,(h1 i hi).1,(h1 i hi).2.2.1,(h1 i hi).2.2.2.1⟩⟩
theorem PMine.below {B U:Nat} {w w':World} {a:Option Addr} {ps:List PD} (h:PMine B U w a ps) (hb:Below w.heap.size w w'):PMine B U w' a ps:=by
 have hs:=hb.size
 rcases h with h|⟨g,o,X,C,ha,hB,hg',hU,h1,h2⟩
 ·exact .inl h
 ·have hg:g<w.heap.size:=by omega
  refine .inr ⟨g,o,X,C,ha,hB,hg',by omega,fun i hi=>?_,h2⟩;obtain⟨p1,p2,p3,p4,p5,p6⟩:=h1 i hi;exact⟨by rw[hb.cell (p:=⟨g,o+i*2,none⟩) hg];exact p1,by rw[hb.frozen (p:=⟨g,o+i*2,none⟩) hg];exact p2,by rw[hb.cell (p:=⟨g,o+i*2+1,none⟩) hg];exact p3,p4.below hb,p5.below hb,
   p6⟩
theorem Row.open_ {w:World} {g:Nat} {t:TypeId} {zs:List Int} (h:Row w g t zs):Open w (some ⟨g,0,none⟩) zs.length:=
 .inr ⟨g,0,rfl,h.lt,fun i hi=>by rw[Nat.zero_add];exact⟨by rw[h.cell i hi];rfl,h.frozen i⟩⟩
def DAt (w:World) (v:Value) (zs:List Int) (ps:List PD) (f:Int) (d:Bool):Prop:=
 ∃ da dc ca cc,v=.agg #[.slice da zs.length dc,.slice ca ps.length cc,.int .i64 f,.bool d]∧At .u8 w da zs∧PAt w ca ps∧zs.length≤dc
def DMine (B U:Nat) (w:World) (v:Value) (zs:List Int) (ps:List PD) (f:Int) (d:Bool):Prop:=
 ∃ da dc ca cc B1,v=.agg #[.slice da zs.length dc,.slice ca ps.length cc,.int .i64 f,.bool d]∧At .u8 w da zs∧Open w da zs.length∧(∀ ad,da=some ad→B≤ad.block∧ad.block<B1)∧B≤B1∧B1≤U∧U≤w.heap.size∧PMine B1 U w ca ps∧zs.length≤dc
theorem DMine.at_ {B U:Nat} {w:World} {v:Value} {zs:List Int} {ps:List PD} {f:Int} {d:Bool} (h:DMine B U w v zs ps f d):DAt w v zs ps f d:=by
 obtain⟨da,dc,ca,cc,B1,hv,h1,_,_,_,_,_,h2,h3⟩:=h
 exact⟨da,dc,ca,cc,hv,h1,h2.at_,h3⟩
theorem DAt.below {w w':World} {v:Value} {zs:List Int} {ps:List PD} {f:Int} {d:Bool} (h:DAt w v zs ps f d) (hb:Below w.heap.size w w'):DAt w' v zs ps f d:=by
 obtain⟨da,dc,ca,cc,hv,h1,h2,h3⟩:=h
 exact⟨da,dc,ca,cc,hv,h1.below hb,h2.below hb,h3⟩
theorem At.keep {k:IntKind} {w w':World} {a:Option Addr} {zs:List Int} (h:At k w a zs) (hk:∀ ad,a=some ad→w'.heap[ad.block]?=w.heap[ad.block]?) (hs:w.heap.size≤w'.heap.size):At k w' a zs:=by
 rcases h with h|⟨b,off,rfl,hl,hc⟩
 ·exact .inl h
 ·exact .inr ⟨b,off,rfl,by omega,fun i hi=>by rw[World.cell?_of_block (a:=⟨b,off+i,none⟩) (w:=w) (hk ⟨b,off,none⟩ rfl)];exact hc i hi⟩
theorem frozen_of_block {w w':World} {a:Addr} (h:w'.heap[a.block]?=w.heap[a.block]?):w'.frozen? a=w.frozen? a:=by
 unfold World.frozen?;rw[h]
theorem Open.keep {w w':World} {a:Option Addr} {n:Nat} (h:Open w a n) (hk:∀ ad,a=some ad→w'.heap[ad.block]?=w.heap[ad.block]?) (hs:w.heap.size≤w'.heap.size):Open w' a n:=by
 rcases h with h|⟨g,o,rfl,h2,h3⟩
 ·exact .inl h
 ·exact .inr ⟨g,o,rfl,by omega,fun i hi=>by
   rw[World.cell?_of_block (a:=⟨g,o+i,none⟩) (w:=w) (hk ⟨g,o,none⟩ rfl),frozen_of_block (a:=⟨g,o+i,none⟩) (w:=w) (hk ⟨g,o,none⟩ rfl)];exact h3 i hi⟩
theorem PMine.keep {B U:Nat} {w w':World} {a:Option Addr} {ps:List PD} (h:PMine B U w a ps) (hk:∀ k,B≤k→k<U→w'.heap[k]?=w.heap[k]?) (hs:w.heap.size≤w'.heap.size):PMine B U w' a ps:=by
 rcases h with h|⟨g,o,X,C,ha,hB,hg,hU,h1,h2⟩
 ·exact .inl h
 ·refine .inr ⟨g,o,X,C,ha,hB,hg,by omega,fun i hi=>?_,h2⟩;obtain⟨p1,p2,p3,p4,p5,p6⟩:=h1 i hi;exact⟨by rw[World.cell?_of_block (a:=⟨g,o+i*2,none⟩) (w:=w) (hk _ hB hg)];exact p1,by rw[frozen_of_block (a:=⟨g,o+i*2,none⟩) (w:=w) (hk _ hB hg)];exact p2,by rw[World.cell?_of_block (a:=⟨g,o+i*2+1,none⟩) (w:=w) (hk _ hB hg)];exact p3,
   p4.keep (fun ad e=>hk _ (p6.1 ad e).1 (p6.1 ad e).2.1) hs,p5.keep (fun ad e=>hk _ (p6.1 ad e).1 (p6.1 ad e).2.1) hs,
   p6⟩
theorem row_setCell {w:World} {g i:Nat} {cs cs':Array Value} {t:TypeId} (v:Value) (h:w.heap[g]?=some (.cells cs t (0,0))) (he:cs.setIfInBounds i v=cs'):(w.setCell ⟨g,i,none⟩ v).heap[g]?=some (.cells cs' t (0,0)):=by
 rw[heap_setCell_same w g i cs t v h,he]
end Go.Proofs.YthmeoilbmfdhfaaGreat
