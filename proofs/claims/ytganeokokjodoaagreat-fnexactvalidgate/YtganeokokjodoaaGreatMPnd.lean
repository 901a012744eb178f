import Derived.Test.YtganeokokjodoaaGreatMReg5
import Derived.Test.YtganeokokjodoaaGreatMBase
namespace Go.Proofs.YtganeokokjodoaaGreat
open Go.ChangeShapes Go.WideShapes Go.ChangeAt Go.RowKit
set_option linter.unusedVariables false
abbrev PD:=Int×List Int
def PAt (w:World) (a:Option Addr) (ps:List PD):Prop:=
 ps=[]∨∃ b off,a=some ⟨b,off,none⟩∧b<w.heap.size∧∀ i,i<ps.length→∃ x c,w.cell? ⟨b,off+i*2,none⟩=some (.int .i64 (ps.getD i (0,[])).1)∧
  w.cell? ⟨b,off+i*2+1,none⟩=some (.slice x (ps.getD i (0,[])).2.length c)∧At .u8 w x (ps.getD i (0,[])).2
theorem PAt.get {w:World} {a:Option Addr} {ps:List PD} (h:PAt w a ps) (hz:0<ps.length) :
  ∃ b off,a=some ⟨b,off,none⟩∧b<w.heap.size∧∀ i,i<ps.length→∃ x c,w.cell? ⟨b,off+i*2,none⟩=some (.int .i64 (ps.getD i (0,[])).1)∧
  w.cell? ⟨b,off+i*2+1,none⟩=some (.slice x (ps.getD i (0,[])).2.length c)∧At .u8 w x (ps.getD i (0,[])).2:=by
 rcases h with h|h
 ·simp[h] at hz
 ·exact h
theorem PAt.below {w w':World} {a:Option Addr} {ps:List PD} (h:PAt w a ps) (hb:Below w.heap.size w w'):PAt w' a ps:=by
 rcases h with h|⟨b,off,rfl,hl,hc⟩
 ·exact .inl h
 ·exact .inr ⟨b,off,rfl,by have:=hb.size;omega,fun i hi=>by
   obtain⟨x,c,h1,h2,h3⟩:=hc i hi;exact⟨x,c,by rw[hb.cell (p:=⟨b,off+i*2,none⟩) hl];exact h1,by rw[hb.cell (p:=⟨b,off+i*2+1,none⟩) hl];exact h2,h3.below hb⟩⟩
def pSum (ps:List PD):Nat:=(ps.map (fun p=>p.2.length)).sum
theorem pSum_snoc (ps:List PD) (k:Nat) (h:k<ps.length):pSum (ps.take (k+1))=pSum (ps.take k)+(ps.getD k (0,[])).2.length:=by
 rw[List.take_succ_eq_append_getElem h]
 unfold pSum
 rw[List.map_append,List.sum_append]
 simp[h]
theorem pSum_take (ps:List PD) (k:Nat):pSum (ps.take k)≤pSum ps:=by
 conv=>rhs;rw[←List.take_append_drop k ps]
 unfold pSum
 rw[List.map_append,List.sum_append]
 omega
def szR (left:Int) (n:Nat):Int:=if left<n then -1 else left-n
set_option maxHeartbeats 400000 in
theorem szB_any (a:Option Addr) (n cap:Nat) (left:Int) (w:World) (h0:0≤left) (h1:left≤1048576) (hn:n≤9223372036854775807) :
  Calls Tryz.prog 19 #[.slice a n cap,.int .i64 left] w fun e w'=>e=.returned (.int .i64 (szR left n))∧w'=w:=by
 have HZ:Hid (szR left n=if left<n then -1 else left-n):=rfl
 by_cases h:left<n
 ·have t:left-(n:Int)<0:=by omega
  go_enter Tryz.func19,Tryz.ntmps19;go_wp2
  go_ret
  exact⟨ret_int (by rw[HZ.out,if_pos h]),rfl⟩
 ·have t:¬ (left-(n:Int)<0):=by omega
  go_enter Tryz.func19,Tryz.ntmps19;go_wp2
  go_ret
  exact⟨ret_int (by rw[HZ.out,if_neg (by omega)]),rfl⟩
set_option maxHeartbeats 400000 in
theorem szP_any (s:Int) (x:Option Addr) (n c:Nat) (left:Int) (w:World) (h0:0≤left) (h1:left≤1048576) (hn:n≤9223372036854775807) :
  Calls Tryz.prog 54 #[.agg #[.int .i64 s,.slice x n c],.int .i64 left] w fun e w'=>e=.returned (.int .i64 (szR left n))∧Below w.heap.size w w':=by
 have HZ:Hid (szR left n=if left<n then -1 else left-n):=rfl
 have hb:=(Below.refl w.heap.size w).alloc (Nat.le_refl _) (.cells #[.int .i64 s,.slice x n c] 103)
 go_enter Tryz.func54,Tryz.ntmps54
 go_wp2_with (go_at_call 19;refine(szB_any _ _ _ _ _ h0 h1 hn).mono ?_;rintro e w1 ⟨rfl,rfl⟩)
 ·go_ret
  refine⟨ret_int ?_,hb⟩
  rename_i h
  rw[HZ.out] at h ⊢;split<;>simp_all<;>omega
 ·go_ret
  exact⟨rfl,hb⟩
set_option maxHeartbeats 400000 in
theorem szPS_any (a:Option Addr) (n cap:Nat) (ps:List PD) (left:Int) (w:World) (hl:ps.length=n) (h0:0≤left) (h1:left≤1048576) (hn:n≤9223372036854775807) (ha:PAt w a ps) (hps:∀ i,(ps.getD i (0,[])).2.length≤9223372036854775807) :
  Calls Tryz.prog 20 #[.slice a n cap,.int .i64 left] w fun e w'=>e=.returned (.int .i64 (szR left (n+pSum ps)))∧Below w.heap.size w w':=by
 have HZ:Hid (∀ left n,szR left n=if left<n then -1 else left-n):=fun _ _=>rfl
 by_cases h:left<n
 ·have t:left-(n:Int)<0:=by omega
  go_enter Tryz.func20,Tryz.ntmps20;go_wp2
  go_ret
  exact⟨ret_int (by rw[HZ.out,if_pos (by omega)]),Below.refl _ _⟩
 have t:¬ (left-(n:Int)<0):=by omega
 go_enter Tryz.func20,Tryz.ntmps20
 go_wp2
 go_loopw [1,5] (fun q i wr=>∃ k:Nat,k≤n∧i=.int .i64 k∧q=.int .i64 (left-n-pSum (ps.take k))∧0≤left-n-pSum (ps.take k)∧Below w.heap.size w wr) (fun _ i _=>n-(intOf i).toNat)
 case atStart=>exact⟨0,Nat.zero_le _,rfl,by simp[pSum],by simp[pSum];omega,Below.refl _ _⟩
 case round=>
  obtain⟨k,hk,rfl,rfl,hpos,hbel⟩:=hrel;by_cases hlt:k<n
  ·have hps':=hps k;have hsn:=pSum_snoc ps k (by omega);have hst:=pSum_take ps (k+1);obtain⟨b,off,rfl,hb,hc⟩:=(ha.below hbel).get (by omega);obtain⟨x,c,h1,h2,h3⟩:=hc k (by omega);generalize (ps.getD k (0,[])).1=s at *;generalize (ps.getD k (0,[])).2.length=m at *;clear hc ha;by_cases hneg:left-n-pSum (ps.take k)<m
   ·have hr:szR (left-n-pSum (ps.take k)) m=-1:=by rw[HZ.out,if_pos hneg]
    have e:=HZ.out left (n+pSum ps);rw[if_pos (by omega)] at e;go_wp2_with (go_at_call 54;refine(szP_any _ _ _ _ _ _ hpos (by omega) hps').mono ?_;rintro e w1 ⟨rfl,hb1⟩;rw[hr])
    go_ret
    exact⟨ret_int e.symm,hbel.trans (hb1.mono hbel.size)⟩
   ·have hr:szR (left-n-pSum (ps.take k)) m=left-n-pSum (ps.take (k+1)):=by rw[HZ.out,if_neg hneg,hsn];omega
    have hp':0≤left-n-pSum (ps.take (k+1)):=by omega
    go_wp2_with (go_at_call 54;refine(szP_any _ _ _ _ _ _ hpos (by omega) hps').mono ?_;rintro e w1 ⟨rfl,hb1⟩;rw[hr];have HB1:Hid _:=hb1;clear hb1);go_roundw
    case rel=>exact⟨k+1,by omega,by go_num,by rw[hsn,Int.natCast_add],hp',hbel.trans (HB1.out.mono hbel.size)⟩
    case measure=>simp[intOf];omega
  ·have hkn:ps.take k=ps:=List.take_of_length_le (by omega);rw[hkn] at hpos ⊢;have e:=HZ.out left (n+pSum ps);go_wp2
   go_ret
   exact⟨ret_int (by rw[e,if_neg (by omega)];omega),hbel⟩
set_option maxHeartbeats 400000 in
theorem szD_any (a:Option Addr) (n cap:Nat) (a':Option Addr) (n' cap':Nat) (ps:List PD) (f:Int) (d:Bool) (left:Int) (w:World) (hl:ps.length=n') (h0:0≤left) (h1:left≤1048576) (hn:n≤9223372036854775807) (hn':n'≤9223372036854775807) (ha:PAt w a' ps) (hps:∀ i,(ps.getD i (0,[])).2.length≤9223372036854775807) :
  Calls Tryz.prog 5 #[.agg #[.slice a n cap,.slice a' n' cap',.int .i64 f,.bool d],.int .i64 left] w fun e w'=>e=.returned (.int .i64 (szR left (n+(n'+pSum ps))))∧Below w.heap.size w w':=by
 have HZ:Hid (∀ left n,szR left n=if left<n then -1 else left-n):=fun _ _=>rfl
 have hb:=(Below.refl w.heap.size w).alloc (Nat.le_refl _) (.cells #[.slice a n cap,.slice a' n' cap',.int .i64 f,.bool d] 25)
 have ha1:=ha.below hb
 by_cases hc:left<n
 ·have hr:szR left n=-1:=by rw[HZ.out,if_pos hc]
  have e0:=HZ.out left (n+(n'+pSum ps));rw[if_pos (by omega)] at e0;go_enter Tryz.func5,Tryz.ntmps5;go_wp2_with (go_at_call 19;refine(szB_any _ _ _ _ _ h0 h1 hn).mono ?_;rintro e w1 ⟨rfl,rfl⟩;rw[hr])
  go_ret
  exact⟨ret_int e0.symm,hb⟩
 ·have hr:szR left n=left-n:=by rw[HZ.out,if_neg hc]
  have hpos:0≤left-(n:Int):=by omega
  have hd:szR left (n+(n'+pSum ps))=szR (left-n) (n'+pSum ps):=by
   rw[HZ.out,HZ.out];by_cases h:left<((n+(n'+pSum ps):Nat):Int)
   ·rw[if_pos h,if_pos (by omega)]
   ·rw[if_neg h,if_neg (by omega)];omega
  have hd':szR (left-n) (n'+pSum ps)<0→szR (left-n) (n'+pSum ps)=-1:=by
   rw[HZ.out];split<;>omega
  have HD:Hid _:=hd;have HD':Hid _:=hd';clear hd hd';go_enter Tryz.func5,Tryz.ntmps5;go_wp2_with (first
   |(go_at_call 19;refine(szB_any _ _ _ _ _ h0 h1 hn).mono ?_;rintro e w1 ⟨rfl,rfl⟩;rw[hr])
   |(go_at_call 20;refine(szPS_any _ _ _ ps _ _ hl hpos (by omega) hn' ha1 hps).mono ?_;rintro e w2 ⟨rfl,hb2⟩;have HB2:Hid _:=hb2;clear hb2))
  ·go_ret
   rename_i hneg
   exact⟨ret_int (by rw[HD.out,HD'.out hneg]),hb.trans (HB2.out.mono hb.size)⟩
  ·go_ret
   exact⟨ret_int HD.out.symm,hb.trans (HB2.out.mono hb.size)⟩
theorem owns_row {w:World} {B g n:Nat} {zs:List Int} {e:TypeId} (h:w.ownsRow B e 1 (.slice (some ⟨g,0,none⟩) n n) n (zs.map (Value.int .u8))):w.heap[g]?=some (.cells (zs.map (Value.int .u8)).toArray e (0,0)):=by
 obtain⟨h1,⟨h2,_⟩|⟨g',cap,cur,hv,hb,hh,hc,hm,hs,ht⟩⟩:=h
 ·cases h2
 ·cases hv;rw[List.take_of_length_le (by simp;omega)] at ht;rw[hh,←ht]
set_option maxHeartbeats 400000 in
theorem toP_any (s:Int) (x:Option Addr) (n c:Nat) (zs:List Int) (w:World) (hn:zs.length=n) (hm:n≤1048576) (ha:At .u8 w x zs) :
  Calls Tryz.prog 62 #[.agg #[.int .i64 s,.slice x n c]] w fun e w'=>∃ g,e=.returned (.agg #[.int .i64 s,.slice (some ⟨g,0,none⟩) n n])∧w.heap.size≤g∧w'.heap[g]?=some (.cells (zs.map (Value.int .u8)).toArray 5 (0,0))∧Below w.heap.size w w':=by
 go_enter Tryz.func62,Tryz.ntmps62
 go_wp2_with fail
 have hb:=(((Below.refl w.heap.size w).alloc (Nat.le_refl _) (.cells #[.int .i64 s,.slice x n c] 103)).alloc (by simp) (.cells #[.int .i64 0,.slice none 0 0] 104)).alloc (by simp;omega) (.cells #[.int .i64 s,.slice none 0 0] 104)
 have h2:(((w.alloc (.cells #[.int .i64 s,.slice x n c] 103)).alloc (.cells #[.int .i64 0,.slice none 0 0] 104)).alloc (.cells #[.int .i64 s,.slice none 0 0] 104)).heap[w.heap.size+1+1]?=some (.cells #[.int .i64 s,.slice none 0 0] 104 (0,0)):=by
  have:=heap_alloc_new ((w.alloc (.cells #[.int .i64 s,.slice x n c] 103)).alloc (.cells #[.int .i64 0,.slice none 0 0] 104)) (.cells #[.int .i64 s,.slice none 0 0] 104);simpa using this
 have h1:(((w.alloc (.cells #[.int .i64 s,.slice x n c] 103)).alloc (.cells #[.int .i64 0,.slice none 0 0] 104)).alloc (.cells #[.int .i64 s,.slice none 0 0] 104)).heap[w.heap.size+1]?=some (.cells #[.int .i64 0,.slice none 0 0] 104 (0,0)):=by
  rw[((Below.refl _ ((w.alloc (.cells #[.int .i64 s,.slice x n c] 103)).alloc (.cells #[.int .i64 0,.slice none 0 0] 104))).alloc (Nat.le_refl _) _).block _ (by simp)];have:=heap_alloc_new (w.alloc (.cells #[.int .i64 s,.slice x n c] 103)) (.cells #[.int .i64 0,.slice none 0 0] 104);simpa using this
 have hz3:(((w.alloc (.cells #[.int .i64 s,.slice x n c] 103)).alloc (.cells #[.int .i64 0,.slice none 0 0] 104)).alloc (.cells #[.int .i64 s,.slice none 0 0] 104)).heap.size=w.heap.size+3:=by simp
 generalize (((w.alloc (.cells #[.int .i64 s,.slice x n c] 103)).alloc (.cells #[.int .i64 0,.slice none 0 0] 104)).alloc (.cells #[.int .i64 s,.slice none 0 0] 104))=w3 at *
 have ha3:=ha.below hb
 have HZ3:Hid _:=hz3
 clear hz3
 refine(toB_any x n c zs w3 hn hm ha3).mono ?_
 rintro e w4 ⟨rfl,ho4,hb4⟩
 have k2:w4.heap[w.heap.size+1+1]?=some (.cells #[.int .i64 s,.slice none 0 0] 104 (0,0)):=by rw[hb4.block _ (by have:=HZ3.out;omega)];exact h2
 have k1:w4.heap[w.heap.size+1]?=some (.cells #[.int .i64 0,.slice none 0 0] 104 (0,0)):=by rw[hb4.block _ (by have:=HZ3.out;omega)];exact h1
 have c20:=cell_of_row w4 (w.heap.size+1+1) 0 _ _ _ k2
 have c21:=cell_of_row w4 (w.heap.size+1+1) 1 _ _ _ k2
 have c10:=cell_of_row w4 (w.heap.size+1) 0 _ _ _ k1
 have c11:=cell_of_row w4 (w.heap.size+1) 1 _ _ _ k1
 have f2:=frozen_of_row w4 (w.heap.size+1+1) 1 _ _ k2
 have f10:=frozen_of_row w4 (w.heap.size+1) 0 _ _ k1
 have f11:=frozen_of_row w4 (w.heap.size+1) 1 _ _ k1
 simp at c20 c21 c10 c11
 have hv:w4.heap[w3.heap.size]?=some (.cells (zs.map (Value.int .u8)).toArray 5 (0,0)):=owns_row ho4
 have HV:Hid _:=hv
 have HB4:Hid _:=hb4
 have HB3:Hid _:=hb
 have K1:Hid _:=k1
 clear ho4 hb4 hb k1 k2 h1 h2 ha ha3 hv
 go_wp2
 have K2:=heap_setCell_same _ (w.heap.size+1) 0 _ _ (.int .i64 s) ((heap_setCell_other w4 ⟨w.heap.size+1+1,1,none⟩ (w.heap.size+1) (.slice (some ⟨w3.heap.size,0,none⟩) n n) (by simp)).trans K1.out)
 have K3:=heap_setCell_same _ (w.heap.size+1) 1 _ _ (.slice (some ⟨w3.heap.size,0,none⟩) n n) K2
 have hz3:=HZ3.out
 refine bodyPost_ret (v:=.agg #[.int .i64 s,.slice (some ⟨w3.heap.size,0,none⟩) n n]) (results_cell_row rfl _ _ (w.heap.size+1) 104 _ (0,0) _ rfl K3 Tryz.underlying104 rfl (by kernel_rfl)) rfl ⟨w3.heap.size,rfl,by omega,?_,?_⟩
 ·rw[heap_setCell_other _ _ _ _ (by simp;omega),heap_setCell_other _ _ _ _ (by simp;omega),heap_setCell_other _ _ _ _ (by simp;omega)];exact HV.out
 ·exact(((HB3.out.trans (HB4.out.mono (by omega))).setCell (by simp;omega) _).setCell (by simp) _).setCell (by simp) _
end Go.Proofs.YtganeokokjodoaaGreat
namespace Go.Proofs.YtganeokokjodoaaGreat
open Go.ChangeShapes Go.WideShapes Go.ChangeAt Go.RowKit
set_option linter.unusedVariables false
structure WrO (a:Option Addr) (w w':World):Prop where
 os:w'.os=w.os
 tape:w'.tape=w.tape
 output:w'.output=w.output
 size:w'.heap.size=w.heap.size
 block:∀ k,(∀ ad,a=some ad→k≠ad.block)→w'.heap[k]?=w.heap[k]?
theorem WrO.refl (a:Option Addr) (w:World):WrO a w w:=⟨rfl,rfl,rfl,rfl,fun _ _=>rfl⟩
theorem WrO.setCell {a:Option Addr} {w w':World} (h:WrO a w w') (ad:Addr) (ha:a=some ad) (o:Nat) (v:Value):WrO a w (w'.setCell ⟨ad.block,o,none⟩ v):=
 ⟨h.os,h.tape,h.output,by simp[World.setCell];exact h.size,fun k hk=>(heap_setCell_other w' ⟨ad.block,o,none⟩ k v (hk ad ha)).trans (h.block k hk)⟩
theorem WrO.below {a:Option Addr} {w w':World} (h:WrO a w w') (B:Nat) (hB:∀ ad,a=some ad→B≤ad.block):Below B w w':=
 ⟨h.os,h.tape,h.output,by rw[h.size];exact Nat.le_refl _,fun k hk=>h.block k (fun ad e=>by have:=hB ad e;omega)⟩
def Open (w:World) (a:Option Addr) (n:Nat):Prop:=
 n=0∨∃ g o,a=some ⟨g,o,none⟩∧g<w.heap.size∧∀ i,i<n→(w.cell? ⟨g,o+i,none⟩).isSome=true∧w.frozen? ⟨g,o+i,none⟩=false
theorem Open.below {w w':World} {a:Option Addr} {n:Nat} (h:Open w a n) (hb:Below w.heap.size w w'):Open w' a n:=by
 rcases h with h|⟨g,o,h1,h2,h3⟩
 ·exact .inl h
 ·exact .inr ⟨g,o,h1,by have:=hb.size;omega,fun i hi=>by rw[hb.cell (p:=⟨g,o+i,none⟩) h2,hb.frozen (p:=⟨g,o+i,none⟩) h2];exact h3 i hi⟩
end Go.Proofs.YtganeokokjodoaaGreat
namespace Go.Proofs.YtganeokokjodoaaGreat
open Go.ChangeShapes Go.WideShapes Go.ChangeAt Go.RowKit
set_option linter.unusedVariables false
def marks (k:Int) (n:Nat):List Int:=(List.range n).map (fun i:Nat=>(k+(i:Int))%256)
theorem marks_len (k:Int) (n:Nat):(marks k n).length=n:=by simp[marks]
theorem marks_get (k:Int) (n i:Nat) (h:i<n):(marks k n).getD i 0=(k+i)%256:=by simp[marks,h]
set_option maxHeartbeats 400000 in
theorem markB_any (a:Option Addr) (n cap:Nat) (k:Int) (w:World) (ho:Open w a n) (hk:0≤k) (hk':k+n≤1099511627776) :
  Calls Tryz.prog 41 #[.slice a n cap,.int .i64 k] w fun e w'=>e=.returned (.int .i64 (k+n))∧At .u8 w' a (marks k n)∧WrO a w w':=by
 go_enter Tryz.func41,Tryz.ntmps41
 go_wp2
 go_loopw [1,5] (fun q i wr=>∃ j:Nat,j≤n∧i=.int .i64 j∧q=.int .i64 (k+j)∧WrO a w wr∧
   (n=0∨∃ g o,a=some ⟨g,o,none⟩∧g<w.heap.size∧(∀ t,t<n→(wr.cell? ⟨g,o+t,none⟩).isSome=true∧wr.frozen? ⟨g,o+t,none⟩=false)∧∀ t,t<j→wr.cell? ⟨g,o+t,none⟩=some (.int .u8 ((k+(t:Int))%256)))) (fun _ i _=>n-(intOf i).toNat)
 case atStart=>
  refine⟨0,Nat.zero_le _,rfl,by simp,WrO.refl _ _,?_⟩;rcases ho with h|⟨g,o,h1,h2,h3⟩
  ·exact .inl h
  ·exact .inr ⟨g,o,h1,h2,h3,fun t ht=>by omega⟩
 case round=>
  obtain⟨j,hj,rfl,rfl,hwr,hs⟩:=hrel;by_cases hlt:j<n
  ·rcases hs with h|⟨g,o,rfl,hg,hc,hd⟩
   ·omega
   ·obtain⟨hc1,hf1⟩:=hc j hlt;obtain⟨v0,hv0⟩:=Option.isSome_iff_exists.1 hc1;have HW:Hid (WrO (some ⟨g,o,none⟩) w (wr.setCell ⟨g,o+j,none⟩ (.int .u8 ((k+(j:Int))%256)))):=hwr.setCell _ rfl _ _;have HC:Hid (∀ t,t<n→((wr.setCell ⟨g,o+j,none⟩ (.int .u8 ((k+(j:Int))%256))).cell? ⟨g,o+t,none⟩).isSome=true∧(wr.setCell ⟨g,o+j,none⟩ (.int .u8 ((k+(j:Int))%256))).frozen? ⟨g,o+t,none⟩=false):=by
     intro t ht;obtain⟨u,hu⟩:=Option.isSome_iff_exists.1 (hc t ht).1;obtain⟨u',hu'⟩:=cell?_setCell_some (w:=wr) (p:=⟨g,o+j,none⟩) (x:=.int .u8 ((k+(j:Int))%256)) (q:=⟨g,o+t,none⟩) (v:=u) hu;refine⟨by rw[hu'];rfl,?_⟩;rw[World.frozen?_setCell];exact(hc t ht).2
    have HD:Hid (∀ t,t<j+1→(wr.setCell ⟨g,o+j,none⟩ (.int .u8 ((k+(j:Int))%256))).cell? ⟨g,o+t,none⟩=some (.int .u8 ((k+(t:Int))%256))):=by
     intro t ht;by_cases e:t=j
     ·subst e;exact World.cell?_setCell_same _ _ _ hv0
     ·rw[World.cell?_setCell_other _ _ _ _ (by simp;try omega)];exact hd t (by omega)
    clear hc hd hwr ho hc1;go_wp2;go_roundw
    case rel=>exact⟨j+1,by omega,by go_num,by go_num,HW.out,.inr ⟨g,o,rfl,hg,HC.out,HD.out⟩⟩
    case measure=>simp[intOf];omega
  ·have hjn:j=n:=by omega
   subst hjn;have HA:Hid (At .u8 wr a (marks k j)):=by
    rcases hs with h|⟨g,o,rfl,hg,hc,hd⟩
    ·subst h;exact .inl rfl
    ·exact .inr ⟨g,o,rfl,by rw[hwr.size];exact hg,fun i hi=>by rw[marks_len] at hi;rw[hd i hi,marks_get k j i hi]⟩
   clear hs ho;go_wp2
   go_ret
   exact⟨rfl,HA.out,hwr⟩
end Go.Proofs.YtganeokokjodoaaGreat
namespace Go.Proofs.YtganeokokjodoaaGreat
open Go.ChangeShapes Go.WideShapes Go.ChangeAt Go.RowKit
set_option linter.unusedVariables false
theorem Tryz.infoPend:(Tryz.prog.info? 104).map (fun i=>(i.zero,i.size,i.bytes))=some (some (.agg #[.int .i64 0,.slice none 0 0]),2,32):=by kernel_rfl
structure TP (w wr:World) (g n:Nat) (X:Nat→Nat) (ps:List PD) (k:Nat):Prop where
 below:Below w.heap.size w wr
 blk:∃ cur,wr.heap[g]?=some (.cells cur 104 (0,0))∧cur.size=n*2∧∀ i,i<k→cur[i*2]?=some (.int .i64 (ps.getD i (0,[])).1)∧cur[i*2+1]?=some (.slice (some ⟨X i,0,none⟩) (ps.getD i (0,[])).2.length (ps.getD i (0,[])).2.length)
 rows:∀ i,i<k→Row wr (X i) 5 (ps.getD i (0,[])).2∧g<X i
 ord:∀ i j,i<j→j<k→X i<X j
def PMine (B U:Nat) (w:World) (a:Option Addr) (ps:List PD):Prop:=
 ps=[]∨∃(g o:Nat) (X:Nat→Option Addr) (C:Nat→Nat),a=some ⟨g,o,none⟩∧B≤g∧g<U∧U≤w.heap.size∧
  (∀ i,i<ps.length→w.cell? ⟨g,o+i*2,none⟩=some (.int .i64 (ps.getD i (0,[])).1)∧w.frozen? ⟨g,o+i*2,none⟩=false∧w.cell? ⟨g,o+i*2+1,none⟩=some (.slice (X i) (ps.getD i (0,[])).2.length (C i))∧
   At .u8 w (X i) (ps.getD i (0,[])).2∧Open w (X i) (ps.getD i (0,[])).2.length∧(∀ ad,X i=some ad→B≤ad.block∧ad.block<U∧ad.block≠g)∧(ps.getD i (0,[])).2.length≤C i)∧
  ∀ i j ad ad',i<ps.length→j<ps.length→i≠j→X i=some ad→X j=some ad'→ad.block≠ad'.block
theorem PMine.at_ {B U:Nat} {w:World} {a:Option Addr} {ps:List PD} (h:PMine B U w a ps):PAt w a ps:=by
 rcases h with h|⟨g,o,X,C,ha,_,hg,hU,h1,_⟩
 ·exact .inl h
 ·exact .inr ⟨g,o,ha,by omega,fun i hi=>⟨X i,C i,(h1 i hi).1,(h1 i hi).2.2.1,(h1 i hi).2.2.2.1⟩⟩
theorem PMine.below {B U:Nat} {w w':World} {a:Option Addr} {ps:List PD} (h:PMine B U w a ps) (hb:Below w.heap.size w w'):PMine B U w' a ps:=by
 have hs:=hb.size
 rcases h with h|⟨g,o,X,C,ha,hB,hg',hU,h1,h2⟩
 ·exact .inl h
 ·have hg:g<w.heap.size:=by omega
  refine .inr ⟨g,o,X,C,ha,hB,hg',by omega,fun i hi=>?_,h2⟩;obtain⟨p1,p2,p3,p4,p5,p6⟩:=h1 i hi;exact⟨by rw[hb.cell (p:=⟨g,o+i*2,none⟩) hg];exact p1,by rw[hb.frozen (p:=⟨g,o+i*2,none⟩) hg];exact p2,by rw[hb.cell (p:=⟨g,o+i*2+1,none⟩) hg];exact p3,p4.below hb,p5.below hb,
   p6⟩
theorem Row.open_ {w:World} {g:Nat} {t:TypeId} {zs:List Int} (h:Row w g t zs):Open w (some ⟨g,0,none⟩) zs.length:=
 .inr ⟨g,0,rfl,h.lt,fun i hi=>by rw[Nat.zero_add];exact⟨by rw[h.cell i hi];rfl,h.frozen i⟩⟩
theorem TP.mine {w wr:World} {g n:Nat} {X:Nat→Nat} {ps:List PD} (h:TP w wr g n X ps ps.length) (hg:w.heap.size≤g):PMine w.heap.size wr.heap.size wr (some ⟨g,0,none⟩) ps:=by
 obtain⟨cur,h1,h2,h3⟩:=h.blk
 refine .inr ⟨g,0,fun i=>some ⟨X i,0,none⟩,fun i=>(ps.getD i (0,[])).2.length,rfl,hg,(Array.getElem?_eq_some_iff.1 h1).1,Nat.le_refl _,fun i hi=>?_,fun i j ad ad' hi hj hij e e'=>?_⟩
 ·obtain⟨c1,c2⟩:=h3 i hi;obtain⟨r1,r2⟩:=h.rows i hi;refine⟨by rw[cell_of_row wr g _ cur _ _ h1,Nat.zero_add];exact c1,frozen_of_row wr g _ cur _ h1,by rw[cell_of_row wr g _ cur _ _ h1,Nat.zero_add];exact c2,r1.at_,r1.open_,fun ad e=>?_,Nat.le_refl _⟩;cases e;exact⟨by show w.heap.size≤X i;omega,r1.lt,by show X i≠g;omega⟩
 ·cases e;cases e';show X i≠X j
  rcases Nat.lt_or_ge i j with h'|h'
  ·have:=h.ord i j h' hj;omega
  ·have:=h.ord j i (by omega) hi;omega
theorem TP.step {w wr w1:World} {g n k g1:Nat} {X:Nat→Nat} {ps:List PD} (h:TP w wr g n X ps k) (hk:k<n) (hg:w.heap.size≤g) (hb:Below wr.heap.size wr w1) (hg1:wr.heap.size≤g1) (hr:Row w1 g1 5 (ps.getD k (0,[])).2) :
  TP w ((w1.setCell ⟨g,k*2,none⟩ (.int .i64 (ps.getD k (0,[])).1)).setCell ⟨g,k*2+1,none⟩ (.slice (some ⟨g1,0,none⟩) (ps.getD k (0,[])).2.length (ps.getD k (0,[])).2.length)) g n (fun i=>if i=k then g1 else X i) ps (k+1):=by
 obtain⟨cur,h1,h2,h3⟩:=h.blk
 have hgl:=(Array.getElem?_eq_some_iff.1 h1).1
 have h1':w1.heap[g]?=some (.cells cur 104 (0,0)):=by rw[hb.block g hgl];exact h1
 have e1:=heap_setCell_same w1 g (k*2) _ _ (.int .i64 (ps.getD k (0,[])).1) h1'
 have e2:=heap_setCell_same _ g (k*2+1) _ _ (.slice (some ⟨g1,0,none⟩) (ps.getD k (0,[])).2.length (ps.getD k (0,[])).2.length) e1
 refine⟨((h.below.trans (hb.mono h.below.size)).setCell hg _).setCell hg _,⟨_,e2,by simp[h2],fun i hi=>?_⟩,fun i hi=>?_,fun i j hij hj=>?_⟩
 ·by_cases e:i=k
  ·subst e;refine⟨?_,?_⟩
   ·rw[Array.getElem?_setIfInBounds_ne (by omega),Array.getElem?_setIfInBounds_self_of_lt (by omega)]
   ·rw[Array.getElem?_setIfInBounds_self_of_lt (by simp;omega)];simp
  ·obtain⟨c1,c2⟩:=h3 i (by omega);refine⟨?_,?_⟩
   ·rw[Array.getElem?_setIfInBounds_ne (by omega),Array.getElem?_setIfInBounds_ne (by omega)];exact c1
   ·rw[Array.getElem?_setIfInBounds_ne (by omega),Array.getElem?_setIfInBounds_ne (by omega),if_neg e];exact c2
 ·by_cases e:i=k
  ·subst e;rw[if_pos rfl];refine⟨?_,by omega⟩;unfold Row;rw[heap_setCell_other _ _ _ _ (by show g1≠g;omega),heap_setCell_other _ _ _ _ (by show g1≠g;omega)];exact hr
  ·rw[if_neg e];obtain⟨r1,r2⟩:=h.rows i (by omega);refine⟨?_,r2⟩;unfold Row;rw[heap_setCell_other _ _ _ _ (by show X i≠g;omega),heap_setCell_other _ _ _ _ (by show X i≠g;omega),hb.block _ r1.lt];exact r1
 ·have hiX:X i<wr.heap.size:=(h.rows i (by omega)).1.lt;rw[if_neg (by omega)];by_cases e:j=k
  ·rw[if_pos e];omega
  ·rw[if_neg e];exact h.ord i j hij (by omega)
set_option maxHeartbeats 400000 in
theorem toPS_any (a:Option Addr) (n cap:Nat) (ps:List PD) (w:World) (hl:ps.length=n) (hn:n≤1048576) (ha:PAt w a ps) (hps:∀ i,(ps.getD i (0,[])).2.length≤1048576) :
  Calls Tryz.prog 28 #[.slice a n cap] w fun e w'=>e=.returned (.slice (some ⟨w.heap.size,0,none⟩) n n)∧PMine w.heap.size w'.heap.size w' (some ⟨w.heap.size,0,none⟩) ps∧Below w.heap.size w w':=by
 obtain⟨i0,hi,hz0,hz1,hz2⟩:=info_parts Tryz.infoPend
 have HI:Hid (i0.bytes=32):=hz2
 clear hz2
 go_enter Tryz.func28,Tryz.ntmps28
 go_wp2_with (first
  |(at_make;refine wpList_make_full _ rfl _ _ 38 rfl w.heap.size 104 i0 (.agg #[.int .i64 0,.slice none 0 0]) 2 Tryz.underlying38 hi hz0 hz1 _ _ _ _ n rfl rfl rfl rfl ?c1 ?c2 ?c3 ?_)
  |fail)
 case c1=>rw[HI.out];omega
 case c2=>unfold maxLen;omega
 case c3=>exact Nat.le_refl _
 intro w1 hown hgrow
 have hb1:Below w.heap.size w w1:=(Below.refl _ _).grown hgrow (Nat.le_refl _) (by simp)
 have hst:TP w w1 w.heap.size n (fun _=>0) ps 0:=by
  obtain⟨h1,⟨h2,_⟩|⟨g',cap,cur,hv,hb,hh,hc,hm,hs,ht⟩⟩:=hown
  ·cases h2
  ·cases hv;exact⟨hb1,⟨cur,hh,hs,fun i hi=>by omega⟩,fun i hi=>by omega,fun i j _ hj=>by omega⟩
 clear hown hgrow hb1
 have HST:Hid _:=hst
 clear hst
 go_wp2
 have hst:=HST.out
 go_loopw [4] (fun i wr=>∃(k:Nat) (X:Nat→Nat),k≤n∧i=.int .i64 k∧TP w wr w.heap.size n X ps k) (fun i _=>n-(intOf i).toNat)
 case atStart=>exact⟨0,_,Nat.zero_le _,rfl,hst⟩
 case round=>
  obtain⟨k,X,hk,rfl,st⟩:=hrel;by_cases hlt:k<n
  ·obtain⟨b,off,rfl,hb,hc⟩:=(ha.below st.below).get (by omega);obtain⟨x,c,h1,h2,h3⟩:=hc k (by omega);obtain⟨cur,c1,c2,c3⟩:=st.blk;have hgl:=(Array.getElem?_eq_some_iff.1 c1).1;have HST1:Hid _:=st;have HC1:Hid _:=c1;have hp:=hps k;clear hc ha c3 HST st c1 hst;generalize hs:(ps.getD k (0,[])).1=s at *;generalize hzs:(ps.getD k (0,[])).2=zs at *;have HS:Hid _:=hs;have HZS:Hid _:=hzs;clear hs hzs;go_wp2_with fail;refine(toP_any s x zs.length c zs wr rfl hp h3).mono ?_;rintro e w2 ⟨g1,rfl,hg1,hr1,hb2⟩;have HR1:Hid (Row w2 g1 5 zs):=hr1;have k1:w2.heap[w.heap.size]?=some (.cells cur 104 (0,0)):=by rw[hb2.block _ hgl];exact HC1.out
   have d0:w2.cell? ⟨w.heap.size,k*2,none⟩=some (cur[k*2]'(by omega)):=by rw[cell_of_row w2 _ _ _ _ _ k1];simp
   have d1:w2.cell? ⟨w.heap.size,k*2+1,none⟩=some (cur[k*2+1]'(by omega)):=by rw[cell_of_row w2 _ _ _ _ _ k1];simp
   have f0:=frozen_of_row w2 w.heap.size (k*2) _ _ k1;have f1:=frozen_of_row w2 w.heap.size (k*2+1) _ _ k1;generalize (cur[k*2]'(by omega))=o0 at *;generalize (cur[k*2+1]'(by omega))=o1 at *;have HB2:Hid _:=hb2;clear hr1 k1 hb2 h1 h2 h3;go_wp2;have hend:=HST1.out.step hlt (Nat.le_refl _) HB2.out hg1 (by rw[HZS.out];exact HR1.out);rw[HS.out,HZS.out] at hend;go_roundw
   case rel=>exact⟨k+1,_,by omega,by go_num,hend⟩
   case measure=>simp[intOf];omega
  ·have hkn:k=ps.length:=by omega
   rw[hkn] at st;have HM:Hid _:=st.mine (Nat.le_refl _);have HB:Hid _:=st.below;clear st HST hst;go_wp2
   go_ret
   exact⟨rfl,HM.out,HB.out⟩
end Go.Proofs.YtganeokokjodoaaGreat
