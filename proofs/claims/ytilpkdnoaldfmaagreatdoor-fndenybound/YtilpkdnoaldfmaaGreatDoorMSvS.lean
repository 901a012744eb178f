import Derived.Test.YtilpkdnoaldfmaaGreatDoorSvK
import Derived.Test.YtilpkdnoaldfmaaGreatDoorMRegU
import Derived.BigQuiet
import Derived.Test.YtilpkdnoaldfmaaGreatDoorMRows8a
import Derived.Test.YtilpkdnoaldfmaaGreatDoorMArgDev
import Derived.Test.YtilpkdnoaldfmaaGreatDoorMCatC
import Derived.Test.YtilpkdnoaldfmaaGreatDoorMSvQ
import Derived.Test.YtilpkdnoaldfmaaGreatDoorMBase
namespace Go.Proofs.YtilpkdnoaldfmaaGreatDoor
open Go.ChangeShapes Go.WideShapes Go.ChangeAt Go.RowKit
set_option linter.unusedVariables false
open Classical in
noncomputable def memB (v:Int) (xs:List Int):Bool:=decide (v∈xs)
theorem memB_yes {v:Int} {xs:List Int} (h:v∈xs):memB v xs=true:=by unfold memB;simp[h]
theorem getD_mem {xs:List Int} {k:Nat} (h:k<xs.length):xs.getD k 0∈xs:=by
 rw[List.getD_eq_getElem?_getD,List.getElem?_eq_getElem h];exact List.getElem_mem h
def den2 (xs:List Int) (i:Nat):List Int:=if i<xs.length then [xs.getD i 0,0] else [0,0]
def denL (xs:List Int) (f k:Nat):List Int:=((List.range k).map (fun j=>den2 xs (f+j))).flatten
theorem denL_succ (xs:List Int) (f k:Nat):denL xs f (k+1)=denL xs f k++den2 xs (f+k):=by
 unfold denL;rw[List.range_succ,List.map_append,List.flatten_append];simp
theorem den2_len (xs:List Int) (i:Nat):(den2 xs i).length=2:=by unfold den2;split<;>rfl
theorem denL_len (xs:List Int) (f k:Nat):(denL xs f k).length=2*k:=by
 induction k with
 |zero=>rfl
 |succ k ih=>rw[denL_succ,List.length_append,ih,den2_len];omega
noncomputable def bv (xs:List Int) (k:Nat):Nat→Int
 |0=>0
 |n+1=>2*bv xs k n+(if memB (8*(k:Int)+(7-(n:Int))) xs=true then 1 else 0)
theorem bv_bd (xs:List Int) (k n:Nat):0≤bv xs k n∧bv xs k n<2^n:=by
 induction n with
 |zero=>exact⟨Int.le_refl _,by simp[bv]⟩
 |succ n ih=>
  simp only[bv,Int.pow_succ];split<;>omega
noncomputable def bitsL (xs:List Int) (k:Nat):List Int:=(List.range k).map (fun i=>bv xs i 8)
theorem bitsL_len (xs:List Int) (k:Nat):(bitsL xs k).length=k:=by simp[bitsL]
end Go.Proofs.YtilpkdnoaldfmaaGreatDoor
namespace Go.Proofs.YtilpkdnoaldfmaaGreatDoor
open Go.ChangeShapes Go.WideShapes Go.ChangeAt Go.RowKit
set_option linter.unusedVariables false
variable {w w':World} {g:Nat} {d u:List Int} {k:Int} {v:Value}
def NeG (g:Nat) (v:Value):Prop:=∀ t,v.ownBlock=some t→t≠g
def TapV (B:Nat) (w:World) (v:Value) (T:List Int) (n:Nat):Prop:=
 T.length=n*2∧((v=.slice none 0 0∧n=0)∨
  ∃ t o c,v=.slice (some ⟨t,o,none⟩) n c∧B≤t∧t<w.heap.size∧n≤c∧c≤9223372036854775807∧(∀ i,i<n*2→w.cell? ⟨t,o+i,none⟩=some (.int .i64 (T.getD i 0))∧w.frozen? ⟨t,o+i,none⟩=false)∧∃ cs,w.heap[t]?=some (.cells cs 123 (0,0))∧o+c*2≤cs.size)
theorem TapO.tapV {B:Nat} {T:List Int} {n:Nat} (h:TapO B w v T n):TapV B w v T n:=by
 have hT:T.length=n*2:=by simpa using h.1
 refine⟨hT,?_⟩;rcases h.2 with⟨h1,h2⟩|⟨t,c,cur,h1,h2,h3,h4,h5,h6,h7⟩
 ·exact .inl ⟨h1,h2⟩
 ·refine .inr ⟨t,0,c,h1,h2,(Array.getElem?_eq_some_iff.1 h3).1,h4,by unfold maxLen at h5;omega,fun i hi=>?_,cur,h3,by omega⟩;rw[Nat.zero_add];refine⟨?_,frozen_of_row _ _ _ _ _ h3⟩;subst h1;rw[World.ownsRow.cellAt h i hi];simp[show i<T.length by omega]
theorem TapV.block {B:Nat} {T:List Int} {n:Nat} (h:TapV B w v T n) (hs:w.heap.size≤w'.heap.size) (hb:∀ t,v.ownBlock=some t→t<w.heap.size→w'.heap[t]?=w.heap[t]?):TapV B w' v T n:=by
 obtain⟨h1,h2|⟨t,o,c,e,hB,ht,hc,hm,hx,cs,hcs,hsz⟩⟩:=h
 ·exact⟨h1,.inl h2⟩
 ·have hk:=hb t (by rw[e];rfl) ht;refine⟨h1,.inr ⟨t,o,c,e,hB,by omega,hc,hm,fun i hi=>?_,cs,by rw[hk];exact hcs,hsz⟩⟩;rw[World.cell?_of_block (a:=⟨t,o+i,none⟩) (w:=w) hk,World.frozen?_of_block (a:=⟨t,o+i,none⟩) (w:=w) hk];exact hx i hi
theorem TapV.drop {B t o c:Nat} {T:List Int} {n:Nat} (h:TapV B w (.slice (some ⟨t,o,none⟩) n c) T n) (m:Nat) (hm:m≤n):TapV B w (ackV t o n c m) (T.drop (m*2)) (n-m):=by
 obtain⟨h1,⟨h2,_⟩|⟨t',o',c',e,hB,ht,hc,hx,hy,cs,hcs,hsz⟩⟩:=h
 ·cases h2
 ·cases e;refine⟨by rw[List.length_drop];omega,.inr ?_⟩;unfold ackV;by_cases he:c=m
  ·rw[if_pos he];exact⟨t,o,c-m,rfl,hB,ht,by omega,by omega,fun i hi=>by omega,cs,hcs,by omega⟩
  ·rw[if_neg he];refine⟨t,o+m*2,c-m,rfl,hB,ht,by omega,by omega,fun i hi=>?_,cs,hcs,by omega⟩;have:=hy (m*2+i) (by omega);rw[←Nat.add_assoc] at this;rw[show(T.drop (m*2)).getD i 0=T.getD (m*2+i) 0 by simp[List.getD]];exact this
def ApP (H B g:Nat) (w:World) (ok:Bool) (D U:Nat→Prop) (k:Int) (T:List Int) (n:Nat) (e:Ending) (w':World):Prop:=
 e=.returned (.bool ok)∧Below H w w'∧(ok=true→∃ d u v,Bk w' g d u k v∧SetB d D∧SetB u U∧TapV B w' v T n∧NeG g v)
def ackM (k a:Int):Nat:=(max a k-k).toNat
theorem bk_ack {B H:Nat} {T:List Int} {n m q:Nat} {v':Value} {k':Int} (hb:Bk w g d u k v) (hH:H≤g) (hgB:NeG g v') (hv:TapV B w v' T n) :
  Bk (((w.setCell ⟨g,65,none⟩ v').drewN q).setCell ⟨g,64,none⟩ (.int .i64 k')) g d u k' v'∧Below H w (((w.setCell ⟨g,65,none⟩ v').drewN q).setCell ⟨g,64,none⟩ (.int .i64 k'))∧
   TapV B (((w.setCell ⟨g,65,none⟩ v').drewN q).setCell ⟨g,64,none⟩ (.int .i64 k')) v' T n:=by
 have hw:Wr g w (((w.setCell ⟨g,65,none⟩ v').drewN q).setCell ⟨g,64,none⟩ (.int .i64 k')):=(((Wr.refl _ _).setCell _ _).drewN _).setCell _ _;refine⟨((hb.setV v').drew q).setK k',hw.below hH,hv.block (by rw[hw.size];exact Nat.le_refl _) (fun t ht _=>hw.block t (hgB t ht))⟩
end Go.Proofs.YtilpkdnoaldfmaaGreatDoor
namespace Go.Proofs.YtilpkdnoaldfmaaGreatDoor
open Go.ChangeShapes Go.WideShapes Go.ChangeAt Go.RowKit
set_option linter.unusedVariables false
variable {w w':World} {g:Nat} {d u:List Int} {k:Int} {v:Value} {D U:Nat→Prop} {T:List Int} {n H B:Nat}
theorem ack_any (m:Nat) (hb:Bk w g d u k v) (hv:TapV B w v T n) (h0:0≤k) (h1:k≤1048576) (hm:m≤n) (hn:n≤1048576) (hH:H≤g) (hgB:NeG g v) :
  Calls Tryz.prog 105 #[.pointer (some ⟨g,0,none⟩),.int .i64 (k+m)] w fun e w'=>e=.returned (.tuple #[])∧Below H w w'∧∃ v',Bk w' g d u (k+m) v'∧TapV B w' v' (T.drop (m*2)) (n-m)∧NeG g v':=by
 have hv0:=hv;obtain⟨hl,⟨rfl,hn0⟩|⟨t,o,c,rfl,hB,ht,hc,hx,hy⟩⟩:=hv
 ·have hm0:m=0:=by omega
  subst hm0;rw[show k+((0:Nat):Int)=k by omega];refine(ackN_any hb h0 h1).mono ?_;rintro e w1 ⟨rfl,q,rfl⟩;obtain⟨r1,r2,r3⟩:=bk_ack (q:=q) (k':=k) (m:=0) hb hH hgB hv0;exact⟨rfl,r2,_,r1,by simpa using r3,hgB⟩
 ·refine(ackS_any t o n c m hb h0 h1 hm hc hn hx).mono ?_;rintro e w1 ⟨rfl,q,rfl⟩;have hne:NeG g (ackV t o n c m):=fun x hx=>hgB x (by unfold ackV at hx;split at hx<;>exact hx)
  obtain⟨r1,r2,r3⟩:=bk_ack (q:=q) (k':=k+m) (m:=m) hb hH hne (hv0.drop m hm);exact⟨rfl,r2,_,r1,r3,hne⟩
theorem TapV.slice (h:TapV B w v T n):∃ a c,v=.slice a n c:=by
 obtain⟨hl,⟨h1,h2⟩|⟨t,o,c,h1,_⟩⟩:=h
 ·exact⟨none,0,by rw[h1,h2]⟩
 ·exact⟨_,c,h1⟩
theorem TapV.drew (h:TapV B w v T n) (q:Nat):TapV B (w.drewN q) v T n:=h.block (Nat.le_refl _) (fun t _ _=>rfl)
end Go.Proofs.YtilpkdnoaldfmaaGreatDoor
namespace Go.Proofs.YtilpkdnoaldfmaaGreatDoor
open Go.ChangeShapes Go.WideShapes Go.ChangeAt Go.RowKit
set_option linter.unusedVariables false
variable {w w':World} {g:Nat} {d u:List Int} {k:Int} {v:Value} {D U:Nat→Prop} {T:List Int} {n H B:Nat}
theorem ser_yes {s:Nat} (h:s<256):serOk (s:Int)=true:=decide_eq_true ⟨by omega,by omega⟩
theorem ser_no {s:Nat} (h:¬ s<256):serOk (s:Int)=false:=decide_eq_false (fun h'=>h (by omega))
theorem hasYes_any {o:Nat} (s:Nat) (hb:BAt w g o d) (hd:SetB d D) (hin:s<256∧D s):Calls Tryz.prog 92 #[.pointer (some ⟨g,o,none⟩),.int .i64 s] w fun e w'=>e=.returned (.bool true)∧w'=w:=
 hasS_any g o s d D true w hb hd (by
  rw[Int.toNat_natCast];exact⟨fun _=>⟨by omega,by omega,hin.2⟩,fun h=>rfl⟩)
theorem hasNo_any {o:Nat} (s:Nat) (hb:BAt w g o d) (hd:SetB d D) (hin:¬ (s<256∧D s)):Calls Tryz.prog 92 #[.pointer (some ⟨g,o,none⟩),.int .i64 s] w fun e w'=>e=.returned (.bool false)∧w'=w:=
 hasS_any g o s d D false w hb hd (by
  rw[Int.toNat_natCast];exact⟨fun h=>(by cases h),fun h=>absurd ⟨by omega,h.2.2⟩ hin⟩)
theorem TapV.wr (h:TapV B w v T n) (hw:Wr g w w') (hg:NeG g v):TapV B w' v T n:=h.block (by rw[hw.size];exact Nat.le_refl _) (fun t ht _=>hw.block t (hg t ht))
end Go.Proofs.YtilpkdnoaldfmaaGreatDoor
namespace Go.Proofs.YtilpkdnoaldfmaaGreatDoor
open Go.ChangeShapes Go.WideShapes Go.ChangeAt Go.RowKit
set_option linter.unusedVariables false
theorem snst1_any (h:Nat) (aD aU:Option Addr) (nD cD nU cU:Nat) (w:World) (hh:h<w.heap.size) (c2:w.cell? ⟨h,3,none⟩=some (.slice aD nD cD)) (c3:w.cell? ⟨h,4,none⟩=some (.slice aU nU cU)) :
  Calls Tryz.prog 52 #[.pointer (some ⟨h,1,none⟩)] w fun e w'=>e=.returned (.agg #[.slice aD nD cD,.slice aU nU cU,.int .i64 nU,.slice none 0 0])∧Below w.heap.size w w':=snstO_any h 1 aD aU nD cD nU cU w hh c2 c3
end Go.Proofs.YtilpkdnoaldfmaaGreatDoor
