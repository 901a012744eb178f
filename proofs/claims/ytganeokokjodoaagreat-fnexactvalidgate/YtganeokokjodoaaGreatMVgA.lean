import Derived.Test.YtganeokokjodoaaGreatMReg5
import Derived.Test.YtganeokokjodoaaGreatMRegU
import Derived.Deep.Cut
namespace Go.Proofs.YtganeokokjodoaaGreat
open Go.ChangeShapes Go.WideShapes Go.ChangeAt Go.RowKit
set_option linter.unusedVariables false
theorem hid_ofV {p:Prop} (h:p):Hid p:=h
theorem eq_of_getD {xs ys:List Int} (hl:xs.length=ys.length) (h:∀ j,j<xs.length→xs.getD j 0=ys.getD j 0):xs=ys:=by
 apply List.ext_getElem hl
 intro j h1 h2
 have:=h j h1
 simpa[List.getD,h1,h2] using this
theorem ne_of_len {xs ys:List Int} (h:xs.length≠ys.length):xs≠ys:=fun e=>h (by rw[e])
set_option maxHeartbeats 800000 in
theorem sameN_any (a b:Option Addr) (n c m c':Nat) (xs ys:List Int) (w:World) (hn:xs.length=n) (hm:ys.length=m) (hN:n≤9223372036854775807) (hM:m≤9223372036854775807) (ha:At .i64 w a xs) (hb:At .i64 w b ys) :
  Calls Tryz.prog 87 #[.slice a n c,.slice b m c'] w fun e w'=>e=.returned (.bool (decide (xs=ys)))∧∃ q,w'=w.drewN q:=by
 by_cases hnm:n=m
 ·subst hnm;have h0:((n:Int) != (n:Int))=false:=by simp
  have HL:Hid (xs.length=n∧ys.length=n):=⟨hn,hm⟩
  clear hn hm;go_enter Tryz.func87,Tryz.ntmps87;go_wp2
  go_loopw [5] (fun i wr=>∃ k q:Nat,k≤n∧i=.int .i64 k∧wr=w.drewN q∧∀ j,j<k→xs.getD j 0=ys.getD j 0) (fun i _=>n-(intOf i).toNat)
  case atStart=>exact⟨0,0,Nat.zero_le _,rfl,rfl,fun j h=>absurd h (by omega)⟩
  case round=>
   obtain⟨k,q,hk,rfl,rfl,hj⟩:=hrel;have HJ:=hid_ofV hj;clear hj;by_cases hlt:k<n
   ·obtain⟨b1,o1,rfl,hb1,hc⟩:=ha.get (by have:=HL.out;omega);obtain⟨b2,o2,rfl,hb2,hc'⟩:=hb.get (by have:=HL.out;omega);have g1:=hc k (by have:=HL.out;omega);have g2:=hc' k (by have:=HL.out;omega);have HX:Hid (xs.getD k 0=ys.getD k 0→∀ j,j<k+1→xs.getD j 0=ys.getD j 0):=fun e j h=>by
     by_cases hjk:j<k
     ·exact HJ.out j hjk
     ·obtain rfl:j=k:=by omega
      exact e
    have HY:Hid (xs.getD k 0≠ys.getD k 0→decide (xs=ys)=false):=fun e=>decide_eq_false (fun h=>e (by rw[h]))
    generalize xs.getD k 0=x at *;generalize ys.getD k 0=y at *;have hlt':(k:Int)<(n:Int):=by omega
    clear hc hc' ha hb HJ;by_cases hxy:x=y
    ·have HX2:=hid_ofV (HX.out hxy);clear HX HY;subst hxy;have hx:(x != x)=false:=by simp
     go_wp2
     go_quiet (fail)
     go_wp2;go_roundw
     case rel=>exact⟨k+1,_,by omega,by go_num,rfl,HX2.out⟩
     case measure=>simp[intOf];omega
    ·have hx:(x != y)=true:=by simpa using hxy
     have HF:=hid_ofV (HY.out hxy);clear HX HY hxy;go_wp2
     go_quiet (fail)
     go_wp2
     go_ret
     exact⟨by rw[HF.out];rfl,_,World.drewN_drewN _ _ _⟩
   ·have HF:Hid (decide (xs=ys)=true):=decide_eq_true (eq_of_getD (by have:=HL.out;omega) (fun j h=>HJ.out j (by have:=HL.out;omega)));clear HJ;go_wp2
    go_ret
    exact⟨by rw[HF.out];rfl,q,rfl⟩
 ·have h0:((n:Int) != (m:Int))=true:=by simp;omega
  have HF:Hid (decide (xs=ys)=false):=decide_eq_false (ne_of_len (by omega));clear hn hm;have h1:¬ ((n:Int)=(m:Int)):=by omega
  go_enter Tryz.func87,Tryz.ntmps87;go_wp2
  go_ret
  exact⟨by rw[HF.out];rfl,0,rfl⟩
set_option maxHeartbeats 800000 in
theorem slEq_any (a b:Option Addr) (n c m c':Nat) (xs ys:List Int) (w:World) (hn:xs.length=n) (hm:ys.length=m) (hN:n≤9223372036854775807) (hM:m≤9223372036854775807) (ha:At .i64 w a xs) (hb:At .i64 w b ys) :
  Calls Tryz.prog 126 #[.slice a n c,.slice b m c'] w fun e w'=>e=.returned (.bool (decide (xs=ys)))∧∃ q,w'=w.drewN q:=by
 by_cases hnm:n=m
 ·subst hnm;have h0:((n:Int) != (n:Int))=false:=by simp
  have HL:Hid (xs.length=n∧ys.length=n):=⟨hn,hm⟩
  clear hn hm;go_enter Tryz.func126,Tryz.ntmps126;go_wp2
  go_loopw [13] (fun i wr=>∃ k q:Nat,k≤n∧i=.int .i64 k∧wr=w.drewN q∧∀ j,j<k→xs.getD j 0=ys.getD j 0) (fun i _=>n-(intOf i).toNat)
  case atStart=>exact⟨0,0,Nat.zero_le _,rfl,rfl,fun j h=>absurd h (by omega)⟩
  case round=>
   obtain⟨k,q,hk,rfl,rfl,hj⟩:=hrel;have HJ:=hid_ofV hj;clear hj;by_cases hlt:k<n
   ·obtain⟨b1,o1,rfl,hb1,hc⟩:=ha.get (by have:=HL.out;omega);obtain⟨b2,o2,rfl,hb2,hc'⟩:=hb.get (by have:=HL.out;omega);have g1:=hc k (by have:=HL.out;omega);have g2:=hc' k (by have:=HL.out;omega);have HX:Hid (xs.getD k 0=ys.getD k 0→∀ j,j<k+1→xs.getD j 0=ys.getD j 0):=fun e j h=>by
     by_cases hjk:j<k
     ·exact HJ.out j hjk
     ·obtain rfl:j=k:=by omega
      exact e
    have HY:Hid (xs.getD k 0≠ys.getD k 0→decide (xs=ys)=false):=fun e=>decide_eq_false (fun h=>e (by rw[h]))
    generalize xs.getD k 0=x at *;generalize ys.getD k 0=y at *;have hlt':(k:Int)<(n:Int):=by omega
    clear hc hc' ha hb HJ;by_cases hxy:x=y
    ·have HX2:=hid_ofV (HX.out hxy);clear HX HY;subst hxy;have hx:(x != x)=false:=by simp
     go_wp2
     go_quiet (fail)
     go_wp2;go_roundw
     case rel=>exact⟨k+1,_,by omega,by go_num,rfl,HX2.out⟩
     case measure=>simp[intOf];omega
    ·have hx:(x != y)=true:=by simpa using hxy
     have HF:=hid_ofV (HY.out hxy);clear HX HY hxy;go_wp2
     go_quiet (fail)
     go_wp2
     go_ret
     exact⟨by rw[HF.out];rfl,_,World.drewN_drewN _ _ _⟩
   ·have HF:Hid (decide (xs=ys)=true):=decide_eq_true (eq_of_getD (by have:=HL.out;omega) (fun j h=>HJ.out j (by have:=HL.out;omega)));clear HJ;go_wp2
    go_ret
    exact⟨by rw[HF.out];rfl,q,rfl⟩
 ·have h0:((n:Int) != (m:Int))=true:=by simp;omega
  have HF:Hid (decide (xs=ys)=false):=decide_eq_false (ne_of_len (by omega));clear hn hm;have h1:¬ ((n:Int)=(m:Int)):=by omega
  go_enter Tryz.func126,Tryz.ntmps126;go_wp2
  go_ret
  exact⟨by rw[HF.out];rfl,0,rfl⟩
end Go.Proofs.YtganeokokjodoaaGreat
namespace Go.Proofs.YtganeokokjodoaaGreat
open Go.ChangeShapes Go.WideShapes Go.ChangeAt Go.RowKit
set_option linter.unusedVariables false
set_option maxHeartbeats 1600000 in
theorem slEqT_any (a b:Option Addr) (n c m c':Nat) (xs ys:List Int) (w:World) (hn:xs.length=n*2) (hm:ys.length=m*2) (hN:n≤1048576) (hM:m≤1048576) (ha:At .i64 w a xs) (hb:At .i64 w b ys) :
  Calls Tryz.prog 127 #[.slice a n c,.slice b m c'] w fun e w'=>e=.returned (.bool (decide (xs=ys)))∧∃ q,w'=w.drewN q:=by
 by_cases hnm:n=m
 ·subst hnm;have h0:((n:Int) != (n:Int))=false:=by simp
  have HL:Hid (xs.length=n*2∧ys.length=n*2):=⟨hn,hm⟩
  have HA:=hid_ofV (And.intro ha hb);clear hn hm ha hb;go_enter Tryz.func127,Tryz.ntmps127;go_wp2
  go_loopw [13] (fun i wr=>∃ k q:Nat,k≤n∧i=.int .i64 k∧wr=w.drewN q∧∀ j,j<k*2→xs.getD j 0=ys.getD j 0) (fun i _=>n-(intOf i).toNat)
  case atStart=>exact⟨0,0,Nat.zero_le _,rfl,rfl,fun j h=>absurd h (by omega)⟩
  case round=>
   obtain⟨k,q,hk,rfl,rfl,hj⟩:=hrel;have HJ:=hid_ofV hj;clear hj;by_cases hlt:k<n
   ·obtain⟨b1,o1,rfl,hb1,hc⟩:=HA.out.1.get (by have:=HL.out;omega);obtain⟨b2,o2,rfl,hb2,hc'⟩:=HA.out.2.get (by have:=HL.out;omega);have e0:=hc (k*2) (by have:=HL.out;omega);have e1:=hc (k*2+1) (by have:=HL.out;omega);have f0:=hc' (k*2) (by have:=HL.out;omega);have f1:=hc' (k*2+1) (by have:=HL.out;omega);rw[←Nat.add_assoc] at e1 f1;have HX:Hid (xs.getD (k*2) 0=ys.getD (k*2) 0∧xs.getD (k*2+1) 0=ys.getD (k*2+1) 0→∀ j,j<(k+1)*2→xs.getD j 0=ys.getD j 0):=fun e j h=>by
     by_cases hjk:j<k*2
     ·exact HJ.out j hjk
     ·obtain rfl|rfl:j=k*2∨j=k*2+1:=by omega
      ·exact e.1
      ·exact e.2
    have HY:Hid (¬ (xs.getD (k*2) 0=ys.getD (k*2) 0∧xs.getD (k*2+1) 0=ys.getD (k*2+1) 0)→decide (xs=ys)=false):=fun e=>decide_eq_false (fun h=>e (by rw[h];exact⟨rfl,rfl⟩))
    generalize xs.getD (k*2) 0=x0 at *;generalize ys.getD (k*2) 0=y0 at *;generalize xs.getD (k*2+1) 0=x1 at *;generalize ys.getD (k*2+1) 0=y1 at *;have hlt':(k:Int)<(n:Int):=by omega
    clear hc hc' HJ HA;by_cases hxy:x0=y0∧x1=y1
    ·have HX2:=hid_ofV (HX.out hxy);clear HX HY;obtain⟨rfl,rfl⟩:=hxy;go_wp2
     go_quiet (fail)
     go_wp2;go_roundw
     case rel=>exact⟨k+1,_,by omega,by go_num,rfl,HX2.out⟩
     case measure=>simp[intOf];omega
    ·have HF:=hid_ofV (HY.out hxy);clear HX HY;by_cases z0:x0=y0
     ·subst z0;by_cases z1:x1=y1
      ·subst z1;exact absurd ⟨rfl,rfl⟩ hxy
      ·have q1:(x1 == y1)=false:=by simpa using z1
       have p1:decide (x1=y1)=false:=by simpa using z1
       go_wp2
       go_quiet (fail)
       go_wp2
       go_ret
       exact⟨by rw[HF.out];rfl,_,World.drewN_drewN _ _ _⟩
     ·have q0:(x0 == y0)=false:=by simpa using z0
      have p0:decide (x0=y0)=false:=by simpa using z0
      go_wp2
      go_quiet (fail)
      go_wp2
      go_ret
      exact⟨by rw[HF.out];rfl,_,World.drewN_drewN _ _ _⟩
   ·have HF:Hid (decide (xs=ys)=true):=decide_eq_true (eq_of_getD (by have:=HL.out;omega) (fun j h=>HJ.out j (by have:=HL.out;omega)));clear HJ;go_wp2
    go_ret
    exact⟨by rw[HF.out];rfl,q,rfl⟩
 ·have h0:((n:Int) != (m:Int))=true:=by simp;omega
  have HF:Hid (decide (xs=ys)=false):=decide_eq_false (ne_of_len (by omega));clear hn hm;have h1:¬ ((n:Int)=(m:Int)):=by omega
  go_enter Tryz.func127,Tryz.ntmps127;go_wp2
  go_ret
  exact⟨by rw[HF.out];rfl,0,rfl⟩
set_option maxHeartbeats 1600000 in
theorem slEqF_any (a b:Option Addr) (n c m c':Nat) (xs ys:List Int) (w:World) (hn:xs.length=n*4) (hm:ys.length=m*4) (hN:n≤1048576) (hM:m≤1048576) (ha:FAt w a xs) (hb:FAt w b ys) :
  Calls Tryz.prog 92 #[.slice a n c,.slice b m c'] w fun e w'=>e=.returned (.bool (decide (xs=ys)))∧∃ q,w'=w.drewN q:=by
 by_cases hnm:n=m
 ·subst hnm;have h0:((n:Int) != (n:Int))=false:=by simp
  have HL:Hid (xs.length=n*4∧ys.length=n*4):=⟨hn,hm⟩
  have HA:=hid_ofV (And.intro ha hb);clear hn hm ha hb;go_enter Tryz.func92,Tryz.ntmps92;go_wp2
  go_loopw [13] (fun i wr=>∃ k q:Nat,k≤n∧i=.int .i64 k∧wr=w.drewN q∧∀ j,j<k*4→xs.getD j 0=ys.getD j 0) (fun i _=>n-(intOf i).toNat)
  case atStart=>exact⟨0,0,Nat.zero_le _,rfl,rfl,fun j h=>absurd h (by omega)⟩
  case round=>
   obtain⟨k,q,hk,rfl,rfl,hj⟩:=hrel;have HJ:=hid_ofV hj;clear hj;by_cases hlt:k<n
   ·obtain⟨b1,o1,rfl,hb1,hc⟩:=HA.out.1.get (by have:=HL.out;omega);obtain⟨b2,o2,rfl,hb2,hc'⟩:=HA.out.2.get (by have:=HL.out;omega);obtain⟨e0,e1,e2,e3⟩:=FAt.four hc k (by have:=HL.out;omega);obtain⟨f0,f1,f2,f3⟩:=FAt.four hc' k (by have:=HL.out;omega);have HX:Hid (xs.getD (k*4) 0=ys.getD (k*4) 0∧xs.getD (k*4+1) 0=ys.getD (k*4+1) 0∧xs.getD (k*4+2) 0=ys.getD (k*4+2) 0∧xs.getD (k*4+3) 0=ys.getD (k*4+3) 0→∀ j,j<(k+1)*4→xs.getD j 0=ys.getD j 0):=fun e j h=>by
     by_cases hjk:j<k*4
     ·exact HJ.out j hjk
     ·obtain rfl|rfl|rfl|rfl:j=k*4∨j=k*4+1∨j=k*4+2∨j=k*4+3:=by omega
      ·exact e.1
      ·exact e.2.1
      ·exact e.2.2.1
      ·exact e.2.2.2
    have HY:Hid (¬ (xs.getD (k*4) 0=ys.getD (k*4) 0∧xs.getD (k*4+1) 0=ys.getD (k*4+1) 0∧xs.getD (k*4+2) 0=ys.getD (k*4+2) 0∧xs.getD (k*4+3) 0=ys.getD (k*4+3) 0)→decide (xs=ys)=false):=fun e=>decide_eq_false (fun h=>e (by rw[h];exact⟨rfl,rfl,rfl,rfl⟩))
    generalize xs.getD (k*4) 0=x0 at *;generalize ys.getD (k*4) 0=y0 at *;generalize xs.getD (k*4+1) 0=x1 at *;generalize ys.getD (k*4+1) 0=y1 at *;generalize xs.getD (k*4+2) 0=x2 at *;generalize ys.getD (k*4+2) 0=y2 at *;generalize xs.getD (k*4+3) 0=x3 at *;generalize ys.getD (k*4+3) 0=y3 at *;have hlt':(k:Int)<(n:Int):=by omega
    clear hc hc' HJ HA;by_cases hxy:x0=y0∧x1=y1∧x2=y2∧x3=y3
    ·have HX2:=hid_ofV (HX.out hxy);clear HX HY;obtain⟨rfl,rfl,rfl,rfl⟩:=hxy;go_wp2
     go_quiet (fail)
     go_wp2;go_roundw
     case rel=>exact⟨k+1,_,by omega,by go_num,rfl,HX2.out⟩
     case measure=>simp[intOf];omega
    ·have HF:=hid_ofV (HY.out hxy);clear HX HY;by_cases z0:x0=y0
     ·subst z0;by_cases z1:x1=y1
      ·subst z1;by_cases z2:x2=y2
       ·subst z2;by_cases z3:x3=y3
        ·subst z3;exact absurd ⟨rfl,rfl,rfl,rfl⟩ hxy
        ·have q3:(x3 == y3)=false:=by simpa using z3
         have p3:decide (x3=y3)=false:=by simpa using z3
         go_wp2
         go_quiet (fail)
         go_wp2
         go_ret
         exact⟨by rw[HF.out];rfl,_,World.drewN_drewN _ _ _⟩
       ·have q2:(x2 == y2)=false:=by simpa using z2
        have p2:decide (x2=y2)=false:=by simpa using z2
        go_wp2
        go_quiet (fail)
        go_wp2
        go_ret
        exact⟨by rw[HF.out];rfl,_,World.drewN_drewN _ _ _⟩
      ·have q1:(x1 == y1)=false:=by simpa using z1
       have p1:decide (x1=y1)=false:=by simpa using z1
       go_wp2
       go_quiet (fail)
       go_wp2
       go_ret
       exact⟨by rw[HF.out];rfl,_,World.drewN_drewN _ _ _⟩
     ·have q0:(x0 == y0)=false:=by simpa using z0
      have p0:decide (x0=y0)=false:=by simpa using z0
      go_wp2
      go_quiet (fail)
      go_wp2
      go_ret
      exact⟨by rw[HF.out];rfl,_,World.drewN_drewN _ _ _⟩
   ·have HF:Hid (decide (xs=ys)=true):=decide_eq_true (eq_of_getD (by have:=HL.out;omega) (fun j h=>HJ.out j (by have:=HL.out;omega)));clear HJ;go_wp2
    go_ret
    exact⟨by rw[HF.out];rfl,q,rfl⟩
 ·have h0:((n:Int) != (m:Int))=true:=by simp;omega
  have HF:Hid (decide (xs=ys)=false):=decide_eq_false (ne_of_len (by omega));clear hn hm;have h1:¬ ((n:Int)=(m:Int)):=by omega
  go_enter Tryz.func92,Tryz.ntmps92;go_wp2
  go_ret
  exact⟨by rw[HF.out];rfl,0,rfl⟩
end Go.Proofs.YtganeokokjodoaaGreat
namespace Go.Proofs.YtganeokokjodoaaGreat
open Go.ChangeShapes Go.WideShapes Go.ChangeAt Go.RowKit
set_option linter.unusedVariables false
structure BE (w:World) (t:TypeId) (sa sb:Array Value) (wr:World):Prop where
 below:Below w.heap.size w wr
 b0:wr.heap[w.heap.size]?=some (.cells sa t (0,0))
 b1:wr.heap[w.heap.size+1]?=some (.cells sb t (0,0))
theorem BE.start (w:World) (t:TypeId) (sa sb:Array Value):BE w t sa sb ((w.alloc (.cells sa t)).alloc (.cells sb t)):=by
 refine⟨((Below.refl _ _).alloc (Nat.le_refl _) _).alloc (by simp) _,?_,?_⟩
 ·rw[Below.heap_alloc _ _ w.heap.size (by simp)];exact heap_alloc_new w _
 ·have:=heap_alloc_new (w.alloc (.cells sa t)) (.cells sb t)
  rwa [show(w.alloc (.cells sa t)).heap.size=w.heap.size+1 by simp] at this
theorem BE.call {w wr w':World} {t:TypeId} {sa sb:Array Value} (h:BE w t sa sb wr) (b:Below wr.heap.size wr w'):BE w t sa sb w':=by
 have:=(Array.getElem?_eq_some_iff.1 h.b1).1
 exact⟨h.below.trans (b.mono h.below.size),by rw[b.block _ (by omega)];exact h.b0,by rw[b.block _ (by omega)];exact h.b1⟩
structure OE (w:World) (t:TypeId) (sa:Array Value) (wr:World):Prop where
 below:Below w.heap.size w wr
 b0:wr.heap[w.heap.size]?=some (.cells sa t (0,0))
theorem OE.start (w:World) (t:TypeId) (sa:Array Value):OE w t sa (w.alloc (.cells sa t)):=⟨(Below.refl _ _).alloc (Nat.le_refl _) _,heap_alloc_new w _⟩
theorem OE.lt {w wr:World} {t:TypeId} {sa:Array Value} (h:OE w t sa wr):w.heap.size<wr.heap.size:=(Array.getElem?_eq_some_iff.1 h.b0).1
theorem OE.call {w wr w':World} {t:TypeId} {sa:Array Value} (h:OE w t sa wr) (b:Below wr.heap.size wr w'):OE w t sa w':=by
 have:=(Array.getElem?_eq_some_iff.1 h.b0).1
 exact⟨h.below.trans (b.mono h.below.size),by rw[b.block _ (by omega)];exact h.b0⟩
end Go.Proofs.YtganeokokjodoaaGreat
namespace Go.Proofs.YtganeokokjodoaaGreat
open Go.ChangeShapes Go.WideShapes Go.ChangeAt Go.RowKit
set_option linter.unusedVariables false
theorem belD {B:Nat} {a w:World} (h:Below B a w) (n:Nat):Below B a (w.drewN n):=h.trans ⟨rfl,rfl,rfl,Nat.le_refl _,fun _ _=>rfl⟩
set_option maxHeartbeats 4000000 in
set_option maxRecDepth 100000 in
theorem sameS_any (aD bD aU bU aT bT:Option Addr) (nD cD mD dD nU cU mU dU nT cT mT dT:Nat) (D D' U U' T T':List Int) (k k':Int) (w:World) (hD:D.length=nD) (hD':D'.length=mD) (hU:U.length=nU) (hU':U'.length=mU) (hT:T.length=nT*2) (hT':T'.length=mT*2) (bnd:nD≤1048576∧mD≤1048576∧nU≤1048576∧mU≤1048576∧nT≤1048576∧mT≤1048576)
  (AD:At .i64 w aD D) (BD:At .i64 w bD D') (AU:At .i64 w aU U) (BU:At .i64 w bU U') (AT:At .i64 w aT T) (BT:At .i64 w bT T') :
  Calls Tryz.prog 88 #[.agg #[.slice aD nD cD,.slice aU nU cU,.int .i64 k,.slice aT nT cT],.agg #[.slice bD mD dD,.slice bU mU dU,.int .i64 k',.slice bT mT dT]] w fun e w'=>e=.returned (.bool (decide (D=D'∧U=U'∧k=k'∧T=T')))∧Below w.heap.size w w':=by
 have HE0:Hid (BE w 34 #[.slice aD nD cD,.slice aU nU cU,.int .i64 k,.slice aT nT cT] #[.slice bD mD dD,.slice bU mU dU,.int .i64 k',.slice bT mT dT] ((w.alloc (.cells #[.slice aD nD cD,.slice aU nU cU,.int .i64 k,.slice aT nT cT] 34)).alloc (.cells #[.slice bD mD dD,.slice bU mU dU,.int .i64 k',.slice bT mT dT] 34))):=BE.start _ _ _ _
 have HA:=hid_ofV (And.intro (And.intro AD BD) (And.intro (And.intro AU BU) (And.intro AT BT)))
 have HL:=hid_ofV (And.intro (And.intro hD hD') (And.intro (And.intro hU hU') (And.intro hT hT')))
 obtain⟨n1,n2,n3,n4,n5,n6⟩:=bnd
 obtain⟨V,hV⟩:∃ V,V=decide (D=D'∧U=U'∧k=k'∧T=T'):=⟨_,rfl⟩
 rw[←hV]
 have HV:=hid_ofV hV
 clear hV
 clear AD BD AU BU AT BT hD hD' hU hU' hT hT'
 go_enter Tryz.func88,Tryz.ntmps88
 go_upto_region 1 with fail
 generalize (w.alloc (.cells #[.slice aD nD cD,.slice aU nU cU,.int .i64 k,.slice aT nT cT] 34)).alloc (.cells #[.slice bD mD dD,.slice bU mU dU,.int .i64 k',.slice bT mT dT] 34)=w0 at *
 have x0':=cell_of_row w0 w.heap.size 0 _ _ _ HE0.out.b0
 have x1':=cell_of_row w0 w.heap.size 1 _ _ _ HE0.out.b0
 have x2':=cell_of_row w0 w.heap.size 2 _ _ _ HE0.out.b0
 have x3':=cell_of_row w0 w.heap.size 3 _ _ _ HE0.out.b0
 have y0':=cell_of_row w0 (w.heap.size+1) 0 _ _ _ HE0.out.b1
 have y1':=cell_of_row w0 (w.heap.size+1) 1 _ _ _ HE0.out.b1
 have y2':=cell_of_row w0 (w.heap.size+1) 2 _ _ _ HE0.out.b1
 have y3':=cell_of_row w0 (w.heap.size+1) 3 _ _ _ HE0.out.b1
 simp at x0' x1' x2' x3' y0' y1' y2' y3'
 go_wp2_with fail
 refine(sameN_any aD bD nD cD mD dD D D' w0 HL.out.1.1 HL.out.1.2 (by omega) (by omega) (HA.out.1.1.below HE0.out.below) (HA.out.1.2.below HE0.out.below)).mono ?_
 rintro e _ ⟨rfl,q1,rfl⟩
 by_cases hD:D=D'
 rotate_left
 ·rw[decide_eq_false hD];have HF:Hid (V=false):=by
   show _=_
   rw[HV.out];exact decide_eq_false (by intro h;exact hD h.1)
  go_wp2
  go_ret
  exact⟨by rw[HF.out];rfl,by first|exact belD HE0.out.below _|exact belD (belD HE0.out.below _) _⟩
 rw[decide_eq_true hD]
 go_wp2_with fail
 refine(sameN_any aU bU nU cU mU dU U U' _ HL.out.2.1.1 HL.out.2.1.2 (by omega) (by omega) (HA.out.2.1.1.below (belD HE0.out.below _)) (HA.out.2.1.2.below (belD HE0.out.below _))).mono ?_
 rintro e _ ⟨rfl,q2,rfl⟩
 rw[World.drewN_drewN]
 generalize q1+q2=q3
 by_cases hU:U=U'
 rotate_left
 ·rw[decide_eq_false hU];have HF:Hid (V=false):=by
   show _=_
   rw[HV.out];exact decide_eq_false (by intro h;exact hU h.2.1)
  go_wp2
  go_ret
  exact⟨by rw[HF.out];rfl,by first|exact belD HE0.out.below _|exact belD (belD HE0.out.below _) _⟩
 rw[decide_eq_true hU]
 by_cases hk:k=k'
 rotate_left
 ·have z1:(k != k')=true:=by simpa using hk
  have z2:decide (k=k')=false:=by simpa using hk
  have HF:Hid (V=false):=by
   show _=_
   rw[HV.out];exact decide_eq_false (by intro h;exact hk h.2.2.1)
  go_wp2
  go_ret
  exact⟨by rw[HF.out];rfl,by first|exact belD HE0.out.below _|exact belD (belD HE0.out.below _) _⟩
 subst hk
 have z1:(k != k)=false:=by simp
 by_cases hn:nT=mT
 rotate_left
 ·have z3:((nT:Int) != (mT:Int))=true:=by simp;omega
  have z4:¬ ((nT:Int)=(mT:Int)):=by omega
  have HF:Hid (V=false):=by
   show _=_
   rw[HV.out];exact decide_eq_false (by intro h;have:=HL.out.2.2;have:=congrArg List.length h.2.2.2;omega)
  go_wp2
  go_ret
  exact⟨by rw[HF.out];rfl,by first|exact belD HE0.out.below _|exact belD (belD HE0.out.below _) _⟩
 obtain⟨n,hnn⟩:∃ n,nT=n:=⟨_,rfl⟩
 subst hn
 subst hnn
 have z3:((nT:Int) != (nT:Int))=false:=by simp
 have HLL:Hid (T.length=nT*2∧T'.length=nT*2):=HL.out.2.2
 have HAA:Hid (At .i64 w0 aT T∧At .i64 w0 bT T'):=⟨HA.out.2.2.1.below HE0.out.below,HA.out.2.2.2.below HE0.out.below⟩
 have HTT:Hid ((T=T'→V=true)∧(T≠T'→V=false)):=⟨fun h=>by rw[HV.out];exact decide_eq_true ⟨hD,hU,rfl,h⟩,fun h=>by rw[HV.out];exact decide_eq_false (fun g=>h g.2.2.2)⟩
 clear HA HL hD hU HV
 go_wp2
 generalize nT=n at *
 go_loopw [5] (fun i wr=>∃ k q:Nat,k≤n∧i=.int .i64 k∧wr=w0.drewN q∧∀ j,j<k*2→T.getD j 0=T'.getD j 0) (fun i _=>n-(intOf i).toNat)
 case atStart=>exact⟨0,q3,Nat.zero_le _,rfl,rfl,fun j h=>absurd h (by omega)⟩
 case round=>
  obtain⟨k,q,hk,rfl,rfl,hj⟩:=hrel;have HJ:=hid_ofV hj;clear hj;by_cases hlt:k<n
  ·obtain⟨b1,o1,ea,hb1,hc⟩:=HAA.out.1.get (by have:=HLL.out;omega);obtain⟨b2,o2,eb,hb2,hc'⟩:=HAA.out.2.get (by have:=HLL.out;omega);subst ea eb;have e0:=hc (k*2) (by have:=HLL.out;omega);have e1:=hc (k*2+1) (by have:=HLL.out;omega);have f0:=hc' (k*2) (by have:=HLL.out;omega);have f1:=hc' (k*2+1) (by have:=HLL.out;omega);rw[←Nat.add_assoc] at e1 f1;have HX:Hid (T.getD (k*2) 0=T'.getD (k*2) 0∧T.getD (k*2+1) 0=T'.getD (k*2+1) 0→∀ j,j<(k+1)*2→T.getD j 0=T'.getD j 0):=fun e j h=>by
    by_cases hjk:j<k*2
    ·exact HJ.out j hjk
    ·obtain rfl|rfl:j=k*2∨j=k*2+1:=by omega
     ·exact e.1
     ·exact e.2
   have HY:Hid (¬ (T.getD (k*2) 0=T'.getD (k*2) 0∧T.getD (k*2+1) 0=T'.getD (k*2+1) 0)→V=false):=fun e=>HTT.out.2 (fun h=>e (by rw[h];exact⟨rfl,rfl⟩))
   generalize T.getD (k*2) 0=x0 at *;generalize T'.getD (k*2) 0=y0 at *;generalize T.getD (k*2+1) 0=x1 at *;generalize T'.getD (k*2+1) 0=y1 at *;have hlt':(k:Int)<(n:Int):=by omega
   clear hc hc' HJ;by_cases hxy:x0=y0∧x1=y1
   ·have HX2:=hid_ofV (HX.out hxy);clear HX HY;obtain⟨rfl,rfl⟩:=hxy;go_wp2
    go_quiet (fail)
    go_wp2;go_roundw
    case rel=>exact⟨k+1,_,by omega,by go_num,rfl,HX2.out⟩
    case measure=>simp[intOf];omega
   ·have HF:=hid_ofV (HY.out hxy);clear HX HY;by_cases z0:x0=y0
    ·subst z0;by_cases z1:x1=y1
     ·subst z1;exact absurd ⟨rfl,rfl⟩ hxy
     ·have q1:(x1 == y1)=false:=by simpa using z1
      have p1:decide (x1=y1)=false:=by simpa using z1
      go_wp2
      go_quiet (fail)
      go_wp2
      go_ret
      exact⟨by rw[HF.out];rfl,by first|exact belD HE0.out.below _|exact belD (belD HE0.out.below _) _⟩
    ·have q0:(x0 == y0)=false:=by simpa using z0
     have p0:decide (x0=y0)=false:=by simpa using z0
     go_wp2
     go_quiet (fail)
     go_wp2
     go_ret
     exact⟨by rw[HF.out];rfl,by first|exact belD HE0.out.below _|exact belD (belD HE0.out.below _) _⟩
  ·have HF:Hid (V=true):=HTT.out.1 (eq_of_getD (by have:=HLL.out;omega) (fun j h=>HJ.out j (by have:=HLL.out;omega)));clear HJ;go_wp2
   go_ret
   exact⟨by rw[HF.out];rfl,by first|exact belD HE0.out.below _|exact belD (belD HE0.out.below _) _⟩
end Go.Proofs.YtganeokokjodoaaGreat
