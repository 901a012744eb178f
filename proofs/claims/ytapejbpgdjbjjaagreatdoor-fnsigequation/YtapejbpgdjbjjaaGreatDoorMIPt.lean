import Derived.Test.YtapejbpgdjbjjaaGreatDoorMISt
namespace Go.Proofs.YtapejbpgdjbjjaaGreatDoor
open Go.ChangeShapes Go.WideShapes Go.ChangeAt Go.RowKit
set_option linter.unusedVariables false
def pl (x y z t:List Int):List Int:=x++(y++(z++t))
def over (zs:List Int):Nat→List Int→List Int
 |_,[]=>zs
 |o,a::r=>over (zs.set o a) (o+1) r
theorem RowW.setCells {g:Nat} {e:TypeId}:∀(es zs:List Int) (w:World) (o:Nat),RowW w g e zs→RowW (w.setCells g o (es.map (Value.int .u64))) g e (over zs o es)
 |[],_,_,_,h=>h
 |a::r,zs,w,o,h=>RowW.setCells r (zs.set o a) _ (o+1) (h.set o a)
theorem Wr.setCells {g:Nat} {v:World}:∀(es:List Value) (w:World) (o:Nat),Wr g v w→Wr g v (w.setCells g o es)
 |[],_,_,h=>h
 |a::r,w,o,h=>Wr.setCells r _ (o+1) (h.setCell o a)
theorem over_x {x y z t es:List Int} (hx:x.length=5) (he:es.length=5):over (pl x y z t) 0 es=pl es y z t:=by
 match x,hx,es,he with
 |[_,_,_,_,_],_,[_,_,_,_,_],_=>rfl
theorem over_y {x y z t es:List Int} (hx:x.length=5) (hy:y.length=5) (he:es.length=5):over (pl x y z t) 5 es=pl x es z t:=by
 match x,hx,y,hy,es,he with
 |[_,_,_,_,_],_,[_,_,_,_,_],_,[_,_,_,_,_],_=>rfl
theorem over_z {x y z t es:List Int} (hx:x.length=5) (hy:y.length=5) (hz:z.length=5) (he:es.length=5):over (pl x y z t) 10 es=pl x y es t:=by
 match x,hx,y,hy,z,hz,es,he with
 |[_,_,_,_,_],_,[_,_,_,_,_],_,[_,_,_,_,_],_,[_,_,_,_,_],_=>rfl
theorem over_t {x y z t es:List Int} (hx:x.length=5) (hy:y.length=5) (hz:z.length=5) (ht:t.length=5) (he:es.length=5):over (pl x y z t) 15 es=pl x y z es:=by
 match x,hx,y,hy,z,hz,t,ht,es,he with
 |[_,_,_,_,_],_,[_,_,_,_,_],_,[_,_,_,_,_],_,[_,_,_,_,_],_,[_,_,_,_,_],_=>rfl
structure Pt (w:World) (g:Nat) (x y z t:List Int):Prop where
 row:RowW w g 54 (pl x y z t)
 x:EOk x
 y:EOk y
 z:EOk z
 t:EOk t
theorem Pt.at {w:World} {g:Nat} {x y z t:List Int} (h:Pt w g x y z t) (o:Nat) (es:List Int) (hk:EOk es) (ho:o+5≤20) (he:∀ i,i<5→(pl x y z t).getD (o+i) 0=es.getD i 0):EAt w g o es:=
 ⟨h.row.lt,hk,fun i hi=>by
  have hl:(pl x y z t).length=20:=by unfold pl;simp[h.x.1,h.y.1,h.z.1,h.t.1]
  rw[h.row.cell (o+i) (by omega),he i hi]⟩
theorem Pt.ex {w:World} {g:Nat} {x y z t:List Int} (h:Pt w g x y z t):EAt w g 0 x:=h.at 0 x h.x (by omega) fun i hi=>by
 match x,h.x.1,i,hi with
 |[_,_,_,_,_],_,0,_=>rfl
 |[_,_,_,_,_],_,1,_=>rfl
 |[_,_,_,_,_],_,2,_=>rfl
 |[_,_,_,_,_],_,3,_=>rfl
 |[_,_,_,_,_],_,4,_=>rfl
theorem Pt.ey {w:World} {g:Nat} {x y z t:List Int} (h:Pt w g x y z t):EAt w g 5 y:=h.at 5 y h.y (by omega) fun i hi=>by
 match x,h.x.1,y,h.y.1,i,hi with
 |[_,_,_,_,_],_,[_,_,_,_,_],_,0,_=>rfl
 |[_,_,_,_,_],_,[_,_,_,_,_],_,1,_=>rfl
 |[_,_,_,_,_],_,[_,_,_,_,_],_,2,_=>rfl
 |[_,_,_,_,_],_,[_,_,_,_,_],_,3,_=>rfl
 |[_,_,_,_,_],_,[_,_,_,_,_],_,4,_=>rfl
theorem Pt.ez {w:World} {g:Nat} {x y z t:List Int} (h:Pt w g x y z t):EAt w g 10 z:=h.at 10 z h.z (by omega) fun i hi=>by
 match x,h.x.1,y,h.y.1,z,h.z.1,i,hi with
 |[_,_,_,_,_],_,[_,_,_,_,_],_,[_,_,_,_,_],_,0,_=>rfl
 |[_,_,_,_,_],_,[_,_,_,_,_],_,[_,_,_,_,_],_,1,_=>rfl
 |[_,_,_,_,_],_,[_,_,_,_,_],_,[_,_,_,_,_],_,2,_=>rfl
 |[_,_,_,_,_],_,[_,_,_,_,_],_,[_,_,_,_,_],_,3,_=>rfl
 |[_,_,_,_,_],_,[_,_,_,_,_],_,[_,_,_,_,_],_,4,_=>rfl
theorem Pt.et {w:World} {g:Nat} {x y z t:List Int} (h:Pt w g x y z t):EAt w g 15 t:=h.at 15 t h.t (by omega) fun i hi=>by
 match x,h.x.1,y,h.y.1,z,h.z.1,t,h.t.1,i,hi with
 |[_,_,_,_,_],_,[_,_,_,_,_],_,[_,_,_,_,_],_,[_,_,_,_,_],_,0,_=>rfl
 |[_,_,_,_,_],_,[_,_,_,_,_],_,[_,_,_,_,_],_,[_,_,_,_,_],_,1,_=>rfl
 |[_,_,_,_,_],_,[_,_,_,_,_],_,[_,_,_,_,_],_,[_,_,_,_,_],_,2,_=>rfl
 |[_,_,_,_,_],_,[_,_,_,_,_],_,[_,_,_,_,_],_,[_,_,_,_,_],_,3,_=>rfl
 |[_,_,_,_,_],_,[_,_,_,_,_],_,[_,_,_,_,_],_,[_,_,_,_,_],_,4,_=>rfl
structure RunP (w wr:World) (g:Nat) (x y z t:List Int) (R:List (Nat×List Int)) (E:List (Nat×Nat×List Int)):Prop where
 wrh:WrH g w wr
 lt:g<w.heap.size
 pt:Pt wr g x y z t
 rows:∀ r∈R,w.heap.size≤r.1∧RowW wr r.1 52 r.2∧EOk r.2
 order:R.Pairwise fun a b=>b.1<a.1
 els:∀ e∈E,e.1<w.heap.size∧e.1≠g∧EAt wr e.1 e.2.1 e.2.2
section
variable {w wr w':World} {g:Nat} {x y z t:List Int} {R:List (Nat×List Int)} {E:List (Nat×Nat×List Int)}
theorem RunP.start (h:Pt w g x y z t) (E:List (Nat×Nat×List Int)) (he:∀ e∈E,e.1≠g∧EAt w e.1 e.2.1 e.2.2):RunP w w g x y z t [] E:=
 ⟨WrH.refl _ _,h.row.lt,h,by simp,List.Pairwise.nil,fun e hm=>⟨(he e hm).2.1,(he e hm).1,(he e hm).2⟩⟩
theorem Pt.below (h:Pt w g x y z t) {B:Nat} (b:Below B w w') (hB:g<B):Pt w' g x y z t:=⟨h.row.below b hB,h.x,h.y,h.z,h.t⟩
theorem RunP.call (h:RunP w wr g x y z t R E) (b:Below wr.heap.size wr w'):RunP w w' g x y z t R E:=
 ⟨h.wrh.trans (WrH.of_below b),h.lt,h.pt.below b h.pt.row.lt,fun r hr=>⟨(h.rows r hr).1,(h.rows r hr).2.1.below b (h.rows r hr).2.1.lt,(h.rows r hr).2.2⟩,h.order,fun e he=>⟨(h.els e he).1,(h.els e he).2.1,(h.els e he).2.2.below b⟩⟩
theorem RunP.push (h:RunP w wr g x y z t R E) (b:Below wr.heap.size wr w') {es:List Int} (hr:RowW w' wr.heap.size 52 es) (hk:EOk es) :
  RunP w w' g x y z t ((wr.heap.size,es)::R) E:=by
 have c:=h.call b
 refine⟨c.wrh,c.lt,c.pt,?_,?_,c.els⟩
 ·intro r hm;rcases List.mem_cons.1 hm with rfl|hm
  ·exact⟨h.wrh.size,hr,hk⟩
  ·exact c.rows r hm
 ·exact List.Pairwise.cons (fun r hm=>(h.rows r hm).2.1.lt) h.order
theorem RunP.el (h:RunP w wr g x y z t R E) (i:Nat) (G o:Nat) (es:List Int) (hi:E[i]?=some (G,o,es)):EAt wr G o es:=
 (h.els _ (List.mem_of_getElem? hi)).2.2
theorem RunP.row (h:RunP w wr g x y z t R E) (i:Nat) (G:Nat) (es:List Int) (hi:R[i]?=some (G,es)):RowW wr G 52 es:=
 (h.rows _ (List.mem_of_getElem? hi)).2.1
theorem RunP.ok (h:RunP w wr g x y z t R E) (i:Nat) (G:Nat) (es:List Int) (hi:R[i]?=some (G,es)):EOk es:=
 (h.rows _ (List.mem_of_getElem? hi)).2.2
theorem RunP.re (h:RunP w wr g x y z t R E) (i:Nat) (G:Nat) (es:List Int) (hi:R[i]?=some (G,es)):EAt wr G 0 es:=
 EAt.of_row (h.row i G es hi) (h.ok i G es hi)
theorem RunP.put (h:RunP w wr g x y z t R E) (i:Nat) (G:Nat) (zs es:List Int) (hi:R[i]?=some (G,zs)) (hw:Wr G wr w') (hr:RowW w' G 52 es) (hk:EOk es) :
  RunP w w' g x y z t (R.set i (G,es)) E:=by
 have hg:w.heap.size≤G:=(h.rows _ (List.mem_of_getElem? hi)).1
 have hil:i<R.length:=(List.getElem?_eq_some_iff.1 hi).1
 have hie:R[i]=(G,zs):=(List.getElem?_eq_some_iff.1 hi).2
 have ho:=List.pairwise_iff_getElem.1 h.order
 have hgl:=h.lt
 have b:Below w.heap.size wr w':=hw.below hg
 refine⟨⟨hw.os.trans h.wrh.os,hw.tape.trans h.wrh.tape,hw.output.trans h.wrh.output,by rw[hw.size];exact h.wrh.size,fun k hk hg'=>(hw.block k (by omega)).trans (h.wrh.block k hk hg')⟩,h.lt,h.pt.below b h.lt,?_,?_,fun e he=>⟨(h.els e he).1,(h.els e he).2.1,(h.els e he).2.2.wr hw (by have:=(h.els e he).1;omega)⟩⟩
 ·intro r hm;obtain⟨j,hj,rfl⟩:=List.getElem_of_mem hm;rw[List.length_set] at hj;rw[List.getElem_set];split
  ·exact⟨hg,hr,hk⟩
  ·rename_i hne
   have q:=h.rows _ (List.getElem_mem hj);refine⟨q.1,hw.rowW q.2.1 ?_,q.2.2⟩;rcases Nat.lt_or_gt_of_ne hne with hlt|hgt
   ·have:=ho i j hil hj hlt;rw[hie] at this;simp only at this;omega
   ·have:=ho j i hj hil hgt;rw[hie] at this;simp only at this;omega
 ·rw[List.pairwise_iff_getElem];intro a b ha hb hab;rw[List.length_set] at ha hb;have:=ho a b ha hb hab;rw[List.getElem_set,List.getElem_set];split<;>split<;>simp_all
theorem RunP.point (h:RunP w wr g x y z t R E) {x' y' z' t':List Int} (hw:Wr g wr w') (hp:Pt w' g x' y' z' t'):RunP w w' g x' y' z' t' R E:=
 ⟨h.wrh.trans hw.wrH,h.lt,hp,fun r hr=>⟨(h.rows r hr).1,hw.rowW (h.rows r hr).2.1 (by have:=(h.rows r hr).1;have:=h.lt;omega),(h.rows r hr).2.2⟩,h.order,fun e he=>⟨(h.els e he).1,(h.els e he).2.1,(h.els e he).2.2.wr hw (h.els e he).2.1⟩⟩
variable {ops:Array Oper} {rest:List Oper} {o:Oper} {a:Act} {Q:Exit→Act→World→Prop}
theorem wpList_newP (S:RunP w wr g x y z t R E) (hgd:o.guard=none) (px py:Operand) (ho:o.op=.store 52 px py)
  (es:List Int) (hx:a.eval px=.pointer (some ⟨wr.heap.size,0,none⟩)) (hy:a.eval py=.agg (es.map (Value.int .u64)).toArray) (hk:EOk es)
  {wa:World} (hwa:wa=wr.alloc (.cells #[.int .u64 0,.int .u64 0,.int .u64 0,.int .u64 0,.int .u64 0] 52))
  (hK:∀ w',RunP w w' g x y z t ((wr.heap.size,es)::R) E→wpList Tryz.prog ops Q rest (a.put o.dst undef) w') :
  wpList Tryz.prog ops Q (o::rest) a wa:=by
 subst hwa
 exact wpList_storeE hgd px py ho wr.heap.size es [0,0,0,0,0] hx hy hk.1 rfl (row0 wr) fun w' hr hw=>hK w' (S.push ((below_new2 _ _).trans (hw.below (Nat.le_refl _))) hr hk)
theorem wpList_rowP (S:RunP w wr g x y z t R E) (hgd:o.guard=none) (px py:Operand) (ho:o.op=.store 52 px py)
  (i G:Nat) (zs es:List Int) (hi:R[i]?=some (G,zs)) (hx:a.eval px=.pointer (some ⟨G,0,none⟩)) (hy:a.eval py=.agg (es.map (Value.int .u64)).toArray) (hk:EOk es)
  {wa:World} (hwa:wa=wr)
  (hK:∀ w',RunP w w' g x y z t (R.set i (G,es)) E→wpList Tryz.prog ops Q rest (a.put o.dst undef) w') :
  wpList Tryz.prog ops Q (o::rest) a wa:=by
 subst hwa
 exact wpList_storeE hgd px py ho G es zs hx hy hk.1 (S.ok i G zs hi).1 (S.row i G zs hi) fun w' hr hw=>hK w' (S.put i G zs es hi hw hr hk)
theorem RunP.there (S:RunP w wr g x y z t R E) (p:Nat) (hp:p+5≤20):wr.there g p 5:=fun j hj=>by
 have hl:(pl x y z t).length=20:=by unfold pl;simp[S.pt.x.1,S.pt.y.1,S.pt.z.1,S.pt.t.1]
 exact⟨by rw[S.pt.row.cell (p+j) (by omega)];rfl,S.pt.row.frozen _⟩
theorem wpList_midP (S:RunP w wr g x y z t R E) (hgd:o.guard=none) (px py:Operand) (ho:o.op=.store 52 px py)
  (p:Nat) (hp:p+5≤20) (es x' y' z' t':List Int) (hov:over (pl x y z t) p es=pl x' y' z' t') (hk':EOk x'∧EOk y'∧EOk z'∧EOk t') (hx:a.eval px=.pointer (some ⟨g,p,none⟩)) (hy:a.eval py=.agg (es.map (Value.int .u64)).toArray) (hk:EOk es)
  {wa:World} (hwa:wa=wr)
  (hK:∀ w',RunP w w' g x' y' z' t' R E→wpList Tryz.prog ops Q rest (a.put o.dst undef) w') :
  wpList Tryz.prog ops Q (o::rest) a wa:=by
 subst hwa
 have hsz:((es.map (Value.int .u64)).toArray).size=5:=by simp[hk.1]
 refine wpList_store_mid hgd 52 px py ho g p ((es.map (Value.int .u64)).toArray) hx hy (by rw[hsz];exact S.there p hp) (sizeEl hk.1) (all_oneCell_toArray (ints_oneCell _ _)) (hK _ ?_)
 have hr:=RowW.setCells es (pl x y z t) wa p S.pt.row
 rw[hov] at hr
 exact S.point (Wr.setCells _ _ p (Wr.refl _ _)) ⟨hr,hk'.1,hk'.2.1,hk'.2.2.1,hk'.2.2.2⟩
end
end Go.Proofs.YtapejbpgdjbjjaaGreatDoor
namespace Go.Proofs.YtapejbpgdjbjjaaGreatDoor
open Go.ChangeShapes Go.WideShapes Go.ChangeAt Go.RowKit
set_option linter.unusedVariables false
def rpF (x:Int):Int:=x^(M250*4+1)%fp
def rtF (u v:Int):Int:=(u*(sqN v 1*v%fp)%fp)*rpF (u*(sqN v 1*v%fp)%fp*sqN v 2%fp)%fp
def rcF (u v:Int):Int:=sqN (rtF u v) 1*v%fp
def sm1L:List Int:=[1718705420411056,234908883556509,2233514472574048,2117202627021982,765476049583133]
def curveDL:List Int:=[929955233495203,466365720129213,1662059464998953,2033849074728123,1442794654840575]
def curveD2L:List Int:=[1859910466990425,932731440258426,1072319116312658,1815898335770999,633789495995903]
def drR (u v:Int):Bool:=decide (rcF u v=u) || decide (rcF u v=(0-u)%fp)
def drX (u v:Int):Int:=if rcF u v=u then rtF u v else rtF u v*ev sm1L%fp
def DP (w:World) (g:Nat) (y z t:List Int) (u v:Int) (e:Ending) (w':World):Prop:=
 ∃ xs,EOk xs∧e=.returned (.bool (drR u v))∧ev xs=drX u v∧Pt w' g xs y z t∧WrH g w w'
theorem ok5 (a b c d e:Int) (ha:0≤a∧a<2251799813685504) (hb:0≤b∧b<2251799813685248) (hc:0≤c∧c<2251799813685248) (hd:0≤d∧d<2251799813685248) (he:0≤e∧e<2251799813685248):EOk [a,b,c,d,e]:=by
 refine⟨rfl,fun i=>?_,fun i hi=>?_,ha.2⟩
 ·rcases i with _|_|_|_|_|i<;>simp<;>omega
 ·rcases i with _|_|_|_|_|i<;>simp<;>omega
def oneL:List Int:=[1,0,0,0,0]
theorem one_ok:EOk oneL:=ok5 _ _ _ _ _ (by decide) (by decide) (by decide) (by decide) (by decide)
theorem sm1_ok:EOk sm1L:=ok5 _ _ _ _ _ (by decide) (by decide) (by decide) (by decide) (by decide)
theorem curveD_ok:EOk curveDL:=ok5 _ _ _ _ _ (by decide) (by decide) (by decide) (by decide) (by decide)
theorem curveD2_ok:EOk curveD2L:=ok5 _ _ _ _ _ (by decide) (by decide) (by decide) (by decide) (by decide)
set_option maxHeartbeats 1000000 in
theorem curveD_any (w:World):Calls Tryz.prog 92 #[] w (EP w (ev curveDL)):=by
 have HS0:Hid (Run w (w.alloc (.cells #[.int .u64 0,.int .u64 0,.int .u64 0,.int .u64 0,.int .u64 0] 52)) [(w.heap.size,[0,0,0,0,0])] []):=(Run.start w [] (by simp)).room
 go_enter Tryz.func92,Tryz.ntmps92
 go_wp2_with (first
  |(refine wpList_storeR HS0.out rfl (.tmp 0) (.tmp 1) rfl 0 w.heap.size [0,0,0,0,0] curveDL rfl rfl rfl curveD_ok rfl ?_)
  |fail)
 intro w1 S1
 have H1:Hid (Run w w1 [(w.heap.size,curveDL)] []):=S1
 clear S1 HS0
 go_wp2
 exact bodyPost_ret (v:=.agg (curveDL.map (Value.int .u64)).toArray) (H1.out.ret rfl _ 0 w.heap.size curveDL rfl rfl) rfl ⟨curveDL,curveD_ok,rfl,rfl,H1.out.below⟩
set_option maxHeartbeats 1000000 in
theorem curveD2_any (w:World):Calls Tryz.prog 77 #[] w (EP w (ev curveD2L)):=by
 have HS0:Hid (Run w (w.alloc (.cells #[.int .u64 0,.int .u64 0,.int .u64 0,.int .u64 0,.int .u64 0] 52)) [(w.heap.size,[0,0,0,0,0])] []):=(Run.start w [] (by simp)).room
 go_enter Tryz.func77,Tryz.ntmps77
 go_wp2_with (first
  |(refine wpList_storeR HS0.out rfl (.tmp 0) (.tmp 1) rfl 0 w.heap.size [0,0,0,0,0] curveD2L rfl rfl rfl curveD2_ok rfl ?_)
  |fail)
 intro w1 S1
 have H1:Hid (Run w w1 [(w.heap.size,curveD2L)] []):=S1
 clear S1 HS0
 go_wp2
 exact bodyPost_ret (v:=.agg (curveD2L.map (Value.int .u64)).toArray) (H1.out.ret rfl _ 0 w.heap.size curveD2L rfl rfl) rfl ⟨curveD2L,curveD2_ok,rfl,rfl,H1.out.below⟩
set_option maxHeartbeats 1000000 in
theorem sm1_any (w:World):Calls Tryz.prog 111 #[] w (EP w (ev sm1L)):=by
 have HS0:Hid (Run w (w.alloc (.cells #[.int .u64 0,.int .u64 0,.int .u64 0,.int .u64 0,.int .u64 0] 52)) [(w.heap.size,[0,0,0,0,0])] []):=(Run.start w [] (by simp)).room
 go_enter Tryz.func111,Tryz.ntmps111
 go_wp2_with (first
  |(refine wpList_storeR HS0.out rfl (.tmp 0) (.tmp 1) rfl 0 w.heap.size [0,0,0,0,0] sm1L rfl rfl rfl sm1_ok rfl ?_)
  |fail)
 intro w1 S1
 have H1:Hid (Run w w1 [(w.heap.size,sm1L)] []):=S1
 clear S1 HS0
 go_wp2
 exact bodyPost_ret (v:=.agg (sm1L.map (Value.int .u64)).toArray) (H1.out.ret rfl _ 0 w.heap.size sm1L rfl rfl) rfl ⟨sm1L,sm1_ok,rfl,rfl,H1.out.below⟩
def uF (Y:Int):Int:=(sqN Y 1-ev oneL)%fp
def vF (Y:Int):Int:=(sqN Y 1*ev curveDL%fp+ev oneL)%fp
set_option maxHeartbeats 4000000 in
theorem divideRoot_any (g:Nat) (x y z t:List Int) (g1 o1 g2 o2:Nat) (us vs:List Int) (w:World) (hp:Pt w g x y z t) (hu:EAt w g1 o1 us) (hv:EAt w g2 o2 vs) (hg1:g1≠g) (hg2:g2≠g) :
  Calls Tryz.prog 94 #[.pointer (some ⟨g,0,none⟩),.pointer (some ⟨g1,o1,none⟩),.pointer (some ⟨g2,o2,none⟩)] w (DP w g y z t (ev us) (ev vs)):=by
 have HS0:Hid (RunP w w g x y z t [] [(g1,o1,us),(g2,o2,vs)]):=RunP.start hp _ (fun e he=>by
  simp only[List.mem_cons,List.not_mem_nil,or_false] at he;rcases he with rfl|rfl
  ·exact⟨hg1,hu⟩
  ·exact⟨hg2,hv⟩)
 clear hp hu hv hg1 hg2
 go_enter Tryz.func94,Tryz.ntmps94
 go_wp2_with fail
 refine(squared_any g2 o2 vs 1 _ (by decide) (HS0.out.el 1 _ _ _ rfl)).mono ?_
 rintro e w1 ⟨c1,hk,hv,rfl,b⟩
 have HKc1:Hid (EOk c1∧ev c1=sqN (ev vs) 1):=⟨hk,hv⟩
 have HS1:Hid (RunP w w1 g x y z t [] [(g1,o1,us),(g2,o2,vs)]):=HS0.out.call b
 clear hk hv b HS0
 go_wp2_with (first
  |(refine wpList_newP HS1.out rfl (.tmp 7) (.tmp 17) rfl c1 rfl rfl HKc1.out.1 rfl ?_)
  |fail)
 intro w2 S
 have HS2:Hid (RunP w w2 g x y z t [(w1.heap.size,c1)] [(g1,o1,us),(g2,o2,vs)]):=S
 clear S HS1
 generalize w1.heap.size=G2 at *
 go_wp2_with fail
 refine(times_any G2 0 g2 o2 c1 vs _ (HS2.out.re 0 _ _ rfl) (HS2.out.el 1 _ _ _ rfl)).mono ?_
 rintro e w3 ⟨c2,hk,hv,rfl,b⟩
 have HKc2:Hid (EOk c2∧ev c2=ev c1*ev vs%fp):=⟨hk,hv⟩
 have HS3:Hid (RunP w w3 g x y z t [(G2,c1)] [(g1,o1,us),(g2,o2,vs)]):=HS2.out.call b
 clear hk hv b HS2
 go_wp2_with (first
  |(refine wpList_rowP HS3.out rfl (.tmp 7) (.tmp 19) rfl 0 G2 c1 c2 rfl rfl rfl HKc2.out.1 rfl ?_)
  |fail)
 intro w4 S
 have HS4:Hid (RunP w w4 g x y z t [(G2,c2)] [(g1,o1,us),(g2,o2,vs)]):=S
 clear S HS3
 go_wp2_with fail
 refine(times_any g1 o1 G2 0 us c2 _ (HS4.out.el 0 _ _ _ rfl) (HS4.out.re 0 _ _ rfl)).mono ?_
 rintro e w5 ⟨st,hk,hv,rfl,b⟩
 have HKst:Hid (EOk st∧ev st=ev us*ev c2%fp):=⟨hk,hv⟩
 have HS5:Hid (RunP w w5 g x y z t [(G2,c2)] [(g1,o1,us),(g2,o2,vs)]):=HS4.out.call b
 clear hk hv b HS4
 go_wp2_with (first
  |(refine wpList_newP HS5.out rfl (.tmp 8) (.tmp 21) rfl st rfl rfl HKst.out.1 rfl ?_)
  |fail)
 intro w6 S
 have HS6:Hid (RunP w w6 g x y z t [(w5.heap.size,st),(G2,c2)] [(g1,o1,us),(g2,o2,vs)]):=S
 clear S HS5
 generalize w5.heap.size=G6 at *
 go_wp2_with fail
 refine(squared_any g2 o2 vs 2 _ (by decide) (HS6.out.el 1 _ _ _ rfl)).mono ?_
 rintro e w7 ⟨f4,hk,hv,rfl,b⟩
 have HKf4:Hid (EOk f4∧ev f4=sqN (ev vs) 2):=⟨hk,hv⟩
 have HS7:Hid (RunP w w7 g x y z t [(G6,st),(G2,c2)] [(g1,o1,us),(g2,o2,vs)]):=HS6.out.call b
 clear hk hv b HS6
 go_wp2_with (first
  |(refine wpList_newP HS7.out rfl (.tmp 9) (.tmp 23) rfl f4 rfl rfl HKf4.out.1 rfl ?_)
  |fail)
 intro w8 S
 have HS8:Hid (RunP w w8 g x y z t [(w7.heap.size,f4),(G6,st),(G2,c2)] [(g1,o1,us),(g2,o2,vs)]):=S
 clear S HS7
 generalize w7.heap.size=G8 at *
 go_wp2_with fail
 refine(times_any G6 0 G8 0 st f4 _ (HS8.out.re 1 _ _ rfl) (HS8.out.re 0 _ _ rfl)).mono ?_
 rintro e w9 ⟨bs,hk,hv,rfl,b⟩
 have HKbs:Hid (EOk bs∧ev bs=ev st*ev f4%fp):=⟨hk,hv⟩
 have HS9:Hid (RunP w w9 g x y z t [(G8,f4),(G6,st),(G2,c2)] [(g1,o1,us),(g2,o2,vs)]):=HS8.out.call b
 clear hk hv b HS8
 go_wp2_with (first
  |(refine wpList_newP HS9.out rfl (.tmp 10) (.tmp 24) rfl bs rfl rfl HKbs.out.1 rfl ?_)
  |fail)
 intro w10 S
 have HS10:Hid (RunP w w10 g x y z t [(w9.heap.size,bs),(G8,f4),(G6,st),(G2,c2)] [(g1,o1,us),(g2,o2,vs)]):=S
 clear S HS9
 generalize w9.heap.size=G10 at *
 go_wp2_with fail
 refine(rootPower_any G10 0 bs _ (HS10.out.re 0 _ _ rfl)).mono ?_
 rintro e w11 ⟨pw,hk,hv,rfl,b⟩
 have HKpw:Hid (EOk pw∧ev pw=rpF (ev bs)):=⟨hk,hv⟩
 have HS11:Hid (RunP w w11 g x y z t [(G10,bs),(G8,f4),(G6,st),(G2,c2)] [(g1,o1,us),(g2,o2,vs)]):=HS10.out.call b
 clear hk hv b HS10
 go_wp2_with (first
  |(refine wpList_newP HS11.out rfl (.tmp 11) (.tmp 25) rfl pw rfl rfl HKpw.out.1 rfl ?_)
  |fail)
 intro w12 S
 have HS12:Hid (RunP w w12 g x y z t [(w11.heap.size,pw),(G10,bs),(G8,f4),(G6,st),(G2,c2)] [(g1,o1,us),(g2,o2,vs)]):=S
 clear S HS11
 generalize w11.heap.size=G12 at *
 go_wp2_with fail
 refine(times_any G6 0 G12 0 st pw _ (HS12.out.re 3 _ _ rfl) (HS12.out.re 0 _ _ rfl)).mono ?_
 rintro e w13 ⟨rt,hk,hv,rfl,b⟩
 have HKrt:Hid (EOk rt∧ev rt=ev st*ev pw%fp):=⟨hk,hv⟩
 have HS13:Hid (RunP w w13 g x y z t [(G12,pw),(G10,bs),(G8,f4),(G6,st),(G2,c2)] [(g1,o1,us),(g2,o2,vs)]):=HS12.out.call b
 clear hk hv b HS12
 go_wp2_with (first
  |(refine wpList_midP HS13.out rfl (.tmp 28) (.tmp 27) rfl 0 (by decide) rt rt y z t (over_x HS13.out.pt.x.1 HKrt.out.1.1) ⟨HKrt.out.1,HS13.out.pt.y,HS13.out.pt.z,HS13.out.pt.t⟩ rfl rfl HKrt.out.1 rfl ?_)
  |fail)
 intro w14 S
 have HS14:Hid (RunP w w14 g rt y z t [(G12,pw),(G10,bs),(G8,f4),(G6,st),(G2,c2)] [(g1,o1,us),(g2,o2,vs)]):=S
 clear S HS13
 go_wp2_with fail
 refine(squared_any g 0 rt 1 _ (by decide) HS14.out.pt.ex).mono ?_
 rintro e w15 ⟨sq,hk,hv,rfl,b⟩
 have HKsq:Hid (EOk sq∧ev sq=sqN (ev rt) 1):=⟨hk,hv⟩
 have HS15:Hid (RunP w w15 g rt y z t [(G12,pw),(G10,bs),(G8,f4),(G6,st),(G2,c2)] [(g1,o1,us),(g2,o2,vs)]):=HS14.out.call b
 clear hk hv b HS14
 go_wp2_with (first
  |(refine wpList_newP HS15.out rfl (.tmp 12) (.tmp 30) rfl sq rfl rfl HKsq.out.1 rfl ?_)
  |fail)
 intro w16 S
 have HS16:Hid (RunP w w16 g rt y z t [(w15.heap.size,sq),(G12,pw),(G10,bs),(G8,f4),(G6,st),(G2,c2)] [(g1,o1,us),(g2,o2,vs)]):=S
 clear S HS15
 generalize w15.heap.size=G16 at *
 go_wp2_with fail
 refine(times_any G16 0 g2 o2 sq vs _ (HS16.out.re 0 _ _ rfl) (HS16.out.el 1 _ _ _ rfl)).mono ?_
 rintro e w17 ⟨rc,hk,hv,rfl,b⟩
 have HKrc:Hid (EOk rc∧ev rc=ev sq*ev vs%fp):=⟨hk,hv⟩
 have HS17:Hid (RunP w w17 g rt y z t [(G16,sq),(G12,pw),(G10,bs),(G8,f4),(G6,st),(G2,c2)] [(g1,o1,us),(g2,o2,vs)]):=HS16.out.call b
 clear hk hv b HS16
 go_wp2_with (first
  |(refine wpList_newP HS17.out rfl (.tmp 13) (.tmp 32) rfl rc rfl rfl HKrc.out.1 rfl ?_)
  |fail)
 intro w18 S
 have HS18:Hid (RunP w w18 g rt y z t [(w17.heap.size,rc),(G16,sq),(G12,pw),(G10,bs),(G8,f4),(G6,st),(G2,c2)] [(g1,o1,us),(g2,o2,vs)]):=S
 clear S HS17
 generalize w17.heap.size=G18 at *
 have HRT:Hid (ev rt=rtF (ev us) (ev vs)):=by
  show _=_
  unfold rtF;rw[HKrt.out.2,HKpw.out.2,HKbs.out.2,HKst.out.2,HKf4.out.2,HKc2.out.2,HKc1.out.2]
 have HRC:Hid (ev rc=rcF (ev us) (ev vs)):=by
  show _=_
  unfold rcF;rw[HKrc.out.2,HKsq.out.2,HRT.out]
 clear HKpw HKbs HKst HKf4 HKc2 HKc1 HKsq HKrc
 go_wp2_with fail
 refine(equalsE_any G18 0 g1 o1 rc us _ (HS18.out.re 0 _ _ rfl) (HS18.out.el 0 _ _ _ rfl)).mono ?_
 rintro e wq ⟨rfl,b⟩
 have HSq:Hid (RunP w wq g rt y z t [(G18,rc),(G16,sq),(G12,pw),(G10,bs),(G8,f4),(G6,st),(G2,c2)] [(g1,o1,us),(g2,o2,vs)]):=HS18.out.call b
 clear b HS18
 by_cases hq:ev rc=ev us
 ·have HQ:Hid (ev rc=ev us):=hq;rw[decide_eq_true hq];clear hq;go_wp2
  go_ret
  refine⟨rt,HKrt.out.1,?_,?_,HSq.out.pt,HSq.out.wrh⟩
  ·show _=Ending.returned (.bool (drR (ev us) (ev vs)))
   have:drR (ev us) (ev vs)=true:=by unfold drR;rw[←HRC.out,HQ.out];simp
   rw[this];rfl
  ·unfold drX;rw[←HRC.out,HQ.out,if_pos rfl];exact HRT.out
 ·have HQ:Hid (¬ (ev rc=ev us)):=hq;rw[decide_eq_false hq];clear hq;go_wp2_with fail;refine(negated_any g1 o1 us _ (HSq.out.el 0 _ _ _ rfl)).mono ?_;rintro e w19 ⟨op,hk,hv,rfl,b⟩;have HKop:Hid (EOk op∧ev op=(0-ev us)%fp):=⟨hk,hv⟩
  have HS19:Hid (RunP w w19 g rt y z t [(G18,rc),(G16,sq),(G12,pw),(G10,bs),(G8,f4),(G6,st),(G2,c2)] [(g1,o1,us),(g2,o2,vs)]):=HSq.out.call b;clear hk hv b HSq;go_wp2_with (first
   |(refine wpList_newP HS19.out rfl (.tmp 14) (.tmp 36) rfl op rfl rfl HKop.out.1 rfl ?_)
   |fail)
  intro w20 S;have HS20:Hid (RunP w w20 g rt y z t [(w19.heap.size,op),(G18,rc),(G16,sq),(G12,pw),(G10,bs),(G8,f4),(G6,st),(G2,c2)] [(g1,o1,us),(g2,o2,vs)]):=S;clear S HS19;generalize w19.heap.size=G20 at *;go_wp2_with fail;refine(sm1_any _).mono ?_;rintro e w21 ⟨tn,hk,hv,rfl,b⟩;have HKtn:Hid (EOk tn∧ev tn=ev sm1L):=⟨hk,hv⟩
  have HS21:Hid (RunP w w21 g rt y z t [(G20,op),(G18,rc),(G16,sq),(G12,pw),(G10,bs),(G8,f4),(G6,st),(G2,c2)] [(g1,o1,us),(g2,o2,vs)]):=HS20.out.call b;clear hk hv b HS20;go_wp2_with (first
   |(refine wpList_newP HS21.out rfl (.tmp 15) (.tmp 37) rfl tn rfl rfl HKtn.out.1 rfl ?_)
   |fail)
  intro w22 S;have HS22:Hid (RunP w w22 g rt y z t [(w21.heap.size,tn),(G20,op),(G18,rc),(G16,sq),(G12,pw),(G10,bs),(G8,f4),(G6,st),(G2,c2)] [(g1,o1,us),(g2,o2,vs)]):=S;clear S HS21;generalize w21.heap.size=G22 at *;go_wp2_with fail;refine(times_any g 0 G22 0 rt tn _ HS22.out.pt.ex (HS22.out.re 0 _ _ rfl)).mono ?_;rintro e w23 ⟨xx,hk,hv,rfl,b⟩;have HKxx:Hid (EOk xx∧ev xx=ev rt*ev tn%fp):=⟨hk,hv⟩
  have HS23:Hid (RunP w w23 g rt y z t [(G22,tn),(G20,op),(G18,rc),(G16,sq),(G12,pw),(G10,bs),(G8,f4),(G6,st),(G2,c2)] [(g1,o1,us),(g2,o2,vs)]):=HS22.out.call b;clear hk hv b HS22;go_wp2_with (first
   |(refine wpList_midP HS23.out rfl (.tmp 41) (.tmp 40) rfl 0 (by decide) xx xx y z t (over_x HS23.out.pt.x.1 HKxx.out.1.1) ⟨HKxx.out.1,HS23.out.pt.y,HS23.out.pt.z,HS23.out.pt.t⟩ rfl rfl HKxx.out.1 rfl ?_)
   |fail)
  intro w24 S;have HS24:Hid (RunP w w24 g xx y z t [(G22,tn),(G20,op),(G18,rc),(G16,sq),(G12,pw),(G10,bs),(G8,f4),(G6,st),(G2,c2)] [(g1,o1,us),(g2,o2,vs)]):=S;clear S HS23;have HXX:Hid (ev xx=rtF (ev us) (ev vs)*ev sm1L%fp):=by
   show _=_
   rw[HKxx.out.2,HKtn.out.2,HRT.out]
  clear HKtn;go_wp2_with fail;refine(equalsE_any G18 0 G20 0 rc op _ (HS24.out.re 2 _ _ rfl) (HS24.out.re 1 _ _ rfl)).mono ?_;rintro e wz ⟨rfl,b⟩;have HSz:Hid (RunP w wz g xx y z t [(G22,tn),(G20,op),(G18,rc),(G16,sq),(G12,pw),(G10,bs),(G8,f4),(G6,st),(G2,c2)] [(g1,o1,us),(g2,o2,vs)]):=HS24.out.call b;clear b HS24;have HD:Hid (decide (ev rc=ev op)=drR (ev us) (ev vs)):=by
   show _=_
   unfold drR;rw[←HRC.out,HKop.out.2];simp[HQ.out]
  rw[HD.out];clear HD;go_wp2
  go_ret
  refine⟨xx,HKxx.out.1,rfl,?_,HSz.out.pt,HSz.out.wrh⟩;unfold drX;rw[←HRC.out,if_neg HQ.out];exact HXX.out
set_option maxHeartbeats 4000000 in
theorem findX_any (g:Nat) (x y z t:List Int) (w:World) (hp:Pt w g x y z t) :
  Calls Tryz.prog 70 #[.pointer (some ⟨g,0,none⟩)] w (DP w g y z t (uF (ev y)) (vF (ev y))):=by
 have HS0:Hid (RunP w w g x y z t [] []):=RunP.start hp _ (fun e he=>by simp at he)
 clear hp
 go_enter Tryz.func70,Tryz.ntmps70
 go_wp2_with (first
  |(refine wpList_newP HS0.out rfl (.tmp 3) (.tmp 8) rfl oneL rfl rfl one_ok rfl ?_)
  |fail)
 intro w1 S
 have HS1:Hid (RunP w w1 g x y z t [(w.heap.size,oneL)] []):=S
 clear S HS0
 generalize w.heap.size=G1 at *
 go_wp2_with fail
 refine(curveD_any _).mono ?_
 rintro e w2 ⟨dd,hk,hv,rfl,b⟩
 have HKdd:Hid (EOk dd∧ev dd=ev curveDL):=⟨hk,hv⟩
 have HS2:Hid (RunP w w2 g x y z t [(G1,oneL)] []):=HS1.out.call b
 clear hk hv b HS1
 go_wp2_with (first
  |(refine wpList_newP HS2.out rfl (.tmp 4) (.tmp 9) rfl dd rfl rfl HKdd.out.1 rfl ?_)
  |fail)
 intro w3 S
 have HS3:Hid (RunP w w3 g x y z t [(w2.heap.size,dd),(G1,oneL)] []):=S
 clear S HS2
 generalize w2.heap.size=G3 at *
 go_wp2_with fail
 refine(squared_any g 5 y 1 _ (by decide) HS3.out.pt.ey).mono ?_
 rintro e w4 ⟨sq,hk,hv,rfl,b⟩
 have HKsq:Hid (EOk sq∧ev sq=sqN (ev y) 1):=⟨hk,hv⟩
 have HS4:Hid (RunP w w4 g x y z t [(G3,dd),(G1,oneL)] []):=HS3.out.call b
 clear hk hv b HS3
 go_wp2_with (first
  |(refine wpList_newP HS4.out rfl (.tmp 5) (.tmp 13) rfl sq rfl rfl HKsq.out.1 rfl ?_)
  |fail)
 intro w5 S
 have HS5:Hid (RunP w w5 g x y z t [(w4.heap.size,sq),(G3,dd),(G1,oneL)] []):=S
 clear S HS4
 generalize w4.heap.size=G5 at *
 go_wp2_with fail
 refine(minus_any G5 0 G1 0 sq oneL _ (HS5.out.re 0 _ _ rfl) (HS5.out.re 2 _ _ rfl)).mono ?_
 rintro e w6 ⟨ov,hk,hv,rfl,b⟩
 have HKov:Hid (EOk ov∧ev ov=(ev sq-ev oneL)%fp):=⟨hk,hv⟩
 have HS6:Hid (RunP w w6 g x y z t [(G5,sq),(G3,dd),(G1,oneL)] []):=HS5.out.call b
 clear hk hv b HS5
 go_wp2_with (first
  |(refine wpList_newP HS6.out rfl (.tmp 6) (.tmp 14) rfl ov rfl rfl HKov.out.1 rfl ?_)
  |fail)
 intro w7 S
 have HS7:Hid (RunP w w7 g x y z t [(w6.heap.size,ov),(G5,sq),(G3,dd),(G1,oneL)] []):=S
 clear S HS6
 generalize w6.heap.size=G7 at *
 go_wp2_with fail
 refine(times_any G5 0 G3 0 sq dd _ (HS7.out.re 1 _ _ rfl) (HS7.out.re 2 _ _ rfl)).mono ?_
 rintro e w8 ⟨ua,hk,hv,rfl,b⟩
 have HKua:Hid (EOk ua∧ev ua=ev sq*ev dd%fp):=⟨hk,hv⟩
 have HS8:Hid (RunP w w8 g x y z t [(G7,ov),(G5,sq),(G3,dd),(G1,oneL)] []):=HS7.out.call b
 clear hk hv b HS7
 go_wp2_with (first
  |(refine wpList_newP HS8.out rfl (.tmp 7) (.tmp 15) rfl ua rfl rfl HKua.out.1 rfl ?_)
  |fail)
 intro w9 S
 have HS9:Hid (RunP w w9 g x y z t [(w8.heap.size,ua),(G7,ov),(G5,sq),(G3,dd),(G1,oneL)] []):=S
 clear S HS8
 generalize w8.heap.size=G9 at *
 go_wp2_with fail
 refine(plus_any G9 0 G1 0 ua oneL _ (HS9.out.re 0 _ _ rfl) (HS9.out.re 4 _ _ rfl)).mono ?_
 rintro e w10 ⟨un,hk,hv,rfl,b⟩
 have HKun:Hid (EOk un∧ev un=(ev ua+ev oneL)%fp):=⟨hk,hv⟩
 have HS10:Hid (RunP w w10 g x y z t [(G9,ua),(G7,ov),(G5,sq),(G3,dd),(G1,oneL)] []):=HS9.out.call b
 clear hk hv b HS9
 go_wp2_with (first
  |(refine wpList_rowP HS10.out rfl (.tmp 7) (.tmp 16) rfl 0 G9 ua un rfl rfl rfl HKun.out.1 rfl ?_)
  |fail)
 intro w11 S
 have HS11:Hid (RunP w w11 g x y z t [(G9,un),(G7,ov),(G5,sq),(G3,dd),(G1,oneL)] []):=S
 clear S HS10
 have HUF:Hid (ev ov=uF (ev y)):=by
  show _=_
  unfold uF;rw[HKov.out.2,HKsq.out.2]
 have HVF:Hid (ev un=vF (ev y)):=by
  show _=_
  unfold vF;rw[HKun.out.2,HKua.out.2,HKsq.out.2,HKdd.out.2]
 have hlt:=HS11.out.lt
 have hn1:=(HS11.out.rows _ (List.mem_of_getElem? (i:=1) rfl)).1
 have hn2:=(HS11.out.rows _ (List.mem_of_getElem? (i:=0) rfl)).1
 dsimp only at hn1 hn2
 clear HKov HKsq HKun HKua HKdd
 go_wp2_with fail
 refine(divideRoot_any g x y z t G7 0 G9 0 ov un _ HS11.out.pt (HS11.out.re 1 _ _ rfl) (HS11.out.re 0 _ _ rfl) (by omega) (by omega)).mono ?_
 rintro e wd ⟨xs,hk,rfl,hx,hp,hw⟩
 rw[HUF.out,HVF.out] at hx ⊢
 have HX:Hid (EOk xs∧ev xs=drX (uF (ev y)) (vF (ev y))∧Pt wd g xs y z t∧WrH g w wd):=⟨hk,hx,hp,HS11.out.wrh.trans hw⟩
 clear hk hx hp hw HUF HVF hlt hn1 hn2 HS11
 go_wp2
 go_ret
 exact⟨xs,HX.out.1,rfl,HX.out.2.1,HX.out.2.2.1,HX.out.2.2.2⟩
end Go.Proofs.YtapejbpgdjbjjaaGreatDoor
