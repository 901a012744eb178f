import Derived.Test.YtapejbpgdjbjjaaGreatDoorMIEl
namespace Go.Proofs.YtapejbpgdjbjjaaGreatDoor
open Go.ChangeShapes Go.WideShapes Go.ChangeAt Go.RowKit
set_option linter.unusedVariables false
structure Run (w wr:World) (R:List (Nat×List Int)) (E:List (Nat×Nat×List Int)):Prop where
 below:Below w.heap.size w wr
 rows:∀ r∈R,w.heap.size≤r.1∧RowW wr r.1 52 r.2∧EOk r.2
 order:R.Pairwise fun a b=>b.1<a.1
 els:∀ e∈E,e.1<w.heap.size∧EAt wr e.1 e.2.1 e.2.2
theorem Run.start (w:World) (E:List (Nat×Nat×List Int)) (h:∀ e∈E,EAt w e.1 e.2.1 e.2.2):Run w w [] E:=
 ⟨Below.refl _ _,by simp,List.Pairwise.nil,fun e he=>⟨(h e he).1,h e he⟩⟩
theorem Run.call {w wr w':World} {R:List (Nat×List Int)} {E:List (Nat×Nat×List Int)} (h:Run w wr R E) (b:Below wr.heap.size wr w'):Run w w' R E:=
 ⟨h.below.trans (b.mono h.below.size),fun r hr=>⟨(h.rows r hr).1,(h.rows r hr).2.1.below b (h.rows r hr).2.1.lt,(h.rows r hr).2.2⟩,h.order,fun e he=>⟨(h.els e he).1,(h.els e he).2.below b⟩⟩
theorem Run.push {w wr w':World} {R:List (Nat×List Int)} {E:List (Nat×Nat×List Int)} (h:Run w wr R E) (b:Below wr.heap.size wr w') {es:List Int} (hr:RowW w' wr.heap.size 52 es) (hk:EOk es) :
  Run w w' ((wr.heap.size,es)::R) E:=by
 have c:=h.call b
 refine⟨c.below,?_,?_,c.els⟩
 ·intro r hm;rcases List.mem_cons.1 hm with rfl|hm
  ·exact⟨h.below.size,hr,hk⟩
  ·exact c.rows r hm
 ·exact List.Pairwise.cons (fun r hm=>(h.rows r hm).2.1.lt) h.order
theorem zero_ok:EOk [0,0,0,0,0]:=⟨rfl,fun i=>by rcases i with _|_|_|_|_|i<;>simp,fun i _=>by rcases i with _|_|_|_|_|i<;>simp,by decide⟩
theorem Run.room {w wr:World} {R:List (Nat×List Int)} {E:List (Nat×Nat×List Int)} (h:Run w wr R E) :
  Run w (wr.alloc (.cells #[.int .u64 0,.int .u64 0,.int .u64 0,.int .u64 0,.int .u64 0] 52)) ((wr.heap.size,[0,0,0,0,0])::R) E:=
 h.push (below_new2 _ _) (row0 wr) zero_ok
theorem Run.el {w wr:World} {R:List (Nat×List Int)} {E:List (Nat×Nat×List Int)} (h:Run w wr R E) (i:Nat) (g o:Nat) (es:List Int) (hi:E[i]?=some (g,o,es)):EAt wr g o es:=
 (h.els _ (List.mem_of_getElem? hi)).2
theorem Run.row {w wr:World} {R:List (Nat×List Int)} {E:List (Nat×Nat×List Int)} (h:Run w wr R E) (i:Nat) (g:Nat) (es:List Int) (hi:R[i]?=some (g,es)):RowW wr g 52 es:=
 (h.rows _ (List.mem_of_getElem? hi)).2.1
theorem Run.ok {w wr:World} {R:List (Nat×List Int)} {E:List (Nat×Nat×List Int)} (h:Run w wr R E) (i:Nat) (g:Nat) (es:List Int) (hi:R[i]?=some (g,es)):EOk es:=
 (h.rows _ (List.mem_of_getElem? hi)).2.2
theorem Run.re {w wr:World} {R:List (Nat×List Int)} {E:List (Nat×Nat×List Int)} (h:Run w wr R E) (i:Nat) (g:Nat) (es:List Int) (hi:R[i]?=some (g,es)):EAt wr g 0 es:=
 EAt.of_row (h.row i g es hi) (h.ok i g es hi)
theorem Run.put {w wr w':World} {R:List (Nat×List Int)} {E:List (Nat×Nat×List Int)} (h:Run w wr R E) (i:Nat) (g:Nat) (zs es:List Int) (hi:R[i]?=some (g,zs)) (hw:Wr g wr w') (hr:RowW w' g 52 es) (hk:EOk es) :
  Run w w' (R.set i (g,es)) E:=by
 have hg:w.heap.size≤g:=(h.rows _ (List.mem_of_getElem? hi)).1
 have hil:i<R.length:=(List.getElem?_eq_some_iff.1 hi).1
 have hie:R[i]=(g,zs):=(List.getElem?_eq_some_iff.1 hi).2
 have ho:=List.pairwise_iff_getElem.1 h.order
 refine⟨h.below.trans (hw.below hg),?_,?_,fun e he=>⟨(h.els e he).1,(h.els e he).2.wr hw (by have:=(h.els e he).1;omega)⟩⟩
 ·intro r hm;obtain⟨j,hj,rfl⟩:=List.getElem_of_mem hm;rw[List.length_set] at hj;rw[List.getElem_set];split
  ·exact⟨hg,hr,hk⟩
  ·rename_i hne
   have q:=h.rows _ (List.getElem_mem hj);refine⟨q.1,hw.rowW q.2.1 ?_,q.2.2⟩;rcases Nat.lt_or_gt_of_ne hne with hlt|hgt
   ·have:=ho i j hil hj hlt;rw[hie] at this;simp only at this;omega
   ·have:=ho j i hj hil hgt;rw[hie] at this;simp only at this;omega
 ·rw[List.pairwise_iff_getElem];intro a b ha hb hab;rw[List.length_set] at ha hb;have:=ho a b ha hb hab;rw[List.getElem_set,List.getElem_set];split<;>split<;>simp_all
theorem wpList_storeN {w wr:World} {R:List (Nat×List Int)} {E:List (Nat×Nat×List Int)} (S:Run w wr R E)
  {ops:Array Oper} {rest:List Oper} {o:Oper} {a:Act} {Q:Exit→Act→World→Prop} (hgd:o.guard=none) (x y:Operand) (ho:o.op=.store 52 x y)
  (es:List Int) (hx:a.eval x=.pointer (some ⟨wr.heap.size,0,none⟩)) (hy:a.eval y=.agg (es.map (Value.int .u64)).toArray) (hk:EOk es)
  {wa:World} (hwa:wa=wr.alloc (.cells #[.int .u64 0,.int .u64 0,.int .u64 0,.int .u64 0,.int .u64 0] 52))
  (hK:∀ w',Run w w' ((wr.heap.size,es)::R) E→wpList Tryz.prog ops Q rest (a.put o.dst undef) w') :
  wpList Tryz.prog ops Q (o::rest) a wa:=by
 subst hwa
 exact wpList_storeE hgd x y ho wr.heap.size es [0,0,0,0,0] hx hy hk.1 rfl (row0 wr) fun w' hr hw=>hK w' (S.push ((below_new2 _ _).trans (hw.below (Nat.le_refl _))) hr hk)
theorem wpList_storeR {w wr:World} {R:List (Nat×List Int)} {E:List (Nat×Nat×List Int)} (S:Run w wr R E)
  {ops:Array Oper} {rest:List Oper} {o:Oper} {a:Act} {Q:Exit→Act→World→Prop} (hgd:o.guard=none) (x y:Operand) (ho:o.op=.store 52 x y)
  (i g:Nat) (zs es:List Int) (hi:R[i]?=some (g,zs)) (hx:a.eval x=.pointer (some ⟨g,0,none⟩)) (hy:a.eval y=.agg (es.map (Value.int .u64)).toArray) (hk:EOk es)
  {wa:World} (hwa:wa=wr)
  (hK:∀ w',Run w w' (R.set i (g,es)) E→wpList Tryz.prog ops Q rest (a.put o.dst undef) w') :
  wpList Tryz.prog ops Q (o::rest) a wa:=by
 subst hwa
 exact wpList_storeE hgd x y ho g es zs hx hy hk.1 (S.ok i g zs hi).1 (S.row i g zs hi) fun w' hr hw=>hK w' (S.put i g zs es hi hw hr hk)
theorem Run.ret {w wr:World} {R:List (Nat×List Int)} {E:List (Nat×Nat×List Int)} (S:Run w wr R E) {fn:Func} {p:Tmp} (h:fn.results=#[.cell p 52]) (tmps:Array Value)
  (i g:Nat) (es:List Int) (hi:R[i]?=some (g,es)) (hp:tmps.getD p undef=.pointer (some ⟨g,0,none⟩)) :
  (results fn tmps).run Tryz.prog wr=.ok (.agg (es.map (Value.int .u64)).toArray) wr:=
 resE h tmps wr g es (S.ok i g es hi).1 hp (S.row i g es hi)
def m250 (n:Nat):Nat:=2^n-1
def M250:Nat:=m250 250
theorem ones250_any (g o:Nat) (xs:List Int) (w:World) (h:EAt w g o xs) :
  Calls Tryz.prog 99 #[.pointer (some ⟨g,o,none⟩),.int .i64 250] w (EP w (ev xs^M250%fp)):=ones_any 250 g o xs w (by decide) (by decide) h
theorem e250 (x:Int) (m k r:Nat):sqN (x^m%fp) k*(x^r%fp)%fp=x^(m*2^k+r)%fp:=by
 have b:0≤x^m%fp∧x^m%fp<fp:=by unfold fp;omega
 rw[sqN_eq _ b.1 b.2,pow_mod_pow,mod_mul_mod,←Int.pow_add]
theorem pow1_mod (x:Int) (h0:0≤x) (h1:x<fp):x^1%fp=x:=by
 rw[Int.pow_succ,Int.pow_zero,Int.one_mul];exact Int.emod_eq_of_lt h0 h1
set_option maxHeartbeats 2000000 in
theorem rootPower_of (g o:Nat) (xs:List Int) (w:World) (h:EAt w g o xs) (v1 goalv:Int) (hv1:ev xs^M250%fp=v1) (hgoal:sqN v1 2*ev xs%fp=goalv) :
  Calls Tryz.prog 109 #[.pointer (some ⟨g,o,none⟩)] w (EP w goalv):=by
 have hev:=ev_bd xs
 have HE:Hid (sqN v1 2*ev xs%fp=goalv):=hgoal
 have HV1:Hid (ev xs^M250%fp=v1):=hv1
 have S0:=(Run.start w [(g,o,xs)] (fun e he=>by rcases List.mem_singleton.1 he with rfl;exact h)).room
 have HO:Hid (Run w (w.alloc (.cells #[.int .u64 0,.int .u64 0,.int .u64 0,.int .u64 0,.int .u64 0] 52)) [(w.heap.size,[0,0,0,0,0])] [(g,o,xs)]):=S0
 clear S0 h hv1 hev hgoal
 go_enter Tryz.func109,Tryz.ntmps109
 go_wp2_with fail
 refine(ones250_any g o xs _ (HO.out.el 0 _ _ _ rfl)).mono ?_
 rintro e w1 ⟨es,hk,hv,rfl,b⟩
 have HK1:Hid (EOk es∧ev es=v1):=⟨hk,hv.trans HV1.out⟩
 have S1:=HO.out.call b
 have H1:Hid (Run w w1 [(w.heap.size,[0,0,0,0,0])] [(g,o,xs)]):=S1
 clear S1 hk hv b HV1
 go_wp2_with (first
  |(refine wpList_storeN H1.out rfl (.tmp 3) (.tmp 6) rfl es rfl rfl HK1.out.1 rfl ?_)
  |fail)
 intro w2 S2
 have H2:Hid (Run w w2 [(w1.heap.size,es),(w.heap.size,[0,0,0,0,0])] [(g,o,xs)]):=S2
 clear S2 H1 HO
 generalize w1.heap.size=G1 at *
 go_wp2_with fail
 refine(squared_any G1 0 es 2 _ (by decide) (H2.out.re 0 _ _ rfl)).mono ?_
 rintro e w3 ⟨fs,hk,hv,rfl,b⟩
 have HK2:Hid (EOk fs∧ev fs=sqN v1 2):=⟨hk,by rw[hv,HK1.out.2]⟩
 have H3:Hid (Run w w3 [(G1,es),(w.heap.size,[0,0,0,0,0])] [(g,o,xs)]):=H2.out.call b
 clear H2 hk hv b
 go_wp2_with (first
  |(refine wpList_storeN H3.out rfl (.tmp 4) (.tmp 7) rfl fs rfl rfl HK2.out.1 rfl ?_)
  |fail)
 intro w4 S4
 have H4:Hid (Run w w4 [(w3.heap.size,fs),(G1,es),(w.heap.size,[0,0,0,0,0])] [(g,o,xs)]):=S4
 clear S4 H3
 generalize w3.heap.size=G2 at *
 go_wp2_with fail
 refine(times_any G2 0 g o fs xs _ (H4.out.re 0 _ _ rfl) (H4.out.el 0 _ _ _ rfl)).mono ?_
 rintro e w5 ⟨us,hk,hv,rfl,b⟩
 have HK3:Hid (EOk us∧ev us=goalv):=⟨hk,by rw[hv,HK2.out.2];exact HE.out⟩
 have H5:Hid (Run w w5 [(G2,fs),(G1,es),(w.heap.size,[0,0,0,0,0])] [(g,o,xs)]):=H4.out.call b
 clear H4 hk hv b
 go_wp2_with (first
  |(refine wpList_storeR H5.out rfl (.tmp 2) (.tmp 9) rfl 2 w.heap.size [0,0,0,0,0] us rfl rfl rfl HK3.out.1 rfl ?_)
  |fail)
 intro w6 S6
 have H6:Hid (Run w w6 [(G2,fs),(G1,es),(w.heap.size,us)] [(g,o,xs)]):=S6
 clear S6 H5
 go_wp2
 exact bodyPost_ret (v:=.agg (us.map (Value.int .u64)).toArray) (H6.out.ret rfl _ 2 w.heap.size us rfl rfl) rfl ⟨us,HK3.out.1,HK3.out.2,rfl,H6.out.below⟩
theorem rootPower_any (g o:Nat) (xs:List Int) (w:World) (h:EAt w g o xs) :
  Calls Tryz.prog 109 #[.pointer (some ⟨g,o,none⟩)] w (EP w (ev xs^(M250*4+1)%fp)):=by
 have hev:=ev_bd xs
 have e:=e250 (ev xs) M250 2 1
 rw[pow1_mod _ hev.1 hev.2] at e
 exact rootPower_of g o xs w h _ _ rfl e
end Go.Proofs.YtapejbpgdjbjjaaGreatDoor
namespace Go.Proofs.YtapejbpgdjbjjaaGreatDoor
open Go.ChangeShapes Go.WideShapes Go.ChangeAt Go.RowKit
set_option linter.unusedVariables false
def lsT (xs:List Int):Int:=gcy B51 (xs.set 0 (xs.getD 0 0+19)) 5
def lsE (xs:List Int):List Int:=sst (xs.set 0 (xs.getD 0 0+19*lsT xs)) 5
theorem sst_dig (xs:List Int):Dig B51 (sst xs 5):=by
 intro z hz
 obtain⟨i,hi,rfl⟩:=List.getElem_of_mem hz
 have:=sst_bd xs i
 have e:(sst xs 5).getD i 0=(sst xs 5)[i]:=by simp[hi]
 rw[e] at this;unfold B51;exact this
theorem fp_lit:fp=57896044618658097711785492504343953926634992332820282019728792003956564819949:=by decide
theorem sst_lt (xs:List Int):0≤val B51 (sst xs 5)∧val B51 (sst xs 5)<fp+19:=by
 have d:=sst_dig xs
 have a:=val_nonneg (B:=B51) (by decide) d
 have b:=val_lt (B:=B51) (by decide) d
 rw[sst_len] at b
 have e2:(B51:Int)^5=fp+19:=by decide
 rw[e2] at b
 exact⟨a,b⟩
theorem EOk.val {xs:List Int} (h:EOk xs):0≤val B51 xs∧val B51 xs<fp+19+256:=by
 obtain⟨hl,h0,h1,h2⟩:=h
 match xs,hl with
 |[a,b,c,d,e],_=>
  have a0:=h0 0;have b0:=h0 1;have c0:=h0 2;have d0:=h0 3;have e0:=h0 4;have b1:=h1 1 (by decide);have c1:=h1 2 (by decide);have d1:=h1 3 (by decide);have e1:=h1 4 (by decide);simp only[List.getD_cons_zero,List.getD_cons_succ] at a0 b0 c0 d0 e0 b1 c1 d1 e1 h2;simp only[Go.Proofs.YtapejbpgdjbjjaaGreatDoor.val,B51,fp_lit];omega
theorem ls_case (V t r L c:Int) (h1:r+t*(fp+19)=V+19) (h2:L+c*(fp+19)=V+19*t) (hr:0≤r∧r<fp+19) (hL:0≤L∧L<fp+19) (hV:0≤V∧V<fp+19+256) :
  0≤t∧t≤1∧L=V%fp:=by
 rw[fp_lit] at *
 have ht:t=0∨t=1:=by omega
 rcases ht with rfl|rfl
 ·have hc:c=0:=by omega
  subst hc;omega
 ·have hc:c=1:=by omega
  subst hc;omega
theorem lsE_all {xs:List Int} (h:EOk xs):0≤lsT xs∧lsT xs≤1∧val B51 (lsE xs)=ev xs:=by
 have hl:=h.1
 have s1:=sst_val (xs.set 0 (xs.getD 0 0+19)) (by simp[hl])
 have s2:=sst_val (xs.set 0 (xs.getD 0 0+19*lsT xs)) (by simp[hl])
 rw[val_set _ _ _ _ (by omega)] at s1 s2
 simp only[Int.pow_zero,Int.mul_one] at s1 s2
 have hV:=h.val
 have hr:=sst_lt (xs.set 0 (xs.getD 0 0+19))
 have hL:=sst_lt (xs.set 0 (xs.getD 0 0+19*lsT xs))
 have e1:gcy B51 (xs.set 0 (xs.getD 0 0+19)) 5=lsT xs:=rfl
 rw[e1] at s1
 unfold ev lsE
 generalize gcy B51 (xs.set 0 (xs.getD 0 0+19*lsT xs)) 5=c at *
 generalize val B51 (sst (xs.set 0 (xs.getD 0 0+19*lsT xs)) 5)=L at *
 generalize val B51 (sst (xs.set 0 (xs.getD 0 0+19)) 5)=r at *
 generalize xs.getD 0 0=x0 at *
 generalize lsT xs=t at *
 generalize val B51 xs=V at *
 exact ls_case V t r L c (by omega) (by omega) hr hL hV
theorem lsE_len (xs:List Int):(lsE xs).length=5:=sst_len _ _
theorem lsE_ok (xs:List Int):EOk (lsE xs):=⟨lsE_len xs,fun i=>(sst_bd _ i).1,fun i _=>(sst_bd _ i).2,by have:=(sst_bd (xs.set 0 (xs.getD 0 0+19*lsT xs)) 0).2;unfold lsE;omega⟩
theorem lsE_ev {xs:List Int} (h:EOk xs):ev (lsE xs)=ev xs:=by
 have a:=(lsE_all h).2.2
 have b:=ev_bd xs
 unfold ev at *;rw[a];exact Int.emod_eq_of_lt b.1 b.2
theorem lsE_eq {xs ys:List Int} (hx:EOk xs) (hy:EOk ys):lsE xs=lsE ys↔ev xs=ev ys:=by
 constructor
 ·intro h;rw[←(lsE_all hx).2.2,←(lsE_all hy).2.2,h]
 ·intro h;exact val_inj (B:=B51) (by decide) (sst_dig _) (sst_dig _) (by rw[lsE_len,lsE_len]) (by rw[(lsE_all hx).2.2,(lsE_all hy).2.2,h])
theorem lsE_u62 {xs:List Int} (h:EOk xs) (k:Int) (h0:0≤k) (h1:k≤19):U62 (xs.set 0 (xs.getD 0 0+k)):=by
 intro i
 have hl:=h.1
 rw[getD_set_eq _ _ _ _ (by omega)]
 have a:=h.2.1 i;have a0:=h.2.1 0;have b0:=h.2.2.2
 split
 ·omega
 ·have b:=h.2.2.1 i (by omega);omega
theorem val_odd (es:List Int) (h:es.length=5):val B51 es%2=es.getD 0 0%2:=by
 match es,h with
 |[a,b,c,d,e],_=>
  simp only[Go.Proofs.YtapejbpgdjbjjaaGreatDoor.val,B51,List.getD_cons_zero];omega
set_option maxHeartbeats 2000000 in
theorem leastE_any (g o:Nat) (xs:List Int) (w:World) (h:EAt w g o xs) :
  Calls Tryz.prog 69 #[.pointer (some ⟨g,o,none⟩)] w fun e w'=>e=.returned (.agg ((lsE xs).map (Value.int .u64)).toArray)∧Below w.heap.size w w':=by
 have hk:=h.2.1
 obtain⟨ht0,ht1,_⟩:=lsE_all hk
 have HX:Hid (EOk xs):=hk
 have HO:Hid (Run w (w.alloc (.cells #[.int .u64 0,.int .u64 0,.int .u64 0,.int .u64 0,.int .u64 0] 52)) [(w.heap.size,[0,0,0,0,0])] [(g,o,xs)]):=
  (Run.start w [(g,o,xs)] (fun e he=>by rcases List.mem_singleton.1 he with rfl;exact h)).room
 have HN:Hid (Run w ((w.alloc (.cells #[.int .u64 0,.int .u64 0,.int .u64 0,.int .u64 0,.int .u64 0] 52)).alloc (.cells #[.int .u64 0,.int .u64 0,.int .u64 0,.int .u64 0,.int .u64 0] 52)) [(w.heap.size+1,[0,0,0,0,0]),(w.heap.size,[0,0,0,0,0])] [(g,o,xs)]):=by
  have:=HO.out.room;rw[show(w.alloc (.cells #[.int .u64 0,.int .u64 0,.int .u64 0,.int .u64 0,.int .u64 0] 52)).heap.size=w.heap.size+1 from by simp] at this;exact this
 clear h hk
 go_enter Tryz.func69,Tryz.ntmps69
 go_wp2_with (first
  |(refine wpList_loadE rfl (.tmp 7) rfl g o xs rfl (HO.out.el 0 _ _ _ rfl) ?_)
  |(refine wpList_storeR HN.out rfl (.tmp 3) (.tmp 8) rfl 0 (w.heap.size+1) [0,0,0,0,0] xs rfl rfl rfl HX.out rfl ?_)
  |fail)
 intro w1 S1
 clear HO HN
 have hl:=HX.out.1
 have hx0:=HX.out.2.1 0
 have hx1:=HX.out.2.2.2
 have r1:=S1.row 0 (w.heap.size+1) xs rfl
 have z1:=S1.row 1 w.heap.size [0,0,0,0,0] rfl
 have e1:=S1.el 0 g o xs rfl
 have b1:=S1.below
 have hgw:g<w.heap.size:=(S1.els (g,o,xs) (by simp)).1
 have c0:=r1.cell 0 (by omega)
 have f0:=r1.frozen 0
 have s1:StS w1 (w.heap.size+1) (xs.set 0 (xs.getD 0 0+19)) (w1.setCell ⟨w.heap.size+1,0,none⟩ (.int .u64 (xs.getD 0 0+19))):=⟨r1.set 0 _,(Wr.refl _ _).setCell 0 _⟩
 have HU1:Hid (U62 (xs.set 0 (xs.getD 0 0+19))):=lsE_u62 HX.out 19 (by decide) (by decide)
 have HU2:Hid (U62 (xs.set 0 (xs.getD 0 0+19*lsT xs))):=lsE_u62 HX.out (19*lsT xs) (by omega) (by omega)
 have HT:Hid (gcy B51 (xs.set 0 (xs.getD 0 0+19)) 5=lsT xs):=rfl
 have HL5:Hid (xs.length=5):=hl
 have HS1:Hid (StS w1 (w.heap.size+1) (xs.set 0 (xs.getD 0 0+19)) (w1.setCell ⟨w.heap.size+1,0,none⟩ (.int .u64 (xs.getD 0 0+19)))):=s1
 have HLS:Hid (sst (xs.set 0 (xs.getD 0 0+19*lsT xs)) 5=lsE xs):=rfl
 have HZ1:Hid (RowW w1 w.heap.size 52 [0,0,0,0,0]):=z1
 have HE1:Hid (EAt w1 g o xs):=e1
 have HB1:Hid (Below w.heap.size w w1):=b1
 have HXX:Hid (xs.getD 0 0=xs.getD 0 0):=rfl
 clear S1 r1 z1 e1 b1 s1 hl
 have hxx:∃ x0,x0=xs.getD 0 0:=⟨_,rfl⟩
 obtain⟨x0,hx0e⟩:=hxx
 rw[←hx0e] at c0 hx0 hx1 HU1 HU2 HT HS1 HLS
 have HX0:Hid (x0=xs.getD 0 0):=hx0e
 clear hx0e
 go_wp2_with fail
 generalize w1.setCell ⟨w.heap.size+1,0,none⟩ (.int .u64 (x0+19))=w2 at *
 refine(settle_any (w.heap.size+1) (xs.set 0 (x0+19)) _ (by rw[List.length_set];exact HL5.out) HS1.out.row HU1.out).mono ?_
 rintro e w3 ⟨rfl,st⟩
 rw[HT.out]
 have W3:Wr (w.heap.size+1) w1 w3:=HS1.out.wr.trans st.wr
 have HZ3:Hid (RowW w3 w.heap.size 52 [0,0,0,0,0]):=W3.rowW HZ1.out (by omega)
 have HE3:Hid (EAt w3 g o xs):=HE1.out.wr W3 (by omega)
 have HB3:Hid (Below w.heap.size w w3):=HB1.out.trans (W3.below (by omega))
 clear st W3 HS1 HZ1 HE1 HB1 HU1 HT c0 f0
 have s3:=HB3.out.size
 have HZN:Hid (RowW (w3.alloc (.cells #[.int .u64 0,.int .u64 0,.int .u64 0,.int .u64 0,.int .u64 0] 52)) w3.heap.size 52 [0,0,0,0,0]):=row0 w3
 go_wp2_with (first
  |(refine wpList_loadE rfl (.tmp 15) rfl g o xs rfl HE3.out ?_)
  |(refine wpList_storeE rfl (.tmp 5) (.tmp 16) rfl w3.heap.size xs [0,0,0,0,0] rfl rfl HL5.out rfl HZN.out ?_)
  |fail)
 intro w4 r4 W4
 have b4:Below w3.heap.size w3 w4:=(below_new2 _ _).trans (W4.below (Nat.le_refl _))
 have hz3:=HZ3.out.lt
 have HZ4:Hid (RowW w4 w.heap.size 52 [0,0,0,0,0]):=HZ3.out.below b4 hz3
 have HB4:Hid (Below w.heap.size w w4):=HB3.out.trans (b4.mono s3)
 clear b4 W4 HZ3 HB3 HE3 HZN
 generalize w3.heap.size=V at *
 have c4:=r4.cell 0 (by rw[HL5.out];decide)
 have f4:=r4.frozen 0
 rw[←HX0.out] at c4
 have HS4:Hid (StS w4 V (xs.set 0 (x0+19*lsT xs)) (w4.setCell ⟨V,0,none⟩ (.int .u64 (x0+19*lsT xs)))):=⟨r4.set 0 _,(Wr.refl _ _).setCell 0 _⟩
 clear r4
 generalize lsT xs=t at *
 go_wp2_with fail
 generalize w4.setCell ⟨V,0,none⟩ (.int .u64 (x0+19*t))=w5 at *
 refine(settle_any V (xs.set 0 (x0+19*t)) _ (by rw[List.length_set];exact HL5.out) HS4.out.row HU2.out).mono ?_
 rintro e w6 ⟨rfl,st⟩
 have W6:Wr V w4 w6:=HS4.out.wr.trans st.wr
 have HZ6:Hid (RowW w6 w.heap.size 52 [0,0,0,0,0]):=W6.rowW HZ4.out (by omega)
 have HB6:Hid (Below w.heap.size w w6):=HB4.out.trans (W6.below (by omega))
 have r6:=st.row
 rw[HLS.out] at r6
 have HE6:Hid (EAt w6 V 0 (lsE xs)):=EAt.of_row r6 (lsE_ok xs)
 have HLL:Hid ((lsE xs).length=5):=lsE_len xs
 clear st W6 HS4 HZ4 HB4 c4 f4 r6 HLS HU2
 go_wp2_with (first
  |(refine wpList_loadE rfl (.tmp 5) rfl V 0 (lsE xs) rfl HE6.out ?_)
  |(refine wpList_storeE rfl (.tmp 2) (.tmp 24) rfl w.heap.size (lsE xs) [0,0,0,0,0] rfl rfl HLL.out rfl HZ6.out ?_)
  |fail)
 intro w7 r7 W7
 have HR7:Hid (RowW w7 w.heap.size 52 (lsE xs)):=r7
 have HB7:Hid (Below w.heap.size w w7):=HB6.out.trans (W7.below (Nat.le_refl _))
 clear r7 W7 HZ6 HE6 HB6
 go_wp2
 exact bodyPost_ret (v:=.agg ((lsE xs).map (Value.int .u64)).toArray) (resE rfl _ _ w.heap.size (lsE xs) HLL.out rfl HR7.out) rfl ⟨rfl,HB7.out⟩
theorem decide_lsE {xs ys:List Int} (hx:EOk xs) (hy:EOk ys):decide (lsE xs=lsE ys)=decide (ev xs=ev ys):=by
 rw[decide_eq_decide];exact lsE_eq hx hy
set_option maxHeartbeats 1000000 in
theorem equalsE_any (g1 o1 g2 o2:Nat) (xs ys:List Int) (w:World) (h1:EAt w g1 o1 xs) (h2:EAt w g2 o2 ys) :
  Calls Tryz.prog 110 #[.pointer (some ⟨g1,o1,none⟩),.pointer (some ⟨g2,o2,none⟩)] w fun e w'=>e=.returned (.bool (decide (ev xs=ev ys)))∧Below w.heap.size w w':=by
 have HD:Hid (decide (lsE xs=lsE ys)=decide (ev xs=ev ys)):=decide_lsE h1.2.1 h2.2.1
 have H2:Hid (EAt w g2 o2 ys):=h2
 have hml:=lsE_len xs
 have hnl:=lsE_len ys
 go_enter Tryz.func110,Tryz.ntmps110
 go_wp2_with fail
 refine(leastE_any g1 o1 xs _ h1).mono ?_
 rintro e w1 ⟨rfl,b1⟩
 have h2':=H2.out.below b1
 have HB1:Hid (Below w.heap.size w w1):=b1
 clear h1 h2 b1 H2
 go_wp2_with fail
 refine(leastE_any g2 o2 ys _ h2').mono ?_
 rintro e w2 ⟨rfl,b2⟩
 have HB2:Hid (Below w.heap.size w w2):=HB1.out.trans (b2.mono HB1.out.size)
 clear h2' b2 HB1
 go_wp2_with (simp only[run_eqW _ 9998 5 52 Tryz.underlying52 (lsE xs) (lsE ys) hml hnl])
 rw[HD.out]
 obtain⟨q,hq⟩:∃ q,q=decide (ev xs=ev ys):=⟨_,rfl⟩
 rw[←hq]
 have HQQ:Hid (q=decide (ev xs=ev ys)):=hq
 clear hq HD
 simp only[Result.andThen_ok]
 go_simp
 go_wp2
 go_ret
 exact⟨by rw[HQQ.out];rfl,HB2.out⟩
set_option maxHeartbeats 1000000 in
theorem isOdd_any (g o:Nat) (xs:List Int) (w:World) (h:EAt w g o xs) :
  Calls Tryz.prog 71 #[.pointer (some ⟨g,o,none⟩)] w fun e w'=>e=.returned (.bool (ev xs%2 == 1))∧Below w.heap.size w w':=by
 have HV:Hid ((lsE xs).getD 0 0%2=ev xs%2):=by
  show _=_
  rw[←val_odd _ (lsE_len xs),(lsE_all h.2.1).2.2]
 have HA:Hid (bits .and .u64 ((lsE xs).getD 0 0) 1=(lsE xs).getD 0 0%2):=u64_and_mask _ 1 ((lsE_ok xs).2.1 0) (by have:=(lsE_ok xs).2.2.2;omega) 1 (by decide) (by decide)
 go_enter Tryz.func71,Tryz.ntmps71
 go_wp2_with fail
 refine(leastE_any g o xs _ h).mono ?_
 rintro e w1 ⟨rfl,b1⟩
 have HB1:Hid (Below w.heap.size w w1):=b1
 have HLL:Hid ((lsE xs).length=5):=lsE_len xs
 have HZN:Hid (RowW (w1.alloc (.cells #[.int .u64 0,.int .u64 0,.int .u64 0,.int .u64 0,.int .u64 0] 52)) w1.heap.size 52 [0,0,0,0,0]):=row0 w1
 clear h b1
 go_wp2_with (first
  |(refine wpList_storeE rfl (.tmp 3) (.tmp 5) rfl w1.heap.size (lsE xs) [0,0,0,0,0] rfl rfl HLL.out rfl HZN.out ?_)
  |fail)
 intro w2 r2 W2
 have HB2:Hid (Below w.heap.size w w2):=HB1.out.trans (((below_new2 _ _).trans (W2.below (Nat.le_refl _))).mono HB1.out.size)
 have c2:=r2.cell 0 (by rw[HLL.out];decide)
 clear W2 HZN r2 HB1
 generalize w1.heap.size=V at *
 generalize (lsE xs).getD 0 0=x at *
 go_wp2
 rw[HA.out,HV.out]
 go_ret
 exact⟨rfl,HB2.out⟩
set_option maxHeartbeats 1000000 in
theorem negated_any (g o:Nat) (xs:List Int) (w:World) (h:EAt w g o xs) :
  Calls Tryz.prog 72 #[.pointer (some ⟨g,o,none⟩)] w (EP w ((0-ev xs)%fp)):=by
 have HO:Hid (Run w (w.alloc (.cells #[.int .u64 0,.int .u64 0,.int .u64 0,.int .u64 0,.int .u64 0] 52)) [(w.heap.size,[0,0,0,0,0])] [(g,o,xs)]):=
  (Run.start w [(g,o,xs)] (fun e he=>by rcases List.mem_singleton.1 he with rfl;exact h)).room
 have HN:Hid (Run w ((w.alloc (.cells #[.int .u64 0,.int .u64 0,.int .u64 0,.int .u64 0,.int .u64 0] 52)).alloc (.cells #[.int .u64 0,.int .u64 0,.int .u64 0,.int .u64 0,.int .u64 0] 52)) [(w.heap.size+1,[0,0,0,0,0]),(w.heap.size,[0,0,0,0,0])] [(g,o,xs)]):=by
  have:=HO.out.room;rw[show(w.alloc (.cells #[.int .u64 0,.int .u64 0,.int .u64 0,.int .u64 0,.int .u64 0] 52)).heap.size=w.heap.size+1 from by simp] at this;exact this
 have HZ:Hid (ev [0,0,0,0,0]=0):=by show _=_;decide
 clear h HO
 go_enter Tryz.func72,Tryz.ntmps72
 go_wp2_with fail
 refine(minus_any (w.heap.size+1) 0 g o [0,0,0,0,0] xs _ (HN.out.re 0 _ _ rfl) (HN.out.el 0 _ _ _ rfl)).mono ?_
 rintro e w1 ⟨es,hk,hv,rfl,b⟩
 rw[HZ.out] at hv
 have HK:Hid (EOk es∧ev es=(0-ev xs)%fp):=⟨hk,hv⟩
 have H1:Hid (Run w w1 [(w.heap.size+1,[0,0,0,0,0]),(w.heap.size,[0,0,0,0,0])] [(g,o,xs)]):=HN.out.call b
 clear hk hv b HN
 go_wp2_with (first
  |(refine wpList_storeR H1.out rfl (.tmp 2) (.tmp 5) rfl 1 w.heap.size [0,0,0,0,0] es rfl rfl rfl HK.out.1 rfl ?_)
  |fail)
 intro w2 S2
 have H2:Hid (Run w w2 [(w.heap.size+1,[0,0,0,0,0]),(w.heap.size,es)] [(g,o,xs)]):=S2
 clear S2 H1
 go_wp2
 exact bodyPost_ret (v:=.agg (es.map (Value.int .u64)).toArray) (H2.out.ret rfl _ 1 w.heap.size es rfl rfl) rfl ⟨es,HK.out.1,HK.out.2,rfl,H2.out.below⟩
end Go.Proofs.YtapejbpgdjbjjaaGreatDoor
