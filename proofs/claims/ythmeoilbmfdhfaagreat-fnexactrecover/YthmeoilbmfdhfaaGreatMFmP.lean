import Derived.Test.YthmeoilbmfdhfaaGreatMRcG
import Derived.Test.YthmeoilbmfdhfaaGreatSWr
namespace Go.Proofs.YthmeoilbmfdhfaaGreat
open Go.ChangeShapes Go.WideShapes Go.ChangeAt Go.RowKit
set_option linter.unusedVariables false
section
variable {zs:List Int} {m:Nat}
theorem overL_byte {x z:List Int} (s:Nat) (h:Byte x) (h':Byte z):Byte (overL x s z):=fun y hy=>by
 unfold overL at hy;rcases List.mem_append.1 hy with h1|h1
 ·exact h _ (List.mem_of_mem_take h1)
 ·rcases List.mem_append.1 h1 with h1|h1
  ·exact h' _ h1
  ·exact h _ (List.mem_of_mem_drop h1)
end
theorem own_of {w:World} {B g n c:Nat} {zs:List Int} (h:Own w B (.slice (some ⟨g,0,none⟩) n c) zs):B≤g∧g<w.heap.size∧zs.length≤c∧At .u8 w (some ⟨g,0,none⟩) zs∧zs.length=n:=by
 obtain⟨g',c',e,q1,q2,q3,q4,q5⟩:=h.at_;simp only[Value.slice.injEq,Option.some.injEq,Addr.mk.injEq] at e;obtain⟨⟨rfl,_⟩,e2,rfl⟩:=e;exact⟨q1,q2,q3,q4,e2.symm⟩
theorem YR.below {B D g:Nat} {w w':World} (h:YR D g w w') (h1:B≤D) (h2:B≤g) (hB:B≤w.heap.size):Below B w w':=⟨h.os,h.tape,h.output,h.size,fun k hk=>h.block k (by omega) (by omega) (by omega)⟩
section
variable {lo lo':Nat} {w w':World} {X:Array Value} {c:Int} {zs ks:List Int} {f:Int} {d:Bool} {r:ImR}
theorem GP.no (lo:Nat) (w:World):GP lo w #[.slice none 0 0,.slice none 0 0,.int .i64 0,.bool false,.slice none 0 0,.bool false,.int .u32 0,.int .u32 0,.slice none 0 0,.slice none 0 0,.slice none 0 0,.slice none 0 0,.slice none 0 0,.int .i64 0,.slice none 0 0,.int .u32 0] [] [] 0 false imNo:=
 ⟨none,0,none,0,none,0,none,0,0,none,0,0,none,0,0,none,0,0,none,0,0,none,0,rfl,⟨Nat.le_refl _,Nat.le_refl _⟩,Mine.nil _ _,Mine.nil _ _,⟨.inl rfl,.inl rfl,.inl rfl,.inl rfl,.inl rfl,.inl rfl,rfl,rfl,rfl,rfl,rfl,rfl⟩,
  ⟨lo,lo,⟨.inl rfl,.inl rfl,.inl rfl,.inl rfl,.inl rfl,.inl rfl,fun _ e=>(by cases e),fun _ e=>(by cases e),fun _ e=>(by cases e),fun _ e=>(by cases e),fun _ e=>(by cases e),fun _ e=>(by cases e),fun _ _ e=>(by cases e),fun _ _ e=>(by cases e),fun _ _ e=>(by cases e),fun _ _ e=>(by cases e),fun _ e=>(by rcases e with e|e<;>cases e),fun _ e=>(by cases e)⟩⟩,fun _ e=>(by cases e),fun _ e=>(by cases e)⟩
end
theorem Wr.setCells (b:Nat):∀(vs:List Value) (o:Nat) (w:World),Wr b w (w.setCells b o vs)
 |[],o,w=>Wr.refl _ _
 |v::vs,o,w=>((Wr.refl b w).setCell o v).trans (Wr.setCells b vs (o+1) _)
section
variable {lo A g L gc B H:Nat} {w w':World} {C:Array Value} {zs ks:List Int} {ps:List PD} {f:Int} {d:Bool} {r:ImR} {ka aSD aSU aF aD aU aT:Option Addr} {kc nSD cSD nSU cSU mF cF nD cD nU cU cT b1 b2:Nat}
structure KI9 (lo g H:Nat) (w:World) (ks:List Int) (r:ImR) (ka aSD aSU aF aD aU aT:Option Addr) (nSD nSU mF nD nU:Nat):Prop where
 k:Mine lo w ka ks
 i:∃ b1 b2,I6 lo b1 b2 w aSD aSU aF aD aU aT nSD nSU mF nD nU r.n
 l:I6L w aSD aSU aF aD aU aT nSD nSU mF nD nU r
 gk:NotIn g ka∧N6 g aSD aSU aF aD aU aT
 kk:∀ ad,ka=some ad→N6 ad.block aSD aSU aF aD aU aT
 kH:∀ ad,ka=some ad→ad.block<H
 iH:∀ j,H≤j→N6 j aSD aSU aF aD aU aT
theorem KI9.yr (h:KI9 lo g H w ks r ka aSD aSU aF aD aU aT nSD nSU mF nD nU) (y:YR A g w w') (hA:w.heap.size≤A∨(NotIn A ka∧N6 A aSD aSU aF aD aU aT)):KI9 lo g H w' ks r ka aSD aSU aF aD aU aT nSD nSU mF nD nU:=by
 obtain⟨b1,b2,i⟩:=h.i;have hs:=y.size;have n6:∀ ad,In6 ad aSD aSU aF aD aU aT→w'.heap[ad.block]?=w.heap[ad.block]?:=fun ad q=>by
  have q2:=(i.in6 q).2;refine y.block _ q2 (fun e=>?_) (fun e=>h.gk.2.ne q e.symm);rcases hA with hA|hA
  ·omega
  ·exact hA.2.ne q e.symm
 have nk:∀ ad,ka=some ad→w'.heap[ad.block]?=w.heap[ad.block]?:=fun ad e=>by
  have q:=(h.k.2.2 ad e).2;refine y.block _ q (fun e2=>?_) (fun e2=>h.gk.1 ad e e2.symm);rcases hA with hA|hA
  ·omega
  ·exact hA.1 ad e e2.symm
 obtain⟨a1,a2,a3,a4,a5,a6,hl⟩:=h.l;exact⟨⟨h.k.1.keep nk hs,h.k.2.1.keep nk hs,fun ad e=>by have:=h.k.2.2 ad e;omega⟩,⟨b1,b2,i.keep6 hs n6⟩,⟨a1.keepT hs fun ad e _=>n6 ad (.inl e),a2.keepT hs fun ad e _=>n6 ad (.inr (.inl e)),a3.keepT hs fun ad e _=>n6 ad (.inr (.inr (.inl e))),a4.keepT hs fun ad e _=>n6 ad (.inr (.inr (.inr (.inl e)))),a5.keepT hs fun ad e _=>n6 ad (.inr (.inr (.inr (.inr (.inl e))))),a6.keepT hs fun ad e _=>n6 ad (.inr (.inr (.inr (.inr (.inr e))))),hl⟩,h.gk,h.kk,h.kH,h.iH⟩
theorem gpn_lit (h:GPn lo w C zs ks f d r) (hz:0<zs.length):∃ g gc ka kc aSD nSD cSD aSU nSU cSU aF mF cF aD nD cD aU nU cU aT cT,C=#[.slice (some ⟨g,0,none⟩) zs.length gc,.slice none 0 0,.int .i64 f,.bool d,.slice ka ks.length kc,.bool r.ok,.int .u32 r.g,.int .u32 r.t,.slice aSD nSD cSD,.slice aSU nSU cSU,.slice aF mF cF,.slice aD nD cD,.slice aU nU cU,.int .i64 r.k,.slice aT r.n cT,.int .u32 r.nx]∧Own w lo (.slice (some ⟨g,0,none⟩) zs.length gc) zs∧KI9 lo g w.heap.size w ks r ka aSD aSU aF aD aU aT nSD nSU mF nD nU∧mF≤cF:=by
 obtain⟨⟨da,dc,ca,cc,ka,kc,aSD,nSD,cSD,aSU,nSU,cSU,aF,mF,cF,aD,nD,cD,aU,nU,cU,aT,cT,rfl,h1,h2,h3,h4,⟨⟨b1,b2,h5⟩,h6,h7⟩⟩,e1,dv,e0,o⟩:=h;simp at e1 e0;obtain⟨rfl,rfl⟩:=e1;subst e0;rcases o with⟨_,e⟩|o
 ·rw[e] at hz;simp at hz
 ·obtain⟨g,c,e,_⟩:=o.at_;simp only[Value.slice.injEq] at e;obtain⟨rfl,_,rfl⟩:=e;exact⟨g,dc,ka,kc,aSD,nSD,cSD,aSU,nSU,cSU,aF,mF,cF,aD,nD,cD,aU,nU,cU,aT,cT,rfl,o,⟨h3,⟨b1,b2,h5⟩,h4,h6 _ rfl,h7,fun ad e=>(h3.2.2 ad e).2,GL.n6 h5.l6⟩,h1.2⟩
theorem gtq_of (h:DbP A g L gc B H [.slice ka ks.length kc,.bool r.ok,.int .u32 r.g,.int .u32 r.t,.slice aSD nSD cSD,.slice aSU nSU cSU,.slice aF mF cF,.slice aD nD cD,.slice aU nU cU,.int .i64 r.k,.slice aT r.n cT,.int .u32 r.nx] 48 zs ps f d w) (hL:zs.length=L) (hk:KI9 B g H w ks r ka aSD aSU aF aD aU aT nSD nSU mF nD nU) (hc:mF≤cF):∃ C,w.heap[A]?=some (.cells C 48 (0,0))∧GTQ B w C zs ps ks f d r:=by
 obtain⟨E,cv,qs,h1,h2,h3,h4,hr,ho,hp,hq,hn⟩:=h;obtain⟨ca,cc,rfl,hm⟩:=hp.mine;rw[hq] at hm;have hql:qs.length=ps.length:=by rw[←hq];simp[qps]
 rw[hql] at hr;subst hL;obtain⟨q1,q2,q3,q4,q5⟩:=own_of ho;obtain⟨g',c',e,_,_,_,_,q6⟩:=ho.at_;simp only[Value.slice.injEq] at e;rw[←e.1] at q6;refine⟨_,hr,_,gc,ca,cc,ka,kc,aSD,nSD,cSD,aSU,nSU,cSU,aF,mF,cF,aD,nD,cD,aU,nU,cU,aT,cT,E,w.heap.size,rfl,⟨q3,hc⟩,⟨q4,q6,fun ad e=>by cases e;exact⟨q1,q2⟩⟩,hk.k,hk.l,⟨hk.i,fun ad e=>by cases e;exact hk.gk,hk.kk⟩,hm,by omega,Nat.le_refl _,fun _=>⟨fun ad e=>by cases e;exact h1,fun ad e=>by have:=hk.kH ad e;omega,fun j hj=>hk.iH j (by omega)⟩⟩
end
set_option maxRecDepth 100000 in
set_option maxHeartbeats 2000000 in
theorem cl_any (S D:Nat) (cs:Array Value) (Q:Ending→World→Prop) (w:World) (hS:w.heap[S]?=some (.cells cs 30 (0,0))) (hz:cs.size=4) (h:Calls Tryz.prog 58 #[.pointer (some ⟨D,0,none⟩),.agg cs] w Q) (hQ:∀ e w',Q e w'→e=.returned (.tuple #[])∨e=lossE) :
  Calls Tryz.prog 119 #[.pointer (some ⟨D,0,none⟩),.pointer (some ⟨S,0,none⟩)] w Q:=by
 have HS:=hid_ofV hS;have HZ:Hid ((Tryz.prog.info? 30).map (·.size)=some cs.size):=by show _=_;rw[hz];kernel_rfl
 have HH:=hid_ofV h;have HQ:=hid_ofV hQ;clear hS hz h hQ;go_enter Tryz.func119,Tryz.ntmps119;go_wp2_with (first
  |(refine wpList_load_row rfl 30 (.tmp 1) rfl S rfl 30 cs (0,0) _ HS.out Tryz.underlying30 rfl HZ.out ?_)
  |fail)
 refine HH.out.mono ?_;intro e w' hq;rcases HQ.out e w' hq with rfl|rfl
 ·have HF:=hid_ofV hq;clear hq HS HZ HH HQ;go_wp2_with fail
  first|go_end0|go_ret
  exact HF.out
 ·exact⟨rfl,hq⟩
set_option maxHeartbeats 400000 in
set_option maxRecDepth 100000 in
theorem cat_idle (A R:Nat) (w:World):CallsD Tryz.prog 153 #[.pointer (some ⟨A,0,none⟩),.pointer (some ⟨R,0,none⟩)] .returning w fun e u' w'=>e=.returned (.tuple #[])∧u'=.returning∧Below w.heap.size w w':=by
 refine callsD_of_wpS Tryz.func153 rfl fun c₀ cs hu=>?_
 apply wpS_seq;apply wpS_region;simp[wpOpsS,go_sem,recoverD,hu,Tryz.ntmps153,Exit.thenS];refine(ipl_nil w).mono ?_;rintro e w' ⟨rfl,hb⟩;refine wpS_cond (t:=false) (by simp[Act.eval,Array.replicate]) ?_;simp only[Bool.false_eq_true,if_false];refine wpS_of_wp (wp_skip ?_);exact⟨rfl,.returning,by rw[←hu],.tuple #[],results_none rfl _ _ _,rfl,rfl,hb⟩
set_option maxHeartbeats 1000000 in
set_option maxRecDepth 100000 in
theorem cat_loss (A R:Nat) (C old:Array Value) (w:World) (hA:w.heap[A]?=some (.cells C 48 (0,0))) (hC:C.size=16) (h1:C.all (·.oneCell')=true) (hR:w.heap[R]?=some (.cells old 50 (0,0))) (hO:old.size=17) :
  CallsD Tryz.prog 153 #[.pointer (some ⟨A,0,none⟩),.pointer (some ⟨R,0,none⟩)] (.panicking [{ v:=lossV,recovered:=false }]) w fun e u' w'=>e=.returned (.tuple #[])∧u'=.panicking [{ v:=lossV,recovered:=true }]∧∃ w1,Below w.heap.size w w1∧w1.heap[R]?=some (.cells old 50 (0,0))∧w'=w1.setRow R (#[.int .i64 11]++C):=by
 have hAl:=(Array.getElem?_eq_some_iff.1 hA).1;have hRl:=(Array.getElem?_eq_some_iff.1 hR).1;refine callsD_of_wpS Tryz.func153 rfl fun c₀ cs hu=>?_
 unfold lossV at *;apply wpS_seq;apply wpS_region;simp[wpOpsS,go_sem,recoverD,hu,Tryz.ntmps153,Exit.thenS];refine(ipl_loss w).mono ?_;rintro e w' ⟨rfl,hb⟩;refine wpS_cond (t:=true) (by simp[Act.eval,Array.replicate]) ?_;simp only[if_true];refine wpS_of_wp ?_;have HA:Hid (w'.heap[A]?=some (.cells C 48 (0,0))∧w'.heap[R]?=some (.cells old 50 (0,0))):=⟨by rw[hb.block _ hAl];exact hA,by rw[hb.block _ hRl];exact hR⟩
 have HX:Hid ((Tryz.prog.info? 48).map (·.size)=some C.size∧C.size=16):=⟨by rw[hC];exact Tryz.sizeG,hC⟩
 obtain⟨X,hX⟩:∃ X,#[.int .i64 11]++C=X:=⟨_,rfl⟩
 have hXs:X.size=17:=by rw[←hX,Array.size_append,hC];rfl
 have HXX:Hid (#[.int .i64 11]++C=X∧(Tryz.prog.info? 50).map (·.size)=some X.size∧old.size=X.size∧X.all (·.oneCell')=true):=⟨hX,by rw[hXs];exact Tryz.sizeR,by rw[hXs];exact hO,by rw[←hX,Array.all_append,h1];simp[Value.oneCell']⟩
 have HB:=hid_ofV hb;clear hA hC h1 hR hO hb hAl hRl hX hXs;go_wp2_with (first
  |(refine wpList_load_row rfl 48 (.tmp 0) rfl A rfl 48 C (0,0) _ HA.out.1 Tryz.underlying48 rfl HX.out.1 ?_)
  |(refine wpList_bR rfl _ (.tmp 4) rfl 11 C rfl rfl HX.out.2 ?_;rw[HXX.out.1])
  |(refine wpList_store_row rfl 50 (.tmp 1) (.tmp 5) rfl R X rfl rfl 50 _ HA.out.2 HXX.out.2.1 HXX.out.2.2.1 HXX.out.2.2.2 ?_)
  |fail)
 refine⟨rfl,_,rfl,.tuple #[],results_none rfl _ _ _,rfl,rfl,w',HB.out,HA.out.2,?_⟩;rw[HXX.out.1]
abbrev DO:=List Int×List PD×Int×Bool
noncomputable def afI (r:ImR) (o:DO):ImR:=if o.2.2.2 then r else imG o.1 o.2.1 o.2.2.1
def afC (c:Int) (o:DO):Int:=if o.2.2.2 then 11 else c
theorem there_row {w:World} {b:Nat} {C:Array Value} {t:TypeId} (h:w.heap[b]?=some (.cells C t (0,0))) (o n:Nat) (hn:o+n≤C.size):w.there b o n:=fun j hj=>
 ⟨by rw[cell_of_row w b (o+j) _ _ _ h];simp;omega,frozen_of_row w b (o+j) _ _ h⟩
theorem range_app {w:World} {b o:Nat} {xs ys:List Value} (h1:w.rangeAt b o xs) (h2:w.rangeAt b (o+xs.length) ys):w.rangeAt b o (xs++ys):=fun j v hv=>by
 by_cases hj:j<xs.length
 ·rw[List.getElem?_append_left hj] at hv;exact h1 j v hv
 ·rw[List.getElem?_append_right (by omega)] at hv;have:=h2 _ v hv
  rwa [show o+xs.length+(j-xs.length)=o+j by omega] at this
theorem Mine.keepN {lo:Nat} {w w':World} {a:Option Addr} {zs:List Int} (h:Mine lo w a zs) (hs:w.heap.size≤w'.heap.size) (hb:∀ ad,a=some ad→w'.heap[ad.block]?=w.heap[ad.block]?):Mine lo w' a zs:=⟨h.1.keep hb hs,h.2.1.keep hb hs,fun ad e=>by have:=h.2.2 ad e;omega⟩
theorem gp_own {B g L gc kc:Nat} {w:World} {zs ks:List Int} {f:Int} {d:Bool} {r:ImR} {ka aSD aSU aF aD aU aT:Option Addr} {nSD cSD nSU cSU mF cF nD cD nU cU cT b1 b2:Nat} (o:Own w B (.slice (some ⟨g,0,none⟩) L gc) zs) (hL:zs.length=L) (k:Mine B w ka ks) (i:I6 B b1 b2 w aSD aSU aF aD aU aT nSD nSU mF nD nU r.n) (l:I6L w aSD aSU aF aD aU aT nSD nSU mF nD nU r) (n1:NotIn g ka) (n2:N6 g aSD aSU aF aD aU aT) (n3:∀ ad,ka=some ad→N6 ad.block aSD aSU aF aD aU aT) (hc:mF≤cF) :
  GP B w #[.slice (some ⟨g,0,none⟩) L gc,.slice none 0 0,.int .i64 f,.bool d,.slice ka ks.length kc,.bool r.ok,.int .u32 r.g,.int .u32 r.t,.slice aSD nSD cSD,.slice aSU nSU cSU,.slice aF mF cF,.slice aD nD cD,.slice aU nU cU,.int .i64 r.k,.slice aT r.n cT,.int .u32 r.nx] zs ks f d r:=by
 subst hL;obtain⟨q1,q2,q3,q4,q5⟩:=own_of o;obtain⟨g',c',e,_,_,_,_,q6⟩:=o.at_;simp only[Value.slice.injEq] at e;rw[←e.1] at q6;exact⟨_,gc,none,0,ka,kc,aSD,nSD,cSD,aSU,nSU,cSU,aF,mF,cF,aD,nD,cD,aU,nU,cU,aT,cT,rfl,⟨q3,hc⟩,⟨q4,q6,fun ad e=>by cases e;exact⟨q1,q2⟩⟩,k,l,⟨b1,b2,i⟩,fun ad e=>by cases e;exact⟨n1,n2⟩,n3⟩
set_option maxRecDepth 100000 in
set_option maxHeartbeats 8000000 in
theorem afs_any {lo:Nat} (G S:Nat) (C cs:Array Value) (c:Int) (zs ks:List Int) (f:Int) (r:ImR) (o:DO) (w:World) (hG:w.heap[G]?=some (.cells C 48 (0,0))) (h:GL lo w C zs ks f false r) (hb:ImLe r) (hz:zs.length≤1048576) (hz0:0<zs.length) (hk:ks.length≤1048576)
  (hS:w.heap[S]?=some (.cells cs 30 (0,0))) (hcs:cs.size=4) (ho:o.2.2.2=false→o.2.1=[]) (hol:o.1.length=zs.length) (bz:Byte o.1)
  (hW:∀(D g gc B H:Nat) (X:List Value) (ww:World),Below w.heap.size w ww→DbP D g zs.length gc B H X 48 zs [] f false ww→D≠g→Calls Tryz.prog 58 #[.pointer (some ⟨D,0,none⟩),.agg cs] ww (WsP D g zs.length gc B H X 48 o ww)) :
  Calls Tryz.prog 118 #[.pointer (some ⟨G,0,none⟩),.int .i64 c,.func (Fn.func 119) #[] #[.pointer (some ⟨S,0,none⟩)]] w fun e w'=>∃ X,e=.returned (.agg X)∧RTQ w.heap.size w' X (afC c o) o.1 o.2.1 ks o.2.2.1 o.2.2.2 (afI r o)∧Below w.heap.size w w':=by
 have hmf:∀(fn:Fn) (first cap:Array Value) (w:World),(Instr.makeFunc fn first cap).run Tryz.prog w=.ok (.func fn first cap) w:=fun _ _ _ _=>rfl
 have HO0:Hid (OE w 50 zrR (w.alloc (.cells zrR 50))):=OE.start _ _ _;have HG:=hid_ofV (And.intro hG h.row.1);have HSG:Hid ((Tryz.prog.info? 48).map (·.size)=some C.size):=by show _=_;rw[h.row.1];exact Tryz.sizeG
 have HCP:=hid_ofV (fun ww (b:Below w.heap.size w ww)=>cpG_any C zs ks f false r ww (h.below b) hb hz hk);have HL:Hid (G<w.heap.size∧S<w.heap.size):=⟨(Array.getElem?_eq_some_iff.1 hG).1,(Array.getElem?_eq_some_iff.1 hS).1⟩
 have HS:=hid_ofV (And.intro hS hcs);have HW:=hid_ofV hW;have HZ:=hid_ofV (And.intro hz (And.intro hz0 (And.intro ho (And.intro hol bz))));clear hG h hb hz hk hS hcs hW hz0 ho hol bz
 go_enter_defers Tryz.func118,Tryz.ntmps118
 go_upto_region 1 with fail
 change Code.wp _ _ _ _ (w.alloc (.cells zrR 50));generalize w.alloc (.cells zrR 50)=w1 at *;have HG1:Hid (w1.heap[G]?=some (.cells C 48 (0,0))):=by show _=_;rw[HO0.out.below.block _ HL.out.1];exact HG.out.1
 go_wp2_with (first
  |(refine wpList_load_row rfl 48 (.tmp 9) rfl G rfl 48 C (0,0) _ HG1.out Tryz.underlying48 rfl HSG.out ?_)
  |fail)
 refine(HCP.out w1 HO0.out.below).mono ?_;rintro e w2 ⟨C',rfl,g2,hb2⟩;obtain⟨g,gc,ka,kc,aSD,nSD,cSD,aSU,nSU,cSU,aF,mF,cF,aD,nD,cD,aU,nU,cU,aT,cT,hC,own2,ki2,hcF⟩:=gpn_lit g2 HZ.out.2.1;have b3:Below w2.heap.size w2 (w2.alloc (.cells C' 48)):=(Below.refl _ _).alloc (Nat.le_refl _) _;have hg2:=(own_of own2).2.1;have HO3:Hid (OE w 50 zrR (w2.alloc (.cells C' 48))):=(HO0.out.call hb2).call b3;have HZ2:Hid ((w2.alloc (.cells #[.slice none 0 0,.slice none 0 0,.int .i64 0,.bool false,.slice none 0 0,.bool false,.int .u32 0,.int .u32 0,.slice none 0 0,.slice none 0 0,.slice none 0 0,.slice none 0 0,.slice none 0 0,.int .i64 0,.slice none 0 0,.int .u32 0] 48)).heap[w2.heap.size]?=some (.cells #[.slice none 0 0,.slice none 0 0,.int .i64 0,.bool false,.slice none 0 0,.bool false,.int .u32 0,.int .u32 0,.slice none 0 0,.slice none 0 0,.slice none 0 0,.slice none 0 0,.slice none 0 0,.int .i64 0,.slice none 0 0,.int .u32 0] 48 (0,0))∧(Tryz.prog.info? 48).map (·.size)=some C'.size∧(#[.slice none 0 0,.slice none 0 0,.int .i64 0,.bool false,.slice none 0 0,.bool false,.int .u32 0,.int .u32 0,.slice none 0 0,.slice none 0 0,.slice none 0 0,.slice none 0 0,.slice none 0 0,.int .i64 0,.slice none 0 0,.int .u32 0]:Array Value).size=C'.size∧C'.all (·.oneCell')=true):=⟨heap_alloc_new w2 _,by rw[g2.1.gl.row.1];exact Tryz.sizeG,by rw[g2.1.gl.row.1];rfl,g2.1.gl.row.2⟩
 have HD3:Hid (DbP w2.heap.size g zs.length gc w1.heap.size w2.heap.size [.slice ka ks.length kc,.bool r.ok,.int .u32 r.g,.int .u32 r.t,.slice aSD nSD cSD,.slice aSU nSU cSU,.slice aF mF cF,.slice aD nD cD,.slice aU nU cU,.int .i64 r.k,.slice aT r.n cT,.int .u32 r.nx] 48 zs [] f false (w2.alloc (.cells C' 48))):=⟨w2.heap.size+1,_,[],by omega,by omega,by omega,by simp,by rw[heap_alloc_new w2 _,hC],own2.grow b3,POwn.nil _ _,rfl,fun _=>rfl⟩
 have HK3:Hid (KI9 w1.heap.size g w2.heap.size (w2.alloc (.cells C' 48)) ks r ka aSD aSU aF aD aU aT nSD nSU mF nD nU):=ki2.yr (A:=w2.heap.size) (YR.of_below b3) (.inl (Nat.le_refl _));have HN3:Hid (NotIn w2.heap.size ka∧N6 w2.heap.size aSD aSU aF aD aU aT):=⟨fun ad e=>by have:=ki2.kH ad e;omega,ki2.iH _ (Nat.le_refl _)⟩
 have HQ:Hid (w.heap.size<w1.heap.size∧w1.heap.size≤w2.heap.size∧g<w2.heap.size∧w1.heap.size≤g):=⟨HO0.out.lt,hb2.size,hg2,(own_of own2).1⟩
 have HCF:=hid_ofV hcF;clear hcF hb2 g2 hC own2 ki2 b3 hg2 HO0 HG HSG HCP HG1
 go_upto_region 2 with (first
  |(refine wpList_store_row rfl 48 (.tmp 7) (.tmp 11) rfl w2.heap.size C' rfl rfl 48 _ HZ2.out.1 HZ2.out.2.1 HZ2.out.2.2.1 HZ2.out.2.2.2 ?_)
  |fail)
 rw[World.setRow_alloc_new];clear HZ2;generalize w2.alloc (.cells C' 48)=w3 at *;generalize w2.heap.size=A at *;go_wp2_with fail;have HCL:=cl_any S A cs (WsP A g zs.length gc w1.heap.size A [.slice ka ks.length kc,.bool r.ok,.int .u32 r.g,.int .u32 r.t,.slice aSD nSD cSD,.slice aSU nSU cSU,.slice aF mF cF,.slice aD nD cD,.slice aU nU cU,.int .i64 r.k,.slice aT r.n cT,.int .u32 r.nx] 48 o w3) w3 (by rw[HO3.out.below.block _ HL.out.2];exact HS.out.1) HS.out.2 (HW.out A g gc w1.heap.size A [.slice ka ks.length kc,.bool r.ok,.int .u32 r.g,.int .u32 r.t,.slice aSD nSD cSD,.slice aSU nSU cSU,.slice aF mF cF,.slice aD nD cD,.slice aU nU cU,.int .i64 r.k,.slice aT r.n cT,.int .u32 r.nx] w3 HO3.out.below HD3.out (by have:=HQ.out;omega)) (fun e w' hq=>by rw[hq.1];unfold cmE;cases o.2.2.2<;>simp);refine HCL.mono ?_;clear HCL HD3;rintro e w4 ⟨he,d4,y4⟩;have k4:=HK3.out.yr y4 (.inr HN3.out);have R4:w4.heap[w.heap.size]?=some (.cells zrR 50 (0,0)):=by rw[y4.block _ HO3.out.lt (by have:=HQ.out;omega) (by have:=HQ.out;omega)];exact HO3.out.b0
 have B4:Below w.heap.size w w4:=HO3.out.below.trans (y4.below (by have:=HQ.out;omega) (by have:=HQ.out;omega) HO3.out.below.size);obtain⟨z9,p9,f9,d9⟩:=o;have hol:z9.length=zs.length:=HZ.out.2.2.2.1;cases d9 with
 |true=>
  obtain rfl:e=lossE:=he;obtain⟨C4,r4,q4⟩:=gtq_of d4 hol k4 HCF.out;refine leaves_cons (f:=153) (args:=#[.pointer (some ⟨A,0,none⟩),.pointer (some ⟨w.heap.size,0,none⟩)]) (by simp) (by simp[go_sem]) ?_;refine(cat_loss A w.heap.size C4 zrR w4 r4 q4.row.1 q4.row.2 R4 rfl).mono ?_;rintro e u' w5 ⟨rfl,rfl,w6,b6,hR6,rfl⟩;obtain⟨X,hX,hR⟩:=rtq_of (c:=11) (q4.below b6);rw[hX];refine⟨.agg X,results_cell_row rfl _ _ w.heap.size 50 _ (0,0) _ rfl (setRow_heap _ _ _ _ _ _ hR6) Tryz.underlying50 rfl (by rw[hR.row.1];exact Tryz.sizeR),X,rfl,hR.put HQ.out.1,(B4.trans (b6.mono B4.size)).trans ((Wr.setRow _ _ _).below (Nat.le_refl _))⟩
 |false=>
  obtain rfl:e=.returned (.tuple #[]):=he;obtain rfl:p9=[]:=HZ.out.2.2.1 rfl;obtain⟨E,cv,qs,h1,h2,h3,h4,hr,ho,hp,hq,hn⟩:=d4;obtain rfl:=hn rfl;have o4:=own_of ho;have HI:=hid_ofV (ild_any (some ⟨g,0,none⟩) none zs.length gc 0 0 f9 false z9 [] w4 hol rfl o4.2.2.2.1 (.inl rfl) (by rw[←hol];exact o4.2.2.1) HZ.out.1 (by decide) (by simp) HZ.out.2.2.2.2 (by simp[Byte]));have HR4:Hid (w4.heap[A]?=some (.cells #[.slice (some ⟨g,0,none⟩) zs.length gc,.slice none 0 0,.int .i64 f9,.bool false,.slice ka ks.length kc,.bool r.ok,.int .u32 r.g,.int .u32 r.t,.slice aSD nSD cSD,.slice aSU nSU cSU,.slice aF mF cF,.slice aD nD cD,.slice aU nU cU,.int .i64 r.k,.slice aT r.n cT,.int .u32 r.nx] 48 (0,0))∧A<w4.heap.size):=⟨hr,(Array.getElem?_eq_some_iff.1 hr).1⟩
  have HM4:Hid (w4.rangeAt A 0 [.slice (some ⟨g,0,none⟩) zs.length gc,.slice none 0 0,.int .i64 f9,.bool false]):=mid_row hr 0 _ rfl;have HO4:=hid_ofV ho;have HK4:=hid_ofV k4;have HB4:=hid_ofV (And.intro R4 B4);have HSD:Hid ((Tryz.prog.info? 40).map (·.size)=some 4):=by show _=_;kernel_rfl
  have HSI:Hid ((Tryz.prog.info? 36).map (·.size)=some 11):=by show _=_;kernel_rfl
  clear k4 R4 B4 hol h1 h2 h3 h4 hr ho hp hq hn o4 y4 HO3 HK3;go_wp2_with (first
   |(refine wpList_load_mid rfl 40 (.tmp 16) rfl A 0 rfl [.slice (some ⟨g,0,none⟩) zs.length gc,.slice none 0 0,.int .i64 f9,.bool false] _ HM4.out Tryz.underlying40 rfl HSD.out ?_)
   |fail)
  refine HI.out.mono ?_;rintro e w5 ⟨v,rfl,hI,hb5⟩;obtain⟨q,hq9⟩:∃ q,imG z9 [] f9=q:=⟨_,rfl⟩
  rw[hq9] at hI;have HQ9:=hid_ofV hq9;clear hq9;obtain⟨pSD,kSD,lSD,pSU,kSU,lSU,pF,kF,lF,pD,kD,lD,pU,kU,lU,pT,lT,b1,b2,rfl,i5,l5,c5⟩:=hI.six2;have hr5:w5.heap[A]?=some (.cells #[.slice (some ⟨g,0,none⟩) zs.length gc,.slice none 0 0,.int .i64 f9,.bool false,.slice ka ks.length kc,.bool r.ok,.int .u32 r.g,.int .u32 r.t,.slice aSD nSD cSD,.slice aSU nSU cSU,.slice aF mF cF,.slice aD nD cD,.slice aU nU cU,.int .i64 r.k,.slice aT r.n cT,.int .u32 r.nx] 48 (0,0)):=by rw[hb5.block _ HR4.out.2];exact HR4.out.1
  have th5:w5.there A 5 11:=there_row hr5 5 11 (by simp);have HTH:=hid_ofV th5;have HRG:Hid ((w5.setCells A 5 [.bool q.ok,.int .u32 q.g,.int .u32 q.t,.slice pSD kSD lSD,.slice pSU kSU lSU,.slice pF kF lF,.slice pD kD lD,.slice pU kU lU,.int .i64 q.k,.slice pT q.n lT,.int .u32 q.nx]).rangeAt A 0 [.slice (some ⟨g,0,none⟩) zs.length gc,.slice none 0 0,.int .i64 f9,.bool false,.slice ka ks.length kc,.bool q.ok,.int .u32 q.g,.int .u32 q.t,.slice pSD kSD lSD,.slice pSU kSU lSU,.slice pF kF lF,.slice pD kD lD,.slice pU kU lU,.int .i64 q.k,.slice pT q.n lT,.int .u32 q.nx]):=range_app (World.rangeAt_setCells_apart (mid_row hr5 0 [.slice (some ⟨g,0,none⟩) zs.length gc,.slice none 0 0,.int .i64 f9,.bool false,.slice ka ks.length kc] rfl) A 5 _ (.inr (.inl (by simp)))) (World.rangeAt_setCells_same w5 A 5 _ th5);have hw:=Wr.setCells A [.bool q.ok,.int .u32 q.g,.int .u32 q.t,.slice pSD kSD lSD,.slice pSU kSU lSU,.slice pF kF lF,.slice pD kD lD,.slice pU kU lU,.int .i64 q.k,.slice pT q.n lT,.int .u32 q.nx] 5 w5;have hgA:g<A:=by have:=HQ.out;omega
  have hAl:=HR4.out.2;have n6:∀ j,j<w4.heap.size→N6 j pSD pSU pF pD pU pT:=fun j hj=>by
   obtain⟨l1,l2,l3,l4,l5,l6⟩:=i5.l6;exact⟨fun ad e=>by have:=l1 ad e;omega,fun ad e=>by have:=l2 ad e;omega,fun ad e=>by have:=l3 ad e;omega,fun ad e=>by have:=l4 ad e;omega,fun ad e=>by have:=l5 ad e;omega,fun ad e=>by have:=l6 ad e;omega⟩
  have hP:GP w1.heap.size (w5.setCells A 5 [.bool q.ok,.int .u32 q.g,.int .u32 q.t,.slice pSD kSD lSD,.slice pSU kSU lSU,.slice pF kF lF,.slice pD kD lD,.slice pU kU lU,.int .i64 q.k,.slice pT q.n lT,.int .u32 q.nx]) [.slice (some ⟨g,0,none⟩) zs.length gc,.slice none 0 0,.int .i64 f9,.bool false,.slice ka ks.length kc,.bool q.ok,.int .u32 q.g,.int .u32 q.t,.slice pSD kSD lSD,.slice pSU kSU lSU,.slice pF kF lF,.slice pD kD lD,.slice pU kU lU,.int .i64 q.k,.slice pT q.n lT,.int .u32 q.nx].toArray z9 ks f9 false q:=by
   have i6:=(i5.keep (Nat.le_of_eq hw.size.symm) (fun k hk _=>hw.block k (by omega)))
   refine gp_own ((HO4.out.grow hb5).keep (fun k e=>hw.block k (by simp[Value.ownBlock] at e;omega))) HZ.out.2.2.2.1 ((HK4.out.k.below hb5).keepN (Nat.le_of_eq hw.size.symm) (fun ad e=>hw.block _ (fun e2=>HN3.out.1 ad e e2.symm))) (i6.low (by have:=HQ.out;omega)) (l5.keep i5.l6 (Nat.le_of_eq hw.size.symm) (fun k hk _=>hw.block k (by omega))) HK4.out.gk.1 (n6 g (by omega)) (fun ad e=>n6 _ (by have:=(HK4.out.k.2.2 ad e).2;omega)) c5
  have HB6:Hid ((w5.setCells A 5 [.bool q.ok,.int .u32 q.g,.int .u32 q.t,.slice pSD kSD lSD,.slice pSU kSU lSU,.slice pF kF lF,.slice pD kD lD,.slice pU kU lU,.int .i64 q.k,.slice pT q.n lT,.int .u32 q.nx]).heap[w.heap.size]?=some (.cells zrR 50 (0,0))∧Below w.heap.size w (w5.setCells A 5 [.bool q.ok,.int .u32 q.g,.int .u32 q.t,.slice pSD kSD lSD,.slice pSU kSU lSU,.slice pF kF lF,.slice pD kD lD,.slice pU kU lU,.int .i64 q.k,.slice pT q.n lT,.int .u32 q.nx])):=⟨by rw[hw.block _ (by have:=HQ.out;omega),hb5.block _ (Array.getElem?_eq_some_iff.1 HB4.out.1).1];exact HB4.out.1,(HB4.out.2.trans (hb5.mono HB4.out.2.size)).trans (hw.below (by have:=HQ.out;omega))⟩
  obtain⟨X,hX,hR⟩:=rtq_of (c:=c) (hP.gq (by rw[hw.size];have:=hb5.size;have:=HQ.out;omega));have HRQ:=hid_ofV hR;have HXX:Hid (#[.int .i64 c]++[.slice (some ⟨g,0,none⟩) zs.length gc,.slice none 0 0,.int .i64 f9,.bool false,.slice ka ks.length kc,.bool q.ok,.int .u32 q.g,.int .u32 q.t,.slice pSD kSD lSD,.slice pSU kSU lSU,.slice pF kF lF,.slice pD kD lD,.slice pU kU lU,.int .i64 q.k,.slice pT q.n lT,.int .u32 q.nx].toArray=X∧(Tryz.prog.info? 50).map (·.size)=some X.size∧zrR.size=X.size∧X.all (·.oneCell')=true):=⟨hX,by rw[hR.row.1];exact Tryz.sizeR,by rw[hR.row.1];rfl,hR.row.2⟩
  clear c5 hr5 th5 hw hgA hAl n6 hP hX hR i5 l5 hb5 hI HI HR4 HM4 HO4 HK4 HB4
  go_upto_region 5 with (first
   |(refine wpList_store_mid rfl 36 (.tmp 19) (.tmp 18) rfl A 5 #[.bool q.ok,.int .u32 q.g,.int .u32 q.t,.slice pSD kSD lSD,.slice pSU kSU lSU,.slice pF kF lF,.slice pD kD lD,.slice pU kU lU,.int .i64 q.k,.slice pT q.n lT,.int .u32 q.nx] rfl rfl HTH.out HSI.out (by simp[Value.oneCell']) ?_)
   |fail)
  try dsimp only[]
  generalize w5.setCells A 5 [.bool q.ok,.int .u32 q.g,.int .u32 q.t,.slice pSD kSD lSD,.slice pSU kSU lSU,.slice pF kF lF,.slice pD kD lD,.slice pU kU lU,.int .i64 q.k,.slice pT q.n lT,.int .u32 q.nx]=w6 at *;go_wp2_with (first
   |(refine wpList_load_mid rfl 48 (.tmp 7) rfl A 0 rfl [.slice (some ⟨g,0,none⟩) zs.length gc,.slice none 0 0,.int .i64 f9,.bool false,.slice ka ks.length kc,.bool q.ok,.int .u32 q.g,.int .u32 q.t,.slice pSD kSD lSD,.slice pSU kSU lSU,.slice pF kF lF,.slice pD kD lD,.slice pU kU lU,.int .i64 q.k,.slice pT q.n lT,.int .u32 q.nx] _ HRG.out Tryz.underlying48 rfl Tryz.sizeG ?_)
   |(refine wpList_bR rfl (.tmp 20) (.tmp 21) rfl c [.slice (some ⟨g,0,none⟩) zs.length gc,.slice none 0 0,.int .i64 f9,.bool false,.slice ka ks.length kc,.bool q.ok,.int .u32 q.g,.int .u32 q.t,.slice pSD kSD lSD,.slice pSU kSU lSU,.slice pF kF lF,.slice pD kD lD,.slice pU kU lU,.int .i64 q.k,.slice pT q.n lT,.int .u32 q.nx].toArray rfl rfl rfl ?_;rw[HXX.out.1])
   |(refine wpList_store_row rfl 50 (.tmp 6) (.tmp 22) rfl w.heap.size X rfl rfl 50 _ HB6.out.1 HXX.out.2.1 HXX.out.2.2.1 HXX.out.2.2.2 ?_)
   |fail)
  refine leaves_cons (f:=153) (args:=#[.pointer (some ⟨A,0,none⟩),.pointer (some ⟨w.heap.size,0,none⟩)]) (by simp) (by simp[go_sem]) ?_;refine(cat_idle A w.heap.size _).mono ?_;rintro e u' w7 ⟨rfl,rfl,hb7⟩;have hr7:w7.heap[w.heap.size]?=some (.cells X 50 (0,0)):=by rw[hb7.block _ (by rw[size_setRow];exact(Array.getElem?_eq_some_iff.1 HB6.out.1).1)];exact setRow_heap _ _ _ _ _ _ HB6.out.1
  exact⟨.agg X,results_cell_row rfl _ _ w.heap.size 50 _ (0,0) _ rfl hr7 Tryz.underlying50 rfl HXX.out.2.1,X,rfl,by rw[show afI r (z9,[],f9,false)=q from HQ9.out];exact(HRQ.out.put HQ.out.1).below hb7,(HB6.out.2.trans ((Wr.setRow _ _ _).below (Nat.le_refl _))).trans (hb7.mono (by rw[size_setRow];exact HB6.out.2.size))⟩
end Go.Proofs.YthmeoilbmfdhfaaGreat
