import Derived.Test.YtilpkdnoaldfmaaGreatDoorMCgA
import Derived.Test.YtilpkdnoaldfmaaGreatDoorMFmW
import Derived.Test.YtilpkdnoaldfmaaGreatDoorMFmP
import Derived.Test.YtilpkdnoaldfmaaGreatDoorMRows8
import Derived.Test.YtilpkdnoaldfmaaGreatDoorMBase
namespace Go.Proofs.YtilpkdnoaldfmaaGreatDoor
open Go.ChangeShapes Go.WideShapes Go.ChangeAt Go.RowKit
set_option linter.unusedVariables false
section
variable {lo lo' hi:Nat} {w w':World} {C X:Array Value} {zs ks:List Int} {ps:List PD} {f c:Int} {d:Bool} {r:ImR}
def GTQ (lo:Nat) (w:World) (C:Array Value) (zs:List Int) (ps:List PD) (ks:List Int) (f:Int) (d:Bool) (r:ImR):Prop:=∃ da dc ca cc ka kc aSD nSD cSD aSU nSU cSU aF mF cF aD nD cD aU nU cU aT cT B1 U,C=#[.slice da zs.length dc,.slice ca ps.length cc,.int .i64 f,.bool d,.slice ka ks.length kc,.bool r.ok,.int .u32 r.g,.int .u32 r.t,.slice aSD nSD cSD,.slice aSU nSU cSU,.slice aF mF cF,.slice aD nD cD,.slice aU nU cU,.int .i64 r.k,.slice aT r.n cT,.int .u32 r.nx]∧(zs.length≤dc∧mF≤cF)∧Mine lo w da zs∧Mine lo w ka ks∧I6L w aSD aSU aF aD aU aT nSD nSU mF nD nU r∧GX lo w r da ka aSD aSU aF aD aU aT nSD nSU mF nD nU∧PMine B1 U w ca ps∧lo≤B1∧U≤w.heap.size∧(ps≠[]→(∀ ad,da=some ad→ad.block<B1)∧(∀ ad,ka=some ad→ad.block<B1)∧∀ j,B1≤j→N6 j aSD aSU aF aD aU aT)
theorem GP.gq (h:GP lo w C zs ks f d r) (hl:lo≤w.heap.size):GTQ lo w C zs [] ks f d r:=by
 obtain⟨da,dc,ca,cc,ka,kc,aSD,nSD,cSD,aSU,nSU,cSU,aF,mF,cF,aD,nD,cD,aU,nU,cU,aT,cT,e,h1,h2,h3,h4,h5⟩:=h;exact⟨da,dc,ca,cc,ka,kc,aSD,nSD,cSD,aSU,nSU,cSU,aF,mF,cF,aD,nD,cD,aU,nU,cU,aT,cT,_,_,e,h1,h2,h3,h4,h5,.inl rfl,hl,Nat.le_refl _,fun h=>absurd rfl h⟩
theorem GTQ.keep (h:GTQ lo w C zs ps ks f d r) (hs:w.heap.size≤w'.heap.size) (hb:∀ k,lo≤k→k<w.heap.size→w'.heap[k]?=w.heap[k]?):GTQ lo w' C zs ps ks f d r:=by
 obtain⟨da,dc,ca,cc,ka,kc,aSD,nSD,cSD,aSU,nSU,cSU,aF,mF,cF,aD,nD,cD,aU,nU,cU,aT,cT,B1,U,e,h1,h2,h3,h4,⟨⟨b1,b2,h5⟩,h6,h7⟩,h8,h9,h10,h11⟩:=h;exact⟨da,dc,ca,cc,ka,kc,aSD,nSD,cSD,aSU,nSU,cSU,aF,mF,cF,aD,nD,cD,aU,nU,cU,aT,cT,B1,U,e,h1,h2.keep hs hb,h3.keep hs hb,h4.keep h5.l6 hs hb,⟨⟨b1,b2,h5.keep hs hb⟩,h6,h7⟩,h8.keep (fun k hk hk'=>hb k (by omega) (by omega)) hs,h9,by omega,h11⟩
theorem GTQ.below (h:GTQ lo w C zs ps ks f d r) (b:Below w.heap.size w w'):GTQ lo w' C zs ps ks f d r:=h.keep b.size (fun k _ hk=>b.block k hk)
theorem GTQ.mono (h:GTQ lo w C zs ps ks f d r) (hl:lo'≤lo):GTQ lo' w C zs ps ks f d r:=by
 obtain⟨da,dc,ca,cc,ka,kc,aSD,nSD,cSD,aSU,nSU,cSU,aF,mF,cF,aD,nD,cD,aU,nU,cU,aT,cT,B1,U,e,h1,h2,h3,h4,⟨⟨b1,b2,h5⟩,h6,h7⟩,h8,h9,h10,h11⟩:=h;exact⟨da,dc,ca,cc,ka,kc,aSD,nSD,cSD,aSU,nSU,cSU,aF,mF,cF,aD,nD,cD,aU,nU,cU,aT,cT,B1,U,e,h1,h2.mono hl,h3.mono hl,h4,⟨⟨b1,b2,h5.low hl⟩,h6,h7⟩,h8,by omega,h10,h11⟩
theorem GTQ.row (h:GTQ lo w C zs ps ks f d r):C.size=16∧C.all (·.oneCell')=true:=by
 obtain⟨da,dc,ca,cc,ka,kc,aSD,nSD,cSD,aSU,nSU,cSU,aF,mF,cF,aD,nD,cD,aU,nU,cU,aT,cT,B1,U,rfl,_⟩:=h;exact⟨rfl,by simp[Value.oneCell']⟩
def RTQ (lo:Nat) (w:World) (X:Array Value) (c:Int) (zs:List Int) (ps:List PD) (ks:List Int) (f:Int) (d:Bool) (r:ImR):Prop:=∃ C,X=#[.int .i64 c]++C∧GTQ lo w C zs ps ks f d r
theorem RTQ.keep (h:RTQ lo w X c zs ps ks f d r) (hs:w.heap.size≤w'.heap.size) (hb:∀ k,lo≤k→k<w.heap.size→w'.heap[k]?=w.heap[k]?):RTQ lo w' X c zs ps ks f d r:=by obtain⟨C,e,h⟩:=h;exact⟨C,e,h.keep hs hb⟩
theorem RTQ.below (h:RTQ lo w X c zs ps ks f d r) (b:Below w.heap.size w w'):RTQ lo w' X c zs ps ks f d r:=h.keep b.size (fun k _ hk=>b.block k hk)
theorem RTQ.mono (h:RTQ lo w X c zs ps ks f d r) (hl:lo'≤lo):RTQ lo' w X c zs ps ks f d r:=by obtain⟨C,e,h⟩:=h;exact⟨C,e,h.mono hl⟩
theorem RTQ.row (h:RTQ lo w X c zs ps ks f d r):X.size=17∧X.all (·.oneCell')=true:=by
 obtain⟨C,rfl,h⟩:=h;refine⟨by rw[Array.size_append,h.row.1];rfl,?_⟩;rw[Array.all_append,h.row.2];simp[Value.oneCell']
theorem GL.n6 {aSD aSU aF aD aU aT:Option Addr} (h:L6 lo w aSD aSU aF aD aU aT):∀ j,w.heap.size≤j→N6 j aSD aSU aF aD aU aT:=fun j hj=>⟨fun ad e=>by have:=h.1 ad e;omega,fun ad e=>by have:=h.2.1 ad e;omega,fun ad e=>by have:=h.2.2.1 ad e;omega,fun ad e=>by have:=h.2.2.2.1 ad e;omega,fun ad e=>by have:=h.2.2.2.2.1 ad e;omega,fun ad e=>by have:=h.2.2.2.2.2 ad e;omega⟩
end
theorem arr16 {C:Array Value} (h:C.size=16):∃ c0 c1 c2 c3 c4 c5 c6 c7 c8 c9 c10 c11 c12 c13 c14 c15,C=#[c0,c1,c2,c3,c4,c5,c6,c7,c8,c9,c10,c11,c12,c13,c14,c15]:=by
 match C,h with
 |⟨[c0,c1,c2,c3,c4,c5,c6,c7,c8,c9,c10,c11,c12,c13,c14,c15]⟩,_=>exact⟨c0,c1,c2,c3,c4,c5,c6,c7,c8,c9,c10,c11,c12,c13,c14,c15,rfl⟩
set_option maxRecDepth 100000 in
theorem builtR (c:Int) (C:Array Value) (h:C.size=16):Tryz.prog.built 40 [(0,.int .i64 c),(1,.agg C)]=some (#[.int .i64 c]++C):=by
 obtain⟨c0,c1,c2,c3,c4,c5,c6,c7,c8,c9,c10,c11,c12,c13,c14,c15,rfl⟩:=arr16 h
 kernel_rfl
theorem wp_bR {o:Oper} {a:Act} {w:World} {K:Act→World→Prop} {Q:Exit→Act→World→Prop} (x y:Operand) (ho:o.op=.build 40 #[(0,x),(1,y)]) (c:Int) (C:Array Value) (hx:a.eval x=.int .i64 c) (hy:a.eval y=.agg C) (hC:C.size=16) (h:K (a.put o.dst (.agg (#[.int .i64 c]++C))) w):o.wp Tryz.prog a w K Q:=by
 have e:Tryz.prog.built 40 (#[(0,x),(1,y)].map fun (i,x)=>(i,a.eval x)).toList=some (#[.int .i64 c]++C):=by
  rw[←builtR c C hC,←hx,←hy];simp
 exact wp_build 40 _ ho (by rw[e];rfl) (by rw[e];exact h)
theorem wpList_bR {ops:Array Oper} {rest:List Oper} {o:Oper} {a:Act} {w:World} {Q:Exit→Act→World→Prop} (hg:o.guard=none) (x y:Operand) (ho:o.op=.build 40 #[(0,x),(1,y)]) (c:Int) (C:Array Value) (hx:a.eval x=.int .i64 c) (hy:a.eval y=.agg C) (hC:C.size=16) (h:wpList Tryz.prog ops Q rest (a.put o.dst (.agg (#[.int .i64 c]++C))) w):wpList Tryz.prog ops Q (o::rest) a w:=
 wpList_plain hg fun _ hK=>wp_bR x y ho c C hx hy hC (hK _ _ h)
theorem Tryz.sizeG:(Tryz.prog.info? 38).map (·.size)=some 16:=by kernel_rfl
theorem Tryz.sizeR:(Tryz.prog.info? 40).map (·.size)=some 17:=by kernel_rfl
def zrR:Array Value:=#[.int .i64 0,.slice none 0 0,.slice none 0 0,.int .i64 0,.bool false,.slice none 0 0,.bool false,.int .u32 0,.int .u32 0,.slice none 0 0,.slice none 0 0,.slice none 0 0,.slice none 0 0,.slice none 0 0,.int .i64 0,.slice none 0 0,.int .u32 0]
theorem rtq_of {lo:Nat} {w:World} {C:Array Value} {c:Int} {zs ks:List Int} {ps:List PD} {f:Int} {d:Bool} {r:ImR} (h:GTQ lo w C zs ps ks f d r):∃ X,#[.int .i64 c]++C=X∧RTQ lo w X c zs ps ks f d r:=⟨_,rfl,C,rfl,h⟩
theorem RTQ.put {lo R:Nat} {w:World} {X:Array Value} {c:Int} {zs ks:List Int} {ps:List PD} {f:Int} {d:Bool} {r:ImR} (h:RTQ lo w X c zs ps ks f d r) (hR:R<lo):RTQ R (w.setRow R X) X c zs ps ks f d r:=by
 have hw:=Wr.setRow R w X;exact(h.keep (Nat.le_of_eq hw.size.symm) (fun k hk _=>hw.block k (by omega))).mono (by omega)
set_option maxRecDepth 100000 in
set_option maxHeartbeats 2000000 in
theorem unt_any {lo:Nat} (G:Nat) (C:Array Value) (c:Int) (zs ks:List Int) (f:Int) (d:Bool) (r:ImR) (w:World) (hG:w.heap[G]?=some (.cells C 38 (0,0))) (h:GL lo w C zs ks f d r) (hb:ImLe r) (hz:zs.length≤1048576) (hk:ks.length≤1048576) :
  Calls Tryz.prog 33 #[.pointer (some ⟨G,0,none⟩),.int .i64 c] w fun e w'=>∃ X,e=.returned (.agg X)∧RTQ w.heap.size w' X c zs [] ks f d r∧Below w.heap.size w w':=by
 have HO0:Hid (OE w 40 zrR (w.alloc (.cells zrR 40))):=OE.start _ _ _;have HG:=hid_ofV (And.intro hG h.row.1);have HSG:Hid ((Tryz.prog.info? 38).map (·.size)=some C.size):=by show _=_;rw[h.row.1];exact Tryz.sizeG
 have HCP:=hid_ofV (fun ww (b:Below w.heap.size w ww)=>cpG_any C zs ks f d r ww (h.below b) hb hz hk);have HL:Hid (G<w.heap.size):=(Array.getElem?_eq_some_iff.1 hG).1;clear hG h hb hz hk;go_enter Tryz.func33,Tryz.ntmps33
 go_upto_region 1 with fail
 change Code.wp _ _ _ _ (w.alloc (.cells zrR 40));generalize w.alloc (.cells zrR 40)=w1 at *;have HG1:Hid (w1.heap[G]?=some (.cells C 38 (0,0))):=by show _=_;rw[HO0.out.below.block _ HL.out];exact HG.out.1
 go_wp2_with (first
  |(refine wpList_load_row rfl 38 (.tmp 7) rfl G rfl 38 C (0,0) _ HG1.out Tryz.underlying38 rfl HSG.out ?_)
  |fail)
 refine(HCP.out w1 HO0.out.below).mono ?_;rintro e w2 ⟨C',rfl,g2,hb2⟩;have HO2:=hid_ofV (HO0.out.call hb2);obtain⟨X,hX,hR⟩:=rtq_of (c:=c) (g2.1.gq hb2.size);have HR:=hid_ofV hR;have HX:=hid_ofV (And.intro hX (And.intro g2.1.gl.row.1 HO0.out.lt));have HSX:Hid ((Tryz.prog.info? 40).map (·.size)=some X.size∧zrR.size=X.size∧X.all (·.oneCell')=true):=⟨by rw[hR.row.1];exact Tryz.sizeR,by rw[hR.row.1];rfl,hR.row.2⟩
 clear HO0 HG HSG HCP HL HG1 hb2 g2 hX hR;go_wp2_with (first
  |(refine wpList_bR rfl (.tmp 5) (.tmp 9) rfl c C' rfl rfl HX.out.2.1 ?_;rw[HX.out.1])
  |(refine wpList_store_row rfl 40 (.tmp 4) (.tmp 10) rfl w.heap.size X rfl rfl 40 _ HO2.out.b0 HSX.out.1 HSX.out.2.1 HSX.out.2.2 ?_)
  |fail)
 (try simp only[Exit.inBlock,Exit.then])
 exact bodyPost_ret (v:=.agg X) (results_cell_row rfl _ _ w.heap.size 40 _ (0,0) _ rfl (setRow_heap _ _ _ _ _ _ HO2.out.b0) Tryz.underlying40 rfl HSX.out.1) rfl ⟨_,rfl,HR.out.put HX.out.2.2,HO2.out.below.trans ((Wr.setRow _ _ _).below (Nat.le_refl _))⟩
theorem Wr.setCells (b:Nat):∀(vs:List Value) (o:Nat) (w:World),Wr b w (w.setCells b o vs)
 |[],o,w=>Wr.refl _ _
 |v::vs,o,w=>((Wr.refl b w).setCell o v).trans (Wr.setCells b vs (o+1) _)
section
variable {lo A g L gc B H:Nat} {w w':World} {C:Array Value} {zs ks:List Int} {ps:List PD} {f:Int} {d:Bool} {r:ImR} {ka aSD aSU aF aD aU aT:Option Addr} {kc nSD cSD nSU cSU mF cF nD cD nU cU cT b1 b2:Nat}
structure KI9 (lo g H:Nat) (w:World) (ks:List Int) (r:ImR) (ka aSD aSU aF aD aU aT:Option Addr) (nSD nSU mF nD nU:Nat):Prop where
 k:Mine lo w ka ks
 i:∃ b1 b2,I6 lo b1 b2 w aSD aSU aF aD aU aT nSD nSU mF nD nU r.n
 l:I6L w aSD aSU aF aD aU aT nSD nSU mF nD nU r
 gk:NotIn g ka∧N6 g aSD aSU aF aD aU aT
 kk:∀ ad,ka=some ad→N6 ad.block aSD aSU aF aD aU aT
 kH:∀ ad,ka=some ad→ad.block<H
 iH:∀ j,H≤j→N6 j aSD aSU aF aD aU aT
theorem KI9.yr (h:KI9 lo g H w ks r ka aSD aSU aF aD aU aT nSD nSU mF nD nU) (y:YR A g w w') (hA:w.heap.size≤A∨(NotIn A ka∧N6 A aSD aSU aF aD aU aT)):KI9 lo g H w' ks r ka aSD aSU aF aD aU aT nSD nSU mF nD nU:=by
 obtain⟨b1,b2,i⟩:=h.i;have hs:=y.size;have n6:∀ ad,In6 ad aSD aSU aF aD aU aT→w'.heap[ad.block]?=w.heap[ad.block]?:=fun ad q=>by
  have q2:=(i.in6 q).2;refine y.block _ q2 (fun e=>?_) (fun e=>h.gk.2.ne q e.symm);rcases hA with hA|hA
  ·omega
  ·exact hA.2.ne q e.symm
 have nk:∀ ad,ka=some ad→w'.heap[ad.block]?=w.heap[ad.block]?:=fun ad e=>by
  have q:=(h.k.2.2 ad e).2;refine y.block _ q (fun e2=>?_) (fun e2=>h.gk.1 ad e e2.symm);rcases hA with hA|hA
  ·omega
  ·exact hA.1 ad e e2.symm
 obtain⟨a1,a2,a3,a4,a5,a6,hl⟩:=h.l;exact⟨⟨h.k.1.keep nk hs,h.k.2.1.keep nk hs,fun ad e=>by have:=h.k.2.2 ad e;omega⟩,⟨b1,b2,i.keep6 hs n6⟩,⟨a1.keepT hs fun ad e _=>n6 ad (.inl e),a2.keepT hs fun ad e _=>n6 ad (.inr (.inl e)),a3.keepT hs fun ad e _=>n6 ad (.inr (.inr (.inl e))),a4.keepT hs fun ad e _=>n6 ad (.inr (.inr (.inr (.inl e)))),a5.keepT hs fun ad e _=>n6 ad (.inr (.inr (.inr (.inr (.inl e))))),a6.keepT hs fun ad e _=>n6 ad (.inr (.inr (.inr (.inr (.inr e))))),hl⟩,h.gk,h.kk,h.kH,h.iH⟩
theorem gpn_lit (h:GPn lo w C zs ks f d r) (hz:0<zs.length):∃ g gc ka kc aSD nSD cSD aSU nSU cSU aF mF cF aD nD cD aU nU cU aT cT,C=#[.slice (some ⟨g,0,none⟩) zs.length gc,.slice none 0 0,.int .i64 f,.bool d,.slice ka ks.length kc,.bool r.ok,.int .u32 r.g,.int .u32 r.t,.slice aSD nSD cSD,.slice aSU nSU cSU,.slice aF mF cF,.slice aD nD cD,.slice aU nU cU,.int .i64 r.k,.slice aT r.n cT,.int .u32 r.nx]∧Own w lo (.slice (some ⟨g,0,none⟩) zs.length gc) zs∧KI9 lo g w.heap.size w ks r ka aSD aSU aF aD aU aT nSD nSU mF nD nU∧mF≤cF:=by
 obtain⟨⟨da,dc,ca,cc,ka,kc,aSD,nSD,cSD,aSU,nSU,cSU,aF,mF,cF,aD,nD,cD,aU,nU,cU,aT,cT,rfl,h1,h2,h3,h4,⟨⟨b1,b2,h5⟩,h6,h7⟩⟩,e1,dv,e0,o⟩:=h;simp at e1 e0;obtain⟨rfl,rfl⟩:=e1;subst e0;rcases o with⟨_,e⟩|o
 ·rw[e] at hz;simp at hz
 ·obtain⟨g,c,e,_⟩:=o.at_;simp only[Value.slice.injEq] at e;obtain⟨rfl,_,rfl⟩:=e;exact⟨g,dc,ka,kc,aSD,nSD,cSD,aSU,nSU,cSU,aF,mF,cF,aD,nD,cD,aU,nU,cU,aT,cT,rfl,o,⟨h3,⟨b1,b2,h5⟩,h4,h6 _ rfl,h7,fun ad e=>(h3.2.2 ad e).2,GL.n6 h5.l6⟩,h1.2⟩
theorem gtq_of (h:DbP A g L gc B H [.slice ka ks.length kc,.bool r.ok,.int .u32 r.g,.int .u32 r.t,.slice aSD nSD cSD,.slice aSU nSU cSU,.slice aF mF cF,.slice aD nD cD,.slice aU nU cU,.int .i64 r.k,.slice aT r.n cT,.int .u32 r.nx] 38 zs ps f d w) (hL:zs.length=L) (hk:KI9 B g H w ks r ka aSD aSU aF aD aU aT nSD nSU mF nD nU) (hc:mF≤cF):∃ C,w.heap[A]?=some (.cells C 38 (0,0))∧GTQ B w C zs ps ks f d r:=by
 obtain⟨E,cv,qs,h1,h2,h3,h4,hr,ho,hp,hq,hn⟩:=h;obtain⟨ca,cc,rfl,hm⟩:=hp.mine;rw[hq] at hm;have hql:qs.length=ps.length:=by rw[←hq];simp[qps]
 rw[hql] at hr;subst hL;obtain⟨q1,q2,q3,q4,q5⟩:=own_of ho;obtain⟨g',c',e,_,_,_,_,q6⟩:=ho.at_;simp only[Value.slice.injEq] at e;rw[←e.1] at q6;refine⟨_,hr,_,gc,ca,cc,ka,kc,aSD,nSD,cSD,aSU,nSU,cSU,aF,mF,cF,aD,nD,cD,aU,nU,cU,aT,cT,E,w.heap.size,rfl,⟨q3,hc⟩,⟨q4,q6,fun ad e=>by cases e;exact⟨q1,q2⟩⟩,hk.k,hk.l,⟨hk.i,fun ad e=>by cases e;exact hk.gk,hk.kk⟩,hm,by omega,Nat.le_refl _,fun _=>⟨fun ad e=>by cases e;exact h1,fun ad e=>by have:=hk.kH ad e;omega,fun j hj=>hk.iH j (by omega)⟩⟩
end
set_option maxRecDepth 100000 in
set_option maxHeartbeats 2000000 in
theorem cl_any (S D:Nat) (cs:Array Value) (Q:Ending→World→Prop) (w:World) (hS:w.heap[S]?=some (.cells cs 30 (0,0))) (hz:cs.size=4) (h:Calls Tryz.prog 11 #[.pointer (some ⟨D,0,none⟩),.agg cs] w Q) (hQ:∀ e w',Q e w'→e=.returned (.tuple #[])∨e=lossE) :
  Calls Tryz.prog 36 #[.pointer (some ⟨D,0,none⟩),.pointer (some ⟨S,0,none⟩)] w Q:=by
 have HS:=hid_ofV hS;have HZ:Hid ((Tryz.prog.info? 30).map (·.size)=some cs.size):=by show _=_;rw[hz];kernel_rfl
 have HH:=hid_ofV h;have HQ:=hid_ofV hQ;clear hS hz h hQ;go_enter Tryz.func36,Tryz.ntmps36;go_wp2_with (first
  |(refine wpList_load_row rfl 30 (.tmp 1) rfl S rfl 30 cs (0,0) _ HS.out Tryz.underlying30 rfl HZ.out ?_)
  |fail)
 refine HH.out.mono ?_;intro e w' hq;rcases HQ.out e w' hq with rfl|rfl
 ·have HF:=hid_ofV hq;clear hq HS HZ HH HQ;go_wp2_with fail
  first|go_end0|go_ret
  exact HF.out
 ·exact⟨rfl,hq⟩
set_option maxHeartbeats 400000 in
set_option maxRecDepth 100000 in
theorem cat_idle (A R:Nat) (w:World):CallsD Tryz.prog 58 #[.pointer (some ⟨A,0,none⟩),.pointer (some ⟨R,0,none⟩)] .returning w fun e u' w'=>e=.returned (.tuple #[])∧u'=.returning∧Below w.heap.size w w':=by
 refine callsD_of_wpS Tryz.func58 rfl fun c₀ cs hu=>?_
 apply wpS_seq;apply wpS_region;simp[wpOpsS,go_sem,recoverD,hu,Tryz.ntmps58,Exit.thenS];refine(ipl_nil w).mono ?_;rintro e w' ⟨rfl,hb⟩;refine wpS_cond (t:=false) (by simp[Act.eval,Array.replicate]) ?_;simp only[Bool.false_eq_true,if_false];refine wpS_of_wp (wp_skip ?_);exact⟨rfl,.returning,by rw[←hu],.tuple #[],results_none rfl _ _ _,rfl,rfl,hb⟩
set_option maxHeartbeats 1000000 in
set_option maxRecDepth 100000 in
theorem cat_loss (A R:Nat) (C old:Array Value) (w:World) (hA:w.heap[A]?=some (.cells C 38 (0,0))) (hC:C.size=16) (h1:C.all (·.oneCell')=true) (hR:w.heap[R]?=some (.cells old 40 (0,0))) (hO:old.size=17) :
  CallsD Tryz.prog 58 #[.pointer (some ⟨A,0,none⟩),.pointer (some ⟨R,0,none⟩)] (.panicking [{ v:=lossV,recovered:=false }]) w fun e u' w'=>e=.returned (.tuple #[])∧u'=.panicking [{ v:=lossV,recovered:=true }]∧∃ w1,Below w.heap.size w w1∧w1.heap[R]?=some (.cells old 40 (0,0))∧w'=w1.setRow R (#[.int .i64 11]++C):=by
 have hAl:=(Array.getElem?_eq_some_iff.1 hA).1;have hRl:=(Array.getElem?_eq_some_iff.1 hR).1;refine callsD_of_wpS Tryz.func58 rfl fun c₀ cs hu=>?_
 unfold lossV at *;apply wpS_seq;apply wpS_region;simp[wpOpsS,go_sem,recoverD,hu,Tryz.ntmps58,Exit.thenS];refine(ipl_loss w).mono ?_;rintro e w' ⟨rfl,hb⟩;refine wpS_cond (t:=true) (by simp[Act.eval,Array.replicate]) ?_;simp only[if_true];refine wpS_of_wp ?_;have HA:Hid (w'.heap[A]?=some (.cells C 38 (0,0))∧w'.heap[R]?=some (.cells old 40 (0,0))):=⟨by rw[hb.block _ hAl];exact hA,by rw[hb.block _ hRl];exact hR⟩
 have HX:Hid ((Tryz.prog.info? 38).map (·.size)=some C.size∧C.size=16):=⟨by rw[hC];exact Tryz.sizeG,hC⟩
 obtain⟨X,hX⟩:∃ X,#[.int .i64 11]++C=X:=⟨_,rfl⟩
 have hXs:X.size=17:=by rw[←hX,Array.size_append,hC];rfl
 have HXX:Hid (#[.int .i64 11]++C=X∧(Tryz.prog.info? 40).map (·.size)=some X.size∧old.size=X.size∧X.all (·.oneCell')=true):=⟨hX,by rw[hXs];exact Tryz.sizeR,by rw[hXs];exact hO,by rw[←hX,Array.all_append,h1];simp[Value.oneCell']⟩
 have HB:=hid_ofV hb;clear hA hC h1 hR hO hb hAl hRl hX hXs;go_wp2_with (first
  |(refine wpList_load_row rfl 38 (.tmp 0) rfl A rfl 38 C (0,0) _ HA.out.1 Tryz.underlying38 rfl HX.out.1 ?_)
  |(refine wpList_bR rfl _ (.tmp 4) rfl 11 C rfl rfl HX.out.2 ?_;rw[HXX.out.1])
  |(refine wpList_store_row rfl 40 (.tmp 1) (.tmp 5) rfl R X rfl rfl 40 _ HA.out.2 HXX.out.2.1 HXX.out.2.2.1 HXX.out.2.2.2 ?_)
  |fail)
 refine⟨rfl,_,rfl,.tuple #[],results_none rfl _ _ _,rfl,rfl,w',HB.out,HA.out.2,?_⟩;rw[HXX.out.1]
abbrev DO:=List Int×List PD×Int×Bool
noncomputable def afI (r:ImR) (o:DO):ImR:=if o.2.2.2 then r else imG o.1 o.2.1 o.2.2.1
def afC (c:Int) (o:DO):Int:=if o.2.2.2 then 11 else c
theorem there_row {w:World} {b:Nat} {C:Array Value} {t:TypeId} (h:w.heap[b]?=some (.cells C t (0,0))) (o n:Nat) (hn:o+n≤C.size):w.there b o n:=fun j hj=>
 ⟨by rw[cell_of_row w b (o+j) _ _ _ h];simp;omega,frozen_of_row w b (o+j) _ _ h⟩
theorem range_app {w:World} {b o:Nat} {xs ys:List Value} (h1:w.rangeAt b o xs) (h2:w.rangeAt b (o+xs.length) ys):w.rangeAt b o (xs++ys):=fun j v hv=>by
 by_cases hj:j<xs.length
 ·rw[List.getElem?_append_left hj] at hv;exact h1 j v hv
 ·rw[List.getElem?_append_right (by omega)] at hv;have:=h2 _ v hv
  rwa [show o+xs.length+(j-xs.length)=o+j by omega] at this
theorem Mine.keepN {lo:Nat} {w w':World} {a:Option Addr} {zs:List Int} (h:Mine lo w a zs) (hs:w.heap.size≤w'.heap.size) (hb:∀ ad,a=some ad→w'.heap[ad.block]?=w.heap[ad.block]?):Mine lo w' a zs:=⟨h.1.keep hb hs,h.2.1.keep hb hs,fun ad e=>by have:=h.2.2 ad e;omega⟩
theorem gp_own {B g L gc kc:Nat} {w:World} {zs ks:List Int} {f:Int} {d:Bool} {r:ImR} {ka aSD aSU aF aD aU aT:Option Addr} {nSD cSD nSU cSU mF cF nD cD nU cU cT b1 b2:Nat} (o:Own w B (.slice (some ⟨g,0,none⟩) L gc) zs) (hL:zs.length=L) (k:Mine B w ka ks) (i:I6 B b1 b2 w aSD aSU aF aD aU aT nSD nSU mF nD nU r.n) (l:I6L w aSD aSU aF aD aU aT nSD nSU mF nD nU r) (n1:NotIn g ka) (n2:N6 g aSD aSU aF aD aU aT) (n3:∀ ad,ka=some ad→N6 ad.block aSD aSU aF aD aU aT) (hc:mF≤cF) :
  GP B w #[.slice (some ⟨g,0,none⟩) L gc,.slice none 0 0,.int .i64 f,.bool d,.slice ka ks.length kc,.bool r.ok,.int .u32 r.g,.int .u32 r.t,.slice aSD nSD cSD,.slice aSU nSU cSU,.slice aF mF cF,.slice aD nD cD,.slice aU nU cU,.int .i64 r.k,.slice aT r.n cT,.int .u32 r.nx] zs ks f d r:=by
 subst hL;obtain⟨q1,q2,q3,q4,q5⟩:=own_of o;obtain⟨g',c',e,_,_,_,_,q6⟩:=o.at_;simp only[Value.slice.injEq] at e;rw[←e.1] at q6;exact⟨_,gc,none,0,ka,kc,aSD,nSD,cSD,aSU,nSU,cSU,aF,mF,cF,aD,nD,cD,aU,nU,cU,aT,cT,rfl,⟨q3,hc⟩,⟨q4,q6,fun ad e=>by cases e;exact⟨q1,q2⟩⟩,k,l,⟨b1,b2,i⟩,fun ad e=>by cases e;exact⟨n1,n2⟩,n3⟩
set_option maxRecDepth 100000 in
set_option maxHeartbeats 8000000 in
theorem afs_any {lo:Nat} (G S:Nat) (C cs:Array Value) (c:Int) (zs ks:List Int) (f:Int) (r:ImR) (o:DO) (w:World) (hG:w.heap[G]?=some (.cells C 38 (0,0))) (h:GL lo w C zs ks f false r) (hb:ImLe r) (hz:zs.length≤1048576) (hz0:0<zs.length) (hk:ks.length≤1048576)
  (hS:w.heap[S]?=some (.cells cs 30 (0,0))) (hcs:cs.size=4) (ho:o.2.2.2=false→o.2.1=[]) (hol:o.1.length=zs.length) (bz:Byte o.1)
  (hW:∀(D g gc B H:Nat) (X:List Value) (ww:World),Below w.heap.size w ww→DbP D g zs.length gc B H X 38 zs [] f false ww→D≠g→Calls Tryz.prog 11 #[.pointer (some ⟨D,0,none⟩),.agg cs] ww (WsP D g zs.length gc B H X 38 o ww)) :
  Calls Tryz.prog 35 #[.pointer (some ⟨G,0,none⟩),.int .i64 c,.func (Fn.func 36) #[] #[.pointer (some ⟨S,0,none⟩)]] w fun e w'=>∃ X,e=.returned (.agg X)∧RTQ w.heap.size w' X (afC c o) o.1 o.2.1 ks o.2.2.1 o.2.2.2 (afI r o)∧Below w.heap.size w w':=by
 have hmf:∀(fn:Fn) (first cap:Array Value) (w:World),(Instr.makeFunc fn first cap).run Tryz.prog w=.ok (.func fn first cap) w:=fun _ _ _ _=>rfl
 have HO0:Hid (OE w 40 zrR (w.alloc (.cells zrR 40))):=OE.start _ _ _;have HG:=hid_ofV (And.intro hG h.row.1);have HSG:Hid ((Tryz.prog.info? 38).map (·.size)=some C.size):=by show _=_;rw[h.row.1];exact Tryz.sizeG
 have HCP:=hid_ofV (fun ww (b:Below w.heap.size w ww)=>cpG_any C zs ks f false r ww (h.below b) hb hz hk);have HL:Hid (G<w.heap.size∧S<w.heap.size):=⟨(Array.getElem?_eq_some_iff.1 hG).1,(Array.getElem?_eq_some_iff.1 hS).1⟩
 have HS:=hid_ofV (And.intro hS hcs);have HW:=hid_ofV hW;have HZ:=hid_ofV (And.intro hz (And.intro hz0 (And.intro ho (And.intro hol bz))));clear hG h hb hz hk hS hcs hW hz0 ho hol bz
 go_enter_defers Tryz.func35,Tryz.ntmps35
 go_upto_region 1 with fail
 change Code.wp _ _ _ _ (w.alloc (.cells zrR 40));generalize w.alloc (.cells zrR 40)=w1 at *;have HG1:Hid (w1.heap[G]?=some (.cells C 38 (0,0))):=by show _=_;rw[HO0.out.below.block _ HL.out.1];exact HG.out.1
 go_wp2_with (first
  |(refine wpList_load_row rfl 38 (.tmp 9) rfl G rfl 38 C (0,0) _ HG1.out Tryz.underlying38 rfl HSG.out ?_)
  |fail)
 refine(HCP.out w1 HO0.out.below).mono ?_;rintro e w2 ⟨C',rfl,g2,hb2⟩;obtain⟨g,gc,ka,kc,aSD,nSD,cSD,aSU,nSU,cSU,aF,mF,cF,aD,nD,cD,aU,nU,cU,aT,cT,hC,own2,ki2,hcF⟩:=gpn_lit g2 HZ.out.2.1;have b3:Below w2.heap.size w2 (w2.alloc (.cells C' 38)):=(Below.refl _ _).alloc (Nat.le_refl _) _;have hg2:=(own_of own2).2.1;have HO3:Hid (OE w 40 zrR (w2.alloc (.cells C' 38))):=(HO0.out.call hb2).call b3;have HZ2:Hid ((w2.alloc (.cells #[.slice none 0 0,.slice none 0 0,.int .i64 0,.bool false,.slice none 0 0,.bool false,.int .u32 0,.int .u32 0,.slice none 0 0,.slice none 0 0,.slice none 0 0,.slice none 0 0,.slice none 0 0,.int .i64 0,.slice none 0 0,.int .u32 0] 38)).heap[w2.heap.size]?=some (.cells #[.slice none 0 0,.slice none 0 0,.int .i64 0,.bool false,.slice none 0 0,.bool false,.int .u32 0,.int .u32 0,.slice none 0 0,.slice none 0 0,.slice none 0 0,.slice none 0 0,.slice none 0 0,.int .i64 0,.slice none 0 0,.int .u32 0] 38 (0,0))∧(Tryz.prog.info? 38).map (·.size)=some C'.size∧(#[.slice none 0 0,.slice none 0 0,.int .i64 0,.bool false,.slice none 0 0,.bool false,.int .u32 0,.int .u32 0,.slice none 0 0,.slice none 0 0,.slice none 0 0,.slice none 0 0,.slice none 0 0,.int .i64 0,.slice none 0 0,.int .u32 0]:Array Value).size=C'.size∧C'.all (·.oneCell')=true):=⟨heap_alloc_new w2 _,by rw[g2.1.gl.row.1];exact Tryz.sizeG,by rw[g2.1.gl.row.1];rfl,g2.1.gl.row.2⟩
 have HD3:Hid (DbP w2.heap.size g zs.length gc w1.heap.size w2.heap.size [.slice ka ks.length kc,.bool r.ok,.int .u32 r.g,.int .u32 r.t,.slice aSD nSD cSD,.slice aSU nSU cSU,.slice aF mF cF,.slice aD nD cD,.slice aU nU cU,.int .i64 r.k,.slice aT r.n cT,.int .u32 r.nx] 38 zs [] f false (w2.alloc (.cells C' 38))):=⟨w2.heap.size+1,_,[],by omega,by omega,by omega,by simp,by rw[heap_alloc_new w2 _,hC],own2.grow b3,POwn.nil _ _,rfl,fun _=>rfl⟩
 have HK3:Hid (KI9 w1.heap.size g w2.heap.size (w2.alloc (.cells C' 38)) ks r ka aSD aSU aF aD aU aT nSD nSU mF nD nU):=ki2.yr (A:=w2.heap.size) (YR.of_below b3) (.inl (Nat.le_refl _));have HN3:Hid (NotIn w2.heap.size ka∧N6 w2.heap.size aSD aSU aF aD aU aT):=⟨fun ad e=>by have:=ki2.kH ad e;omega,ki2.iH _ (Nat.le_refl _)⟩
 have HQ:Hid (w.heap.size<w1.heap.size∧w1.heap.size≤w2.heap.size∧g<w2.heap.size∧w1.heap.size≤g):=⟨HO0.out.lt,hb2.size,hg2,(own_of own2).1⟩
 have HCF:=hid_ofV hcF;clear hcF hb2 g2 hC own2 ki2 b3 hg2 HO0 HG HSG HCP HG1
 go_upto_region 2 with (first
  |(refine wpList_store_row rfl 38 (.tmp 7) (.tmp 11) rfl w2.heap.size C' rfl rfl 38 _ HZ2.out.1 HZ2.out.2.1 HZ2.out.2.2.1 HZ2.out.2.2.2 ?_)
  |fail)
 rw[World.setRow_alloc_new];clear HZ2;generalize w2.alloc (.cells C' 38)=w3 at *;generalize w2.heap.size=A at *;go_wp2_with fail;have HCL:=cl_any S A cs (WsP A g zs.length gc w1.heap.size A [.slice ka ks.length kc,.bool r.ok,.int .u32 r.g,.int .u32 r.t,.slice aSD nSD cSD,.slice aSU nSU cSU,.slice aF mF cF,.slice aD nD cD,.slice aU nU cU,.int .i64 r.k,.slice aT r.n cT,.int .u32 r.nx] 38 o w3) w3 (by rw[HO3.out.below.block _ HL.out.2];exact HS.out.1) HS.out.2 (HW.out A g gc w1.heap.size A [.slice ka ks.length kc,.bool r.ok,.int .u32 r.g,.int .u32 r.t,.slice aSD nSD cSD,.slice aSU nSU cSU,.slice aF mF cF,.slice aD nD cD,.slice aU nU cU,.int .i64 r.k,.slice aT r.n cT,.int .u32 r.nx] w3 HO3.out.below HD3.out (by have:=HQ.out;omega)) (fun e w' hq=>by rw[hq.1];unfold cmE;cases o.2.2.2<;>simp);refine HCL.mono ?_;clear HCL HD3;rintro e w4 ⟨he,d4,y4⟩;have k4:=HK3.out.yr y4 (.inr HN3.out);have R4:w4.heap[w.heap.size]?=some (.cells zrR 40 (0,0)):=by rw[y4.block _ HO3.out.lt (by have:=HQ.out;omega) (by have:=HQ.out;omega)];exact HO3.out.b0
 have B4:Below w.heap.size w w4:=HO3.out.below.trans (y4.below (by have:=HQ.out;omega) (by have:=HQ.out;omega) HO3.out.below.size);obtain⟨z9,p9,f9,d9⟩:=o;have hol:z9.length=zs.length:=HZ.out.2.2.2.1;cases d9 with
 |true=>
  obtain rfl:e=lossE:=he;obtain⟨C4,r4,q4⟩:=gtq_of d4 hol k4 HCF.out;refine leaves_cons (f:=58) (args:=#[.pointer (some ⟨A,0,none⟩),.pointer (some ⟨w.heap.size,0,none⟩)]) (by simp) (by simp[go_sem]) ?_;refine(cat_loss A w.heap.size C4 zrR w4 r4 q4.row.1 q4.row.2 R4 rfl).mono ?_;rintro e u' w5 ⟨rfl,rfl,w6,b6,hR6,rfl⟩;obtain⟨X,hX,hR⟩:=rtq_of (c:=11) (q4.below b6);rw[hX];refine⟨.agg X,results_cell_row rfl _ _ w.heap.size 40 _ (0,0) _ rfl (setRow_heap _ _ _ _ _ _ hR6) Tryz.underlying40 rfl (by rw[hR.row.1];exact Tryz.sizeR),X,rfl,hR.put HQ.out.1,(B4.trans (b6.mono B4.size)).trans ((Wr.setRow _ _ _).below (Nat.le_refl _))⟩
 |false=>
  obtain rfl:e=.returned (.tuple #[]):=he;obtain rfl:p9=[]:=HZ.out.2.2.1 rfl;obtain⟨E,cv,qs,h1,h2,h3,h4,hr,ho,hp,hq,hn⟩:=d4;obtain rfl:=hn rfl;have o4:=own_of ho;have HI:=hid_ofV (ild_any (some ⟨g,0,none⟩) none zs.length gc 0 0 f9 false z9 [] w4 hol rfl o4.2.2.2.1 (.inl rfl) (by rw[←hol];exact o4.2.2.1) HZ.out.1 (by decide) (by simp) HZ.out.2.2.2.2 (by simp[Byte]));have HR4:Hid (w4.heap[A]?=some (.cells #[.slice (some ⟨g,0,none⟩) zs.length gc,.slice none 0 0,.int .i64 f9,.bool false,.slice ka ks.length kc,.bool r.ok,.int .u32 r.g,.int .u32 r.t,.slice aSD nSD cSD,.slice aSU nSU cSU,.slice aF mF cF,.slice aD nD cD,.slice aU nU cU,.int .i64 r.k,.slice aT r.n cT,.int .u32 r.nx] 38 (0,0))∧A<w4.heap.size):=⟨hr,(Array.getElem?_eq_some_iff.1 hr).1⟩
  have HM4:Hid (w4.rangeAt A 0 [.slice (some ⟨g,0,none⟩) zs.length gc,.slice none 0 0,.int .i64 f9,.bool false]):=mid_row hr 0 _ rfl;have HO4:=hid_ofV ho;have HK4:=hid_ofV k4;have HB4:=hid_ofV (And.intro R4 B4);have HSD:Hid ((Tryz.prog.info? 27).map (·.size)=some 4):=by show _=_;kernel_rfl
  have HSI:Hid ((Tryz.prog.info? 36).map (·.size)=some 11):=by show _=_;kernel_rfl
  clear k4 R4 B4 hol h1 h2 h3 h4 hr ho hp hq hn o4 y4 HO3 HK3;go_wp2_with (first
   |(refine wpList_load_mid rfl 27 (.tmp 16) rfl A 0 rfl [.slice (some ⟨g,0,none⟩) zs.length gc,.slice none 0 0,.int .i64 f9,.bool false] _ HM4.out Tryz.underlying27 rfl HSD.out ?_)
   |fail)
  refine HI.out.mono ?_;rintro e w5 ⟨v,rfl,hI,hb5⟩;obtain⟨q,hq9⟩:∃ q,imG z9 [] f9=q:=⟨_,rfl⟩
  rw[hq9] at hI;have HQ9:=hid_ofV hq9;clear hq9;obtain⟨pSD,kSD,lSD,pSU,kSU,lSU,pF,kF,lF,pD,kD,lD,pU,kU,lU,pT,lT,b1,b2,rfl,i5,l5,c5⟩:=hI.six2;have hr5:w5.heap[A]?=some (.cells #[.slice (some ⟨g,0,none⟩) zs.length gc,.slice none 0 0,.int .i64 f9,.bool false,.slice ka ks.length kc,.bool r.ok,.int .u32 r.g,.int .u32 r.t,.slice aSD nSD cSD,.slice aSU nSU cSU,.slice aF mF cF,.slice aD nD cD,.slice aU nU cU,.int .i64 r.k,.slice aT r.n cT,.int .u32 r.nx] 38 (0,0)):=by rw[hb5.block _ HR4.out.2];exact HR4.out.1
  have th5:w5.there A 5 11:=there_row hr5 5 11 (by simp);have HTH:=hid_ofV th5;have HRG:Hid ((w5.setCells A 5 [.bool q.ok,.int .u32 q.g,.int .u32 q.t,.slice pSD kSD lSD,.slice pSU kSU lSU,.slice pF kF lF,.slice pD kD lD,.slice pU kU lU,.int .i64 q.k,.slice pT q.n lT,.int .u32 q.nx]).rangeAt A 0 [.slice (some ⟨g,0,none⟩) zs.length gc,.slice none 0 0,.int .i64 f9,.bool false,.slice ka ks.length kc,.bool q.ok,.int .u32 q.g,.int .u32 q.t,.slice pSD kSD lSD,.slice pSU kSU lSU,.slice pF kF lF,.slice pD kD lD,.slice pU kU lU,.int .i64 q.k,.slice pT q.n lT,.int .u32 q.nx]):=range_app (World.rangeAt_setCells_apart (mid_row hr5 0 [.slice (some ⟨g,0,none⟩) zs.length gc,.slice none 0 0,.int .i64 f9,.bool false,.slice ka ks.length kc] rfl) A 5 _ (.inr (.inl (by simp)))) (World.rangeAt_setCells_same w5 A 5 _ th5);have hw:=Wr.setCells A [.bool q.ok,.int .u32 q.g,.int .u32 q.t,.slice pSD kSD lSD,.slice pSU kSU lSU,.slice pF kF lF,.slice pD kD lD,.slice pU kU lU,.int .i64 q.k,.slice pT q.n lT,.int .u32 q.nx] 5 w5;have hgA:g<A:=by have:=HQ.out;omega
  have hAl:=HR4.out.2;have n6:∀ j,j<w4.heap.size→N6 j pSD pSU pF pD pU pT:=fun j hj=>by
   obtain⟨l1,l2,l3,l4,l5,l6⟩:=i5.l6;exact⟨fun ad e=>by have:=l1 ad e;omega,fun ad e=>by have:=l2 ad e;omega,fun ad e=>by have:=l3 ad e;omega,fun ad e=>by have:=l4 ad e;omega,fun ad e=>by have:=l5 ad e;omega,fun ad e=>by have:=l6 ad e;omega⟩
  have hP:GP w1.heap.size (w5.setCells A 5 [.bool q.ok,.int .u32 q.g,.int .u32 q.t,.slice pSD kSD lSD,.slice pSU kSU lSU,.slice pF kF lF,.slice pD kD lD,.slice pU kU lU,.int .i64 q.k,.slice pT q.n lT,.int .u32 q.nx]) [.slice (some ⟨g,0,none⟩) zs.length gc,.slice none 0 0,.int .i64 f9,.bool false,.slice ka ks.length kc,.bool q.ok,.int .u32 q.g,.int .u32 q.t,.slice pSD kSD lSD,.slice pSU kSU lSU,.slice pF kF lF,.slice pD kD lD,.slice pU kU lU,.int .i64 q.k,.slice pT q.n lT,.int .u32 q.nx].toArray z9 ks f9 false q:=by
   have i6:=(i5.keep (Nat.le_of_eq hw.size.symm) (fun k hk _=>hw.block k (by omega)))
   refine gp_own ((HO4.out.grow hb5).keep (fun k e=>hw.block k (by simp[Value.ownBlock] at e;omega))) HZ.out.2.2.2.1 ((HK4.out.k.below hb5).keepN (Nat.le_of_eq hw.size.symm) (fun ad e=>hw.block _ (fun e2=>HN3.out.1 ad e e2.symm))) (i6.low (by have:=HQ.out;omega)) (l5.keep i5.l6 (Nat.le_of_eq hw.size.symm) (fun k hk _=>hw.block k (by omega))) HK4.out.gk.1 (n6 g (by omega)) (fun ad e=>n6 _ (by have:=(HK4.out.k.2.2 ad e).2;omega)) c5
  have HB6:Hid ((w5.setCells A 5 [.bool q.ok,.int .u32 q.g,.int .u32 q.t,.slice pSD kSD lSD,.slice pSU kSU lSU,.slice pF kF lF,.slice pD kD lD,.slice pU kU lU,.int .i64 q.k,.slice pT q.n lT,.int .u32 q.nx]).heap[w.heap.size]?=some (.cells zrR 40 (0,0))∧Below w.heap.size w (w5.setCells A 5 [.bool q.ok,.int .u32 q.g,.int .u32 q.t,.slice pSD kSD lSD,.slice pSU kSU lSU,.slice pF kF lF,.slice pD kD lD,.slice pU kU lU,.int .i64 q.k,.slice pT q.n lT,.int .u32 q.nx])):=⟨by rw[hw.block _ (by have:=HQ.out;omega),hb5.block _ (Array.getElem?_eq_some_iff.1 HB4.out.1).1];exact HB4.out.1,(HB4.out.2.trans (hb5.mono HB4.out.2.size)).trans (hw.below (by have:=HQ.out;omega))⟩
  obtain⟨X,hX,hR⟩:=rtq_of (c:=c) (hP.gq (by rw[hw.size];have:=hb5.size;have:=HQ.out;omega));have HRQ:=hid_ofV hR;have HXX:Hid (#[.int .i64 c]++[.slice (some ⟨g,0,none⟩) zs.length gc,.slice none 0 0,.int .i64 f9,.bool false,.slice ka ks.length kc,.bool q.ok,.int .u32 q.g,.int .u32 q.t,.slice pSD kSD lSD,.slice pSU kSU lSU,.slice pF kF lF,.slice pD kD lD,.slice pU kU lU,.int .i64 q.k,.slice pT q.n lT,.int .u32 q.nx].toArray=X∧(Tryz.prog.info? 40).map (·.size)=some X.size∧zrR.size=X.size∧X.all (·.oneCell')=true):=⟨hX,by rw[hR.row.1];exact Tryz.sizeR,by rw[hR.row.1];rfl,hR.row.2⟩
  clear c5 hr5 th5 hw hgA hAl n6 hP hX hR i5 l5 hb5 hI HI HR4 HM4 HO4 HK4 HB4
  go_upto_region 5 with (first
   |(refine wpList_store_mid rfl 36 (.tmp 19) (.tmp 18) rfl A 5 #[.bool q.ok,.int .u32 q.g,.int .u32 q.t,.slice pSD kSD lSD,.slice pSU kSU lSU,.slice pF kF lF,.slice pD kD lD,.slice pU kU lU,.int .i64 q.k,.slice pT q.n lT,.int .u32 q.nx] rfl rfl HTH.out HSI.out (by simp[Value.oneCell']) ?_)
   |fail)
  try dsimp only[]
  generalize w5.setCells A 5 [.bool q.ok,.int .u32 q.g,.int .u32 q.t,.slice pSD kSD lSD,.slice pSU kSU lSU,.slice pF kF lF,.slice pD kD lD,.slice pU kU lU,.int .i64 q.k,.slice pT q.n lT,.int .u32 q.nx]=w6 at *;go_wp2_with (first
   |(refine wpList_load_mid rfl 38 (.tmp 7) rfl A 0 rfl [.slice (some ⟨g,0,none⟩) zs.length gc,.slice none 0 0,.int .i64 f9,.bool false,.slice ka ks.length kc,.bool q.ok,.int .u32 q.g,.int .u32 q.t,.slice pSD kSD lSD,.slice pSU kSU lSU,.slice pF kF lF,.slice pD kD lD,.slice pU kU lU,.int .i64 q.k,.slice pT q.n lT,.int .u32 q.nx] _ HRG.out Tryz.underlying38 rfl Tryz.sizeG ?_)
   |(refine wpList_bR rfl (.tmp 20) (.tmp 21) rfl c [.slice (some ⟨g,0,none⟩) zs.length gc,.slice none 0 0,.int .i64 f9,.bool false,.slice ka ks.length kc,.bool q.ok,.int .u32 q.g,.int .u32 q.t,.slice pSD kSD lSD,.slice pSU kSU lSU,.slice pF kF lF,.slice pD kD lD,.slice pU kU lU,.int .i64 q.k,.slice pT q.n lT,.int .u32 q.nx].toArray rfl rfl rfl ?_;rw[HXX.out.1])
   |(refine wpList_store_row rfl 40 (.tmp 6) (.tmp 22) rfl w.heap.size X rfl rfl 40 _ HB6.out.1 HXX.out.2.1 HXX.out.2.2.1 HXX.out.2.2.2 ?_)
   |fail)
  refine leaves_cons (f:=58) (args:=#[.pointer (some ⟨A,0,none⟩),.pointer (some ⟨w.heap.size,0,none⟩)]) (by simp) (by simp[go_sem]) ?_;refine(cat_idle A w.heap.size _).mono ?_;rintro e u' w7 ⟨rfl,rfl,hb7⟩;have hr7:w7.heap[w.heap.size]?=some (.cells X 40 (0,0)):=by rw[hb7.block _ (by rw[size_setRow];exact(Array.getElem?_eq_some_iff.1 HB6.out.1).1)];exact setRow_heap _ _ _ _ _ _ HB6.out.1
  exact⟨.agg X,results_cell_row rfl _ _ w.heap.size 40 _ (0,0) _ rfl hr7 Tryz.underlying40 rfl HXX.out.2.1,X,rfl,by rw[show afI r (z9,[],f9,false)=q from HQ9.out];exact(HRQ.out.put HQ.out.1).below hb7,(HB6.out.2.trans ((Wr.setRow _ _ _).below (Nat.le_refl _))).trans (hb7.mono (by rw[size_setRow];exact HB6.out.2.size))⟩
section
variable {w:World} {g:Nat} {a:Option Addr} {L c:Nat}
theorem jsecC (c0:w.cell? ⟨g,0,none⟩=some (.slice a L c)) (b1:8≤L/64) (b2:L/64≤256) :
  Calls Tryz.prog 17 #[.pointer (some ⟨g,0,none⟩)] w fun e w'=>e=.returned (.int .u32 ((L/64-4:Nat):Int))∧w'=w:=by
 go_enter Tryz.func17,Tryz.ntmps17;go_wp2
 go_ret
 refine⟨?_,rfl⟩;simp;omega
theorem fsecC (c0:w.cell? ⟨g,0,none⟩=some (.slice a L c)) (b1:8≤L/64) (b2:L/64≤256) (q:Nat) (hq:q<4294967296) :
  Calls Tryz.prog 65 #[.pointer (some ⟨g,0,none⟩),.int .u32 (q:Int)] w fun e w'=>e=.returned (.int .i64 ((4+q%(L/64-4):Nat):Int))∧w'=w:=by
 have A:=hid_ofV (jsecC c0 b1 b2);obtain⟨J,hJ⟩:∃ J,L/64-4=J:=⟨_,rfl⟩
 have hJ0:((J:Int) == 0)=false:=by simp;omega
 have hJ1:0<J:=by omega
 have hJ2:J≤252:=by omega
 rw[hJ] at A ⊢;clear hJ b1 b2 c0;go_enter Tryz.func65,Tryz.ntmps65;go_wp2_with fail;refine A.out.mono ?_;rintro e _ ⟨rfl,rfl⟩;clear A;have e1:(q:Int)%(J:Int)=((q%J:Nat):Int):=by simp
 have hlt:=Nat.mod_lt q hJ1;generalize hr:q%J=r at *;go_wp2
 go_ret
 refine⟨?_,rfl⟩;simp;exact e1.symm
end
set_option maxRecDepth 100000 in
set_option maxHeartbeats 2000000 in
theorem wfr_any (D g L gc B H:Nat) (X:List Value) (q:Nat) (kind a b:Int) (zs:List Int) (w:World) (h:DbP D g L gc B H X 38 zs [] (-1) false w) (hDg:D≠g) (hL:zs.length=L) (hz:L≤1048576) (v1:L%64=0) (v2:8≤L/64) (v3:L/64≤256) (us:q<4294967296) (ua:U32 a) (ub:U32 b) :
  Calls Tryz.prog 42 #[.pointer (some ⟨D,0,none⟩),.agg #[.int .u32 (q:Int),.int .i64 kind,.int .u32 a,.int .u32 b]] w (WsP D g L gc B H X 38 (overL zs (4+q%(L/64-4)) (encI q kind a b),[],-1,false) w):=by
 have b1:Below w.heap.size w (w.alloc (.cells #[.int .u32 (q:Int),.int .i64 kind,.int .u32 a,.int .u32 b] 92)):=(Below.refl _ _).alloc (Nat.le_refl _) _;have HR:Hid ((w.alloc (.cells #[.int .u32 (q:Int),.int .i64 kind,.int .u32 a,.int .u32 b] 92)).heap[w.heap.size]?=some (.cells #[.int .u32 (q:Int),.int .i64 kind,.int .u32 a,.int .u32 b] 92 (0,0))):=heap_alloc_new w _;have HD:=hid_ofV (h.below b1);have HY:=hid_ofV (YR.of_below (D:=D) (g:=g) b1);have HV:=hid_ofV (And.intro hDg (And.intro hL (And.intro hz (And.intro v1 (And.intro v2 (And.intro v3 (And.intro us (And.intro ua ub))))))));clear h b1 hDg hL hz v1 v2 v3 us ua ub;go_enter Tryz.func42,Tryz.ntmps42
 go_upto_region 1 with fail
 generalize w.alloc (.cells #[.int .u32 (q:Int),.int .i64 kind,.int .u32 a,.int .u32 b] 92)=w1 at *;have c0:w1.cell? ⟨w.heap.size,0,none⟩=some (.int .u32 (q:Int)):=by rw[cell_of_row w1 _ 0 _ _ _ HR.out];rfl
 have HD0:Hid (w1.cell? ⟨D,0,none⟩=some (.slice (some ⟨g,0,none⟩) L gc)):=by
  obtain⟨E,cv,qs,h1,h2,h3,h4,hr,ho,hp,hq,hn⟩:=HD.out;show _=_
  rw[cell_of_row w1 D 0 _ _ _ hr];rfl
 have HFS:=hid_ofV (fsecC HD0.out HV.out.2.2.2.2.1 HV.out.2.2.2.2.2.1 q HV.out.2.2.2.2.2.2.1);have HSL:Hid (4+q%(L/64-4)<L/64):=by
  show _<_
  have:=HV.out.2.2.2.2.1;have:=Nat.mod_lt q (show 0<L/64-4 by omega);omega
 generalize 4+q%(L/64-4)=s at *;go_wp2_with fail;refine HFS.out.mono ?_;rintro e w9 ⟨rfl,e9⟩;obtain rfl:w1=w9:=e9.symm;clear c0 HFS;go_wp2_with fail;refine(encoded_any w.heap.size (q:Int) kind a b w1 (Array.getElem?_eq_some_iff.1 HR.out).1 (by rw[cell_of_row w1 _ 0 _ _ _ HR.out];rfl) (by rw[cell_of_row w1 _ 1 _ _ _ HR.out];rfl) (by rw[cell_of_row w1 _ 2 _ _ _ HR.out];rfl) (by rw[cell_of_row w1 _ 3 _ _ _ HR.out];rfl) ⟨by omega,by have:=HV.out.2.2.2.2.2.2.1;omega⟩ HV.out.2.2.2.2.2.2.2.1 HV.out.2.2.2.2.2.2.2.2).mono ?_;rintro e w2 ⟨rfl,hb2⟩;have HD2:=hid_ofV (HD.out.below hb2);have HY2:=hid_ofV (HY.out.trans (YR.of_below (D:=D) (g:=g) hb2));have HZL:=hid_ofV (encI_len (q:Int) kind a b);clear hb2 HD HY HR HD0;generalize encI (q:Int) kind a b=z at *;go_wp2_with fail;refine(dWy HD2.out HV.out.1 HZL.out (.inl rfl) (by decide) (.inr rfl) _).mono ?_;rintro e w3 ⟨rfl,hd3,hy3⟩;have HD3:=hid_ofV hd3;have HY3:=hid_ofV (HY2.out.trans hy3);clear hd3 hy3 HD2 HY2;go_wp2_with fail;refine(dSy HD3.out HV.out.1 HV.out.2.1 HV.out.2.2.1 HV.out.2.2.2.1 HZL.out HSL.out (.inl rfl) (by decide) (.inr rfl)).mono ?_;rintro e w4 ⟨rfl,hd4,hy4⟩;have HF:Hid (DbP D g L gc B H X 38 (overL zs s z) [] (-1) false w4∧YR D g w w4):=⟨hd4,HY3.out.trans hy4⟩
 clear hd4 hy4 HD3 HY3;go_wp2_with fail
 first|go_end0|go_ret
 exact⟨rfl,HF.out.1,HF.out.2⟩
set_option maxRecDepth 100000 in
set_option maxHeartbeats 4000000 in
theorem jnf_any (G L c j:Nat) (a:Option Addr) (nx tl:Int) (w:World) (hG:G<w.heap.size) (c0:w.cell? ⟨G,0,none⟩=some (.slice a L c)) (c15:w.cell? ⟨G,15,none⟩=some (.int .u32 nx)) (c7:w.cell? ⟨G,7,none⟩=some (.int .u32 tl)) (v2:8≤L/64) (v3:L/64≤256)
  (h1:nx=tl+j) (h2:0≤tl) (h3:nx<4000000000) (h4:j<L/64-4) :
  Calls Tryz.prog 39 #[.pointer (some ⟨G,0,none⟩)] w fun e w'=>e=.returned (.bool false)∧Below w.heap.size w w':=by
 have HG:Hid (G<w.heap.size∧w.cell? ⟨G,15,none⟩=some (.int .u32 nx)∧w.cell? ⟨G,7,none⟩=some (.int .u32 tl)):=⟨hG,c15,c7⟩
 have HW:Hid (IntKind.u32.wrap (nx-tl)=j):=by show _=_;rw[IntKind.wrap_u32];omega
 have HJ:Hid (∀ ww,Below w.heap.size w ww→Calls Tryz.prog 17 #[.pointer (some ⟨G,0,none⟩)] ww fun e w'=>e=.returned (.int .u32 ((L/64-4:Nat):Int))∧Below ww.heap.size ww w'):=fun ww b=>by
  refine(jsecC (by rw[b.cell (p:=⟨G,0,none⟩) hG];exact c0) v2 v3).mono ?_;rintro e w' ⟨rfl,rfl⟩;exact⟨rfl,Below.refl _ _⟩
 have HJN:Hid (((j:Int) == ((L/64-4:Nat):Int))=false):=by show _=_;simp;omega
 have HN4:Hid ((nx == 4000000000)=false):=by show _=_;simp;omega
 clear hG c0 c15 c7 v2 v3 h1 h2 h3 h4;generalize ((L/64-4:Nat):Int)=J at *;go_enter Tryz.func39,Tryz.ntmps39;go_wp2_with fail;refine wp_region_any (by kernel_rfl) ?_;refine wpAny_slotsU (fun _ a b=>Below a.heap.size a b) (frame:=(fun (a b:Value)=>fun (t:Nat→Value)=>({ tmps:=List.toArray [a,b,t 25,t 0,t 1,t 2,t 3,t 4,t 5,t 6,t 7,t 8,t 9,t 10,t 11,t 12,t 13,t 14,t 15,t 16,t 17,t 18,t 19,t 20,t 21,t 22,t 23,t 24],defers:=[] }:Act)) _ _)
  (Ext:=fun Ls u w'=>ApX w [] Ls u w') (Good:=fun i Ls w' v=>if i=0 then v=.pointer (some ⟨G,0,none⟩) else if i=1 then v=.pointer (some ⟨G,0,none⟩) else if i=2 then v=.pointer (some ⟨G,5,none⟩) else if i=3 then v=.pointer (some ⟨G,15,none⟩) else if i=4 then v=.int .u32 nx else if i=5 then v=.pointer (some ⟨G,0,none⟩) else if i=6 then v=.pointer (some ⟨G,0,none⟩) else if i=7 then v=.pointer (some ⟨G,5,none⟩) else if i=8 then v=.pointer (some ⟨G,6,none⟩) else if i=9 then v=.pointer (some ⟨G,7,none⟩) else if i=10 then v=.int .u32 tl else if i=11 then v=.int .u32 (j:Int) else if i=12 then v=.pointer (some ⟨G,0,none⟩) else if i=13 then v=.pointer (some ⟨G,0,none⟩) else if i=14 then v=.pointer (some ⟨G,0,none⟩) else if i=15 then v=.int .u32 J else if i=16 then v=.bool false else if i=17 then v=.bool false else if i=18 then v=.pointer (some ⟨G,0,none⟩) else if i=19 then v=.pointer (some ⟨G,0,none⟩) else if i=20 then v=.pointer (some ⟨G,5,none⟩) else if i=21 then v=.pointer (some ⟨G,15,none⟩) else if i=22 then v=.int .u32 nx else if i=23 then v=.bool false else if i=24 then v=.bool false else if i=25 then v=.bool false else True) ?hstab (by kernel_rfl) ?hop ?hdone _ _ ((fun (x0 x1 x2 x3 x4 x5 x6 x7 x8 x9 x10 x11 x12 x13 x14 x15 x16 x17 x18 x19 x20 x21 x22 x23 x24 x25:Value)=>fun (i:Nat)=>if i=0 then x0 else if i=1 then x1 else if i=2 then x2 else if i=3 then x3 else if i=4 then x4 else if i=5 then x5 else if i=6 then x6 else if i=7 then x7 else if i=8 then x8 else if i=9 then x9 else if i=10 then x10 else if i=11 then x11 else if i=12 then x12 else if i=13 then x13 else if i=14 then x14 else if i=15 then x15 else if i=16 then x16 else if i=17 then x17 else if i=18 then x18 else if i=19 then x19 else if i=20 then x20 else if i=21 then x21 else if i=22 then x22 else if i=23 then x23 else if i=24 then x24 else if i=25 then x25 else undef) _ _ _ _ _ _ _ _ _ _ _ _ _ _ _ _ _ _ _ _ _ _ _ _ _ _) _ (by simp) ?ext ?start (by simp)
 case start=>intro i hi h;exact absurd h (by rw[Array.getD_eq_getD_getElem?,Array.getElem?_replicate];split<;>simp)
 case ext=>exact(ApX.start w [] _ _ (fun i=>by rw[Array.getD_eq_getD_getElem?,Array.getElem?_replicate];split<;>rfl)).drew
 case hstab=>
  intro j Ls w9 w' i v hM _ _ h;exact h
 case hop=>
  intro i o Ls t w' ho hLi hx hdep K hK;have hi:i<26:=(Array.getElem?_eq_some_iff.1 ho).1;obtain rfl|rfl|rfl|rfl|rfl|rfl|rfl|rfl|rfl|rfl|rfl|rfl|rfl|rfl|rfl|rfl|rfl|rfl|rfl|rfl|rfl|rfl|rfl|rfl|rfl|rfl:i=0∨i=1∨i=2∨i=3∨i=4∨i=5∨i=6∨i=7∨i=8∨i=9∨i=10∨i=11∨i=12∨i=13∨i=14∨i=15∨i=16∨i=17∨i=18∨i=19∨i=20∨i=21∨i=22∨i=23∨i=24∨i=25:=by omega
  all_goals(simp at ho;subst ho)
  ·clear hdep;have hK':=hK w' (.pointer (some ⟨G,0,none⟩)) (by simp) (hx.step 0 _ (Below.refl _ _) (fun h=>absurd h (by decide))) (Below.refl _ _);clear hK;rw[if_pos (by rfl)];go_simp;simpa[upd] using hK'
  ·have d0:t 0=.pointer (some ⟨G,0,none⟩):=by simpa using(hdep ⟨0,.data⟩ (by simp) rfl).2
   clear hdep;have hK':=hK w' (.pointer (some ⟨G,0,none⟩)) (by simp) (hx.step 1 _ (Below.refl _ _) (fun h=>absurd h (by decide))) (Below.refl _ _);clear hK;rw[if_pos (by rfl)];go_simp;simpa[upd,d0] using hK'
  ·have d1:t 1=.pointer (some ⟨G,0,none⟩):=by simpa using(hdep ⟨1,.data⟩ (by simp) rfl).2
   clear hdep;have hK':=hK w' (.pointer (some ⟨G,5,none⟩)) (by simp) (hx.step 2 _ (Below.refl _ _) (fun h=>absurd h (by decide))) (Below.refl _ _);clear hK;rw[if_pos (by rfl)];go_simp;simpa[upd,d1] using hK'
  ·have d2:t 2=.pointer (some ⟨G,5,none⟩):=by simpa using(hdep ⟨2,.data⟩ (by simp) rfl).2
   clear hdep;have hK':=hK w' (.pointer (some ⟨G,15,none⟩)) (by simp) (hx.step 3 _ (Below.refl _ _) (fun h=>absurd h (by decide))) (Below.refl _ _);clear hK;rw[if_pos (by rfl)];go_simp;simpa[upd,d2] using hK'
  ·have d3:t 3=.pointer (some ⟨G,15,none⟩):=by simpa using(hdep ⟨3,.data⟩ (by simp) rfl).2
   clear hdep;have y15:w'.cell? ⟨G,15,none⟩=some (.int .u32 nx):=by rw[hx.below.cell (p:=⟨G,15,none⟩) HG.out.1];exact HG.out.2.1
   have hK':=hK w' (.int .u32 nx) (by simp) (hx.step 4 _ (Below.refl _ _) (fun h=>absurd h (by decide))) (Below.refl _ _);clear hK;rw[if_pos (by rfl)];go_simp;simpa[upd,d3] using hK'
  ·clear hdep;have hK':=hK w' (.pointer (some ⟨G,0,none⟩)) (by simp) (hx.step 5 _ (Below.refl _ _) (fun h=>absurd h (by decide))) (Below.refl _ _);clear hK;rw[if_pos (by rfl)];go_simp;simpa[upd] using hK'
  ·have d5:t 5=.pointer (some ⟨G,0,none⟩):=by simpa using(hdep ⟨5,.data⟩ (by simp) rfl).2
   clear hdep;have hK':=hK w' (.pointer (some ⟨G,0,none⟩)) (by simp) (hx.step 6 _ (Below.refl _ _) (fun h=>absurd h (by decide))) (Below.refl _ _);clear hK;rw[if_pos (by rfl)];go_simp;simpa[upd,d5] using hK'
  ·have d6:t 6=.pointer (some ⟨G,0,none⟩):=by simpa using(hdep ⟨6,.data⟩ (by simp) rfl).2
   clear hdep;have hK':=hK w' (.pointer (some ⟨G,5,none⟩)) (by simp) (hx.step 7 _ (Below.refl _ _) (fun h=>absurd h (by decide))) (Below.refl _ _);clear hK;rw[if_pos (by rfl)];go_simp;simpa[upd,d6] using hK'
  ·have d7:t 7=.pointer (some ⟨G,5,none⟩):=by simpa using(hdep ⟨7,.data⟩ (by simp) rfl).2
   clear hdep;have hK':=hK w' (.pointer (some ⟨G,6,none⟩)) (by simp) (hx.step 8 _ (Below.refl _ _) (fun h=>absurd h (by decide))) (Below.refl _ _);clear hK;rw[if_pos (by rfl)];go_simp;simpa[upd,d7] using hK'
  ·have d8:t 8=.pointer (some ⟨G,6,none⟩):=by simpa using(hdep ⟨8,.data⟩ (by simp) rfl).2
   clear hdep;have hK':=hK w' (.pointer (some ⟨G,7,none⟩)) (by simp) (hx.step 9 _ (Below.refl _ _) (fun h=>absurd h (by decide))) (Below.refl _ _);clear hK;rw[if_pos (by rfl)];go_simp;simpa[upd,d8] using hK'
  ·have d9:t 9=.pointer (some ⟨G,7,none⟩):=by simpa using(hdep ⟨9,.data⟩ (by simp) rfl).2
   clear hdep;have y7:w'.cell? ⟨G,7,none⟩=some (.int .u32 tl):=by rw[hx.below.cell (p:=⟨G,7,none⟩) HG.out.1];exact HG.out.2.2
   have hK':=hK w' (.int .u32 tl) (by simp) (hx.step 10 _ (Below.refl _ _) (fun h=>absurd h (by decide))) (Below.refl _ _);clear hK;rw[if_pos (by rfl)];go_simp;simpa[upd,d9] using hK'
  ·have d4:t 4=.int .u32 nx:=by simpa using(hdep ⟨4,.data⟩ (by simp) rfl).2
   have d10:t 10=.int .u32 tl:=by simpa using(hdep ⟨10,.data⟩ (by simp) rfl).2
   clear hdep;have hw:=HW.out;have hK':=hK w' (.int .u32 (j:Int)) (by simp) (hx.step 11 _ (Below.refl _ _) (fun h=>absurd h (by decide))) (Below.refl _ _);clear hK;rw[if_pos (by rfl)];go_simp;simpa[upd,d4,d10] using hK'
  ·clear hdep;have hK':=hK w' (.pointer (some ⟨G,0,none⟩)) (by simp) (hx.step 12 _ (Below.refl _ _) (fun h=>absurd h (by decide))) (Below.refl _ _);clear hK;rw[if_pos (by rfl)];go_simp;simpa[upd] using hK'
  ·have d12:t 12=.pointer (some ⟨G,0,none⟩):=by simpa using(hdep ⟨12,.data⟩ (by simp) rfl).2
   clear hdep;have hK':=hK w' (.pointer (some ⟨G,0,none⟩)) (by simp) (hx.step 13 _ (Below.refl _ _) (fun h=>absurd h (by decide))) (Below.refl _ _);clear hK;rw[if_pos (by rfl)];go_simp;simpa[upd,d12] using hK'
  ·have d13:t 13=.pointer (some ⟨G,0,none⟩):=by simpa using(hdep ⟨13,.data⟩ (by simp) rfl).2
   clear hdep;have hK':=hK w' (.pointer (some ⟨G,0,none⟩)) (by simp) (hx.step 14 _ (Below.refl _ _) (fun h=>absurd h (by decide))) (Below.refl _ _);clear hK;rw[if_pos (by rfl)];go_simp;simpa[upd,d13] using hK'
  ·have d14:t 14=.pointer (some ⟨G,0,none⟩):=by simpa using(hdep ⟨14,.data⟩ (by simp) rfl).2
   clear hdep;have A:=HJ.out w' hx.below;have hK':∀ ww,Below w'.heap.size w' ww→K _ ww:=fun ww hb=>hK ww (.int .u32 J) (by simp) (hx.step 15 _ hb (fun h=>absurd h (by decide))) hb
   clear hK;rw[if_pos (by rfl)];go_simp;try simp only[d14]
   refine A.mono ?_;rintro e w9 ⟨rfl,hb9⟩;have hK2:=hK' w9 hb9;clear hK' A hb9;go_simp;simpa[upd,d14] using hK2
  ·have d11:t 11=.int .u32 (j:Int):=by simpa using(hdep ⟨11,.data⟩ (by simp) rfl).2
   have d15:t 15=.int .u32 J:=by simpa using(hdep ⟨15,.data⟩ (by simp) rfl).2
   clear hdep;have hj:=HJN.out;have hK':=hK w' (.bool false) (by simp) (hx.step 16 _ (Below.refl _ _) (fun h=>absurd h (by decide))) (Below.refl _ _);clear hK;rw[if_pos (by rfl)];go_simp;simpa[upd,d11,d15] using hK'
  ·have d16:t 16=.bool false:=by simpa using(hdep ⟨16,.data⟩ (by simp) rfl).2
   clear hdep;have hK':=hK w' (.bool false) (by simp) (hx.step 17 _ (Below.refl _ _) (fun h=>absurd h (by decide))) (Below.refl _ _);clear hK;rw[if_pos (by rfl)];go_simp;simpa[upd,d16] using hK'
  ·have d17:t 17=.bool false:=by simpa using(hdep ⟨17,.guard⟩ (by simp) rfl).2
   clear hdep;have hK':=hK w' (.pointer (some ⟨G,0,none⟩)) (by simp) (hx.step 18 _ (Below.refl _ _) (fun h=>absurd h (by decide))) (Below.refl _ _);clear hK;rw[if_pos (by simp[Region.wanted,yielded,d17])];go_simp;simpa[upd,d17] using hK'
  ·have d18:t 18=.pointer (some ⟨G,0,none⟩):=by simpa using(hdep ⟨18,.data⟩ (by simp) rfl).2
   have d17:t 17=.bool false:=by simpa using(hdep ⟨17,.guard⟩ (by simp) rfl).2
   clear hdep;have hK':=hK w' (.pointer (some ⟨G,0,none⟩)) (by simp) (hx.step 19 _ (Below.refl _ _) (fun h=>absurd h (by decide))) (Below.refl _ _);clear hK;rw[if_pos (by simp[Region.wanted,yielded,d17])];go_simp;simpa[upd,d18,d17] using hK'
  ·have d19:t 19=.pointer (some ⟨G,0,none⟩):=by simpa using(hdep ⟨19,.data⟩ (by simp) rfl).2
   have d17:t 17=.bool false:=by simpa using(hdep ⟨17,.guard⟩ (by simp) rfl).2
   clear hdep;have hK':=hK w' (.pointer (some ⟨G,5,none⟩)) (by simp) (hx.step 20 _ (Below.refl _ _) (fun h=>absurd h (by decide))) (Below.refl _ _);clear hK;rw[if_pos (by simp[Region.wanted,yielded,d17])];go_simp;simpa[upd,d19,d17] using hK'
  ·have d20:t 20=.pointer (some ⟨G,5,none⟩):=by simpa using(hdep ⟨20,.data⟩ (by simp) rfl).2
   have d17:t 17=.bool false:=by simpa using(hdep ⟨17,.guard⟩ (by simp) rfl).2
   clear hdep;have hK':=hK w' (.pointer (some ⟨G,15,none⟩)) (by simp) (hx.step 21 _ (Below.refl _ _) (fun h=>absurd h (by decide))) (Below.refl _ _);clear hK;rw[if_pos (by simp[Region.wanted,yielded,d17])];go_simp;simpa[upd,d20,d17] using hK'
  ·have d21:t 21=.pointer (some ⟨G,15,none⟩):=by simpa using(hdep ⟨21,.data⟩ (by simp) rfl).2
   have d17:t 17=.bool false:=by simpa using(hdep ⟨17,.guard⟩ (by simp) rfl).2
   clear hdep;have y15:w'.cell? ⟨G,15,none⟩=some (.int .u32 nx):=by rw[hx.below.cell (p:=⟨G,15,none⟩) HG.out.1];exact HG.out.2.1
   have hK':=hK w' (.int .u32 nx) (by simp) (hx.step 22 _ (Below.refl _ _) (fun h=>absurd h (by decide))) (Below.refl _ _);clear hK;rw[if_pos (by simp[Region.wanted,yielded,d17])];go_simp;simpa[upd,d21,d17] using hK'
  ·have d22:t 22=.int .u32 nx:=by simpa using(hdep ⟨22,.data⟩ (by simp) rfl).2
   have d17:t 17=.bool false:=by simpa using(hdep ⟨17,.guard⟩ (by simp) rfl).2
   clear hdep;have hn4:=HN4.out;have hK':=hK w' (.bool false) (by simp) (hx.step 23 _ (Below.refl _ _) (fun h=>absurd h (by decide))) (Below.refl _ _);clear hK;rw[if_pos (by simp[Region.wanted,yielded,d17])];go_simp;simpa[upd,d22,d17] using hK'
  ·have d17:t 17=.bool false:=by simpa using(hdep ⟨17,.data⟩ (by simp) rfl).2
   have d23:t 23=.bool false:=by simpa using(hdep ⟨23,.data⟩ (by simp) rfl).2
   clear hdep;have hK':=hK w' (.bool false) (by simp) (hx.step 24 _ (Below.refl _ _) (fun h=>absurd h (by decide))) (Below.refl _ _);clear hK;rw[if_pos (by rfl)];go_simp;simpa[upd,d17,d23] using hK'
  ·have d24:t 24=.bool false:=by simpa using(hdep ⟨24,.data⟩ (by simp) rfl).2
   clear hdep;have hK':=hK w' (.bool false) (by simp) (hx.step 25 _ (Below.refl _ _) (fun h=>absurd h (by decide))) (Below.refl _ _);clear hK;rw[if_pos (by rfl)];go_simp;simpa[upd,d24] using hK'
 case hdone=>
  intro Ls t w9 hx hg;have e25:t 25=.bool false:=by simpa using hg 25 (by decide)
  have HBF:Hid (Below w.heap.size w w9):=hx.below;clear hg hx;simp only[e25];clear e25;go_wp2
  go_ret
  exact⟨rfl,HBF.out⟩
end Go.Proofs.YtilpkdnoaldfmaaGreatDoor
