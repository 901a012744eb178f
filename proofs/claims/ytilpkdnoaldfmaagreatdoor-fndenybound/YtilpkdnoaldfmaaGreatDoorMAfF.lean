import Derived.Test.YtilpkdnoaldfmaaGreatDoorMGqA
import Derived.Test.YtilpkdnoaldfmaaGreatDoorMSwA
import Derived.Test.YtilpkdnoaldfmaaGreatDoorMDyA
import Derived.Test.YtilpkdnoaldfmaaGreatDoorMSvQ
import Derived.Test.YtilpkdnoaldfmaaGreatDoorMFmP
import Derived.Test.YtilpkdnoaldfmaaGreatDoorMLlA
import Derived.Test.YtilpkdnoaldfmaaGreatDoorMCatC
import Derived.Test.YtilpkdnoaldfmaaGreatDoorMRows8
import Derived.Test.YtilpkdnoaldfmaaGreatDoorMRows8a
import Derived.Test.YtilpkdnoaldfmaaGreatDoorMCatF
import Derived.Test.YtilpkdnoaldfmaaGreatDoorMBase
import Derived.Deep.WholeRow
import Derived.Deep.MidRow
namespace Go.Proofs.YtilpkdnoaldfmaaGreatDoor
open Go.ChangeShapes Go.WideShapes Go.ChangeAt Go.RowKit
set_option linter.unusedVariables false
set_option maxRecDepth 100000 in
set_option maxHeartbeats 2000000 in
theorem clF_any (S D:Nat) (cs:Array Value) (Q:Ending→World→Prop) (w:World) (hS:w.heap[S]?=some (.cells cs 92 (0,0))) (hz:cs.size=4) (h:Calls Tryz.prog 42 #[.pointer (some ⟨D,0,none⟩),.agg cs] w Q) (hQ:∀ e w',Q e w'→e=.returned (.tuple #[])∨e=lossE) :
  Calls Tryz.prog 41 #[.pointer (some ⟨D,0,none⟩),.pointer (some ⟨S,0,none⟩)] w Q:=by
 have HS:=hid_ofV hS;have HZ:Hid ((Tryz.prog.info? 92).map (·.size)=some cs.size):=by show _=_;rw[hz];kernel_rfl
 have HH:=hid_ofV h;have HQ:=hid_ofV hQ;clear hS hz h hQ;go_enter Tryz.func41,Tryz.ntmps41;go_wp2_with (first
  |(refine wpList_load_row rfl 92 (.tmp 1) rfl S rfl 92 cs (0,0) _ HS.out Tryz.underlying92 rfl HZ.out ?_)
  |fail)
 refine HH.out.mono ?_;intro e w' hq;rcases HQ.out e w' hq with rfl|rfl
 ·have HF:=hid_ofV hq;clear hq HS HZ HH HQ;go_wp2_with fail
  first|go_end0|go_ret
  exact HF.out
 ·exact⟨rfl,hq⟩
set_option maxRecDepth 100000 in
set_option maxHeartbeats 8000000 in
theorem afF_any {lo:Nat} (G S:Nat) (C cs:Array Value) (c:Int) (zs ks:List Int) (f:Int) (r:ImR) (o:DO) (w:World) (hG:w.heap[G]?=some (.cells C 38 (0,0))) (h:GL lo w C zs ks f false r) (hb:ImLe r) (hz:zs.length≤1048576) (hz0:0<zs.length) (hk:ks.length≤1048576)
  (hS:w.heap[S]?=some (.cells cs 92 (0,0))) (hcs:cs.size=4) (ho:o.2.2.2=false→o.2.1=[]) (hol:o.1.length=zs.length) (bz:Byte o.1)
  (hW:∀(D g gc B H:Nat) (X:List Value) (ww:World),Below w.heap.size w ww→DbP D g zs.length gc B H X 38 zs [] f false ww→D≠g→Calls Tryz.prog 42 #[.pointer (some ⟨D,0,none⟩),.agg cs] ww (WsP D g zs.length gc B H X 38 o ww)) :
  Calls Tryz.prog 35 #[.pointer (some ⟨G,0,none⟩),.int .i64 c,.func (Fn.func 41) #[] #[.pointer (some ⟨S,0,none⟩)]] w fun e w'=>∃ X,e=.returned (.agg X)∧RTQ w.heap.size w' X (afC c o) o.1 o.2.1 ks o.2.2.1 o.2.2.2 (afI r o)∧Below w.heap.size w w':=by
 have hmf:∀(fn:Fn) (first cap:Array Value) (w:World),(Instr.makeFunc fn first cap).run Tryz.prog w=.ok (.func fn first cap) w:=fun _ _ _ _=>rfl
 have HO0:Hid (OE w 40 zrR (w.alloc (.cells zrR 40))):=OE.start _ _ _;have HG:=hid_ofV (And.intro hG h.row.1);have HSG:Hid ((Tryz.prog.info? 38).map (·.size)=some C.size):=by show _=_;rw[h.row.1];exact Tryz.sizeG
 have HCP:=hid_ofV (fun ww (b:Below w.heap.size w ww)=>cpG_any C zs ks f false r ww (h.below b) hb hz hk);have HL:Hid (G<w.heap.size∧S<w.heap.size):=⟨(Array.getElem?_eq_some_iff.1 hG).1,(Array.getElem?_eq_some_iff.1 hS).1⟩
 have HS:=hid_ofV (And.intro hS hcs);have HW:=hid_ofV hW;have HZ:=hid_ofV (And.intro hz (And.intro hz0 (And.intro ho (And.intro hol bz))));clear hG h hb hz hk hS hcs hW hz0 ho hol bz
 go_enter_defers Tryz.func35,Tryz.ntmps35
 go_upto_region 1 with fail
 change Code.wp _ _ _ _ (w.alloc (.cells zrR 40));generalize w.alloc (.cells zrR 40)=w1 at *;have HG1:Hid (w1.heap[G]?=some (.cells C 38 (0,0))):=by show _=_;rw[HO0.out.below.block _ HL.out.1];exact HG.out.1
 go_wp2_with (first
  |(refine wpList_load_row rfl 38 (.tmp 9) rfl G rfl 38 C (0,0) _ HG1.out Tryz.underlying38 rfl HSG.out ?_)
  |fail)
 refine(HCP.out w1 HO0.out.below).mono ?_;rintro e w2 ⟨C',rfl,g2,hb2⟩;obtain⟨g,gc,ka,kc,aSD,nSD,cSD,aSU,nSU,cSU,aF,mF,cF,aD,nD,cD,aU,nU,cU,aT,cT,hC,own2,ki2,hcF⟩:=gpn_lit g2 HZ.out.2.1;have b3:Below w2.heap.size w2 (w2.alloc (.cells C' 38)):=(Below.refl _ _).alloc (Nat.le_refl _) _;have hg2:=(own_of own2).2.1;have HO3:Hid (OE w 40 zrR (w2.alloc (.cells C' 38))):=(HO0.out.call hb2).call b3;have HZ2:Hid ((w2.alloc (.cells #[.slice none 0 0,.slice none 0 0,.int .i64 0,.bool false,.slice none 0 0,.bool false,.int .u32 0,.int .u32 0,.slice none 0 0,.slice none 0 0,.slice none 0 0,.slice none 0 0,.slice none 0 0,.int .i64 0,.slice none 0 0,.int .u32 0] 38)).heap[w2.heap.size]?=some (.cells #[.slice none 0 0,.slice none 0 0,.int .i64 0,.bool false,.slice none 0 0,.bool false,.int .u32 0,.int .u32 0,.slice none 0 0,.slice none 0 0,.slice none 0 0,.slice none 0 0,.slice none 0 0,.int .i64 0,.slice none 0 0,.int .u32 0] 38 (0,0))∧(Tryz.prog.info? 38).map (·.size)=some C'.size∧(#[.slice none 0 0,.slice none 0 0,.int .i64 0,.bool false,.slice none 0 0,.bool false,.int .u32 0,.int .u32 0,.slice none 0 0,.slice none 0 0,.slice none 0 0,.slice none 0 0,.slice none 0 0,.int .i64 0,.slice none 0 0,.int .u32 0]:Array Value).size=C'.size∧C'.all (·.oneCell')=true):=⟨heap_alloc_new w2 _,by rw[g2.1.gl.row.1];exact Tryz.sizeG,by rw[g2.1.gl.row.1];rfl,g2.1.gl.row.2⟩
 have HD3:Hid (DbP w2.heap.size g zs.length gc w1.heap.size w2.heap.size [.slice ka ks.length kc,.bool r.ok,.int .u32 r.g,.int .u32 r.t,.slice aSD nSD cSD,.slice aSU nSU cSU,.slice aF mF cF,.slice aD nD cD,.slice aU nU cU,.int .i64 r.k,.slice aT r.n cT,.int .u32 r.nx] 38 zs [] f false (w2.alloc (.cells C' 38))):=⟨w2.heap.size+1,_,[],by omega,by omega,by omega,by simp,by rw[heap_alloc_new w2 _,hC],own2.grow b3,POwn.nil _ _,rfl,fun _=>rfl⟩
 have HK3:Hid (KI9 w1.heap.size g w2.heap.size (w2.alloc (.cells C' 38)) ks r ka aSD aSU aF aD aU aT nSD nSU mF nD nU):=ki2.yr (A:=w2.heap.size) (YR.of_below b3) (.inl (Nat.le_refl _));have HN3:Hid (NotIn w2.heap.size ka∧N6 w2.heap.size aSD aSU aF aD aU aT):=⟨fun ad e=>by have:=ki2.kH ad e;omega,ki2.iH _ (Nat.le_refl _)⟩
 have HQ:Hid (w.heap.size<w1.heap.size∧w1.heap.size≤w2.heap.size∧g<w2.heap.size∧w1.heap.size≤g):=⟨HO0.out.lt,hb2.size,hg2,(own_of own2).1⟩
 have HCF:=hid_ofV hcF;clear hcF hb2 g2 hC own2 ki2 b3 hg2 HO0 HG HSG HCP HG1
 go_upto_region 2 with (first
  |(refine wpList_store_row rfl 38 (.tmp 7) (.tmp 11) rfl w2.heap.size C' rfl rfl 38 _ HZ2.out.1 HZ2.out.2.1 HZ2.out.2.2.1 HZ2.out.2.2.2 ?_)
  |fail)
 rw[World.setRow_alloc_new];clear HZ2;generalize w2.alloc (.cells C' 38)=w3 at *;generalize w2.heap.size=A at *;go_wp2_with fail;have HCL:=clF_any S A cs (WsP A g zs.length gc w1.heap.size A [.slice ka ks.length kc,.bool r.ok,.int .u32 r.g,.int .u32 r.t,.slice aSD nSD cSD,.slice aSU nSU cSU,.slice aF mF cF,.slice aD nD cD,.slice aU nU cU,.int .i64 r.k,.slice aT r.n cT,.int .u32 r.nx] 38 o w3) w3 (by rw[HO3.out.below.block _ HL.out.2];exact HS.out.1) HS.out.2 (HW.out A g gc w1.heap.size A [.slice ka ks.length kc,.bool r.ok,.int .u32 r.g,.int .u32 r.t,.slice aSD nSD cSD,.slice aSU nSU cSU,.slice aF mF cF,.slice aD nD cD,.slice aU nU cU,.int .i64 r.k,.slice aT r.n cT,.int .u32 r.nx] w3 HO3.out.below HD3.out (by have:=HQ.out;omega)) (fun e w' hq=>by rw[hq.1];unfold cmE;cases o.2.2.2<;>simp);refine HCL.mono ?_;clear HCL HD3;rintro e w4 ⟨he,d4,y4⟩;have k4:=HK3.out.yr y4 (.inr HN3.out);have R4:w4.heap[w.heap.size]?=some (.cells zrR 40 (0,0)):=by rw[y4.block _ HO3.out.lt (by have:=HQ.out;omega) (by have:=HQ.out;omega)];exact HO3.out.b0
 have B4:Below w.heap.size w w4:=HO3.out.below.trans (y4.below (by have:=HQ.out;omega) (by have:=HQ.out;omega) HO3.out.below.size);obtain⟨z9,p9,f9,d9⟩:=o;have hol:z9.length=zs.length:=HZ.out.2.2.2.1;cases d9 with
 |true=>
  obtain rfl:e=lossE:=he;obtain⟨C4,r4,q4⟩:=gtq_of d4 hol k4 HCF.out;refine leaves_cons (f:=58) (args:=#[.pointer (some ⟨A,0,none⟩),.pointer (some ⟨w.heap.size,0,none⟩)]) (by simp) (by simp[go_sem]) ?_;refine(cat_loss A w.heap.size C4 zrR w4 r4 q4.row.1 q4.row.2 R4 rfl).mono ?_;rintro e u' w5 ⟨rfl,rfl,w6,b6,hR6,rfl⟩;obtain⟨X,hX,hR⟩:=rtq_of (c:=11) (q4.below b6);rw[hX];refine⟨.agg X,results_cell_row rfl _ _ w.heap.size 40 _ (0,0) _ rfl (setRow_heap _ _ _ _ _ _ hR6) Tryz.underlying40 rfl (by rw[hR.row.1];exact Tryz.sizeR),X,rfl,hR.put HQ.out.1,(B4.trans (b6.mono B4.size)).trans ((Wr.setRow _ _ _).below (Nat.le_refl _))⟩
 |false=>
  obtain rfl:e=.returned (.tuple #[]):=he;obtain rfl:p9=[]:=HZ.out.2.2.1 rfl;obtain⟨E,cv,qs,h1,h2,h3,h4,hr,ho,hp,hq,hn⟩:=d4;obtain rfl:=hn rfl;have o4:=own_of ho;have HI:=hid_ofV (ild_any (some ⟨g,0,none⟩) none zs.length gc 0 0 f9 false z9 [] w4 hol rfl o4.2.2.2.1 (.inl rfl) (by rw[←hol];exact o4.2.2.1) HZ.out.1 (by decide) (by simp) HZ.out.2.2.2.2 (by simp[Byte]));have HR4:Hid (w4.heap[A]?=some (.cells #[.slice (some ⟨g,0,none⟩) zs.length gc,.slice none 0 0,.int .i64 f9,.bool false,.slice ka ks.length kc,.bool r.ok,.int .u32 r.g,.int .u32 r.t,.slice aSD nSD cSD,.slice aSU nSU cSU,.slice aF mF cF,.slice aD nD cD,.slice aU nU cU,.int .i64 r.k,.slice aT r.n cT,.int .u32 r.nx] 38 (0,0))∧A<w4.heap.size):=⟨hr,(Array.getElem?_eq_some_iff.1 hr).1⟩
  have HM4:Hid (w4.rangeAt A 0 [.slice (some ⟨g,0,none⟩) zs.length gc,.slice none 0 0,.int .i64 f9,.bool false]):=mid_row hr 0 _ rfl;have HO4:=hid_ofV ho;have HK4:=hid_ofV k4;have HB4:=hid_ofV (And.intro R4 B4);have HSD:Hid ((Tryz.prog.info? 27).map (·.size)=some 4):=by show _=_;kernel_rfl
  have HSI:Hid ((Tryz.prog.info? 36).map (·.size)=some 11):=by show _=_;kernel_rfl
  clear k4 R4 B4 hol h1 h2 h3 h4 hr ho hp hq hn o4 y4 HO3 HK3;go_wp2_with (first
   |(refine wpList_load_mid rfl 27 (.tmp 16) rfl A 0 rfl [.slice (some ⟨g,0,none⟩) zs.length gc,.slice none 0 0,.int .i64 f9,.bool false] _ HM4.out Tryz.underlying27 rfl HSD.out ?_)
   |fail)
  refine HI.out.mono ?_;rintro e w5 ⟨v,rfl,hI,hb5⟩;obtain⟨q,hq9⟩:∃ q,imG z9 [] f9=q:=⟨_,rfl⟩
  rw[hq9] at hI;have HQ9:=hid_ofV hq9;clear hq9;obtain⟨pSD,kSD,lSD,pSU,kSU,lSU,pF,kF,lF,pD,kD,lD,pU,kU,lU,pT,lT,b1,b2,rfl,i5,l5,c5⟩:=hI.six2;have hr5:w5.heap[A]?=some (.cells #[.slice (some ⟨g,0,none⟩) zs.length gc,.slice none 0 0,.int .i64 f9,.bool false,.slice ka ks.length kc,.bool r.ok,.int .u32 r.g,.int .u32 r.t,.slice aSD nSD cSD,.slice aSU nSU cSU,.slice aF mF cF,.slice aD nD cD,.slice aU nU cU,.int .i64 r.k,.slice aT r.n cT,.int .u32 r.nx] 38 (0,0)):=by rw[hb5.block _ HR4.out.2];exact HR4.out.1
  have th5:w5.there A 5 11:=there_row hr5 5 11 (by simp);have HTH:=hid_ofV th5;have HRG:Hid ((w5.setCells A 5 [.bool q.ok,.int .u32 q.g,.int .u32 q.t,.slice pSD kSD lSD,.slice pSU kSU lSU,.slice pF kF lF,.slice pD kD lD,.slice pU kU lU,.int .i64 q.k,.slice pT q.n lT,.int .u32 q.nx]).rangeAt A 0 [.slice (some ⟨g,0,none⟩) zs.length gc,.slice none 0 0,.int .i64 f9,.bool false,.slice ka ks.length kc,.bool q.ok,.int .u32 q.g,.int .u32 q.t,.slice pSD kSD lSD,.slice pSU kSU lSU,.slice pF kF lF,.slice pD kD lD,.slice pU kU lU,.int .i64 q.k,.slice pT q.n lT,.int .u32 q.nx]):=range_app (World.rangeAt_setCells_apart (mid_row hr5 0 [.slice (some ⟨g,0,none⟩) zs.length gc,.slice none 0 0,.int .i64 f9,.bool false,.slice ka ks.length kc] rfl) A 5 _ (.inr (.inl (by simp)))) (World.rangeAt_setCells_same w5 A 5 _ th5);have hw:=Wr.setCells A [.bool q.ok,.int .u32 q.g,.int .u32 q.t,.slice pSD kSD lSD,.slice pSU kSU lSU,.slice pF kF lF,.slice pD kD lD,.slice pU kU lU,.int .i64 q.k,.slice pT q.n lT,.int .u32 q.nx] 5 w5;have hgA:g<A:=by have:=HQ.out;omega
  have hAl:=HR4.out.2;have n6:∀ j,j<w4.heap.size→N6 j pSD pSU pF pD pU pT:=fun j hj=>by
   obtain⟨l1,l2,l3,l4,l5,l6⟩:=i5.l6;exact⟨fun ad e=>by have:=l1 ad e;omega,fun ad e=>by have:=l2 ad e;omega,fun ad e=>by have:=l3 ad e;omega,fun ad e=>by have:=l4 ad e;omega,fun ad e=>by have:=l5 ad e;omega,fun ad e=>by have:=l6 ad e;omega⟩
  have hP:GP w1.heap.size (w5.setCells A 5 [.bool q.ok,.int .u32 q.g,.int .u32 q.t,.slice pSD kSD lSD,.slice pSU kSU lSU,.slice pF kF lF,.slice pD kD lD,.slice pU kU lU,.int .i64 q.k,.slice pT q.n lT,.int .u32 q.nx]) [.slice (some ⟨g,0,none⟩) zs.length gc,.slice none 0 0,.int .i64 f9,.bool false,.slice ka ks.length kc,.bool q.ok,.int .u32 q.g,.int .u32 q.t,.slice pSD kSD lSD,.slice pSU kSU lSU,.slice pF kF lF,.slice pD kD lD,.slice pU kU lU,.int .i64 q.k,.slice pT q.n lT,.int .u32 q.nx].toArray z9 ks f9 false q:=by
   have i6:=(i5.keep (Nat.le_of_eq hw.size.symm) (fun k hk _=>hw.block k (by omega)))
   refine gp_own ((HO4.out.grow hb5).keep (fun k e=>hw.block k (by simp[Value.ownBlock] at e;omega))) HZ.out.2.2.2.1 ((HK4.out.k.below hb5).keepN (Nat.le_of_eq hw.size.symm) (fun ad e=>hw.block _ (fun e2=>HN3.out.1 ad e e2.symm))) (i6.low (by have:=HQ.out;omega)) (l5.keep i5.l6 (Nat.le_of_eq hw.size.symm) (fun k hk _=>hw.block k (by omega))) HK4.out.gk.1 (n6 g (by omega)) (fun ad e=>n6 _ (by have:=(HK4.out.k.2.2 ad e).2;omega)) c5
  have HB6:Hid ((w5.setCells A 5 [.bool q.ok,.int .u32 q.g,.int .u32 q.t,.slice pSD kSD lSD,.slice pSU kSU lSU,.slice pF kF lF,.slice pD kD lD,.slice pU kU lU,.int .i64 q.k,.slice pT q.n lT,.int .u32 q.nx]).heap[w.heap.size]?=some (.cells zrR 40 (0,0))∧Below w.heap.size w (w5.setCells A 5 [.bool q.ok,.int .u32 q.g,.int .u32 q.t,.slice pSD kSD lSD,.slice pSU kSU lSU,.slice pF kF lF,.slice pD kD lD,.slice pU kU lU,.int .i64 q.k,.slice pT q.n lT,.int .u32 q.nx])):=⟨by rw[hw.block _ (by have:=HQ.out;omega),hb5.block _ (Array.getElem?_eq_some_iff.1 HB4.out.1).1];exact HB4.out.1,(HB4.out.2.trans (hb5.mono HB4.out.2.size)).trans (hw.below (by have:=HQ.out;omega))⟩
  obtain⟨X,hX,hR⟩:=rtq_of (c:=c) (hP.gq (by rw[hw.size];have:=hb5.size;have:=HQ.out;omega));have HRQ:=hid_ofV hR;have HXX:Hid (#[.int .i64 c]++[.slice (some ⟨g,0,none⟩) zs.length gc,.slice none 0 0,.int .i64 f9,.bool false,.slice ka ks.length kc,.bool q.ok,.int .u32 q.g,.int .u32 q.t,.slice pSD kSD lSD,.slice pSU kSU lSU,.slice pF kF lF,.slice pD kD lD,.slice pU kU lU,.int .i64 q.k,.slice pT q.n lT,.int .u32 q.nx].toArray=X∧(Tryz.prog.info? 40).map (·.size)=some X.size∧zrR.size=X.size∧X.all (·.oneCell')=true):=⟨hX,by rw[hR.row.1];exact Tryz.sizeR,by rw[hR.row.1];rfl,hR.row.2⟩
  clear c5 hr5 th5 hw hgA hAl n6 hP hX hR i5 l5 hb5 hI HI HR4 HM4 HO4 HK4 HB4
  go_upto_region 5 with (first
   |(refine wpList_store_mid rfl 36 (.tmp 19) (.tmp 18) rfl A 5 #[.bool q.ok,.int .u32 q.g,.int .u32 q.t,.slice pSD kSD lSD,.slice pSU kSU lSU,.slice pF kF lF,.slice pD kD lD,.slice pU kU lU,.int .i64 q.k,.slice pT q.n lT,.int .u32 q.nx] rfl rfl HTH.out HSI.out (by simp[Value.oneCell']) ?_)
   |fail)
  try dsimp only[]
  generalize w5.setCells A 5 [.bool q.ok,.int .u32 q.g,.int .u32 q.t,.slice pSD kSD lSD,.slice pSU kSU lSU,.slice pF kF lF,.slice pD kD lD,.slice pU kU lU,.int .i64 q.k,.slice pT q.n lT,.int .u32 q.nx]=w6 at *;go_wp2_with (first
   |(refine wpList_load_mid rfl 38 (.tmp 7) rfl A 0 rfl [.slice (some ⟨g,0,none⟩) zs.length gc,.slice none 0 0,.int .i64 f9,.bool false,.slice ka ks.length kc,.bool q.ok,.int .u32 q.g,.int .u32 q.t,.slice pSD kSD lSD,.slice pSU kSU lSU,.slice pF kF lF,.slice pD kD lD,.slice pU kU lU,.int .i64 q.k,.slice pT q.n lT,.int .u32 q.nx] _ HRG.out Tryz.underlying38 rfl Tryz.sizeG ?_)
   |(refine wpList_bR rfl (.tmp 20) (.tmp 21) rfl c [.slice (some ⟨g,0,none⟩) zs.length gc,.slice none 0 0,.int .i64 f9,.bool false,.slice ka ks.length kc,.bool q.ok,.int .u32 q.g,.int .u32 q.t,.slice pSD kSD lSD,.slice pSU kSU lSU,.slice pF kF lF,.slice pD kD lD,.slice pU kU lU,.int .i64 q.k,.slice pT q.n lT,.int .u32 q.nx].toArray rfl rfl rfl ?_;rw[HXX.out.1])
   |(refine wpList_store_row rfl 40 (.tmp 6) (.tmp 22) rfl w.heap.size X rfl rfl 40 _ HB6.out.1 HXX.out.2.1 HXX.out.2.2.1 HXX.out.2.2.2 ?_)
   |fail)
  refine leaves_cons (f:=58) (args:=#[.pointer (some ⟨A,0,none⟩),.pointer (some ⟨w.heap.size,0,none⟩)]) (by simp) (by simp[go_sem]) ?_;refine(cat_idle A w.heap.size _).mono ?_;rintro e u' w7 ⟨rfl,rfl,hb7⟩;have hr7:w7.heap[w.heap.size]?=some (.cells X 40 (0,0)):=by rw[hb7.block _ (by rw[size_setRow];exact(Array.getElem?_eq_some_iff.1 HB6.out.1).1)];exact setRow_heap _ _ _ _ _ _ HB6.out.1
  exact⟨.agg X,results_cell_row rfl _ _ w.heap.size 40 _ (0,0) _ rfl hr7 Tryz.underlying40 rfl HXX.out.2.1,X,rfl,by rw[show afI r (z9,[],f9,false)=q from HQ9.out];exact(HRQ.out.put HQ.out.1).below hb7,(HB6.out.2.trans ((Wr.setRow _ _ _).below (Nat.le_refl _))).trans (hb7.mono (by rw[size_setRow];exact HB6.out.2.size))⟩
structure DX9 (w:World) (oc fr:Array Value) (wr:World):Prop where
 below:Below w.heap.size w wr
 ob:wr.heap[w.heap.size]?=some (.cells oc 44 (0,0))
 rb:wr.heap[w.heap.size+1]?=some (.cells #[.int .u32 0,.int .i64 0,.int .u32 0,.int .u32 0] 92 (0,0))
 vb:wr.heap[w.heap.size+2]?=some (.cells fr 92 (0,0))
theorem DX9.set {w wr:World} {oc fr:Array Value} (h:DX9 w oc fr wr) (o:Nat) (v:Value):DX9 w oc (fr.setIfInBounds o v) (wr.setCell ⟨w.heap.size+2,o,none⟩ v):=by
 have hw:Wr (w.heap.size+2) wr (wr.setCell ⟨w.heap.size+2,o,none⟩ v):=(Wr.refl _ _).setCell _ _;exact⟨h.below.trans (hw.below (by omega)),by rw[hw.block _ (by omega)];exact h.ob,by rw[hw.block _ (by omega)];exact h.rb,heap_setC h.vb v⟩
set_option maxRecDepth 100000 in
set_option maxHeartbeats 2000000 in
theorem duf_any (kind q:Int) (m:Nat) (ta:Option Addr) (tn tc:Nat) (now:Int) (w:World) (hk:kind=2∨kind=3) (hm:m<256) :
  Calls Tryz.prog 40 #[.agg #[.int .i64 kind,.slice ta tn tc,.int .i64 now,.int .i64 (m:Int)],.int .u32 q] w fun e w'=>e=.returned (.agg #[.int .u32 q,.int .i64 2,.int .u32 (m:Int),.int .u32 (if kind=2 then 1 else 0)])∧Below w.heap.size w w':=by
 have HFZ:Hid ((Tryz.prog.info? 92).map (·.size)=some 4):=by show _=_;kernel_rfl
 have HWR:Hid (IntKind.u32.wrap (m:Int)=m):=by show _=_;rw[IntKind.wrap_u32];omega
 have b2:Below w.heap.size w ((w.alloc (.cells #[.int .i64 kind,.slice ta tn tc,.int .i64 now,.int .i64 (m:Int)] 44)).alloc (.cells #[.int .u32 0,.int .i64 0,.int .u32 0,.int .u32 0] 92)):=((Below.refl _ _).alloc (Nat.le_refl _) _).alloc (by simp) _;have HN:Hid (((((w.alloc (.cells #[.int .i64 kind,.slice ta tn tc,.int .i64 now,.int .i64 (m:Int)] 44)).alloc (.cells #[.int .u32 0,.int .i64 0,.int .u32 0,.int .u32 0] 92)).alloc (.cells #[.int .u32 0,.int .i64 0,.int .u32 0,.int .u32 0] 92))).heap[w.heap.size+2]?=some (.cells #[.int .u32 0,.int .i64 0,.int .u32 0,.int .u32 0] 92 (0,0))):=by
  show _=_
  have:=heap_alloc_new ((w.alloc (.cells #[.int .i64 kind,.slice ta tn tc,.int .i64 now,.int .i64 (m:Int)] 44)).alloc (.cells #[.int .u32 0,.int .i64 0,.int .u32 0,.int .u32 0] 92)) (.cells #[.int .u32 0,.int .i64 0,.int .u32 0,.int .u32 0] 92)
  rwa [show((w.alloc (.cells #[.int .i64 kind,.slice ta tn tc,.int .i64 now,.int .i64 (m:Int)] 44)).alloc (.cells #[.int .u32 0,.int .i64 0,.int .u32 0,.int .u32 0] 92)).heap.size=w.heap.size+2 by simp] at this
 have HX:Hid (DX9 w #[.int .i64 kind,.slice ta tn tc,.int .i64 now,.int .i64 (m:Int)] #[.int .u32 q,.int .i64 0,.int .u32 (m:Int),.int .u32 0] ((((w.alloc (.cells #[.int .i64 kind,.slice ta tn tc,.int .i64 now,.int .i64 (m:Int)] 44)).alloc (.cells #[.int .u32 0,.int .i64 0,.int .u32 0,.int .u32 0] 92)).alloc (.cells #[.int .u32 0,.int .i64 0,.int .u32 0,.int .u32 0] 92)).setRow (w.heap.size+2) #[.int .u32 q,.int .i64 0,.int .u32 (m:Int),.int .u32 0])):=by
  have hw:Wr (w.heap.size+2) (((w.alloc (.cells #[.int .i64 kind,.slice ta tn tc,.int .i64 now,.int .i64 (m:Int)] 44)).alloc (.cells #[.int .u32 0,.int .i64 0,.int .u32 0,.int .u32 0] 92)).alloc (.cells #[.int .u32 0,.int .i64 0,.int .u32 0,.int .u32 0] 92)) ((((w.alloc (.cells #[.int .i64 kind,.slice ta tn tc,.int .i64 now,.int .i64 (m:Int)] 44)).alloc (.cells #[.int .u32 0,.int .i64 0,.int .u32 0,.int .u32 0] 92)).alloc (.cells #[.int .u32 0,.int .i64 0,.int .u32 0,.int .u32 0] 92)).setRow (w.heap.size+2) #[.int .u32 q,.int .i64 0,.int .u32 (m:Int),.int .u32 0]):=Wr.setRow _ _ _;refine⟨(b2.alloc (by simp;omega) _).trans (hw.below (by omega)),?_,?_,setRow_heap _ _ _ _ _ _ HN.out⟩
  ·rw[hw.block _ (by omega),Below.heap_alloc _ _ w.heap.size (by simp;omega),Below.heap_alloc _ _ w.heap.size (by simp)];exact heap_alloc_new w _
  ·rw[hw.block _ (by omega),Below.heap_alloc _ _ (w.heap.size+1) (by simp)];have:=heap_alloc_new (w.alloc (.cells #[.int .i64 kind,.slice ta tn tc,.int .i64 now,.int .i64 (m:Int)] 44)) (.cells #[.int .u32 0,.int .i64 0,.int .u32 0,.int .u32 0] 92)
   rwa [show(w.alloc (.cells #[.int .i64 kind,.slice ta tn tc,.int .i64 now,.int .i64 (m:Int)] 44)).heap.size=w.heap.size+1 by simp] at this
 have hwr:=HWR.out;clear b2;go_enter Tryz.func40,Tryz.ntmps40
 go_upto_region 2 with (first
  |(refine wpList_store_row rfl 92 (.tmp 5) (.tmp 10) rfl (w.heap.size+2) #[.int .u32 q,.int .i64 0,.int .u32 (m:Int),.int .u32 0] rfl rfl 92 _ HN.out HFZ.out rfl (by simp[Value.oneCell']) ?_)
  |fail)
 clear HN hwr;generalize (((w.alloc (.cells #[.int .i64 kind,.slice ta tn tc,.int .i64 now,.int .i64 (m:Int)] 44)).alloc (.cells #[.int .u32 0,.int .i64 0,.int .u32 0,.int .u32 0] 92)).alloc (.cells #[.int .u32 0,.int .i64 0,.int .u32 0,.int .u32 0] 92)).setRow (w.heap.size+2) #[.int .u32 q,.int .i64 0,.int .u32 (m:Int),.int .u32 0]=w3 at *;rcases hk with hk|hk
 ·subst hk;have o0:w3.cell? ⟨w.heap.size,0,none⟩=some (.int .i64 2):=by rw[cell_of_row w3 _ 0 _ _ _ HX.out.ob];rfl
  have v1:w3.cell? ⟨w.heap.size+2,1,none⟩=some (.int .i64 0):=by rw[cell_of_row w3 _ 1 _ _ _ HX.out.vb];rfl
  have v3:w3.cell? ⟨w.heap.size+2,3,none⟩=some (.int .u32 0):=by rw[cell_of_row w3 _ 3 _ _ _ HX.out.vb];rfl
  have f1:=frozen_of_row w3 (w.heap.size+2) 1 _ _ HX.out.vb;have f3:=frozen_of_row w3 (w.heap.size+2) 3 _ _ HX.out.vb;have HX4:Hid (DX9 w #[.int .i64 2,.slice ta tn tc,.int .i64 now,.int .i64 (m:Int)] #[.int .u32 q,.int .i64 2,.int .u32 (m:Int),.int .u32 1] ((w3.setCell ⟨w.heap.size+2,1,none⟩ (.int .i64 2)).setCell ⟨w.heap.size+2,3,none⟩ (.int .u32 1))):=(HX.out.set 1 (.int .i64 2)).set 3 (.int .u32 1)
  go_upto_region 11 with fail
  clear o0 v1 v3 f1 f3 HX;generalize (w3.setCell ⟨w.heap.size+2,1,none⟩ (.int .i64 2)).setCell ⟨w.heap.size+2,3,none⟩ (.int .u32 1)=w4 at *;have HB:Hid (Below w.heap.size w (w4.setRow (w.heap.size+1) #[.int .u32 q,.int .i64 2,.int .u32 (m:Int),.int .u32 1])):=HX4.out.below.trans ((Wr.setRow _ _ _).below (by omega));go_wp2_with (first
   |(refine wpList_load_row rfl 92 (.tmp 5) rfl (w.heap.size+2) rfl 92 _ (0,0) _ HX4.out.vb Tryz.underlying92 rfl HFZ.out ?_)
   |(refine wpList_store_row rfl 92 (.tmp 4) (.tmp 36) rfl (w.heap.size+1) #[.int .u32 q,.int .i64 2,.int .u32 (m:Int),.int .u32 1] rfl rfl 92 _ HX4.out.rb HFZ.out rfl (by simp[Value.oneCell']) ?_)
   |fail)
  exact bodyPost_ret (v:=.agg #[.int .u32 q,.int .i64 2,.int .u32 (m:Int),.int .u32 1]) (results_cell_row rfl _ _ (w.heap.size+1) 92 _ (0,0) _ rfl (setRow_heap _ _ _ _ _ _ HX4.out.rb) Tryz.underlying92 rfl HFZ.out) rfl ⟨rfl,HB.out⟩
 ·subst hk;have o0:w3.cell? ⟨w.heap.size,0,none⟩=some (.int .i64 3):=by rw[cell_of_row w3 _ 0 _ _ _ HX.out.ob];rfl
  have v1:w3.cell? ⟨w.heap.size+2,1,none⟩=some (.int .i64 0):=by rw[cell_of_row w3 _ 1 _ _ _ HX.out.vb];rfl
  have v3:w3.cell? ⟨w.heap.size+2,3,none⟩=some (.int .u32 0):=by rw[cell_of_row w3 _ 3 _ _ _ HX.out.vb];rfl
  have f1:=frozen_of_row w3 (w.heap.size+2) 1 _ _ HX.out.vb;have f3:=frozen_of_row w3 (w.heap.size+2) 3 _ _ HX.out.vb;have HX4:Hid (DX9 w #[.int .i64 3,.slice ta tn tc,.int .i64 now,.int .i64 (m:Int)] #[.int .u32 q,.int .i64 2,.int .u32 (m:Int),.int .u32 0] (w3.setCell ⟨w.heap.size+2,1,none⟩ (.int .i64 2))):=HX.out.set 1 (.int .i64 2)
  go_upto_region 11 with fail
  clear o0 v1 v3 f1 f3 HX;generalize w3.setCell ⟨w.heap.size+2,1,none⟩ (.int .i64 2)=w4 at *;have HB:Hid (Below w.heap.size w (w4.setRow (w.heap.size+1) #[.int .u32 q,.int .i64 2,.int .u32 (m:Int),.int .u32 0])):=HX4.out.below.trans ((Wr.setRow _ _ _).below (by omega));go_wp2_with (first
   |(refine wpList_load_row rfl 92 (.tmp 5) rfl (w.heap.size+2) rfl 92 _ (0,0) _ HX4.out.vb Tryz.underlying92 rfl HFZ.out ?_)
   |(refine wpList_store_row rfl 92 (.tmp 4) (.tmp 36) rfl (w.heap.size+1) #[.int .u32 q,.int .i64 2,.int .u32 (m:Int),.int .u32 0] rfl rfl 92 _ HX4.out.rb HFZ.out rfl (by simp[Value.oneCell']) ?_)
   |fail)
  exact bodyPost_ret (v:=.agg #[.int .u32 q,.int .i64 2,.int .u32 (m:Int),.int .u32 0]) (results_cell_row rfl _ _ (w.heap.size+1) 92 _ (0,0) _ rfl (setRow_heap _ _ _ _ _ _ HX4.out.rb) Tryz.underlying92 rfl HFZ.out) rfl ⟨rfl,HB.out⟩
theorem lt_ofD {w:World} {g:Nat} {o:Obj} (h:w.heap[g]?=some o):g<w.heap.size:=(Array.getElem?_eq_some_iff.1 h).1
def NwD (lo:Nat) (w:World) (v:Value):Prop:=∃ g,v=.pointer (some ⟨g,0,none⟩)∧lo≤g∧w.heap[g]?=some (.cells #[.int .i64 0,.slice none 0 0,.slice none 0 0,.int .i64 0,.slice none 0 0] 87 (0,0))
theorem NwD.below {lo:Nat} {w w':World} {v:Value} (h:NwD lo w v) (b:Below w.heap.size w w'):NwD lo w' v:=by
 obtain⟨g,e,h1,h2⟩:=h;exact⟨g,e,h1,by rw[b.block g (lt_ofD h2)];exact h2⟩
theorem hasD5 {cc:Int} {k:Int} {aD aU aT:Option Addr} {nD cD nU cU nT cT j:Nat} (h:Value.has (.agg #[.int .i64 cc,.slice aD nD cD,.slice aU nU cU,.int .i64 k,.slice aT nT cT]) j):(∃ ad,aD=some ad∧ad.block=j)∨(∃ ad,aU=some ad∧ad.block=j)∨∃ ad,aT=some ad∧ad.block=j:=by
 rw[has_agg] at h;obtain⟨c,hc,a,ha,hj⟩:=h;simp at hc;rcases hc with rfl|rfl|rfl|rfl|rfl
 ·cases ha
 ·exact .inl ⟨a,ha,hj⟩
 ·exact .inr (.inl ⟨a,ha,hj⟩)
 ·cases ha
 ·exact .inr (.inr ⟨a,ha,hj⟩)
theorem hasD5' {cc:Int} {k:Int} {aD aU aT:Option Addr} {nD cD nU cU nT cT:Nat} {ad:Addr} (h:aD=some ad∨aU=some ad∨aT=some ad):Value.has (.agg #[.int .i64 cc,.slice aD nD cD,.slice aU nU cU,.int .i64 k,.slice aT nT cT]) ad.block:=by
 rw[has_agg];rcases h with h|h|h
 ·exact⟨.slice aD nD cD,by simp,ad,h,rfl⟩
 ·exact⟨.slice aU nU cU,by simp,ad,h,rfl⟩
 ·exact⟨.slice aT nT cT,by simp,ad,h,rfl⟩
theorem DSV.cells {lo:Nat} {w:World} {v:Value} {r:DyR} (h:DSV lo w v r):∃ cs,v=.agg cs∧cs.size=5∧cs.all (fun x=>x.oneCell')=true:=by
 obtain⟨aD,nD,cD,aU,nU,cU,aT,nT,cT,e,_⟩:=h;exact⟨_,e,rfl,by simp[Value.oneCell']⟩
theorem DSV.fresh {w w':World} {v:Value} {r:DyR} (h:DSV w.heap.size w' v r):FreshH w w' v:=by
 obtain⟨aD,nD,cD,aU,nU,cU,aT,nT,cT,e,s⟩:=h;intro j hj;rw[e] at hj;rcases hasD5 hj with⟨ad,h,rfl⟩|⟨ad,h,rfl⟩|⟨ad,h,rfl⟩
 ·exact s.ld ad h
 ·exact s.lu ad h
 ·exact s.lt ad h
theorem DSV.mono {lo lo':Nat} {w:World} {v:Value} {r:DyR} (h:DSV lo w v r) (hl:lo'≤lo):DSV lo' w v r:=by
 obtain⟨aD,nD,cD,aU,nU,cU,aT,nT,cT,e,s⟩:=h;exact⟨aD,nD,cD,aU,nU,cU,aT,nT,cT,e,s.lo hl⟩
theorem DSV.keep {lo:Nat} {w w':World} {v:Value} {r:DyR} (h:DSV lo w v r) (hs:w.heap.size≤w'.heap.size) (hb:∀ j,Value.has v j→j<w.heap.size→w'.heap[j]?=w.heap[j]?):DSV lo w' v r:=by
 obtain⟨aD,nD,cD,aU,nU,cU,aT,nT,cT,e,s⟩:=h;subst e;exact⟨aD,nD,cD,aU,nU,cU,aT,nT,cT,rfl,s.d.keep hs (fun ad e hl=>hb _ (hasD5' (.inl e)) hl),s.u.keep hs (fun ad e hl=>hb _ (hasD5' (.inr (.inl e))) hl),s.t.keep hs (fun ad e hl=>hb _ (hasD5' (.inr (.inr e))) hl),s.nd,s.nu,s.nt,s.ld.mono (Nat.le_refl _) hs,s.lu.mono (Nat.le_refl _) hs,s.lt.mono (Nat.le_refl _) hs,s.du,s.dt,s.ut⟩
theorem DSV.below {lo:Nat} {w w':World} {v:Value} {r:DyR} (h:DSV lo w v r) (b:Below w.heap.size w w'):DSV lo w' v r:=h.keep b.size (fun j _ hj=>b.block j hj)
theorem DSV.wrG {lo G:Nat} {w w':World} {v:Value} {r:DyR} (h:DSV lo w v r) (hw:Wr G w w') (hn:∀ j,Value.has v j→j≠G):DSV lo w' v r:=h.keep (by rw[hw.size];exact Nat.le_refl _) (fun j hj _=>hw.block j (hn j hj))
def NwE (lo:Nat) (w:World) (v:Value):Prop:=∃ g,v=.pointer (some ⟨g,0,none⟩)∧lo≤g∧w.heap[g]?=some (.cells #[.int .u32 0,.int .i64 0,.int .u32 0,.int .u32 0] 92 (0,0))
theorem NwE.below {lo:Nat} {w w':World} {v:Value} (h:NwE lo w v) (b:Below w.heap.size w w'):NwE lo w' v:=by
 obtain⟨g,e,h1,h2⟩:=h;exact⟨g,e,h1,by rw[b.block g (lt_ofD h2)];exact h2⟩
theorem opD_rest {D U:List Int} {k:Int} {T:List Int} {n:Nat} {kind N:Int}:(opD D U k T n kind N).U=U∧(opD D U k T n kind N).k=k∧(opD D U k T n kind N).T=T∧(opD D U k T n kind N).n=n:=by
 unfold opD
 repeat' split
 all_goals exact⟨rfl,rfl,rfl,rfl⟩
theorem opD_eq {D U:List Int} {k:Int} {T:List Int} {n:Nat} {kind N:Int}:decide ((opD D U k T n kind N).k=k∧(opD D U k T n kind N).D=D∧(opD D U k T n kind N).U=U∧(opD D U k T n kind N).T=T)=decide ((opD D U k T n kind N).D=D):=by
 obtain⟨h1,h2,h3,h4⟩:=opD_rest (D:=D) (U:=U) (k:=k) (T:=T) (n:=n) (kind:=kind) (N:=N);rw[h1,h2,h3];simp
theorem serD_len {xs:List Int} (h:SerP xs):xs.length≤256:=by
 have e:=h.eq_upTo (fun v=>decide ((v:Int)∈xs)) (fun v _=>by simp);rw[←e];exact upTo_len _ _
theorem opD_len {D U:List Int} {k:Int} {T:List Int} {n:Nat} {kind N:Int} (h:StP D U k T n):(opD D U k T n kind N).D.length≤256∧(opD D U k T n kind N).U.length≤256∧(opD D U k T n kind N).T.length=T.length:=by
 have hs:=opD_ser (k:=k) (T:=T) (n:=n) (kind:=kind) (N:=N) h.1 h.2.2.1;refine⟨serD_len hs.1,serD_len hs.2,by rw[opD_rest.2.2.1]⟩
noncomputable def sgZ (zs:List Int) (r:ImR) (kind:Int) (m:Nat):List Int:=if(opD r.D r.U r.k r.T r.n kind (m:Int)).D=r.D then zs else overL zs (4+r.nx.toNat%(zs.length/64-4)) (encI r.nx 2 (m:Int) (if kind=2 then 1 else 0))
noncomputable def sgR (zs:List Int) (r:ImR) (kind:Int) (m:Nat):ImR:=if(opD r.D r.U r.k r.T r.n kind (m:Int)).D=r.D then r else imG (sgZ zs r kind m) [] (-1)
set_option maxRecDepth 100000 in
set_option maxHeartbeats 8000000 in
theorem stg_any {lo:Nat} (G:Nat) (C:Array Value) (zs ks:List Int) (r:ImR) (kind:Int) (m j:Nat) (ta:Option Addr) (tn tc:Nat) (now:Int) (w:World) (hG:w.heap[G]?=some (.cells C 38 (0,0))) (h:GL lo w C zs ks (-1) false r) (hb:ImLe r) (hz:zs.length≤1048576) (v1:zs.length%64=0) (v2:8≤zs.length/64) (v3:zs.length/64≤256) (hk:ks.length=32) (hst:stB r.D r.U r.k r.T r.n=true) (hkr:-9223372036854775808≤r.k∧r.k<9223372036854775808) (hkd:kind=2∨kind=3) (hm:m<256)
  (hj:r.nx=r.t+j) (ht:0≤r.t) (hnx:r.nx<4000000000) (hj2:j<zs.length/64-4) (bz:Byte zs) :
  Calls Tryz.prog 15 #[.pointer (some ⟨G,0,none⟩),.agg #[.int .i64 kind,.slice ta tn tc,.int .i64 now,.int .i64 (m:Int)]] w fun e w'=>∃ X,e=.returned (.agg X)∧RTQ w.heap.size w' X (opD r.D r.U r.k r.T r.n kind (m:Int)).c (sgZ zs r kind m) [] ks (-1) false (sgR zs r kind m)∧Below w.heap.size w w':=by
 have HGC:=hid_ofV (And.intro hG h);have HBD:=hid_ofV hb;have HV:=hid_ofV (And.intro hz (And.intro v1 (And.intro v2 (And.intro v3 (And.intro hk (And.intro hst (And.intro hj (And.intro ht (And.intro hnx (And.intro hj2 bz))))))))));have HRZ:Hid ((Tryz.prog.info? 87).map (·.size)=some 5):=by show _=_;kernel_rfl
 have HOZ:Hid ((Tryz.prog.info? 44).map (·.size)=some 4):=by show _=_;kernel_rfl
 have HFZ:Hid ((Tryz.prog.info? 92).map (·.size)=some 4):=by show _=_;kernel_rfl
 have HGL:Hid (G<w.heap.size):=lt_ofD hG;obtain⟨da,dc,ca,cc,ka,kc,aSD,nSD,cSD,aSU,nSU,cSU,aF,mF,cF,aD,nD,cD,aU,nU,cU,aT,cT,hC,g1,g2,g3,g4,g5⟩:=h;rw[hk] at hC;have b1:Below w.heap.size w ((w.alloc (.cells #[.int .i64 kind,.slice ta tn tc,.int .i64 now,.int .i64 (m:Int)] 44)).alloc (.cells zrR 40)):=((Below.refl _ _).alloc (Nat.le_refl _) _).alloc (by simp) _;have HX1:Hid (((w.alloc (.cells #[.int .i64 kind,.slice ta tn tc,.int .i64 now,.int .i64 (m:Int)] 44)).alloc (.cells zrR 40)).heap[w.heap.size]?=some (.cells #[.int .i64 kind,.slice ta tn tc,.int .i64 now,.int .i64 (m:Int)] 44 (0,0))∧((w.alloc (.cells #[.int .i64 kind,.slice ta tn tc,.int .i64 now,.int .i64 (m:Int)] 44)).alloc (.cells zrR 40)).heap[w.heap.size+1]?=some (.cells zrR 40 (0,0))∧Below w.heap.size w ((w.alloc (.cells #[.int .i64 kind,.slice ta tn tc,.int .i64 now,.int .i64 (m:Int)] 44)).alloc (.cells zrR 40))):=by
  refine⟨?_,?_,b1⟩
  ·rw[Below.heap_alloc _ _ w.heap.size (by simp)];exact heap_alloc_new w _
  ·have:=heap_alloc_new (w.alloc (.cells #[.int .i64 kind,.slice ta tn tc,.int .i64 now,.int .i64 (m:Int)] 44)) (.cells zrR 40)
   rwa [show(w.alloc (.cells #[.int .i64 kind,.slice ta tn tc,.int .i64 now,.int .i64 (m:Int)] 44)).heap.size=w.heap.size+1 by simp] at this
 have HSP:Hid (∀ wz,Below ((w.alloc (.cells #[.int .i64 kind,.slice ta tn tc,.int .i64 now,.int .i64 (m:Int)] 44)).alloc (.cells zrR 40)).heap.size ((w.alloc (.cells #[.int .i64 kind,.slice ta tn tc,.int .i64 now,.int .i64 (m:Int)] 44)).alloc (.cells zrR 40)) wz→Calls Tryz.prog 37 #[.agg #[.slice aD nD cD,.slice aU nU cU,.int .i64 r.k,.slice aT r.n cT],.slice ka 32 kc,.agg #[.int .i64 kind,.slice ta tn tc,.int .i64 now,.int .i64 (m:Int)]] wz fun e w'=>∃ v,e=.returned v∧DSV wz.heap.size w' v (opD r.D r.U r.k r.T r.n kind (m:Int))∧Below wz.heap.size wz w'):=fun wz b=>by
  have bb:=b1.trans (b.mono b1.size);have hl:=g4;obtain⟨i1,i2,i3,i4,i5,i6,i7,i8,i9,i10,i11,i12⟩:=hl;have q:=isd_any aD aU aT nD cD nU cU r.n cT r.D r.U r.k r.T ka 32 kc ta tn tc kind now (m:Int) wz i10 i11 i12 (by have:=hb.2.2.2.1;omega) (by have:=hb.2.2.2.2.1;omega) (by have:=hb.2.2.2.2.2;omega) (i4.below bb) (i5.below bb) (i6.below bb) hkr.1 hkr.2 hkd;unfold stQD at q;rw[if_pos ⟨hst,rfl⟩] at q;exact q
 have cell:∀ i v,C[i]?=some v→w.cell? ⟨G,i,none⟩=some v:=fun i v e=>(cell_of_row w G i _ _ _ hG).trans e
 have HC4:Hid (((w.alloc (.cells #[.int .i64 kind,.slice ta tn tc,.int .i64 now,.int .i64 (m:Int)] 44)).alloc (.cells zrR 40)).cell? ⟨G,4,none⟩=some (.slice ka 32 kc)):=by show _=_;rw[b1.cell (p:=⟨G,4,none⟩) HGL.out];exact cell 4 _ (by rw[hC];rfl)
 have HC11:Hid (((w.alloc (.cells #[.int .i64 kind,.slice ta tn tc,.int .i64 now,.int .i64 (m:Int)] 44)).alloc (.cells zrR 40)).cell? ⟨G,11,none⟩=some (.slice aD nD cD)):=by show _=_;rw[b1.cell (p:=⟨G,11,none⟩) HGL.out];exact cell 11 _ (by rw[hC];rfl)
 have HC12:Hid (((w.alloc (.cells #[.int .i64 kind,.slice ta tn tc,.int .i64 now,.int .i64 (m:Int)] 44)).alloc (.cells zrR 40)).cell? ⟨G,12,none⟩=some (.slice aU nU cU)):=by show _=_;rw[b1.cell (p:=⟨G,12,none⟩) HGL.out];exact cell 12 _ (by rw[hC];rfl)
 have HC13:Hid (((w.alloc (.cells #[.int .i64 kind,.slice ta tn tc,.int .i64 now,.int .i64 (m:Int)] 44)).alloc (.cells zrR 40)).cell? ⟨G,13,none⟩=some (.int .i64 r.k)):=by show _=_;rw[b1.cell (p:=⟨G,13,none⟩) HGL.out];exact cell 13 _ (by rw[hC];rfl)
 have HC14:Hid (((w.alloc (.cells #[.int .i64 kind,.slice ta tn tc,.int .i64 now,.int .i64 (m:Int)] 44)).alloc (.cells zrR 40)).cell? ⟨G,14,none⟩=some (.slice aT r.n cT)):=by show _=_;rw[b1.cell (p:=⟨G,14,none⟩) HGL.out];exact cell 14 _ (by rw[hC];rfl)
 have HGG:Hid (G<((w.alloc (.cells #[.int .i64 kind,.slice ta tn tc,.int .i64 now,.int .i64 (m:Int)] 44)).alloc (.cells zrR 40)).heap.size):=Nat.lt_of_lt_of_le HGL.out b1.size;have HCE:=hid_ofV cell;have HCC:=hid_ofV hC;have HI6:=hid_ofV g4;clear hG hb hz v1 v2 v3 hk hst hkr hj ht hnx hj2 bz hC g1 g2 g3 g4 g5 cell b1;clear HGL;have HGL:=HGG;clear HGG;go_enter Tryz.func15,Tryz.ntmps15
 go_upto_region 1 with fail
 change Code.wp _ _ _ _ ((w.alloc (.cells #[.int .i64 kind,.slice ta tn tc,.int .i64 now,.int .i64 (m:Int)] 44)).alloc (.cells zrR 40));generalize ((w.alloc (.cells #[.int .i64 kind,.slice ta tn tc,.int .i64 now,.int .i64 (m:Int)] 44)).alloc (.cells zrR 40))=w1 at *;go_wp2_with fail;refine wp_region_any (by kernel_rfl) ?_;refine wpAny_slotsF 12 (fun _ a b=>Below a.heap.size a b) (frame:=(fun (a b c d e f g h i j k l m n o p q r s u v w x y z A B C D E F G H I:Value)=>fun (t:Nat→Value)=>({ tmps:=List.toArray [a,b,c,d,e,t 11,f,t 0,t 1,t 2,t 3,t 4,t 5,t 6,t 7,t 8,t 9,t 10,g,h,i,j,k,l,m,n,o,p,q,r,s,u,v,w,x,y,z,A,B,C,D,E,F,G,H,I],defers:=[] }:Act)) _ _ _ _ _ _ _ _ _ _ _ _ _ _ _ _ _ _ _ _ _ _ _ _ _ _ _ _ _ _ _ _ _ _)
  (Ext:=fun L u w'=>ApH w1 [10,11] L u w') (Good:=fun i L w' v=>if i=0 then v=.pointer (some ⟨G,0,none⟩) else if i=1 then v=.pointer (some ⟨G,0,none⟩) else if i=2 then v=.pointer (some ⟨G,5,none⟩) else if i=3 then v=.pointer (some ⟨G,11,none⟩) else if i=4 then v=.agg #[.slice aD nD cD,.slice aU nU cU,.int .i64 r.k,.slice aT r.n cT] else if i=5 then v=.pointer (some ⟨G,0,none⟩) else if i=6 then v=.pointer (some ⟨G,0,none⟩) else if i=7 then v=.pointer (some ⟨G,4,none⟩) else if i=8 then v=.slice ka 32 kc else if i=9 then v=.agg #[.int .i64 kind,.slice ta tn tc,.int .i64 now,.int .i64 (m:Int)] else if i=10 then DSV w1.heap.size w' v (opD r.D r.U r.k r.T r.n kind (m:Int)) else if i=11 then NwD w1.heap.size w' v else True) (Fin:=(fun u w9=>∃ Q1 cs,u 11=.pointer (some ⟨Q1,0,none⟩)∧w1.heap.size≤Q1∧w9.heap[Q1]?=some (.cells cs 87 (0,0))∧DSV w1.heap.size w9 (.agg cs) (opD r.D r.U r.k r.T r.n kind (m:Int))∧Below w1.heap.size w1 w9)) rfl (by kernel_rfl) ?hstab (by kernel_rfl) ?hop ?hend ?hdone _ _ ((fun (x0 x1 x2 x3 x4 x5 x6 x7 x8 x9 x10 x11:Value)=>fun (i:Nat)=>if i=0 then x0 else if i=1 then x1 else if i=2 then x2 else if i=3 then x3 else if i=4 then x4 else if i=5 then x5 else if i=6 then x6 else if i=7 then x7 else if i=8 then x8 else if i=9 then x9 else if i=10 then x10 else if i=11 then x11 else undef) _ _ _ _ _ _ _ _ _ _ _ _) _ (by simp) ?none ?ext (by simp)
 case none=>intro i;rw[Array.getD_eq_getD_getElem?,Array.getElem?_replicate];split<;>rfl
 case ext=>exact ApH.start w1 [10,11] _ _ (fun i=>by rw[Array.getD_eq_getD_getElem?,Array.getElem?_replicate];split<;>rfl) ⟨rfl,rfl,rfl,Nat.le_refl _,fun _ _=>rfl⟩
 case hstab=>
  intro j L w9 w' i v _ hM _ _ h;by_cases h10:j=10
  ·subst h10;simp at h ⊢;exact h.below hM
  by_cases h11:j=11
  ·subst h11;simp at h ⊢;exact h.below hM
  simp only[if_neg h10,if_neg h11] at h ⊢;exact h
 case hop=>
  intro i o L t w' hi ho hLi hx hdep K hK;obtain rfl|rfl|rfl|rfl|rfl|rfl|rfl|rfl|rfl|rfl|rfl|rfl:i=0∨i=1∨i=2∨i=3∨i=4∨i=5∨i=6∨i=7∨i=8∨i=9∨i=10∨i=11:=by omega
  all_goals(simp at ho;subst ho)
  ·clear hdep;have hK':=hK w' (.pointer (some ⟨G,0,none⟩)) (by simp) (hx.step 0 _ (Below.refl _ _) (fun h=>absurd h (by decide))) (Below.refl _ _);clear hK;rw[if_pos (by rfl)];go_simp;simpa[upd] using hK'
  ·have d0:t 0=.pointer (some ⟨G,0,none⟩):=by simpa using(hdep ⟨0,.data⟩ (by simp) rfl).2
   clear hdep;have hK':=hK w' (.pointer (some ⟨G,0,none⟩)) (by simp) (hx.step 1 _ (Below.refl _ _) (fun h=>absurd h (by decide))) (Below.refl _ _);clear hK;rw[if_pos (by rfl)];go_simp;simpa[upd,d0] using hK'
  ·have d1:t 1=.pointer (some ⟨G,0,none⟩):=by simpa using(hdep ⟨1,.data⟩ (by simp) rfl).2
   clear hdep;have hK':=hK w' (.pointer (some ⟨G,5,none⟩)) (by simp) (hx.step 2 _ (Below.refl _ _) (fun h=>absurd h (by decide))) (Below.refl _ _);clear hK;rw[if_pos (by rfl)];go_simp;simpa[upd,d1] using hK'
  ·have d2:t 2=.pointer (some ⟨G,5,none⟩):=by simpa using(hdep ⟨2,.data⟩ (by simp) rfl).2
   clear hdep;have hK':=hK w' (.pointer (some ⟨G,11,none⟩)) (by simp) (hx.step 3 _ (Below.refl _ _) (fun h=>absurd h (by decide))) (Below.refl _ _);clear hK;rw[if_pos (by rfl)];go_simp;simpa[upd,d2] using hK'
  ·have d3:t 3=.pointer (some ⟨G,11,none⟩):=by simpa using(hdep ⟨3,.data⟩ (by simp) rfl).2
   clear hdep;have y11:w'.cell? ⟨G,11,none⟩=some (.slice aD nD cD):=by rw[hx.below.cell (p:=⟨G,11,none⟩) HGL.out];exact HC11.out
   have y12:w'.cell? ⟨G,12,none⟩=some (.slice aU nU cU):=by rw[hx.below.cell (p:=⟨G,12,none⟩) HGL.out];exact HC12.out
   have y13:w'.cell? ⟨G,13,none⟩=some (.int .i64 r.k):=by rw[hx.below.cell (p:=⟨G,13,none⟩) HGL.out];exact HC13.out
   have y14:w'.cell? ⟨G,14,none⟩=some (.slice aT r.n cT):=by rw[hx.below.cell (p:=⟨G,14,none⟩) HGL.out];exact HC14.out
   have hK':=hK w' (.agg #[.slice aD nD cD,.slice aU nU cU,.int .i64 r.k,.slice aT r.n cT]) (by simp) (hx.step 4 _ (Below.refl _ _) (fun h=>absurd h (by decide))) (Below.refl _ _);clear hK;rw[if_pos (by rfl)];go_simp;simpa[upd,d3] using hK'
  ·clear hdep;have hK':=hK w' (.pointer (some ⟨G,0,none⟩)) (by simp) (hx.step 5 _ (Below.refl _ _) (fun h=>absurd h (by decide))) (Below.refl _ _);clear hK;rw[if_pos (by rfl)];go_simp;simpa[upd] using hK'
  ·have d5:t 5=.pointer (some ⟨G,0,none⟩):=by simpa using(hdep ⟨5,.data⟩ (by simp) rfl).2
   clear hdep;have hK':=hK w' (.pointer (some ⟨G,0,none⟩)) (by simp) (hx.step 6 _ (Below.refl _ _) (fun h=>absurd h (by decide))) (Below.refl _ _);clear hK;rw[if_pos (by rfl)];go_simp;simpa[upd,d5] using hK'
  ·have d6:t 6=.pointer (some ⟨G,0,none⟩):=by simpa using(hdep ⟨6,.data⟩ (by simp) rfl).2
   clear hdep;have hK':=hK w' (.pointer (some ⟨G,4,none⟩)) (by simp) (hx.step 7 _ (Below.refl _ _) (fun h=>absurd h (by decide))) (Below.refl _ _);clear hK;rw[if_pos (by rfl)];go_simp;simpa[upd,d6] using hK'
  ·have d7:t 7=.pointer (some ⟨G,4,none⟩):=by simpa using(hdep ⟨7,.data⟩ (by simp) rfl).2
   clear hdep;have y4:w'.cell? ⟨G,4,none⟩=some (.slice ka 32 kc):=by rw[hx.below.cell (p:=⟨G,4,none⟩) HGL.out];exact HC4.out
   have hK':=hK w' (.slice ka 32 kc) (by simp) (hx.step 8 _ (Below.refl _ _) (fun h=>absurd h (by decide))) (Below.refl _ _);clear hK;rw[if_pos (by rfl)];go_simp;simpa[upd,d7] using hK'
  ·clear hdep;have hr:w'.heap[w.heap.size]?=some (.cells #[.int .i64 kind,.slice ta tn tc,.int .i64 now,.int .i64 (m:Int)] 44 (0,0)):=by rw[hx.below.block _ (lt_ofD HX1.out.1)];exact HX1.out.1
   have hK':=hK w' (.agg #[.int .i64 kind,.slice ta tn tc,.int .i64 now,.int .i64 (m:Int)]) (by simp) (hx.step 9 _ (Below.refl _ _) (fun h=>absurd h (by decide))) (Below.refl _ _);clear hK;rw[if_pos (by rfl)];refine wp_load_row 44 (.tmp 3) rfl w.heap.size rfl 44 _ (0,0) _ hr Tryz.underlying44 rfl HOZ.out ?_;go_simp;simpa[upd] using hK'
  ·have d4:t 4=.agg #[.slice aD nD cD,.slice aU nU cU,.int .i64 r.k,.slice aT r.n cT]:=by simpa using(hdep ⟨4,.data⟩ (by simp) rfl).2
   have d8:t 8=.slice ka 32 kc:=by simpa using(hdep ⟨8,.data⟩ (by simp) rfl).2
   have d9:t 9=.agg #[.int .i64 kind,.slice ta tn tc,.int .i64 now,.int .i64 (m:Int)]:=by simpa using(hdep ⟨9,.data⟩ (by simp) rfl).2
   clear hdep;have hszw:w1.heap.size≤w'.heap.size:=hx.below.size;have A:=HSP.out w' hx.below;have hK':∀ ww v,DSV w'.heap.size ww v (opD r.D r.U r.k r.T r.n kind (m:Int))→Below w'.heap.size w' ww→K _ ww:=fun ww v hv hb=>hK ww v (by simpa using hv.mono hszw) (hx.step 10 v hb (fun _=>hv.fresh)) hb
   clear hK;rw[if_pos (by rfl)];go_simp;try simp only[d4,d8,d9]
   refine A.mono ?_;rintro e w9 ⟨v9,rfl,hv9,hb9⟩;have hK2:=hK' w9 v9 hv9 hb9;clear hK' A hv9 hb9;go_simp;simpa[upd,d4,d8,d9] using hK2
  ·clear hdep;have hsz:w1.heap.size≤w'.heap.size:=hx.below.size;have bb:Below w'.heap.size w' (w'.alloc (.cells #[.int .i64 0,.slice none 0 0,.slice none 0 0,.int .i64 0,.slice none 0 0] 87)):=(Below.refl _ _).alloc (Nat.le_refl _) _;have hK':=hK (w'.alloc (.cells #[.int .i64 0,.slice none 0 0,.slice none 0 0,.int .i64 0,.slice none 0 0] 87)) (.pointer (some ⟨w'.heap.size,0,none⟩)) (by simpa using⟨w'.heap.size,rfl,hsz,heap_alloc_new w' _⟩) (hx.step 11 _ bb (fun _=>fun j hj=>by rw[has_ptr] at hj;subst hj;exact⟨Nat.le_refl _,by simp⟩)) bb;clear hK bb;rw[if_pos (by rfl)];go_simp;simpa[upd] using hK'
 case hend=>
  intro o L t w' ho hx hg K hK;simp at ho;subst ho;have l10:L 10=true:=(hg 10 (by decide)).1;have f10:DSV w1.heap.size w' (t 10) (opD r.D r.U r.k r.T r.n kind (m:Int)):=by simpa using(hg 10 (by decide)).2
  have l11:L 11=true:=(hg 11 (by decide)).1;have f11:NwD w1.heap.size w' (t 11):=by simpa using(hg 11 (by decide)).2
  clear hg;obtain⟨Q1,e11,hG,hrow⟩:=f11;have hap:=hx.ap 10 (by decide) 11 (by decide) (by decide) l10 l11;obtain⟨cs,e10,h1,h2⟩:=f10.cells;have hK':∀ ww,Wr Q1 w' ww→ww.heap[Q1]?=some (.cells cs 87 (0,0))→K _ ww:=fun ww hw hr=>hK ww undef ⟨Q1,cs,by simp[upd];exact e11,hG,hr,(e10 ▸ f10).wrG hw (fun j hj e=>hap j (by rw[e10];exact hj) (by rw[e11,has_ptr];exact e)),hx.below.trans (hw.below hG)⟩
  clear hK;rw[if_pos (by rfl)];refine wp_store_row 87 (.tmp 5) (.tmp 17) rfl Q1 cs e11 e10 87 _ hrow (by rw[h1];exact HRZ.out) (by rw[h1];rfl) h2 ?_;have hK2:=hK' _ (Wr.setRow _ _ _) (setRow_heap _ _ _ _ _ _ hrow);clear hK';simpa[upd,Act.put] using hK2
 case hdone=>
  intro t w2 hf;obtain⟨Q1,cs,e11,hQ,hrow,hds,hb2⟩:=hf;simp only[e11];clear e11;have HB2:Hid (Below w.heap.size w w2):=HX1.out.2.2.trans (hb2.mono HX1.out.2.2.size);have HO2:Hid (w2.heap[w.heap.size]?=some (.cells #[.int .i64 kind,.slice ta tn tc,.int .i64 now,.int .i64 (m:Int)] 44 (0,0))∧w2.heap[w.heap.size+1]?=some (.cells zrR 40 (0,0))):=⟨by rw[hb2.block _ (lt_ofD HX1.out.1)];exact HX1.out.1,by rw[hb2.block _ (lt_ofD HX1.out.2.1)];exact HX1.out.2.1⟩
  obtain⟨bD,mD,dD,bU,mU,dU,bT,mT,dT,e5,s3⟩:=hds;cases e5;have HRW:=hid_ofV hrow;have hG2:w2.heap[G]?=some (.cells C 38 (0,0)):=by rw[HB2.out.block _ (lt_ofD HGC.out.1)];exact HGC.out.1
  have cell2:∀ i v,C[i]?=some v→w2.cell? ⟨G,i,none⟩=some v:=fun i v e=>(cell_of_row w2 G i _ _ _ hG2).trans e
  have i6:=HI6.out.below HB2.out;obtain⟨i1,i2,i3,i4,i5,i6,i7,i8,i9,i10,i11,i12⟩:=i6;have hbd:=HBD.out;have hop:=opD_len (D:=r.D) (U:=r.U) (k:=r.k) (T:=r.T) (n:=r.n) (kind:=kind) (N:=(m:Int)) (stP_of HV.out.2.2.2.2.2.1);have A:=stEq_any Q1 1 G 11 (opD r.D r.U r.k r.T r.n kind (m:Int)).k r.k bD aD bU aU bT aT mD dD nD cD mU dU nU cU mT dT r.n cT (opD r.D r.U r.k r.T r.n kind (m:Int)).D r.D (opD r.D r.U r.k r.T r.n kind (m:Int)).U r.U (opD r.D r.U r.k r.T r.n kind (m:Int)).T r.T w2 (lt_ofD hrow) (lt_ofD hG2)
   (by rw[cell_of_row w2 Q1 1 _ _ _ hrow];rfl) (by rw[cell_of_row w2 Q1 2 _ _ _ hrow];rfl) (by rw[cell_of_row w2 Q1 3 _ _ _ hrow];rfl) (by rw[cell_of_row w2 Q1 4 _ _ _ hrow];rfl)
   (cell2 11 _ (by rw[HCC.out];rfl)) (cell2 12 _ (by rw[HCC.out];rfl)) (cell2 13 _ (by rw[HCC.out];rfl)) (cell2 14 _ (by rw[HCC.out];rfl))
   ⟨s3.nd,i10,s3.nu,i11,s3.nt,i12⟩ ⟨by have:=s3.nd;omega,by have:=hbd.2.2.2.1;omega,by have:=s3.nu;omega,by have:=hbd.2.2.2.2.1;omega,by have:=s3.nt;have:=hop.2.2;have:=hbd.2.2.2.2.2;omega,by have:=hbd.2.2.2.2.2;omega⟩ ⟨s3.d.at_,i4,s3.u.at_,i5,s3.t.at_,i6⟩
  rw[opD_eq] at A;have HA:=hid_ofV A;have HQ2:Hid (Q1<w2.heap.size∧w2.cell? ⟨Q1,0,none⟩=some (.int .i64 (opD r.D r.U r.k r.T r.n kind (m:Int)).c)):=⟨lt_ofD hrow,by rw[cell_of_row w2 Q1 0 _ _ _ hrow];rfl⟩
  clear A hb2 hrow s3 hG2 cell2 i1 i2 i3 i4 i5 i6 i7 i8 i9 i10 i11 i12 hbd hop HX1 HSP;go_wp2_with fail;refine HA.out.mono ?_;rintro e w3 ⟨rfl,q3,hq3⟩;have b3:Below w2.heap.size w2 w3:=by rw[hq3];exact below_dq (Below.refl _ _) _
  have HB3:Hid (Below w.heap.size w w3):=HB2.out.trans (b3.mono HB2.out.size);have HO3:Hid (w3.heap[w.heap.size]?=some (.cells #[.int .i64 kind,.slice ta tn tc,.int .i64 now,.int .i64 (m:Int)] 44 (0,0))∧w3.heap[w.heap.size+1]?=some (.cells zrR 40 (0,0))):=⟨by rw[b3.block _ (lt_ofD HO2.out.1)];exact HO2.out.1,by rw[b3.block _ (lt_ofD HO2.out.2)];exact HO2.out.2⟩
  have HQ3:Hid (Q1<w3.heap.size∧w3.cell? ⟨Q1,0,none⟩=some (.int .i64 (opD r.D r.U r.k r.T r.n kind (m:Int)).c)):=⟨Nat.lt_of_lt_of_le HQ2.out.1 b3.size,by rw[b3.cell (p:=⟨Q1,0,none⟩) HQ2.out.1];exact HQ2.out.2⟩
  have hG3:Hid (w3.heap[G]?=some (.cells C 38 (0,0))):=by show _=_;rw[HB3.out.block _ (lt_ofD HGC.out.1)];exact HGC.out.1
  clear b3 hq3 HA HB2 HO2 HQ2 HRW;by_cases hne:(opD r.D r.U r.k r.T r.n kind (m:Int)).D=r.D
  ·have hd:decide ((opD r.D r.U r.k r.T r.n kind (m:Int)).D=r.D)=true:=decide_eq_true hne;have HNE:=hid_ofV hne;rw[hd];have c0:=HQ3.out.2;have A:=hid_ofV (unt_any G C (opD r.D r.U r.k r.T r.n kind (m:Int)).c zs ks (-1) false r w3 hG3.out (HGC.out.2.below HB3.out) HBD.out HV.out.1 (by rw[HV.out.2.2.2.2.1];decide));clear hne hd;go_wp2_with fail;refine A.out.mono ?_;rintro e w6 ⟨X,rfl,hr9,hb6⟩;have hR9:=hr9.row;have HRB:Hid (w6.heap[w.heap.size+1]?=some (.cells zrR 40 (0,0))):=by show _=_;rw[hb6.block _ (lt_ofD HO3.out.2)];exact HO3.out.2
   have HXS:Hid ((Tryz.prog.info? 40).map (·.size)=some X.size∧zrR.size=X.size∧X.all (fun x=>x.oneCell')=true):=⟨by rw[hR9.1];exact Tryz.sizeR,by rw[hR9.1];rfl,hR9.2⟩
   have HF:Hid (RTQ w.heap.size (w6.setRow (w.heap.size+1) X) X (opD r.D r.U r.k r.T r.n kind (m:Int)).c (sgZ zs r kind m) [] ks (-1) false (sgR zs r kind m)∧Below w.heap.size w (w6.setRow (w.heap.size+1) X)):=by
    have hw:Wr (w.heap.size+1) w6 (w6.setRow (w.heap.size+1) X):=Wr.setRow _ _ _;have z:sgZ zs r kind m=zs:=by unfold sgZ;rw[if_pos HNE.out]
    have z2:sgR zs r kind m=r:=by unfold sgR;rw[if_pos HNE.out]
    refine⟨?_,(HB3.out.trans (hb6.mono HB3.out.size)).trans (hw.below (by omega))⟩;rw[z2,z];exact(hr9.put (lt_ofD HO3.out.2)).mono (Nat.le_succ _)
   clear hR9 hr9 hb6 A c0;go_wp2_with (first
    |(refine wpList_store_row rfl 40 (.tmp 4) (.tmp 28) rfl (w.heap.size+1) X rfl rfl 40 _ HRB.out HXS.out.1 HXS.out.2.1 HXS.out.2.2 ?_)
    |fail)
   exact bodyPost_ret (v:=.agg X) (results_cell_row rfl _ _ (w.heap.size+1) 40 _ (0,0) _ rfl (setRow_heap _ _ _ _ _ _ HRB.out) Tryz.underlying40 rfl HXS.out.1) rfl ⟨_,rfl,HF.out.1,HF.out.2⟩
  have hd:decide ((opD r.D r.U r.k r.T r.n kind (m:Int)).D=r.D)=false:=decide_eq_false hne;rw[hd];clear hd;have A:=hid_ofV (jnf_any G zs.length dc j da r.nx r.t w3 (lt_ofD hG3.out) ((cell_of_row w3 G 0 _ _ _ hG3.out).trans (by rw[HCC.out];rfl)) ((cell_of_row w3 G 15 _ _ _ hG3.out).trans (by rw[HCC.out];rfl)) ((cell_of_row w3 G 7 _ _ _ hG3.out).trans (by rw[HCC.out];rfl)) HV.out.2.2.1 HV.out.2.2.2.1 HV.out.2.2.2.2.2.2.1 HV.out.2.2.2.2.2.2.2.1 HV.out.2.2.2.2.2.2.2.2.1 HV.out.2.2.2.2.2.2.2.2.2.1);go_wp2_with fail;refine A.out.mono ?_;rintro e w4 ⟨rfl,hb4⟩;have HB4:Hid (Below w.heap.size w w4):=HB3.out.trans (hb4.mono HB3.out.size);have HO4:Hid (w4.heap[w.heap.size]?=some (.cells #[.int .i64 kind,.slice ta tn tc,.int .i64 now,.int .i64 (m:Int)] 44 (0,0))):=by show _=_;rw[hb4.block _ (lt_ofD HO3.out.1)];exact HO3.out.1
  have HR4:Hid (w4.heap[w.heap.size+1]?=some (.cells zrR 40 (0,0))):=by show _=_;rw[hb4.block _ (lt_ofD HO3.out.2)];exact HO3.out.2
  have HQ4:Hid (Q1<w4.heap.size∧w4.cell? ⟨Q1,0,none⟩=some (.int .i64 (opD r.D r.U r.k r.T r.n kind (m:Int)).c)):=⟨Nat.lt_of_lt_of_le HQ3.out.1 hb4.size,by rw[hb4.cell (p:=⟨Q1,0,none⟩) HQ3.out.1];exact HQ3.out.2⟩
  have hG4:w4.heap[G]?=some (.cells C 38 (0,0)):=by rw[hb4.block _ (lt_ofD hG3.out)];exact hG3.out
  have HG4:Hid (G<w4.heap.size∧w4.cell? ⟨G,15,none⟩=some (.int .u32 r.nx)):=⟨lt_ofD hG4,(cell_of_row w4 G 15 _ _ _ hG4).trans (by rw[HCC.out];rfl)⟩
  clear A hb4 HB3 HO3 HQ3 hG3 hG4;go_wp2_with fail;refine wp_region_any (by kernel_rfl) ?_;refine wpAny_slotsF 8 (fun _ a b=>Below a.heap.size a b) (frame:=(fun (a b c d e f g h i j k l m n o p q r s u v w x y z A B C D E F G H I J K L M:Value)=>fun (t:Nat→Value)=>({ tmps:=List.toArray [a,b,c,d,e,f,t 7,g,h,i,j,k,l,m,n,o,p,q,r,s,u,v,w,x,y,z,A,B,C,D,E,F,G,H,t 0,t 1,t 2,t 3,t 4,t 5,t 6,I,J,K,L,M],defers:=[] }:Act)) _ _ _ _ _ _ _ _ _ _ _ _ _ _ _ _ _ _ _ _ _ _ _ _ _ _ _ _ _ _ _ _ _ _ _ _ _ _)
   (Ext:=fun L u w'=>ApH w4 [7] L u w') (Good:=fun i L w' v=>if i=0 then v=.agg #[.int .i64 kind,.slice ta tn tc,.int .i64 now,.int .i64 (m:Int)] else if i=1 then v=.pointer (some ⟨G,0,none⟩) else if i=2 then v=.pointer (some ⟨G,0,none⟩) else if i=3 then v=.pointer (some ⟨G,5,none⟩) else if i=4 then v=.pointer (some ⟨G,15,none⟩) else if i=5 then v=.int .u32 r.nx else if i=6 then v=.agg #[.int .u32 r.nx,.int .i64 2,.int .u32 (m:Int),.int .u32 (if kind=2 then 1 else 0)] else if i=7 then NwE w4.heap.size w' v else True) (Fin:=(fun u w9=>∃ Q2,u 7=.pointer (some ⟨Q2,0,none⟩)∧w4.heap.size≤Q2∧w9.heap[Q2]?=some (.cells #[.int .u32 r.nx,.int .i64 2,.int .u32 (m:Int),.int .u32 (if kind=2 then 1 else 0)] 92 (0,0))∧Below w4.heap.size w4 w9)) rfl (by kernel_rfl) ?hstab (by kernel_rfl) ?hop ?hend ?hdone _ _ ((fun (x0 x1 x2 x3 x4 x5 x6 x7:Value)=>fun (i:Nat)=>if i=0 then x0 else if i=1 then x1 else if i=2 then x2 else if i=3 then x3 else if i=4 then x4 else if i=5 then x5 else if i=6 then x6 else if i=7 then x7 else undef) _ _ _ _ _ _ _ _) _ (by simp) ?none ?ext (by simp)
  case none=>intro i;rw[Array.getD_eq_getD_getElem?,Array.getElem?_replicate];split<;>rfl
  case ext=>exact ApH.start w4 [7] _ _ (fun i=>by rw[Array.getD_eq_getD_getElem?,Array.getElem?_replicate];split<;>rfl) ⟨rfl,rfl,rfl,Nat.le_refl _,fun _ _=>rfl⟩
  case hstab=>
   intro j L w9 w' i v _ hM _ _ h;by_cases h7:j=7
   ·subst h7;simp at h ⊢;exact h.below hM
   simp only[if_neg h7] at h ⊢;exact h
  case hop=>
   intro i o L t w' hi ho hLi hx hdep K hK;obtain rfl|rfl|rfl|rfl|rfl|rfl|rfl|rfl:i=0∨i=1∨i=2∨i=3∨i=4∨i=5∨i=6∨i=7:=by omega
   all_goals(simp at ho;subst ho)
   ·clear hdep;have hr:w'.heap[w.heap.size]?=some (.cells #[.int .i64 kind,.slice ta tn tc,.int .i64 now,.int .i64 (m:Int)] 44 (0,0)):=by rw[hx.below.block _ (lt_ofD HO4.out)];exact HO4.out
    have hK':=hK w' (.agg #[.int .i64 kind,.slice ta tn tc,.int .i64 now,.int .i64 (m:Int)]) (by simp) (hx.step 0 _ (Below.refl _ _) (fun h=>absurd h (by decide))) (Below.refl _ _);clear hK;rw[if_pos (by rfl)];refine wp_load_row 44 (.tmp 3) rfl w.heap.size rfl 44 _ (0,0) _ hr Tryz.underlying44 rfl HOZ.out ?_;go_simp;simpa[upd] using hK'
   ·clear hdep;have hK':=hK w' (.pointer (some ⟨G,0,none⟩)) (by simp) (hx.step 1 _ (Below.refl _ _) (fun h=>absurd h (by decide))) (Below.refl _ _);clear hK;rw[if_pos (by rfl)];go_simp;simpa[upd] using hK'
   ·have d1:t 1=.pointer (some ⟨G,0,none⟩):=by simpa using(hdep ⟨1,.data⟩ (by simp) rfl).2
    clear hdep;have hK':=hK w' (.pointer (some ⟨G,0,none⟩)) (by simp) (hx.step 2 _ (Below.refl _ _) (fun h=>absurd h (by decide))) (Below.refl _ _);clear hK;rw[if_pos (by rfl)];go_simp;simpa[upd,d1] using hK'
   ·have d2:t 2=.pointer (some ⟨G,0,none⟩):=by simpa using(hdep ⟨2,.data⟩ (by simp) rfl).2
    clear hdep;have hK':=hK w' (.pointer (some ⟨G,5,none⟩)) (by simp) (hx.step 3 _ (Below.refl _ _) (fun h=>absurd h (by decide))) (Below.refl _ _);clear hK;rw[if_pos (by rfl)];go_simp;simpa[upd,d2] using hK'
   ·have d3:t 3=.pointer (some ⟨G,5,none⟩):=by simpa using(hdep ⟨3,.data⟩ (by simp) rfl).2
    clear hdep;have hK':=hK w' (.pointer (some ⟨G,15,none⟩)) (by simp) (hx.step 4 _ (Below.refl _ _) (fun h=>absurd h (by decide))) (Below.refl _ _);clear hK;rw[if_pos (by rfl)];go_simp;simpa[upd,d3] using hK'
   ·have d4:t 4=.pointer (some ⟨G,15,none⟩):=by simpa using(hdep ⟨4,.data⟩ (by simp) rfl).2
    clear hdep;have y15:w'.cell? ⟨G,15,none⟩=some (.int .u32 r.nx):=by rw[hx.below.cell (p:=⟨G,15,none⟩) HG4.out.1];exact HG4.out.2
    have hK':=hK w' (.int .u32 r.nx) (by simp) (hx.step 5 _ (Below.refl _ _) (fun h=>absurd h (by decide))) (Below.refl _ _);clear hK;rw[if_pos (by rfl)];go_simp;simpa[upd,d4] using hK'
   ·have d0:t 0=.agg #[.int .i64 kind,.slice ta tn tc,.int .i64 now,.int .i64 (m:Int)]:=by simpa using(hdep ⟨0,.data⟩ (by simp) rfl).2
    have d5:t 5=.int .u32 r.nx:=by simpa using(hdep ⟨5,.data⟩ (by simp) rfl).2
    clear hdep;have A:=duf_any kind r.nx m ta tn tc now w' hkd hm;have hK':∀ ww,Below w'.heap.size w' ww→K _ ww:=fun ww hb=>hK ww (.agg #[.int .u32 r.nx,.int .i64 2,.int .u32 (m:Int),.int .u32 (if kind=2 then 1 else 0)]) (by simp) (hx.step 6 _ hb (fun h=>absurd h (by decide))) hb
    clear hK;rw[if_pos (by rfl)];go_simp;try simp only[d0,d5]
    refine A.mono ?_;rintro e w9 ⟨rfl,hb9⟩;have hK2:=hK' w9 hb9;clear hK' A hb9;go_simp;simpa[upd,d0,d5] using hK2
   ·clear hdep;have hsz:w4.heap.size≤w'.heap.size:=hx.below.size;have bb:Below w'.heap.size w' (w'.alloc (.cells #[.int .u32 0,.int .i64 0,.int .u32 0,.int .u32 0] 92)):=(Below.refl _ _).alloc (Nat.le_refl _) _;have hK':=hK (w'.alloc (.cells #[.int .u32 0,.int .i64 0,.int .u32 0,.int .u32 0] 92)) (.pointer (some ⟨w'.heap.size,0,none⟩)) (by simpa using⟨w'.heap.size,rfl,hsz,heap_alloc_new w' _⟩) (hx.step 7 _ bb (fun _=>fun j hj=>by rw[has_ptr] at hj;subst hj;exact⟨Nat.le_refl _,by simp⟩)) bb;clear hK bb;rw[if_pos (by rfl)];go_simp;simpa[upd] using hK'
  case hend=>
   intro o L t w' ho hx hg K hK;simp at ho;subst ho;have d6:t 6=.agg #[.int .u32 r.nx,.int .i64 2,.int .u32 (m:Int),.int .u32 (if kind=2 then 1 else 0)]:=by simpa using(hg 6 (by decide)).2
   have l7:L 7=true:=(hg 7 (by decide)).1;have f7:NwE w4.heap.size w' (t 7):=by simpa using(hg 7 (by decide)).2
   clear hg;obtain⟨Q2,e7,hQ,hrow⟩:=f7;have hK':∀ ww,Wr Q2 w' ww→ww.heap[Q2]?=some (.cells #[.int .u32 r.nx,.int .i64 2,.int .u32 (m:Int),.int .u32 (if kind=2 then 1 else 0)] 92 (0,0))→K _ ww:=fun ww hw hr=>hK ww undef ⟨Q2,by simp[upd];exact e7,hQ,hr,hx.below.trans (hw.below hQ)⟩
   clear hK;rw[if_pos (by rfl)];refine wp_store_row 92 (.tmp 6) (.tmp 40) rfl Q2 #[.int .u32 r.nx,.int .i64 2,.int .u32 (m:Int),.int .u32 (if kind=2 then 1 else 0)] e7 d6 92 _ hrow HFZ.out rfl (by simp[Value.oneCell']) ?_;have hK2:=hK' _ (Wr.setRow _ _ _) (setRow_heap _ _ _ _ _ _ hrow);clear hK';simpa[upd,Act.put] using hK2
  case hdone=>
   intro t w5 hf;obtain⟨Q2,e7,hQ2,hrow2,hb5⟩:=hf;simp only[e7];clear e7;have HB5:Hid (Below w.heap.size w w5):=HB4.out.trans (hb5.mono HB4.out.size);have HF2:=hid_ofV hrow2;have c0:w5.cell? ⟨Q1,0,none⟩=some (.int .i64 (opD r.D r.U r.k r.T r.n kind (m:Int)).c):=by rw[hb5.cell (p:=⟨Q1,0,none⟩) HQ4.out.1];exact HQ4.out.2
   have HRB5:Hid (w5.heap[w.heap.size+1]?=some (.cells zrR 40 (0,0))):=by show _=_;rw[hb5.block _ (lt_ofD HR4.out)];exact HR4.out
   have hG5:w5.heap[G]?=some (.cells C 38 (0,0)):=by rw[HB5.out.block _ (lt_ofD HGC.out.1)];exact HGC.out.1
   obtain⟨q,hq⟩:∃ q:Nat,r.nx=q:=⟨r.nx.toNat,by have:=HV.out.2.2.2.2.2.2.1;have:=HV.out.2.2.2.2.2.2.2.1;omega⟩
   have hqb:q<4000000000:=by have:=HV.out.2.2.2.2.2.2.2.2.1;omega
   have A:=hid_ofV (afF_any G Q2 C #[.int .u32 r.nx,.int .i64 2,.int .u32 (m:Int),.int .u32 (if kind=2 then 1 else 0)] (opD r.D r.U r.k r.T r.n kind (m:Int)).c zs ks (-1) r (overL zs (4+q%(zs.length/64-4)) (encI q 2 (m:Int) (if kind=2 then 1 else 0)),[],-1,false) w5 hG5 (HGC.out.2.below HB5.out) HBD.out HV.out.1 (by have:=HV.out.2.2.1;omega) (by rw[HV.out.2.2.2.2.1];decide) HF2.out rfl (fun _=>rfl) (overL_len _ _ _ (by rw[encI_len];have:=HV.out.2.2.1;have:=HV.out.2.1;have:=Nat.mod_lt q (show 0<zs.length/64-4 by omega);omega)) (overL_byte _ HV.out.2.2.2.2.2.2.2.2.2.2 (encI_byte _ _ _ _))
    (fun D g gc B H X ww b hd hDg=>by rw[hq];exact wfr_any D g zs.length gc B H X q 2 (m:Int) (if kind=2 then 1 else 0) zs ww hd hDg rfl HV.out.1 HV.out.2.1 HV.out.2.2.1 HV.out.2.2.2.1 (by omega) ⟨by omega,by omega⟩ (by split<;>exact⟨by decide,by decide⟩)))
   have HNE:=hid_ofV hne;clear hb5 hrow2 hQ2 hG5 hne;go_wp2_with fail;refine A.out.mono ?_;rintro e w6 ⟨X,rfl,hr9,hb6⟩;have hR9:=hr9.row;have HRB:Hid (w6.heap[w.heap.size+1]?=some (.cells zrR 40 (0,0))):=by show _=_;rw[hb6.block _ (lt_ofD HRB5.out)];exact HRB5.out
   have HXS:Hid ((Tryz.prog.info? 40).map (·.size)=some X.size∧zrR.size=X.size∧X.all (fun x=>x.oneCell')=true):=⟨by rw[hR9.1];exact Tryz.sizeR,by rw[hR9.1];rfl,hR9.2⟩
   have HF:Hid (RTQ w.heap.size (w6.setRow (w.heap.size+1) X) X (opD r.D r.U r.k r.T r.n kind (m:Int)).c (sgZ zs r kind m) [] ks (-1) false (sgR zs r kind m)∧Below w.heap.size w (w6.setRow (w.heap.size+1) X)):=by
    have hw:Wr (w.heap.size+1) w6 (w6.setRow (w.heap.size+1) X):=Wr.setRow _ _ _;have z:sgZ zs r kind m=overL zs (4+q%(zs.length/64-4)) (encI q 2 (m:Int) (if kind=2 then 1 else 0)):=by unfold sgZ;rw[if_neg HNE.out,hq];rfl
    have z2:sgR zs r kind m=imG (sgZ zs r kind m) [] (-1):=by unfold sgR;rw[if_neg HNE.out]
    refine⟨?_,(HB5.out.trans (hb6.mono HB5.out.size)).trans (hw.below (by omega))⟩;rw[z2,z];exact(hr9.put (lt_ofD HRB5.out)).mono (Nat.le_succ _)
   clear hR9 hr9 hb6 A;go_wp2_with (first
    |(refine wpList_store_row rfl 40 (.tmp 4) (.tmp 45) rfl (w.heap.size+1) X rfl rfl 40 _ HRB.out HXS.out.1 HXS.out.2.1 HXS.out.2.2 ?_)
    |fail)
   exact bodyPost_ret (v:=.agg X) (results_cell_row rfl _ _ (w.heap.size+1) 40 _ (0,0) _ rfl (setRow_heap _ _ _ _ _ _ HRB.out) Tryz.underlying40 rfl HXS.out.1) rfl ⟨_,rfl,HF.out.1,HF.out.2⟩
theorem dn_ser {fs:List (Nat×Nat)} {D:List Int} (h:Dn fs D):SerP D:=by
 exact h (fun _ D=>SerP D) (fun i hi=>by simp at hi) (fun _ _ _ _ _ _ _=>withS_ser _ _) (fun _ _ _ ih _ _=>without_ser ih _)
theorem jn_le {zs:List Int} {fs:List (Nat×Nat)} {D:List Int} (h:Jn zs fs) (hd:Dn fs D):ImLe (jnI fs D):=by
 have:=imG_bd (zs:=zs) (ps:=[]) (f:=-1) h.byt (fun i=>by simp[Byte]);rw[jn_im h hd] at this;exact this
theorem jn_st {zs:List Int} {fs:List (Nat×Nat)} {D:List Int} (h:Jn zs fs) (hd:Dn fs D):stB D [] 0 [] 0=true:=
 stB_yes ⟨dn_ser hd,(jn_le h hd).2.2.2.1,fun i hi=>by simp at hi,by decide,by decide,fun i hi=>by omega⟩
theorem withS_ne {D:List Int} {a:Nat} (ha:a<256) (hn:¬ (a:Int)∈D):¬ withS D a=D:=fun e=>hn (by rw[←e];exact(withS_mem ha).1 (.inr rfl))
theorem lessS_ne {D:List Int} {a:Nat} (hn:(a:Int)∈D):¬ lessS D a=D:=fun e=>by
 rw[←e] at hn;exact(lessS_mem.2 hn).2 rfl
def GJ (lo:Nat) (w:World) (C:Array Value) (zs ks:List Int) (fs:List (Nat×Nat)) (D:List Int):Prop:=GL lo w C zs ks (-1) false (jnI fs D)∧Jn zs fs∧Dn fs D∧ks.length=32
theorem GJ.below {lo:Nat} {w w':World} {C:Array Value} {zs ks:List Int} {fs:List (Nat×Nat)} {D:List Int} (h:GJ lo w C zs ks fs D) (b:Below w.heap.size w w'):GJ lo w' C zs ks fs D:=⟨h.1.below b,h.2⟩
theorem gtq_gl {lo:Nat} {w:World} {C:Array Value} {zs ks:List Int} {f:Int} {d:Bool} {r:ImR} (h:GTQ lo w C zs [] ks f d r):GL lo w C zs ks f d r:=by
 obtain⟨da,dc,ca,cc,ka,kc,aSD,nSD,cSD,aSU,nSU,cSU,aF,mF,cF,aD,nD,cD,aU,nU,cU,aT,cT,B1,U,e,h1,h2,h3,h4,⟨⟨b1,b2,h5⟩,_⟩,_⟩:=h;exact⟨da,dc,ca,cc,ka,kc,aSD,nSD,cSD,aSU,nSU,cSU,aF,mF,cF,aD,nD,cD,aU,nU,cU,aT,cT,e,h1,h2,h3,h4,h5.l6⟩
set_option maxRecDepth 100000 in
set_option maxHeartbeats 4000000 in
theorem gdo_any {lo:Nat} (C:Array Value) (zs ks:List Int) (fs:List (Nat×Nat)) (D:List Int) (kind:Int) (m:Nat) (ta:Option Addr) (tn tc:Nat) (now:Int) (w:World) (h:GJ lo w C zs ks fs D) (hkd:kind=2∨kind=3) (hm:m<256) (hf:fs.length<20) :
  Calls Tryz.prog 6 #[.agg C,.agg #[.int .i64 kind,.slice ta tn tc,.int .i64 now,.int .i64 (m:Int)]] w fun e w'=>∃ X,e=.returned (.agg X)∧RTQ w.heap.size w' X (opD D [] 0 [] 0 kind (m:Int)).c (sgZ zs (jnI fs D) kind m) [] ks (-1) false (sgR zs (jnI fs D) kind m)∧Below w.heap.size w w':=by
 obtain⟨hg,hj,hd,hk⟩:=h;have HR:=hid_ofV hg.row;have b3:Below w.heap.size w (((w.alloc (.cells C 38)).alloc (.cells #[.int .i64 kind,.slice ta tn tc,.int .i64 now,.int .i64 (m:Int)] 44)).alloc (.cells zrR 40)):=(((Below.refl _ _).alloc (Nat.le_refl _) _).alloc (by simp) _).alloc (by simp;omega) _;have HX:Hid ((((w.alloc (.cells C 38)).alloc (.cells #[.int .i64 kind,.slice ta tn tc,.int .i64 now,.int .i64 (m:Int)] 44)).alloc (.cells zrR 40)).heap[w.heap.size]?=some (.cells C 38 (0,0))∧(((w.alloc (.cells C 38)).alloc (.cells #[.int .i64 kind,.slice ta tn tc,.int .i64 now,.int .i64 (m:Int)] 44)).alloc (.cells zrR 40)).heap[w.heap.size+1]?=some (.cells #[.int .i64 kind,.slice ta tn tc,.int .i64 now,.int .i64 (m:Int)] 44 (0,0))∧(((w.alloc (.cells C 38)).alloc (.cells #[.int .i64 kind,.slice ta tn tc,.int .i64 now,.int .i64 (m:Int)] 44)).alloc (.cells zrR 40)).heap[w.heap.size+2]?=some (.cells zrR 40 (0,0))∧Below w.heap.size w (((w.alloc (.cells C 38)).alloc (.cells #[.int .i64 kind,.slice ta tn tc,.int .i64 now,.int .i64 (m:Int)] 44)).alloc (.cells zrR 40))):=by
  refine⟨?_,?_,?_,b3⟩
  ·rw[Below.heap_alloc _ _ w.heap.size (by simp;omega),Below.heap_alloc _ _ w.heap.size (by simp)];exact heap_alloc_new w _
  ·rw[Below.heap_alloc _ _ (w.heap.size+1) (by simp)];have:=heap_alloc_new (w.alloc (.cells C 38)) (.cells #[.int .i64 kind,.slice ta tn tc,.int .i64 now,.int .i64 (m:Int)] 44)
   rwa [show(w.alloc (.cells C 38)).heap.size=w.heap.size+1 by simp] at this
  ·have:=heap_alloc_new ((w.alloc (.cells C 38)).alloc (.cells #[.int .i64 kind,.slice ta tn tc,.int .i64 now,.int .i64 (m:Int)] 44)) (.cells zrR 40)
   rwa [show((w.alloc (.cells C 38)).alloc (.cells #[.int .i64 kind,.slice ta tn tc,.int .i64 now,.int .i64 (m:Int)] 44)).heap.size=w.heap.size+2 by simp] at this
 have hle:=jn_le hj hd;have hvg:vgA zs [] (-1) false ks (jnI fs D)=true:=by
  unfold vgA;rw[jn_im hj hd];have hv:validB zs.length [] (-1)=true:=by rw[hj.len];decide
  unfold vgB imE;rw[hv,hk];simp[jnI]
 have HVG:Hid (Calls Tryz.prog 13 #[.agg C] (((w.alloc (.cells C 38)).alloc (.cells #[.int .i64 kind,.slice ta tn tc,.int .i64 now,.int .i64 (m:Int)] 44)).alloc (.cells zrR 40)) fun e w'=>e=.returned (.bool true)∧Below (((w.alloc (.cells C 38)).alloc (.cells #[.int .i64 kind,.slice ta tn tc,.int .i64 now,.int .i64 (m:Int)] 44)).alloc (.cells zrR 40)).heap.size (((w.alloc (.cells C 38)).alloc (.cells #[.int .i64 kind,.slice ta tn tc,.int .i64 now,.int .i64 (m:Int)] 44)).alloc (.cells zrR 40)) w'):=by
  have q:=ivgG (hg.below b3).gat ⟨by rw[hj.len];decide,by decide,fun i=>by simp,by rw[hk];decide,by have:=hle.1;omega,by have:=hle.2.1;omega,by have:=hle.2.2.1;omega,by have:=hle.2.2.2.1;omega,by have:=hle.2.2.2.2.1;omega,by have:=hle.2.2.2.2.2;omega⟩ hj.byt (fun i=>by simp[Byte]);rw[hvg] at q;exact q
 have HSG:Hid ((Tryz.prog.info? 38).map (·.size)=some C.size):=by show _=_;rw[HR.out.1];exact Tryz.sizeG
 have HOZ:Hid ((Tryz.prog.info? 44).map (·.size)=some 4):=by show _=_;kernel_rfl
 have HST:Hid (∀ wz,Below (((w.alloc (.cells C 38)).alloc (.cells #[.int .i64 kind,.slice ta tn tc,.int .i64 now,.int .i64 (m:Int)] 44)).alloc (.cells zrR 40)).heap.size (((w.alloc (.cells C 38)).alloc (.cells #[.int .i64 kind,.slice ta tn tc,.int .i64 now,.int .i64 (m:Int)] 44)).alloc (.cells zrR 40)) wz→Calls Tryz.prog 15 #[.pointer (some ⟨w.heap.size,0,none⟩),.agg #[.int .i64 kind,.slice ta tn tc,.int .i64 now,.int .i64 (m:Int)]] wz fun e w'=>∃ X,e=.returned (.agg X)∧RTQ wz.heap.size w' X (opD D [] 0 [] 0 kind (m:Int)).c (sgZ zs (jnI fs D) kind m) [] ks (-1) false (sgR zs (jnI fs D) kind m)∧Below wz.heap.size wz w'):=fun wz b=>by
  have bb:=b3.trans (b.mono b3.size);have hG:wz.heap[w.heap.size]?=some (.cells C 38 (0,0)):=by rw[b.block _ (lt_ofD HX.out.1)];exact HX.out.1
  exact stg_any w.heap.size C zs ks (jnI fs D) kind m fs.length ta tn tc now wz hG (hg.below bb) hle (by rw[hj.len];decide) (by rw[hj.len]) (by rw[hj.len];decide) (by rw[hj.len];decide) hk (jn_st hj hd) ⟨by show(-9223372036854775808:Int)≤0;decide,by show(0:Int)<9223372036854775808;decide⟩ hkd hm rfl (by show(0:Int)≤1;decide) (by show 1+(fs.length:Int)<_;omega) (by rw[hj.len];show fs.length<36;omega) hj.byt
 clear hg hj hd hk b3 hle hvg;go_enter Tryz.func6,Tryz.ntmps6
 go_upto_region 1 with fail
 change Code.wp _ _ _ _ (((w.alloc (.cells C 38)).alloc (.cells #[.int .i64 kind,.slice ta tn tc,.int .i64 now,.int .i64 (m:Int)] 44)).alloc (.cells zrR 40));generalize (((w.alloc (.cells C 38)).alloc (.cells #[.int .i64 kind,.slice ta tn tc,.int .i64 now,.int .i64 (m:Int)] 44)).alloc (.cells zrR 40))=w1 at *;go_wp2_with (first
  |(refine wpList_load_row rfl 38 (.tmp 2) rfl w.heap.size rfl 38 C (0,0) _ HX.out.1 Tryz.underlying38 rfl HSG.out ?_)
  |fail)
 refine HVG.out.mono ?_;rintro e w2 ⟨rfl,hb2⟩;have HX2:Hid (w2.heap[w.heap.size+1]?=some (.cells #[.int .i64 kind,.slice ta tn tc,.int .i64 now,.int .i64 (m:Int)] 44 (0,0))∧w2.heap[w.heap.size+2]?=some (.cells zrR 40 (0,0))∧Below w.heap.size w w2):=⟨by rw[hb2.block _ (lt_ofD HX.out.2.1)];exact HX.out.2.1,by rw[hb2.block _ (lt_ofD HX.out.2.2.1)];exact HX.out.2.2.1,HX.out.2.2.2.trans (hb2.mono HX.out.2.2.2.size)⟩
 have HS2:=hid_ofV (HST.out w2 hb2);have o0:w2.cell? ⟨w.heap.size+1,0,none⟩=some (.int .i64 kind):=by rw[cell_of_row w2 _ 0 _ _ _ HX2.out.1];rfl
 have h5:¬ kind=5:=by omega
 clear hb2 HX HVG HST;go_wp2_with (first
  |(refine wpList_load_row rfl 44 (.tmp 3) rfl (w.heap.size+1) rfl 44 _ (0,0) _ HX2.out.1 Tryz.underlying44 rfl HOZ.out ?_)
  |fail)
 refine HS2.out.mono ?_;rintro e w6 ⟨X,rfl,hr9,hb6⟩;have hR9:=hr9.row;have HRB:Hid (w6.heap[w.heap.size+2]?=some (.cells zrR 40 (0,0))):=by show _=_;rw[hb6.block _ (lt_ofD HX2.out.2.1)];exact HX2.out.2.1
 have HXS:Hid ((Tryz.prog.info? 40).map (·.size)=some X.size∧zrR.size=X.size∧X.all (fun x=>x.oneCell')=true):=⟨by rw[hR9.1];exact Tryz.sizeR,by rw[hR9.1];rfl,hR9.2⟩
 have HF:Hid (RTQ w.heap.size (w6.setRow (w.heap.size+2) X) X (opD D [] 0 [] 0 kind (m:Int)).c (sgZ zs (jnI fs D) kind m) [] ks (-1) false (sgR zs (jnI fs D) kind m)∧Below w.heap.size w (w6.setRow (w.heap.size+2) X)):=by
  have hw:Wr (w.heap.size+2) w6 (w6.setRow (w.heap.size+2) X):=Wr.setRow _ _ _;exact⟨(hr9.put (lt_ofD HX2.out.2.1)).mono (by omega),(HX2.out.2.2.trans (hb6.mono HX2.out.2.2.size)).trans (hw.below (by omega))⟩
 clear hR9 hr9 hb6 HS2 o0 h5;go_wp2_with (first
  |(refine wpList_store_row rfl 40 (.tmp 4) (.tmp 14) rfl (w.heap.size+2) X rfl rfl 40 _ HRB.out HXS.out.1 HXS.out.2.1 HXS.out.2.2 ?_)
  |fail)
 exact bodyPost_ret (v:=.agg X) (results_cell_row rfl _ _ (w.heap.size+2) 40 _ (0,0) _ rfl (setRow_heap _ _ _ _ _ _ HRB.out) Tryz.underlying40 rfl HXS.out.1) rfl ⟨_,rfl,HF.out.1,HF.out.2⟩
def RJ (lo:Nat) (w:World) (X:Array Value) (c:Int) (zs ks:List Int) (fs:List (Nat×Nat)) (D:List Int):Prop:=∃ C,X=#[.int .i64 c]++C∧GJ lo w C zs ks fs D
theorem sg_same {zs:List Int} {fs:List (Nat×Nat)} {D:List Int} {kind:Int} {m:Nat} (h:(opD D [] 0 [] 0 kind (m:Int)).D=D):sgZ zs (jnI fs D) kind m=zs∧sgR zs (jnI fs D) kind m=jnI fs D:=by
 have e:sgZ zs (jnI fs D) kind m=zs:=if_pos h;have e2:sgR zs (jnI fs D) kind m=jnI fs D:=if_pos h;exact⟨e,e2⟩
theorem sg_new {zs:List Int} {fs:List (Nat×Nat)} {D D':List Int} {kind:Int} {m b:Nat} (h:¬ (opD D [] 0 [] 0 kind (m:Int)).D=D) (hj:Jn zs fs) (hf:fs.length<20) (hm:m<256) (hb:b≤1) (hbk:((b:Nat):Int)=if kind=2 then 1 else 0) (hd:Dn (fs++[(m,b)]) D') :
  ∃ z,sgZ zs (jnI fs D) kind m=z∧sgR zs (jnI fs D) kind m=jnI (fs++[(m,b)]) D'∧Jn z (fs++[(m,b)]):=by
 have hs:=jn_step hj m b hm hb hf;have e:sgZ zs (jnI fs D) kind m=overL zs (5+fs.length) (encI ((fs.length+1:Nat):Int) 2 (m:Int) (b:Int)):=by
  refine(if_neg h).trans ?_;rw[hbk,hj.len];have e1:(jnI fs D).nx=((fs.length+1:Nat):Int):=by show 1+(fs.length:Int)=_;omega
  rw[e1,Int.toNat_natCast];have e2:(fs.length+1)%(2560/64-4)=fs.length+1:=Nat.mod_eq_of_lt (by omega);rw[e2,show 4+(fs.length+1)=5+fs.length by omega]
 refine⟨_,rfl,?_,by rw[e];exact hs⟩;refine(if_neg h).trans ?_;rw[e];exact jn_im hs hd
theorem gd_add {lo:Nat} (C:Array Value) (zs ks:List Int) (fs:List (Nat×Nat)) (D:List Int) (m:Nat) (ta:Option Addr) (tn tc:Nat) (now:Int) (w:World) (h:GJ lo w C zs ks fs D) (hm:m<256) (hf:fs.length<20) (hn:¬ (m:Int)∈D) (hl:¬ D.length=16) :
  Calls Tryz.prog 6 #[.agg C,.agg #[.int .i64 2,.slice ta tn tc,.int .i64 now,.int .i64 (m:Int)]] w fun e w'=>∃ X z,e=.returned (.agg X)∧RJ w.heap.size w' X 9 z ks (fs++[(m,1)]) (withS D m)∧Below w.heap.size w w':=by
 have hop:opD D [] 0 [] 0 2 (m:Int)=⟨9,withS D m,[],0,[],0⟩:=by
  rw[opD_2,if_pos ⟨by omega,by omega⟩,if_neg (by intro hq;exact hn (memD_of hq)),if_neg hl];rfl
 have hd:Dn (fs++[(m,1)]) (withS D m):=.add m h.2.2.1 hm hn hl;obtain⟨z,e1,e2,hj⟩:=sg_new (zs:=zs) (fs:=fs) (D:=D) (kind:=2) (m:=m) (b:=1) (by rw[hop];exact withS_ne hm hn) h.2.1 hf hm (by decide) rfl hd;refine(gdo_any C zs ks fs D 2 m ta tn tc now w h (.inl rfl) hm hf).mono ?_;rintro e w' ⟨X,rfl,hr,hb⟩;rw[hop,e1,e2] at hr;obtain⟨C',hX,hg⟩:=hr;exact⟨X,z,rfl,⟨C',hX,gtq_gl hg,hj,hd,h.2.2.2⟩,hb⟩
theorem gd_full {lo:Nat} (C:Array Value) (zs ks:List Int) (fs:List (Nat×Nat)) (D:List Int) (m:Nat) (ta:Option Addr) (tn tc:Nat) (now:Int) (w:World) (h:GJ lo w C zs ks fs D) (hm:m<256) (hf:fs.length<20) (hn:¬ (m:Int)∈D) (hl:D.length=16) :
  Calls Tryz.prog 6 #[.agg C,.agg #[.int .i64 2,.slice ta tn tc,.int .i64 now,.int .i64 (m:Int)]] w fun e w'=>∃ X,e=.returned (.agg X)∧RJ w.heap.size w' X 10 zs ks fs D∧Below w.heap.size w w':=by
 have hop:opD D [] 0 [] 0 2 (m:Int)=⟨10,D,[],0,[],0⟩:=by
  rw[opD_2,if_pos ⟨by omega,by omega⟩,if_neg (by intro hq;exact hn (memD_of hq)),if_pos hl]
 obtain⟨e1,e2⟩:=sg_same (zs:=zs) (fs:=fs) (D:=D) (kind:=2) (m:=m) (by rw[hop]);refine(gdo_any C zs ks fs D 2 m ta tn tc now w h (.inl rfl) hm hf).mono ?_;rintro e w' ⟨X,rfl,hr,hb⟩;rw[hop,e1,e2] at hr;obtain⟨C',hX,hg⟩:=hr;exact⟨X,rfl,⟨C',hX,gtq_gl hg,h.2⟩,hb⟩
theorem gd_rem {lo:Nat} (C:Array Value) (zs ks:List Int) (fs:List (Nat×Nat)) (D:List Int) (m:Nat) (ta:Option Addr) (tn tc:Nat) (now:Int) (w:World) (h:GJ lo w C zs ks fs D) (hm:m<256) (hf:fs.length<20) (hn:(m:Int)∈D) :
  Calls Tryz.prog 6 #[.agg C,.agg #[.int .i64 3,.slice ta tn tc,.int .i64 now,.int .i64 (m:Int)]] w fun e w'=>∃ X z,e=.returned (.agg X)∧RJ w.heap.size w' X 9 z ks (fs++[(m,0)]) (lessS D m)∧Below w.heap.size w w':=by
 have hop:opD D [] 0 [] 0 3 (m:Int)=⟨9,lessS D m,[],0,[],0⟩:=by
  rw[opD_3,if_pos ⟨by omega,by omega⟩,if_pos (memB_yes hn)];rfl
 have hd:Dn (fs++[(m,0)]) (lessS D m):=.rem m h.2.2.1 hm hn;obtain⟨z,e1,e2,hj⟩:=sg_new (zs:=zs) (fs:=fs) (D:=D) (kind:=3) (m:=m) (b:=0) (by rw[hop];exact lessS_ne hn) h.2.1 hf hm (by decide) rfl hd;refine(gdo_any C zs ks fs D 3 m ta tn tc now w h (.inr rfl) hm hf).mono ?_;rintro e w' ⟨X,rfl,hr,hb⟩;rw[hop,e1,e2] at hr;obtain⟨C',hX,hg⟩:=hr;exact⟨X,z,rfl,⟨C',hX,gtq_gl hg,hj,hd,h.2.2.2⟩,hb⟩
theorem run_max2 (w:World) (ts:Array TypeId) (t:TypeId) (x y:Int):(Builtin.max_ ts t #[.int .i64 x,.int .i64 y]).run Tryz.prog w=.ok (.int .i64 (max x y)) w:=by
 by_cases h:x<y
 ·simp[Builtin.max_,Builtin.max2,h,Int.max_def];try omega
 ·simp[Builtin.max_,Builtin.max2,h,Int.max_def];try omega
theorem run_min2 (w:World) (ts:Array TypeId) (t:TypeId) (x y:Int):(Builtin.min_ ts t #[.int .i64 x,.int .i64 y]).run Tryz.prog w=.ok (.int .i64 (min x y)) w:=by
 by_cases h:y<x
 ·simp[Builtin.min_,Builtin.min2,h,Int.min_def];try omega
 ·simp[Builtin.min_,Builtin.min2,h,Int.min_def];try omega
set_option maxHeartbeats 400000 in
set_option maxRecDepth 100000 in
theorem reach_any (D:Nat) (x:Option Addr) (n c:Nat) (bs:List Bool) (t u:Int) (i:Nat) (w:World) (h:w.heap[D]?=some (.cells #[.slice x n c,.int .i64 t,.int .i64 u] 49 (0,0))) (hA:BlA w x bs) (hl:bs.length=n) (hn:n≤1048576) (hi:i≤1048576) :
  Calls Tryz.prog 24 #[.pointer (some ⟨D,0,none⟩),.int .i64 i] w fun e w'=>e=.returned (.int .i64 ((rch bs t u i:Nat):Int))∧Below w.heap.size w w':=by
 have c0:=cell_of_row w D 0 _ _ _ h;have c1:=cell_of_row w D 1 _ _ _ h;have c2:=cell_of_row w D 2 _ _ _ h;simp at c0 c1 c2;clear h;by_cases ht:(i:Int)=t
 ·have e:((rch bs t u i:Nat):Int)=min (max u 0) 64:=by rw[rch_tear ht];omega
  rw[e];have r1:∀ ts ty w,(Builtin.max_ ts ty #[.int .i64 u,.int .i64 0]).run Tryz.prog w=.ok (.int .i64 (max u 0)) w:=fun ts ty w=>run_max2 w ts ty u 0
  have r2:∀ ts ty w,(Builtin.min_ ts ty #[.int .i64 (max u 0),.int .i64 64]).run Tryz.prog w=.ok (.int .i64 (min (max u 0) 64)) w:=fun ts ty w=>run_min2 w ts ty _ 64
  clear e;generalize max u 0=m1 at *;generalize min m1 64=m2 at *;go_enter Tryz.func24,Tryz.ntmps24;go_wp2
  go_ret
  exact⟨rfl,Below.refl _ _⟩
 ·by_cases hlt:i<n
  ·obtain⟨b,off,rfl,hb,hc⟩:=hA.get (by omega);have g1:=hc i (by omega);have g2:(i:Int)<n:=by omega
   cases hk:bs.getD i false with
   |true=>
    rw[hk] at g1;rw[rch_keep ht hk];clear hc hk;go_enter Tryz.func24,Tryz.ntmps24;go_wp2
    go_ret
    exact⟨rfl,Below.refl _ _⟩
   |false=>
    rw[hk] at g1;rw[rch_no ht hk];clear hc hk;go_enter Tryz.func24,Tryz.ntmps24;go_wp2
    go_ret
    exact⟨rfl,Below.refl _ _⟩
  ·have hk:bs.getD i false=false:=by rw[List.getD_eq_getElem?_getD,List.getElem?_eq_none (by omega)];rfl
   rw[rch_no ht hk];have g2:¬ (i:Int)<n:=by omega
   go_enter Tryz.func24,Tryz.ntmps24;go_wp2
   go_ret
   exact⟨rfl,Below.refl _ _⟩
structure IL (w wr:World) (C1 C2:Array Value) (A g L gc:Nat) (y:List Int):Prop where
 box:BX w wr C1 C2
 aft:wr.heap[A]?=some (.cells #[.slice (some ⟨g,0,none⟩) L gc,.slice none 0 0,.int .i64 (-1),.bool false] 27 (0,0))
 own:Own wr (w.heap.size+3) (.slice (some ⟨g,0,none⟩) L gc) y
 ga:g<A
theorem IL.grow {w wr w':World} {C1 C2:Array Value} {A g L gc:Nat} {y:List Int} (h:IL w wr C1 C2 A g L gc y) (hb:Below wr.heap.size wr w'):IL w w' C1 C2 A g L gc y:=
 ⟨h.box.grow hb,by rw[hb.block _ (Array.getElem?_eq_some_iff.1 h.aft).1];exact h.aft,h.own.grow hb,h.ga⟩
theorem IL.g3 {w wr:World} {C1 C2:Array Value} {A g L gc:Nat} {y:List Int} (h:IL w wr C1 C2 A g L gc y):w.heap.size+3≤g∧g<wr.heap.size:=by
 have:=ownsRow_lt h.own.1 g rfl;exact⟨this.1,this.2.1⟩
theorem IL.turn {w wr w':World} {C1 C2:Array Value} {A g L gc:Nat} {y z:List Int} (h:IL w wr C1 C2 A g L gc y) (hc:Ch g (g+1) wr w') (ho:Own w' (w.heap.size+3) (.slice (some ⟨g,0,none⟩) L gc) z):IL w w' C1 C2 A g L gc z:=by
 obtain⟨h1,h2⟩:=h.g3;have hA:=(Array.getElem?_eq_some_iff.1 h.aft).1;have hs:=h.box.below.size;exact⟨⟨h.box.below.trans ((hc.below (by omega)).mono (by omega)),by rw[hc.block _ (by omega) (.inl (by omega))];exact h.box.b1,by rw[hc.block _ (by omega) (.inl (by omega))];exact h.box.b2,by rw[hc.block _ (by omega) (.inl (by omega))];exact h.box.b3⟩,
  by rw[hc.block _ hA (.inr h.ga)];exact h.aft,ho,h.ga⟩
structure IcX (w w':World) (C1 C2:Array Value) (A g L gc P O s:Nat) (pc:Array Value) (zo y0:List Int):Prop where
 st:∃ y,IL w w' C1 C2 A g L gc y∧y.length=L∧y.take (s*64)=y0.take (s*64)∧y.drop (s*64+64)=y0.drop (s*64+64)
 pbx:w'.heap[P]?=some (.cells pc 63 (0,0))
 obx:Row w' O 65 zo
 gp:g<P∧g<O
theorem IcX.grow {w wr w':World} {C1 C2:Array Value} {A g L gc P O s:Nat} {pc:Array Value} {zo y0:List Int} (h:IcX w wr C1 C2 A g L gc P O s pc zo y0) (hb:Below wr.heap.size wr w'):IcX w w' C1 C2 A g L gc P O s pc zo y0:=by
 obtain⟨y,h1,h2⟩:=h.st;exact⟨⟨y,h1.grow hb,h2⟩,by rw[hb.block _ (Array.getElem?_eq_some_iff.1 h.pbx).1];exact h.pbx,by unfold Row;rw[hb.block _ h.obx.lt];exact h.obx,h.gp⟩
def GR (w:World) (C1 C2:Array Value) (A g L gc P s b6 o6 c6 k r:Nat) (zo dz Y:List Int):Nat→World→(Nat→Value)→Prop
 |0,_,u=>u 0=.pointer (some ⟨P,0,none⟩)
 |1,_,u=>u 1=.int .i64 s
 |2,_,u=>u 2=secV zo
 |3,_,u=>u 3=.pointer (some ⟨P,1,none⟩)
 |4,_,u=>u 4=.slice (some ⟨b6,o6,none⟩) 64 c6
 |5,_,u=>u 5=secV dz
 |6,_,u=>u 6=.int .i64 k
 |7,_,u=>u 7=.int .i64 r
 |8,_,u=>u 8=secV (dz.take r++zo.drop r)
 |_,w',_=>IL w w' C1 C2 A g L gc Y
set_option maxHeartbeats 2000000 in
set_option maxRecDepth 100000 in
theorem icr_any (v vc:Value) (zs:List Int) (ps:List PD) (f:Int) (d:Bool) (bs:List Bool) (t u:Int) (w:World) (h:DAt w v zs ps f d) (hc:CAt w vc bs t u) (hz:zs.length≤1048576) (hn:ps.length≤1048576) (hps:∀ i,(ps.getD i (0,[])).2.length≤1048576) (hbs:bs.length≤1048576) :
  Calls Tryz.prog 8 #[v,vc] w fun e w'=>∃ r,e=.returned r∧DPl w' w.heap.size r (crZ zs ps f bs t u) (crF zs.length ps f)∧Below w.heap.size w w':=by
 have HSD:Hid _:=Tryz.sizeDv;have HSP:Hid _:=Tryz.sizePd;have HSS:Hid (∀ y:List Int,y.length=64→(Tryz.prog.info? 65).map (·.size)=some ((y.map (Value.int .u8)).toArray).size):=fun y hy=>by rw[Tryz.sizeSec];simp[hy]
 have HV:=ival_any v zs ps f d;have hD:=h;obtain⟨a,cap,x,cx,rfl,hA,hP,hcap⟩:=h;obtain⟨y,cy,rfl,hB⟩:=hc;have HNO:Hid (validB zs.length ps f=false→crZ zs ps f bs t u=[]∧crF zs.length ps f=0):=crZ_no;have HYES:Hid (validB zs.length ps f=true→crZ zs ps f bs t u=crL zs ps bs t u ps.length∧crF zs.length ps f=-1):=crZ_yes;have HVO:Hid (validB zs.length ps f=true→vBase zs.length ps.length f∧PsOk zs.length ps):=validB_of;generalize hL:zs.length=L at *;generalize hm:ps.length=m at *;generalize hq:bs.length=q at *;have HS0:Hid _:=BX.start w #[.slice a L cap,.slice x m cx,.int .i64 f,.bool d] #[.slice y q cy,.int .i64 t,.int .i64 u];cases hval:validB L ps f with
 |false=>
  obtain⟨e1,e2⟩:=HNO.out hval;rw[e1,e2];clear e1 e2 HNO HYES HVO;go_enter Tryz.func8,Tryz.ntmps8;go_wp2_with fail;refine(HV _ (hD.below HS0.out.below) hz hn hps).mono ?_;clear HV hD;rintro e w1 ⟨rfl,hb1⟩;have st1:=BX.grow HS0.out hb1;rw[hval];have HB3:Hid _:=st1.b3;have HBL:Hid _:=st1.below;clear HS0 hb1 st1;go_wp2_with (refine wpList_store_row rfl 27 (.tmp 4) (.tmp 12) rfl (w.heap.size+1+1) #[.slice none 0 0,.slice none 0 0,.int .i64 0,.bool false] rfl rfl 27 _ HB3.out HSD.out rfl (all4e _ _ _ _ _ _ _ _) ?_)
  (try simp only[Exit.inBlock,Exit.then])
  refine bodyPost_ret (v:=.agg #[.slice none 0 0,.slice none 0 0,.int .i64 0,.bool false]) (results_cell_row rfl _ _ (w.heap.size+1+1) 27 _ (0,0) _ rfl (setRow_heap _ _ _ _ _ _ HB3.out) Tryz.underlying27 rfl HSD.out) rfl ⟨_,rfl,?_,?_⟩
  ·have hsz:w.heap.size≤(w1.setRow (w.heap.size+1+1) #[.slice none 0 0,.slice none 0 0,.int .i64 0,.bool false]).heap.size:=by rw[size_setRow];exact HBL.out.size
   exact⟨_,rfl,.inl ⟨rfl,rfl⟩⟩
  ·exact HBL.out.trans ((Wr.setRow _ _ _).below (by omega))
 |true=>
  obtain⟨e1,e2⟩:=HYES.out hval;obtain⟨⟨v1,v2,v3,v4,v5,v6⟩,hok⟩:=HVO.out hval;rw[e1,e2];clear e1 e2 HNO HYES HVO;obtain⟨b,off,rfl,hbl,hAc⟩:=hA.get (by omega);clear hAc;have HLEN:Hid (∀ k,k≤ps.length→(crL zs ps bs t u k).length=zs.length):=fun k hk=>crL_len (zs:=zs) (bs:=bs) (t:=t) (u:=u) (by rw[hL];exact hok) (by rw[hL];exact v1) k hk
  have HHL:Hid (zs.length=L):=hL;have HHM:Hid (ps.length=m):=hm;have HHQ:Hid (bs.length=q):=hq;have HP:Hid (PAt w x ps):=hP;have HB:Hid (BlA w y bs):=hB;have HOK:Hid (PsOk L ps):=hok;go_enter Tryz.func8,Tryz.ntmps8;go_wp2_with fail;refine(HV _ (hD.below HS0.out.below) hz hn hps).mono ?_;clear HV hD;rintro e w1 ⟨rfl,hb1⟩;have st1:=BX.grow HS0.out hb1;rw[hval];clear HS0 hb1;obtain⟨c0,c1,c2,c3⟩:=row4 st1.b1;have hs1':w.heap.size+1+1<w1.heap.size:=(Array.getElem?_eq_some_iff.1 st1.b3).1;have HS1:Hid (BX w w1 #[.slice (some ⟨b,off,none⟩) L cap,.slice x m cx,.int .i64 f,.bool d] #[.slice y q cy,.int .i64 t,.int .i64 u]):=st1;have HA1:Hid (At .u8 w1 (some ⟨b,off,none⟩) zs):=hA.below st1.below;clear st1 hL hm hq hP hB hok hA;go_wp2_with fail;refine(clone_any (some ⟨b,off,none⟩) L cap zs w1 HHL.out hz HA1.out (fun h=>by cases h)).mono ?_;rintro e w2 ⟨v2',rfl,ho2,hb2⟩;have ho2':Own w2 w1.heap.size v2' zs:=by
   rcases ho2 with⟨_,h0⟩|h
   ·have:=HHL.out;rw[h0] at this;simp at this;omega
   ·exact h
  obtain⟨g,gc,hv,hg1,hg2,hg3⟩:=ho2'.base;rw[HHL.out] at hv hg3;subst hv;have st2:=BX.grow HS1.out hb2;have hs12:=hb2.size;have HO2:Hid (Own w2 w1.heap.size (.slice (some ⟨g,0,none⟩) L gc) zs):=ho2';have HS2:Hid (BX w w2 #[.slice (some ⟨b,off,none⟩) L cap,.slice x m cx,.int .i64 f,.bool d] #[.slice y q cy,.int .i64 t,.int .i64 u]):=st2;clear ho2 ho2' hb2 HS1 HA1 st2 c0 c1 c2 c3;go_wp2_with (refine wpList_storeW rfl 27 (.tmp 5) (.tmp 16) rfl w2.heap.size #[.slice (some ⟨g,0,none⟩) L gc,.slice none 0 0,.int .i64 (-1),.bool false] rfl rfl 27 _ (heap_alloc_new w2 _) HSD.out rfl (all4e _ _ _ _ _ _ _ _) ?_);intro w3 hr3 hw3;have hb3:Below w2.heap.size w2 w3:=((Below.refl _ _).alloc (Nat.le_refl _) _).trans (hw3.below (Nat.le_refl _));have st3:IL w w3 #[.slice (some ⟨b,off,none⟩) L cap,.slice x m cx,.int .i64 f,.bool d] #[.slice y q cy,.int .i64 t,.int .i64 u] w2.heap.size g L gc (crL zs ps bs t u 0):=⟨BX.grow HS2.out hb3,hr3,Own.mono (Own.grow HO2.out hb3) (by omega),hg2⟩
  obtain⟨c0,c1,c2,c3⟩:=row4 st3.box.b1;have HS3:Hid (IL w w3 #[.slice (some ⟨b,off,none⟩) L cap,.slice x m cx,.int .i64 f,.bool d] #[.slice y q cy,.int .i64 t,.int .i64 u] w2.heap.size g L gc (crL zs ps bs t u 0)):=st3;clear hr3 hw3 hb3 st3 HO2 HS2;generalize w2.heap.size=A at *;clear hg1 hs12 hg2;go_wp2;have st3:=HS3.out;clear HS3 c0 c1 c2 c3
  go_loopw [20] (fun i wr=>∃ k:Nat,k≤m∧i=.int .i64 k∧IL w wr #[.slice (some ⟨b,off,none⟩) L cap,.slice x m cx,.int .i64 f,.bool d] #[.slice y q cy,.int .i64 t,.int .i64 u] A g L gc (crL zs ps bs t u k)) (fun i _=>m-(intOf i).toNat)
  case atStart=>exact⟨0,Nat.zero_le _,rfl,st3⟩
  case round=>
   obtain⟨k,hk,rfl,st⟩:=hrel;clear st3;have hlen:(crL zs ps bs t u k).length=L:=by rw[HLEN.out k (by rw[HHM.out];exact hk),HHL.out]
   have HLN:Hid ((crL zs ps bs t u k).length=L):=hlen;clear hlen;by_cases hlt:k<m
   ·obtain⟨s,hs,hsl,hd⟩:=PsOk.at_ HOK.out v1 (i:=k) (by rw[HHM.out];exact hlt);obtain⟨b5,o5,b6,o6,c6,rfl,hb5,q1,q2,q4⟩:=PAt.entry HP.out (i:=k) (by rw[HHM.out];exact hlt) (by rw[hd];decide);rw[hs,←st.box.below.cell (p:=⟨b5,o5+k*2,none⟩) hb5] at q1;rw[hd,←st.box.below.cell (p:=⟨b5,o5+k*2+1,none⟩) hb5] at q2;have hlt':(k:Int)<m:=by omega
    have hnew:crL zs ps bs t u (k+1)=overL (crL zs ps bs t u k) s ((ps.getD k (0,[])).2.take (rch bs t u k)):=by
     show overL _ _ _=_
     rw[hs];simp
    have HST:Hid (IL w wr #[.slice (some ⟨b,off,none⟩) L cap,.slice (some ⟨b5,o5,none⟩) m cx,.int .i64 f,.bool d] #[.slice y q cy,.int .i64 t,.int .i64 u] A g L gc (crL zs ps bs t u k)):=st;have HNEW:Hid _:=hnew;have HD:Hid ((ps.getD k (0,[])).2.length=64):=hd;have HQ4:Hid (At .u8 w (some ⟨b6,o6,none⟩) (ps.getD k (0,[])).2):=q4;clear st hnew hd q4 hs;go_wp2_with (refine wpList_storeW rfl 63 (.tmp 7) (.tmp 24) rfl wr.heap.size #[.int .i64 s,.slice (some ⟨b6,o6,none⟩) 64 c6] rfl rfl 63 _ (heap_alloc_new wr _) HSP.out rfl (all2p _ _ _ _) ?_);intro w3 hr3 hw3;have hb3:Below wr.heap.size wr w3:=((Below.refl _ _).alloc (Nat.le_refl _) _).trans (hw3.below (Nat.le_refl _));have st3:=IL.grow HST.out hb3;have hgw:=(IL.g3 HST.out).2;obtain⟨p0,p1⟩:=row2 hr3;have hPl:wr.heap.size<w3.heap.size:=(Array.getElem?_eq_some_iff.1 hr3).1;have HST3:Hid (IL w w3 #[.slice (some ⟨b,off,none⟩) L cap,.slice (some ⟨b5,o5,none⟩) m cx,.int .i64 f,.bool d] #[.slice y q cy,.int .i64 t,.int .i64 u] A g L gc (crL zs ps bs t u k)):=st3;have HR3:Hid (w3.heap[wr.heap.size]?=some (.cells #[.int .i64 s,.slice (some ⟨b6,o6,none⟩) 64 c6] 63 (0,0))):=hr3;clear hr3 hw3 hb3 st3 HST q1 q2 hb5;generalize wr.heap.size=P at *;go_wp2_with fail;obtain⟨g',c',hv',_,_,_,hAg,_⟩:=(IL.own HST3.out).at_;have hAg':At .u8 w3 (some ⟨g,0,none⟩) (crL zs ps bs t u k):=by cases hv';exact hAg
    refine(dur_any A (some ⟨g,0,none⟩) none L gc 0 0 (-1) s false (crL zs ps bs t u k) w3 (IL.aft HST3.out) hz hg3 HLN.out hsl hAg').mono ?_;clear hAg hAg' hv';rintro e w4 ⟨rfl,hb4⟩;have st4:=IL.grow HST3.out hb4;have hs34:=hb4.size;have hzl:(((crL zs ps bs t u k).drop (s*64)).take 64).length=64:=by have:=HLN.out;simp;omega
    have HZL:Hid ((((crL zs ps bs t u k).drop (s*64)).take 64).length=64):=hzl;have HST4:Hid (IL w w4 #[.slice (some ⟨b,off,none⟩) L cap,.slice (some ⟨b5,o5,none⟩) m cx,.int .i64 f,.bool d] #[.slice y q cy,.int .i64 t,.int .i64 u] A g L gc (crL zs ps bs t u k)):=st4;have HR4:Hid (w4.heap[P]?=some (.cells #[.int .i64 s,.slice (some ⟨b6,o6,none⟩) 64 c6] 63 (0,0))):=by unfold Hid;rw[hb4.block _ hPl];exact HR3.out
    clear st4 hzl hb4 HST3 HR3 p0 p1;obtain⟨zo,hzo⟩:∃ zo,((crL zs ps bs t u k).drop (s*64)).take 64=zo:=⟨_,rfl⟩
    rw[hzo] at HZL ⊢;have HZO:Hid (((crL zs ps bs t u k).drop (s*64)).take 64=zo):=hzo;clear hzo;go_wp2_with (refine wpList_storeW rfl 65 (.tmp 8) (.tmp 27) rfl w4.heap.size ((zo.map (Value.int .u8)).toArray) rfl rfl 65 _ (heap_alloc_new w4 _) (HSS.out zo HZL.out) (by simp[HZL.out]) (all_oneCell_toArray (ints_oneCell _ _)) ?_);intro w5 hr5 hw5;have hb5:Below w4.heap.size w4 w5:=((Below.refl _ _).alloc (Nat.le_refl _) _).trans (hw5.below (Nat.le_refl _));have hOl:w4.heap.size<w5.heap.size:=(Array.getElem?_eq_some_iff.1 hr5).1;have HX5:Hid (IcX w w5 #[.slice (some ⟨b,off,none⟩) L cap,.slice (some ⟨b5,o5,none⟩) m cx,.int .i64 f,.bool d] #[.slice y q cy,.int .i64 t,.int .i64 u] A g L gc P w4.heap.size s #[.int .i64 s,.slice (some ⟨b6,o6,none⟩) 64 c6] zo (crL zs ps bs t u k)):=
     ⟨⟨_,IL.grow HST4.out hb5,HLN.out,rfl,rfl⟩,by rw[hb5.block _ (by omega)];exact HR4.out,hr5,by omega,by omega⟩
    clear hr5 hw5 hb5 HST4 HR4;generalize w4.heap.size=O at *;have hr64:=rch_le bs t u k;have HMIX:Hid (∀ yy:List Int,yy.length=L→yy.take (s*64)=(crL zs ps bs t u k).take (s*64)→yy.drop (s*64+64)=(crL zs ps bs t u k).drop (s*64+64)→overL yy s (((ps.getD k (0,[])).2.take 64).take (rch bs t u k)++zo.drop (rch bs t u k))=crL zs ps bs t u (k+1)):=by
     intro yy h1 h2 h3;have hlz:(((ps.getD k (0,[])).2.take 64).take (rch bs t u k)++zo.drop (rch bs t u k)).length=64:=by rw[List.length_append,List.length_take,List.length_take,HD.out,List.length_drop,HZL.out];omega
     have e1:overL yy s (((ps.getD k (0,[])).2.take 64).take (rch bs t u k)++zo.drop (rch bs t u k))=overL (crL zs ps bs t u k) s (((ps.getD k (0,[])).2.take 64).take (rch bs t u k)++zo.drop (rch bs t u k)):=by
      unfold overL;rw[hlz,h2,h3]
     rw[e1,←HZO.out,overL_mix _ _ _ _ hr64 (by rw[List.length_take,HD.out];rfl) (by rw[HLN.out];exact hsl),HNEW.out,List.take_take,Nat.min_eq_left hr64]
    have HRE:Hid (∀ ww:World,ww.heap[w.heap.size+1]?=some (.cells #[.slice y q cy,.int .i64 t,.int .i64 u] 49 (0,0))→BlA ww y bs→Calls Tryz.prog 24 #[.pointer (some ⟨w.heap.size+1,0,none⟩),.int .i64 k] ww fun e w'=>e=.returned (.int .i64 ((rch bs t u k:Nat):Int))∧Below ww.heap.size ww w'):=
     fun ww h1 h2=>reach_any (w.heap.size+1) y q cy bs t u k ww h1 h2 HHQ.out hbs (by omega)
    have hdl:((ps.getD k (0,[])).2.take 64).length=64:=by rw[List.length_take,HD.out];rfl
    have HDL:Hid (((ps.getD k (0,[])).2.take 64).length=64):=hdl;have HSEC:Hid (∀ ww:World,At .u8 ww (some ⟨b6,o6,none⟩) (ps.getD k (0,[])).2→Calls Tryz.prog 23 #[.slice (some ⟨b6,o6,none⟩) 64 c6] ww fun e w'=>e=.returned (secV ((ps.getD k (0,[])).2.take 64))∧Below ww.heap.size ww w'):=fun ww h1=>sectorOf_any (some ⟨b6,o6,none⟩) 64 c6 (ps.getD k (0,[])).2 ww HD.out (Nat.le_refl _) h1
    obtain⟨r,hr⟩:∃ r,rch bs t u k=r:=⟨_,rfl⟩
    obtain⟨Y,hY⟩:∃ Y,crL zs ps bs t u (k+1)=Y:=⟨_,rfl⟩
    obtain⟨dz,hdz⟩:∃ dz,(ps.getD k (0,[])).2.take 64=dz:=⟨_,rfl⟩
    rw[hr] at hr64 HRE;rw[hdz] at HDL HSEC;rw[hr,hdz,hY] at HMIX;have HY:Hid (crL zs ps bs t u (k+1)=Y):=hY;clear hlt' HLN HNEW HZO hdl hr hY hdz;go_wp2_with fail;refine wp_region_any (by kernel_rfl) ?_;refine wpAny_slots2 (frame:=(fun (a b c d e f g h i j k l m n o p q r s u v w x y z A B C D E:Value)=>fun (t:Nat→Value)=>({ tmps:=List.toArray [a,b,c,d,e,f,g,h,i,j,k,l,m,n,o,p,q,r,s,u,v,w,x,y,z,A,B,C,t 0,t 1,t 2,t 3,t 4,t 5,t 6,t 7,t 8,t 9,D,E],defers:=[] }:Act)) _ _ _ _ _ _ _ _ _ _ _ _ _ _ _ _ _ _ _ _ _ _ _ _ _ _ _ _ _ _)
     (Ext:=fun w'=>IcX w w' #[.slice (some ⟨b,off,none⟩) L cap,.slice (some ⟨b5,o5,none⟩) m cx,.int .i64 f,.bool d] #[.slice y q cy,.int .i64 t,.int .i64 u] A g L gc P O s #[.int .i64 s,.slice (some ⟨b6,o6,none⟩) 64 c6] zo (crL zs ps bs t u k)) (Good:=GR w #[.slice (some ⟨b,off,none⟩) L cap,.slice (some ⟨b5,o5,none⟩) m cx,.int .i64 f,.bool d] #[.slice y q cy,.int .i64 t,.int .i64 u] A g L gc P s b6 o6 c6 k r zo dz Y) (M:=fun i w w'=>i≠9→Below w.heap.size w w') ?hstab (by kernel_rfl) ?hop ?hdone _ _ ((fun (x0 x1 x2 x3 x4 x5 x6 x7 x8 x9:Value)=>fun (i:Nat)=>if i=0 then x0 else if i=1 then x1 else if i=2 then x2 else if i=3 then x3 else if i=4 then x4 else if i=5 then x5 else if i=6 then x6 else if i=7 then x7 else if i=8 then x8 else if i=9 then x9 else undef) _ _ _ _ _ _ _ _ _ _) _ (by simp) ?ext ?start ?clo (by simp)
    case start=>intro i hi h;exact absurd h (by rw[Array.getD_eq_getD_getElem?,Array.getElem?_replicate];split<;>simp)
    case clo=>intro i o ho h;exact absurd h (by rw[Array.getD_eq_getD_getElem?,Array.getElem?_replicate];split<;>simp)
    case ext=>exact IcX.grow HX5.out (Below.refl _ _).drew
    case hstab=>
     intro j o w1 w2 u i v ho hM hij _ hg;have hj:j<10:=(Array.getElem?_eq_some_iff.1 ho).1;obtain rfl|rfl|rfl|rfl|rfl|rfl|rfl|rfl|rfl|rfl:j=0∨j=1∨j=2∨j=3∨j=4∨j=5∨j=6∨j=7∨j=8∨j=9:=by omega
     all_goals simp only[GR] at hg ⊢
     all_goals first
      |(rw[upd_ne2 hij];exact hg)
      |exact hg.grow (hM hij)
    case hdone=>
     intro t w2 hx hg;have h9:=hg 9 (by decide);have H9:Hid _:=h9;clear hg hx h9;generalize t 0=t0;generalize t 1=t1;generalize t 2=t2;generalize t 3=t3;generalize t 4=t4;generalize t 5=t5;generalize t 6=t6;generalize t 7=t7;generalize t 8=t8;generalize t 9=t9;go_wp2;go_roundw
     case rel=>exact⟨k+1,by omega,by go_num,by rw[HY.out];exact H9.out⟩
     case measure=>simp[intOf];omega
    case hop=>
     intro i o t w' ho hx hdep K hK;have hi:i<10:=(Array.getElem?_eq_some_iff.1 ho).1;obtain⟨p0,p1⟩:=row2 hx.pbx;obtain⟨yy,hil,hyl,hy1,hy2⟩:=hx.st;have HIL:Hid _:=hil;obtain rfl|rfl|rfl|rfl|rfl|rfl|rfl|rfl|rfl|rfl:i=0∨i=1∨i=2∨i=3∨i=4∨i=5∨i=6∨i=7∨i=8∨i=9:=by omega
     all_goals(simp at ho;subst ho)
     ·clear hdep;go_simp;exact hK w' (.pointer (some ⟨P,0,none⟩)) rfl hx (fun _=>Below.refl _ _)
     ·have d0:t 0=_:=hdep ⟨0,.data⟩ (by simp) rfl;clear hdep;go_simp;simpa[upd,d0] using hK w' (.int .i64 s) rfl hx (fun _=>Below.refl _ _)
     ·clear hdep;rw[if_pos (by rfl)];refine wp_load_row 65 (.tmp 8) rfl O rfl 65 _ (0,0) _ hx.obx Tryz.underlying65 rfl (HSS.out zo HZL.out) ?_;exact hK w' (secV zo) rfl hx (fun _=>Below.refl _ _)
     ·clear hdep;go_simp;exact hK w' (.pointer (some ⟨P,1,none⟩)) rfl hx (fun _=>Below.refl _ _)
     ·have d3:t 3=_:=hdep ⟨3,.data⟩ (by simp) rfl;clear hdep;go_simp;simpa[upd,d3] using hK w' (.slice (some ⟨b6,o6,none⟩) 64 c6) rfl hx (fun _=>Below.refl _ _)
     ·have d4:t 4=_:=hdep ⟨4,.data⟩ (by simp) rfl;clear hdep;have hAt:=At.below HQ4.out hil.box.below;clear hil;go_simp;refine(HSEC.out w' hAt).mono ?_;rintro e w9 ⟨rfl,hb9⟩;go_simp;simpa[upd,d4] using hK w9 (secV dz) rfl (hx.grow hb9) (fun _=>hb9)
     ·clear hdep;go_simp;exact hK w' (.int .i64 k) rfl hx (fun _=>Below.refl _ _)
     ·have d6:t 6=_:=hdep ⟨6,.data⟩ (by simp) rfl;clear hdep;have hb2:=hil.box.b2;have hBt:=BlA.below HB.out hil.box.below;have HB2:Hid _:=hb2;clear hil hb2;go_simp;refine(HRE.out w' HB2.out hBt).mono ?_;rintro e w9 ⟨rfl,hb9⟩;go_simp;simpa[upd,d6] using hK w9 (.int .i64 r) rfl (hx.grow hb9) (fun _=>hb9)
     ·have d2:t 2=_:=hdep ⟨2,.data⟩ (by simp) rfl;have d5:t 5=_:=hdep ⟨5,.data⟩ (by simp) rfl;have d7:t 7=_:=hdep ⟨7,.data⟩ (by simp) rfl;clear hdep hil;go_simp;refine(overw_any zo dz r w' HZL.out HDL.out hr64).mono ?_;rintro e w9 ⟨rfl,hb9⟩;generalize hfin:secV (dz.take r++zo.drop r)=fin;have hK':=hK w9 fin (by simp only[GR];unfold upd;simp[hfin]) (hx.grow hb9) (fun _=>hb9);clear hfin hK;go_simp;simpa[upd,d2,d5,d7] using hK'
     ·have d1:t 1=_:=hdep ⟨1,.data⟩ (by simp) rfl;have d8:t 8=_:=hdep ⟨8,.data⟩ (by simp) rfl;clear hdep;have hlz:(dz.take r++zo.drop r).length=64:=by rw[List.length_append,List.length_take,HDL.out,List.length_drop,HZL.out];omega
      have hmix:=HMIX.out yy hyl hy1 hy2;have hst:=store_any A g L gc none 0 0 (-1) false s (w.heap.size+3) yy (dz.take r++zo.drop r) w' hil.aft hil.own hyl hz hlz hsl;have hov:(overL yy s (dz.take r++zo.drop r)).length=L:=by rw[overL_len _ _ _ (by omega)];exact hyl
      have htk:(overL yy s (dz.take r++zo.drop r)).take (s*64)=yy.take (s*64):=by
       unfold overL;rw[List.take_append_of_le_length (by simp;omega),List.take_take,Nat.min_self]
      have hdr:(overL yy s (dz.take r++zo.drop r)).drop (s*64+64)=yy.drop (s*64+64):=by
       unfold overL;rw[hlz,←List.append_assoc,List.drop_append_of_le_length (by rw[List.length_append,hlz,List.length_take];omega),List.drop_eq_nil_of_le (by rw[List.length_append,hlz,List.length_take];omega)];simp
      rw[hmix] at hst hov htk hdr;rw[hy1] at htk;rw[hy2] at hdr;have HFIN:Hid _:=And.intro hov (And.intro htk hdr);clear hil hov htk hdr hmix hlz hy1 hy2;generalize hfin:secV (dz.take r++zo.drop r)=fin at *;clear hfin;go_simp;refine hst.mono ?_;rintro e w9 ⟨rfl,ho9,hc9⟩;have st9:=IL.turn HIL.out hc9 ho9;have hgl:=(IL.g3 HIL.out).2;have hPl:P<w'.heap.size:=(Array.getElem?_eq_some_iff.1 hx.pbx).1;have hOl:=hx.obx.lt;have hgp:=hx.gp;have hX9:IcX w w9 _ _ A g L gc P O s #[.int .i64 s,.slice (some ⟨b6,o6,none⟩) 64 c6] zo (crL zs ps bs _ u k):=
       ⟨⟨_,st9,HFIN.out.1,HFIN.out.2.1,HFIN.out.2.2⟩,by rw[hc9.block _ hPl (.inr (by omega))];exact hx.pbx,by unfold Row;rw[hc9.block _ hOl (.inr (by omega))];exact hx.obx,hgp⟩
      have hK':=hK w9 (.tuple #[]) st9 hX9 (fun h=>absurd rfl h);clear hK;go_simp;simpa[upd,d1,d8] using hK'
   ·have hkm:k=m:=by omega
    subst hkm;have hlt':¬ (k:Int)<k:=by omega
    obtain⟨a0,a1,a2,a3⟩:=row4 st.aft;have HB3:Hid (wr.heap[w.heap.size+1+1]?=some (.cells #[.slice none 0 0,.slice none 0 0,.int .i64 0,.bool false] 27 (0,0))):=st.box.b3;have HBL:Hid (Below w.heap.size w wr):=st.box.below;have HO:Hid (Own wr (w.heap.size+3) (.slice (some ⟨g,0,none⟩) L gc) (crL zs ps bs t u k)):=st.own;have hgb:=st.g3;clear st HLN;go_wp2_with (refine wpList_store_row rfl 27 (.tmp 4) (.tmp 39) rfl (w.heap.size+1+1) #[.slice (some ⟨g,0,none⟩) L gc,.slice none 0 0,.int .i64 (-1),.bool false] rfl rfl 27 _ HB3.out HSD.out rfl (all4e _ _ _ _ _ _ _ _) ?_)
    (try simp only[Exit.inBlock,Exit.then])
    refine bodyPost_ret (v:=.agg #[.slice (some ⟨g,0,none⟩) L gc,.slice none 0 0,.int .i64 (-1),.bool false]) (results_cell_row rfl _ _ (w.heap.size+1+1) 27 _ (0,0) _ rfl (setRow_heap _ _ _ _ _ _ HB3.out) Tryz.underlying27 rfl HSD.out) rfl ⟨_,rfl,?_,?_⟩
    ·refine⟨_,rfl,.inr (Own.mono (Own.keep HO.out (fun j hj=>?_)) (by omega))⟩;have hjg:j=g:=by simp[Value.ownBlock] at hj;exact hj.symm
     rw[hjg];exact(Wr.setRow _ _ _).block g (by omega)
    ·exact HBL.out.trans ((Wr.setRow _ _ _).below (by omega))
theorem byte_app1 {zs:List Int} (hz:Byte zs) {x:Int} (hx:0≤x∧x<256):Byte (zs++[x]):=fun v hv=>by
 rcases List.mem_append.1 hv with h|h
 ·exact hz v h
 ·rw[List.mem_singleton] at h;rw[h];exact hx
theorem hid_ofE {p:Prop} (h:p):Hid p:=h
theorem getD_byteE {zs:List Int} (hz:Byte zs) (i:Nat):0≤zs.getD i 0∧zs.getD i 0<256:=by
 by_cases h:i<zs.length
 ·rw[show zs.getD i 0=zs[i] from by simp[h]];exact hz _ (List.getElem_mem h)
 ·rw[show zs.getD i 0=0 from by simp[h]];decide
set_option maxHeartbeats 1000000 in
theorem lwAt_any (a:Option Addr) (n cap k:Nat) (zs:List Int) (w:World) (hn:zs.length=n) (ha:At .u8 w a zs) (hz:Byte zs) (hk:k≤100) :
  Calls Tryz.prog 4 #[.slice a n cap,.int .i64 k] w (fun e w'=>∃ y:Int,e=.returned (.int .i64 y)∧0≤y∧y≤255∧w'=w):=by
 by_cases h:k<n
 ·have h':(k:Int)<(n:Int):=by omega
  obtain⟨b,off,rfl,hb,hc⟩:=ha.get (by omega);have c1:=hc k (by omega);obtain⟨z0,z1⟩:=getD_byteE hz k;clear hc ha hz;generalize zs.getD k 0=z at *;go_enter Tryz.func4,Tryz.ntmps4;go_wp2
  go_ret
  exact⟨z,rfl,by omega,by omega,rfl⟩
 ·have h':¬ (k:Int)<(n:Int):=by omega
  go_enter Tryz.func4,Tryz.ntmps4;go_wp2
  go_ret
  exact⟨_,rfl,by omega,by omega,rfl⟩
end Go.Proofs.YtilpkdnoaldfmaaGreatDoor
