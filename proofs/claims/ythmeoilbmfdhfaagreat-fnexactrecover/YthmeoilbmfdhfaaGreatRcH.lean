import Derived.Test.YthmeoilbmfdhfaaGreatMRcG
import Derived.Test.YthmeoilbmfdhfaaGreatMFmP
namespace Go.Proofs.YthmeoilbmfdhfaaGreat
open Go.ChangeShapes Go.WideShapes Go.ChangeAt Go.RowKit
set_option linter.unusedVariables false
def ImQ (w:World) (v:Value) (r:ImR):Prop:=ImW w v r
theorem ImQ.below {w w':World} {v:Value} {r:ImR} (h:ImQ w v r) (b:Below w.heap.size w w'):ImQ w' v r:=ImW.belowF h b
set_option maxRecDepth 100000 in
set_option maxHeartbeats 8000000 in
theorem saf_dead (C:Array Value) (vd:Value) (z0:List Int) (p0:List PD) (f0:Int) (d0:Bool) (zs:List Int) (ps:List PD) (ks:List Int) (f c:Int) (r:ImR) (w:World) (hg:GAt w (.agg C) z0 p0 f0 d0 ks r) (hD:DAt w vd zs ps f true) (hle:ImLe r) (hz:zs.length≤1048576) (hn:ps.length≤1048576) (hps:∀ i,(ps.getD i (0,[])).2.length≤1048576) (bz:Byte zs) (bp:∀ i,Byte (ps.getD i (0,[])).2) (hk:ks.length≤1048576) :
  Calls Tryz.prog 114 #[.agg C,vd,.int .i64 c] w fun e w'=>∃ X,e=.returned (.agg X)∧RM w.heap.size w' X 11 zs ps ks f true r∧Below w.heap.size w w':=by
 obtain⟨da,dc,ca,cc,ka,kc,aSD,nSD,cSD,aSU,nSU,cSU,aF,mF,cF,aD,nD,cD,aU,nU,cU,aT,cT,e,g1,g2,g3,g4,g5⟩:=hg;simp only[Value.agg.injEq] at e;subst e;obtain⟨xa,xc,ya,yc,rfl,x1,x2,x3⟩:=hD;have HGT:Hid (∀ ww,Below w.heap.size w ww→∀ vi q,ImQ ww vi q→ImLe q→Calls Tryz.prog 56 #[.agg #[.slice xa zs.length xc,.slice ya ps.length yc,.int .i64 f,.bool true],.slice ka ks.length kc,vi] ww fun e w'=>∃ C,e=.returned (.agg C)∧GM ww.heap.size w' C zs ps ks f true q∧Below ww.heap.size ww w'):=fun ww b vi q hvi hq=>sgm_any _ vi zs ps ks f true q ka kc ww ⟨xa,xc,ya,yc,rfl,x1.below b,x2.below b,x3⟩ (g4.below b) hvi hq hz hn hps hk
 have HIM:Hid (ImQ w (.agg #[.bool r.ok,.int .u32 r.g,.int .u32 r.t,.slice aSD nSD cSD,.slice aSU nSU cSU,.slice aF mF cF,.slice aD nD cD,.slice aU nU cU,.int .i64 r.k,.slice aT r.n cT,.int .u32 r.nx]) r):=⟨aSD,nSD,cSD,aSU,nSU,cSU,aF,mF,cF,aD,nD,cD,aU,nU,cU,aT,cT,rfl,g5⟩
 have HLE:=hid_ofV hle;have HW:Hid (B3 w 48 40 50 #[.slice da z0.length dc,.slice ca p0.length cc,.int .i64 f0,.bool d0,.slice ka ks.length kc,.bool r.ok,.int .u32 r.g,.int .u32 r.t,.slice aSD nSD cSD,.slice aSU nSU cSU,.slice aF mF cF,.slice aD nD cD,.slice aU nU cU,.int .i64 r.k,.slice aT r.n cT,.int .u32 r.nx] #[.slice xa zs.length xc,.slice ya ps.length yc,.int .i64 f,.bool true] zrR (((w.alloc (.cells #[.slice da z0.length dc,.slice ca p0.length cc,.int .i64 f0,.bool d0,.slice ka ks.length kc,.bool r.ok,.int .u32 r.g,.int .u32 r.t,.slice aSD nSD cSD,.slice aSU nSU cSU,.slice aF mF cF,.slice aD nD cD,.slice aU nU cU,.int .i64 r.k,.slice aT r.n cT,.int .u32 r.nx] 48)).alloc (.cells #[.slice xa zs.length xc,.slice ya ps.length yc,.int .i64 f,.bool true] 40)).alloc (.cells zrR 50))):=B3.start _ _ _ _ _ _ _;have HSI:Hid ((Tryz.prog.info? 36).map (·.size)=some 11):=by show _=_;kernel_rfl
 clear x1 x2 x3 g1 g2 g3 g4 g5 hle hz hn hps bz bp hk;go_enter Tryz.func114,Tryz.ntmps114
 go_upto_region 1 with fail
 change Code.wp _ _ _ _ (((w.alloc (.cells #[.slice da z0.length dc,.slice ca p0.length cc,.int .i64 f0,.bool d0,.slice ka ks.length kc,.bool r.ok,.int .u32 r.g,.int .u32 r.t,.slice aSD nSD cSD,.slice aSU nSU cSU,.slice aF mF cF,.slice aD nD cD,.slice aU nU cU,.int .i64 r.k,.slice aT r.n cT,.int .u32 r.nx] 48)).alloc (.cells #[.slice xa zs.length xc,.slice ya ps.length yc,.int .i64 f,.bool true] 40)).alloc (.cells zrR 50));generalize (((w.alloc (.cells #[.slice da z0.length dc,.slice ca p0.length cc,.int .i64 f0,.bool d0,.slice ka ks.length kc,.bool r.ok,.int .u32 r.g,.int .u32 r.t,.slice aSD nSD cSD,.slice aSU nSU cSU,.slice aF mF cF,.slice aD nD cD,.slice aU nU cU,.int .i64 r.k,.slice aT r.n cT,.int .u32 r.nx] 48)).alloc (.cells #[.slice xa zs.length xc,.slice ya ps.length yc,.int .i64 f,.bool true] 40)).alloc (.cells zrR 50))=w1 at *;have k3:w1.cell? ⟨w.heap.size+1,3,none⟩=some (.bool true):=by rw[cell_of_row _ _ _ _ _ _ HW.out.b1];rfl
 have k4:w1.cell? ⟨w.heap.size,4,none⟩=some (.slice ka ks.length kc):=by rw[cell_of_row _ _ _ _ _ _ HW.out.b0];rfl
 have HRG:Hid (w1.rangeAt w.heap.size 5 [.bool r.ok,.int .u32 r.g,.int .u32 r.t,.slice aSD nSD cSD,.slice aSU nSU cSU,.slice aF mF cF,.slice aD nD cD,.slice aU nU cU,.int .i64 r.k,.slice aT r.n cT,.int .u32 r.nx]):=mid_row HW.out.b0 5 _ rfl;go_wp2_with (first
  |(refine wpList_load_row rfl 40 (.tmp 4) rfl (w.heap.size+1) rfl 40 _ (0,0) _ HW.out.b1 Tryz.underlying40 rfl Tryz.sizeDv ?_)
  |(refine wpList_load_mid rfl 36 (.tmp 12) rfl w.heap.size 5 rfl _ _ HRG.out Tryz.underlying36 rfl HSI.out ?_)
  |fail)
 refine(HGT.out w1 HW.out.below _ r (HIM.out.below HW.out.below) HLE.out).mono ?_;rintro e w3 ⟨C9,rfl,g9,b9⟩;clear k3 k4;have hz9:=g9.row;have HR3:Hid (w3.heap[w.heap.size+2]?=some (.cells zrR 50 (0,0))):=(b9.block _ (Array.getElem?_eq_some_iff.1 HW.out.b2).1).trans HW.out.b2;obtain⟨X9,hX⟩:∃ X9:Array Value,#[.int .i64 11]++C9=X9:=⟨_,rfl⟩
 have hR9:RM w1.heap.size w3 X9 11 zs ps ks f true r:=⟨C9,hX.symm,g9⟩
 have HX9:Hid (C9.size=16∧(Tryz.prog.info? 50).map (·.size)=some X9.size∧zrR.size=X9.size∧X9.all (·.oneCell')=true):=⟨hz9.1,by rw[hR9.row.1];exact Tryz.sizeR,by rw[hR9.row.1];rfl,hR9.row.2⟩
 have HF:Hid (RM w1.heap.size w3 X9 11 zs ps ks f true r∧Below w.heap.size w w3∧w.heap.size+2<w1.heap.size):=⟨hR9,HW.out.below.trans (b9.mono HW.out.below.size),(Array.getElem?_eq_some_iff.1 HW.out.b2).1⟩
 clear g9 hR9 hz9 b9;go_wp2_with (first
  |(refine wpList_bR rfl _ (.tmp 14) rfl 11 C9 rfl rfl HX9.out.1 ?_;rw[hX])
  |(refine wpList_store_row rfl 50 (.tmp 6) (.tmp 15) rfl (w.heap.size+2) X9 rfl rfl 50 _ HR3.out HX9.out.2.1 HX9.out.2.2.1 HX9.out.2.2.2 ?_)
  |fail)
 (try simp only[Exit.inBlock,Exit.then])
 exact bodyPost_ret (v:=.agg X9) (results_cell_row rfl _ _ (w.heap.size+2) 50 _ (0,0) _ rfl (setRow_heap _ _ _ _ _ _ HR3.out) Tryz.underlying50 rfl HX9.out.2.1) rfl ⟨_,rfl,(HF.out.1.keep (Nat.le_of_eq (Wr.setRow _ _ _).size.symm) (fun k hk _=>(Wr.setRow _ _ _).block k (by have:=HF.out.2.2;omega))).mono (by have:=HF.out.2.2;omega),HF.out.2.1.trans ((Wr.setRow _ _ _).below (by omega))⟩
set_option maxRecDepth 100000 in
set_option maxHeartbeats 8000000 in
theorem saf_live (C:Array Value) (vd:Value) (z0:List Int) (p0:List PD) (f0:Int) (d0:Bool) (zs:List Int) (ps:List PD) (ks:List Int) (f c:Int) (r:ImR) (w:World) (hg:GAt w (.agg C) z0 p0 f0 d0 ks r) (hD:DAt w vd zs ps f false) (hle:ImLe r) (hz:zs.length≤1048576) (hn:ps.length≤1048576) (hps:∀ i,(ps.getD i (0,[])).2.length≤1048576) (bz:Byte zs) (bp:∀ i,Byte (ps.getD i (0,[])).2) (hk:ks.length≤1048576) :
  Calls Tryz.prog 114 #[.agg C,vd,.int .i64 c] w fun e w'=>∃ X,e=.returned (.agg X)∧RM w.heap.size w' X c zs ps ks f false (imG zs ps f)∧Below w.heap.size w w':=by
 obtain⟨da,dc,ca,cc,ka,kc,aSD,nSD,cSD,aSU,nSU,cSU,aF,mF,cF,aD,nD,cD,aU,nU,cU,aT,cT,e,g1,g2,g3,g4,g5⟩:=hg;simp only[Value.agg.injEq] at e;subst e;obtain⟨xa,xc,ya,yc,rfl,x1,x2,x3⟩:=hD;have HGT:Hid (∀ ww,Below w.heap.size w ww→∀ vi q,ImQ ww vi q→ImLe q→Calls Tryz.prog 56 #[.agg #[.slice xa zs.length xc,.slice ya ps.length yc,.int .i64 f,.bool false],.slice ka ks.length kc,vi] ww fun e w'=>∃ C,e=.returned (.agg C)∧GM ww.heap.size w' C zs ps ks f false q∧Below ww.heap.size ww w'):=fun ww b vi q hvi hq=>sgm_any _ vi zs ps ks f false q ka kc ww ⟨xa,xc,ya,yc,rfl,x1.below b,x2.below b,x3⟩ (g4.below b) hvi hq hz hn hps hk
 have HLD:Hid (∀ ww,Below w.heap.size w ww→Calls Tryz.prog 7 #[.agg #[.slice xa zs.length xc,.slice ya ps.length yc,.int .i64 f,.bool false]] ww fun e w'=>∃ v,e=.returned v∧ImQ w' v (imG zs ps f)∧Below ww.heap.size ww w'):=fun ww b=>sld_any xa ya _ xc _ yc f false zs ps ww rfl rfl (x1.below b) (x2.below b) x3 hz hn hps bz bp
 have HLE:Hid (ImLe (imG zs ps f)):=imG_bd bz bp;have HW:Hid (B3 w 48 40 50 #[.slice da z0.length dc,.slice ca p0.length cc,.int .i64 f0,.bool d0,.slice ka ks.length kc,.bool r.ok,.int .u32 r.g,.int .u32 r.t,.slice aSD nSD cSD,.slice aSU nSU cSU,.slice aF mF cF,.slice aD nD cD,.slice aU nU cU,.int .i64 r.k,.slice aT r.n cT,.int .u32 r.nx] #[.slice xa zs.length xc,.slice ya ps.length yc,.int .i64 f,.bool false] zrR (((w.alloc (.cells #[.slice da z0.length dc,.slice ca p0.length cc,.int .i64 f0,.bool d0,.slice ka ks.length kc,.bool r.ok,.int .u32 r.g,.int .u32 r.t,.slice aSD nSD cSD,.slice aSU nSU cSU,.slice aF mF cF,.slice aD nD cD,.slice aU nU cU,.int .i64 r.k,.slice aT r.n cT,.int .u32 r.nx] 48)).alloc (.cells #[.slice xa zs.length xc,.slice ya ps.length yc,.int .i64 f,.bool false] 40)).alloc (.cells zrR 50))):=B3.start _ _ _ _ _ _ _;clear x1 x2 x3 g1 g2 g3 g4 g5 hle hz hn hps bz bp hk;go_enter Tryz.func114,Tryz.ntmps114
 go_upto_region 1 with fail
 change Code.wp _ _ _ _ (((w.alloc (.cells #[.slice da z0.length dc,.slice ca p0.length cc,.int .i64 f0,.bool d0,.slice ka ks.length kc,.bool r.ok,.int .u32 r.g,.int .u32 r.t,.slice aSD nSD cSD,.slice aSU nSU cSU,.slice aF mF cF,.slice aD nD cD,.slice aU nU cU,.int .i64 r.k,.slice aT r.n cT,.int .u32 r.nx] 48)).alloc (.cells #[.slice xa zs.length xc,.slice ya ps.length yc,.int .i64 f,.bool false] 40)).alloc (.cells zrR 50));generalize (((w.alloc (.cells #[.slice da z0.length dc,.slice ca p0.length cc,.int .i64 f0,.bool d0,.slice ka ks.length kc,.bool r.ok,.int .u32 r.g,.int .u32 r.t,.slice aSD nSD cSD,.slice aSU nSU cSU,.slice aF mF cF,.slice aD nD cD,.slice aU nU cU,.int .i64 r.k,.slice aT r.n cT,.int .u32 r.nx] 48)).alloc (.cells #[.slice xa zs.length xc,.slice ya ps.length yc,.int .i64 f,.bool false] 40)).alloc (.cells zrR 50))=w1 at *;have k3:w1.cell? ⟨w.heap.size+1,3,none⟩=some (.bool false):=by rw[cell_of_row _ _ _ _ _ _ HW.out.b1];rfl
 have k4:∀ w',Below w1.heap.size w1 w'→w'.cell? ⟨w.heap.size,4,none⟩=some (.slice ka ks.length kc):=fun w' b=>by rw[cell_of_row w' w.heap.size 4 _ _ _ ((b.block _ (Array.getElem?_eq_some_iff.1 HW.out.b0).1).trans HW.out.b0)];rfl
 go_wp2_with fail;clear k3;refine wp_region_any (by kernel_rfl) ?_;refine wpAny_slotsF 8 (fun _ a b=>Below a.heap.size a b) (frame:=(fun (a b c d e f g h i j k l m n o p:Value)=>fun (t:Nat→Value)=>({ tmps:=List.toArray [a,b,c,d,e,f,g,h,i,j,k,l,m,n,o,p,t 0,t 1,t 2,t 3,t 4,t 5,t 6,t 7],defers:=[] }:Act)) _ _ _ _ _ _ _ _ _ _ _ _ _ _ _ _)
  (Ext:=fun L u w'=>ApH w1 [] L u w') (Good:=fun i L w' v=>if i=0 then v=.int .i64 c else if i=1 then v=.agg #[.slice xa zs.length xc,.slice ya ps.length yc,.int .i64 f,.bool false] else if i=2 then v=.pointer (some ⟨w.heap.size,4,none⟩) else if i=3 then v=.slice ka ks.length kc else if i=4 then v=.agg #[.slice xa zs.length xc,.slice ya ps.length yc,.int .i64 f,.bool false] else if i=5 then ImQ w' v (imG zs ps f) else if i=6 then GMv w1.heap.size w' v zs ps ks f false (imG zs ps f) else if i=7 then RMv w1.heap.size w' v c zs ps ks f false (imG zs ps f) else True) (Fin:=fun _ ww=>∃ X,ww.heap[w.heap.size+2]?=some (.cells X 50 (0,0))∧RM w.heap.size ww X c zs ps ks f false (imG zs ps f)∧X.size=17∧Below w.heap.size w ww) rfl (by kernel_rfl) ?hstab (by kernel_rfl) ?hop ?hend ?hdone _ _ ((fun (x0 x1 x2 x3 x4 x5 x6 x7:Value)=>fun (i:Nat)=>if i=0 then x0 else if i=1 then x1 else if i=2 then x2 else if i=3 then x3 else if i=4 then x4 else if i=5 then x5 else if i=6 then x6 else if i=7 then x7 else undef) _ _ _ _ _ _ _ _) _ (by simp) ?none ?ext (by simp)
 case none=>intro i;rw[Array.getD_eq_getD_getElem?,Array.getElem?_replicate];split<;>rfl
 case ext=>exact ApH.start w1 [] _ _ (fun i=>by rw[Array.getD_eq_getD_getElem?,Array.getElem?_replicate];split<;>rfl) ⟨rfl,rfl,rfl,Nat.le_refl _,fun _ _=>rfl⟩
 case hstab=>
  intro j L w9 w' i v _ hM _ _ h;by_cases h5:j=5
  ·subst h5;simp at h ⊢;exact h.below hM
  by_cases h6:j=6
  ·subst h6;simp at h ⊢;exact h.below hM
  by_cases h7:j=7
  ·subst h7;simp at h ⊢;exact h.below hM
  simp only[if_neg h5,if_neg h6,if_neg h7] at h ⊢;exact h
 case hop=>
  intro i o L t w' hi ho hLi hx hdep K hK;obtain rfl|rfl|rfl|rfl|rfl|rfl|rfl|rfl:i=0∨i=1∨i=2∨i=3∨i=4∨i=5∨i=6∨i=7:=by omega
  all_goals(simp at ho;subst ho)
  all_goals try(have hK':=hK w' _ rfl (hx.step _ _ (Below.refl _ _) (fun h=>absurd h (by decide))) (Below.refl _ _);clear hK;simp[Region.binds] at hdep;rw[if_pos (by rfl)];go_simp;simpa[upd,hdep] using hK')
  ·clear hdep;have hK':=hK w' (.agg #[.slice xa zs.length xc,.slice ya ps.length yc,.int .i64 f,.bool false]) (by simp) (hx.step 1 _ (Below.refl _ _) (fun h=>absurd h (by decide))) (Below.refl _ _);clear hK;rw[if_pos (by rfl)];refine wp_load_row 40 (.tmp 4) rfl (w.heap.size+1) rfl 40 _ (0,0) _ ((hx.below.block _ (Array.getElem?_eq_some_iff.1 HW.out.b1).1).trans HW.out.b1) Tryz.underlying40 rfl Tryz.sizeDv ?_;simpa[upd,Act.put] using hK'
  ·have d2:t 2=.pointer (some ⟨w.heap.size,4,none⟩):=by simpa using(hdep ⟨2,.data⟩ (by simp) rfl).2
   clear hdep;have hk9:=k4 w' hx.below;have hK':=hK w' (.slice ka ks.length kc) (by simp) (hx.step 3 _ (Below.refl _ _) (fun h=>absurd h (by decide))) (Below.refl _ _);clear hK;rw[if_pos (by rfl)];go_simp;simpa[upd,d2] using hK'
  ·clear hdep;have hK':=hK w' (.agg #[.slice xa zs.length xc,.slice ya ps.length yc,.int .i64 f,.bool false]) (by simp) (hx.step 4 _ (Below.refl _ _) (fun h=>absurd h (by decide))) (Below.refl _ _);clear hK;rw[if_pos (by rfl)];refine wp_load_row 40 (.tmp 4) rfl (w.heap.size+1) rfl 40 _ (0,0) _ ((hx.below.block _ (Array.getElem?_eq_some_iff.1 HW.out.b1).1).trans HW.out.b1) Tryz.underlying40 rfl Tryz.sizeDv ?_;simpa[upd,Act.put] using hK'
  ·have d4:t 4=.agg #[.slice xa zs.length xc,.slice ya ps.length yc,.int .i64 f,.bool false]:=by simpa using(hdep ⟨4,.data⟩ (by simp) rfl).2
   clear hdep;have bw:Below w.heap.size w w':=HW.out.below.trans (hx.below.mono HW.out.below.size);have A:=HLD.out w' bw;have hK':∀ ww v,ImQ ww v (imG zs ps f)→Below w'.heap.size w' ww→K _ ww:=fun ww v hv hb=>hK ww v (by simpa using hv) (hx.step 5 v hb (fun h=>absurd h (by decide))) hb
   clear hK;rw[if_pos (by rfl)];go_simp;try simp only[d4]
   refine A.mono ?_;rintro e w9 ⟨v9,rfl,h9,hb9⟩;have hK2:=hK' w9 v9 h9 hb9;clear hK' A h9 hb9;go_simp;simpa[upd,d4] using hK2
  ·have d1:t 1=.agg #[.slice xa zs.length xc,.slice ya ps.length yc,.int .i64 f,.bool false]:=by simpa using(hdep ⟨1,.data⟩ (by simp) rfl).2
   have d3:t 3=.slice ka ks.length kc:=by simpa using(hdep ⟨3,.data⟩ (by simp) rfl).2
   have f5:ImQ w' (t 5) (imG zs ps f):=by simpa using(hdep ⟨5,.data⟩ (by simp) rfl).2
   clear hdep;have bw:Below w.heap.size w w':=HW.out.below.trans (hx.below.mono HW.out.below.size);have hsz:w1.heap.size≤w'.heap.size:=hx.below.size;have A:=HGT.out w' bw (t 5) (imG zs ps f) f5 HLE.out;have hK':∀ ww v,GMv w1.heap.size ww v zs ps ks f false (imG zs ps f)→Below w'.heap.size w' ww→K _ ww:=fun ww v hv hb=>hK ww v (by simpa using hv) (hx.step 6 v hb (fun h=>absurd h (by decide))) hb
   clear hK;rw[if_pos (by rfl)];go_simp;try simp only[d1,d3]
   refine A.mono ?_;rintro e w9 ⟨C9,rfl,h9,hb9⟩;have hK2:=hK' w9 (.agg C9) ⟨C9,rfl,h9.mono hsz⟩ hb9;clear hK' A h9 hb9;go_simp;simpa[upd,d1,d3] using hK2
  ·have d0:t 0=.int .i64 c:=by simpa using(hdep ⟨0,.data⟩ (by simp) rfl).2
   have f6:GMv w1.heap.size w' (t 6) zs ps ks f false (imG zs ps f):=by simpa using(hdep ⟨6,.data⟩ (by simp) rfl).2
   clear hdep;obtain⟨C,e6,hG⟩:=f6;have hsv:RMv w1.heap.size w' (.agg (#[.int .i64 c]++C)) c zs ps ks f false (imG zs ps f):=⟨_,rfl,C,rfl,hG⟩
   have hK':=hK w' _ (by simpa using hsv) (hx.step 7 _ (Below.refl _ _) (fun h=>absurd h (by decide))) (Below.refl _ _);clear hK hsv;rw[if_pos (by rfl)];refine wp_bR _ _ rfl c C d0 e6 hG.row.1 ?_;clear hG;simpa[upd,Act.put] using hK'
 case hend=>
  intro o L t w' ho hx hg K hK;simp at ho;subst ho;have f7:RMv w1.heap.size w' (t 7) c zs ps ks f false (imG zs ps f):=by simpa using(hg 7 (by decide)).2
  clear hg;obtain⟨X,e7,j0⟩:=f7;have hz:=j0.row;have hrs:=(hx.below.block _ (Array.getElem?_eq_some_iff.1 HW.out.b2).1).trans HW.out.b2;have hK':∀ ww,Wr (w.heap.size+2) w' ww→ww.heap[w.heap.size+2]?=some (.cells X 50 (0,0))→K _ ww:=fun ww hw hr=>hK ww undef ⟨X,hr,(j0.keep (Nat.le_of_eq hw.size.symm) (fun k hk _=>hw.block k (by have:=(Array.getElem?_eq_some_iff.1 HW.out.b2).1;omega))).mono (by have:=HW.out.below.size;omega),hz.1,(HW.out.below.trans (hx.below.mono HW.out.below.size)).trans (hw.below (by omega))⟩
  clear hK j0;rw[if_pos (by rfl)];refine wp_store_row 50 (.tmp 6) (.tmp 23) rfl (w.heap.size+2) X rfl e7 50 _ hrs (by rw[hz.1];exact Tryz.sizeR) (by rw[hz.1];rfl) hz.2 ?_;have hK2:=hK' _ (Wr.setRow _ _ _) (setRow_heap _ _ _ _ _ _ hrs);clear hK';simpa[upd,Act.put] using hK2
 case hdone=>
  intro t w9 hf;obtain⟨X,hr,hI,hz,hb9⟩:=hf;have HR9:Hid (w9.heap[w.heap.size+2]?=some (.cells X 50 (0,0))):=hr;have HF:Hid (RM w.heap.size w9 X c zs ps ks f false (imG zs ps f)∧Below w.heap.size w w9):=⟨hI,hb9⟩
  have HS9:Hid ((Tryz.prog.info? 50).map (·.size)=some X.size):=by show _=_;rw[hz];exact Tryz.sizeR
  clear hr hI hz hb9 k4;go_wp2_with fail;exact bodyPost_ret (v:=.agg X) (results_cell_row rfl _ _ (w.heap.size+2) 50 _ (0,0) _ rfl HR9.out Tryz.underlying50 rfl HS9.out) rfl ⟨_,rfl,HF.out.1,HF.out.2⟩
theorem saf_any (C:Array Value) (vd:Value) (z0:List Int) (p0:List PD) (f0:Int) (d0:Bool) (o:DO) (ks:List Int) (c:Int) (r:ImR) (w:World) (hg:GAt w (.agg C) z0 p0 f0 d0 ks r) (hD:DAt w vd o.1 o.2.1 o.2.2.1 o.2.2.2) (hle:ImLe r) (hz:o.1.length≤1048576) (hn:o.2.1.length≤1048576) (hps:∀ i,(o.2.1.getD i (0,[])).2.length≤1048576) (bz:Byte o.1) (bp:∀ i,Byte (o.2.1.getD i (0,[])).2) (hk:ks.length≤1048576) :
  Calls Tryz.prog 114 #[.agg C,vd,.int .i64 c] w fun e w'=>∃ X,e=.returned (.agg X)∧RM w.heap.size w' X (afC c o) o.1 o.2.1 ks o.2.2.1 o.2.2.2 (afI r o)∧Below w.heap.size w w':=by
 obtain⟨zs,ps,f,d⟩:=o;cases d with
 |true=>exact saf_dead C vd z0 p0 f0 d0 zs ps ks f c r w hg hD hle hz hn hps bz bp hk
 |false=>exact saf_live C vd z0 p0 f0 d0 zs ps ks f c r w hg hD hle hz hn hps bz bp hk
end Go.Proofs.YthmeoilbmfdhfaaGreat
