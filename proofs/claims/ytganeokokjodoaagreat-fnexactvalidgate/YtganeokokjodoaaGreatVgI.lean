import Derived.Test.YtganeokokjodoaaGreatMEqSn
import Derived.Test.YtganeokokjodoaaGreatVgD
namespace Go.Proofs.YtganeokokjodoaaGreat
open Go.ChangeShapes Go.WideShapes Go.ChangeAt Go.RowKit
set_option linter.unusedVariables false
theorem ImW.below {w w':World} {v:Value} {r:ImR} (h:ImW w v r) (b:Below w.heap.size w w'):ImW w' v r:=by
 obtain⟨aSD,nSD,cSD,aSU,nSU,cSU,aF,mF,cF,aD,nD,cD,aU,nU,cU,aT,cT,rfl,h⟩:=h
 exact⟨aSD,nSD,cSD,aSU,nSU,cSU,aF,mF,cF,aD,nD,cD,aU,nU,cU,aT,cT,rfl,I6L.below h b⟩
theorem sldV {w:World} {v:Value} {zs:List Int} {ps:List PD} {f:Int} {d:Bool} (h:DAt w v zs ps f d) (hL:zs.length≤1048576) (hM:ps.length≤1048576) (hps:∀ i,(ps.getD i (0,[])).2.length≤1048576) (bz:Byte zs) (bp:∀ i,Byte (ps.getD i (0,[])).2) :
  Calls Tryz.prog 6 #[v] w fun e w'=>∃ v',e=.returned v'∧ImW w' v' (imG zs ps f)∧Below w.heap.size w w':=by
 obtain⟨da,dc,ca,cc,rfl,h1,h2,h3⟩:=h
 exact sld_any da ca zs.length dc ps.length cc f d zs ps w rfl rfl h1 h2 h3 hL hM hps bz bp
theorem sameW (ok:Bool) (gn tl k nx:Int) (aF aSD aSU aD aU aT:Option Addr) (nF cF nSD cSD nSU cSU nD cD nU cU nT cT:Nat) (F sD sU D U T:List Int) (r:ImR) (v:Value) (w:World) (h:ImW w v r) (hr:r.sD.length≤16∧r.sU.length≤256∧r.F.length≤1008∧r.D.length≤16∧r.U.length≤256∧r.n≤256) (hl:F.length=nF*4∧sD.length=nSD∧sU.length=nSU∧D.length=nD∧U.length=nU∧T.length=nT*2) (hb:nF≤1048576∧nSD≤1048576∧nSU≤1048576∧nD≤1048576∧nU≤1048576∧nT≤1048576) (AF:FAt w aF F) (ASD:At .i64 w aSD sD) (ASU:At .i64 w aSU sU) (AD:At .i64 w aD D) (AU:At .i64 w aU U) (AT:At .i64 w aT T) :
  Calls Tryz.prog 50 #[.agg #[.bool ok,.int .u32 gn,.int .u32 tl,.slice aSD nSD cSD,.slice aSU nSU cSU,.slice aF nF cF,.slice aD nD cD,.slice aU nU cU,.int .i64 k,.slice aT nT cT,.int .u32 nx],v] w fun e w'=>e=.returned (.bool (imE ok gn tl k nx F sD sU D U T r))∧Below w.heap.size w w':=by
 obtain⟨bSD,mSD,dSD,bSU,mSU,dSU,bF,mF,dF,bD,mD,dD,bU,mU,dU,bT,dT,rfl,s1,s2,s3,s4,s5,s6,l1,l2,l3,l4,l5,l6⟩:=h
 obtain⟨q1,q2,q3,q4,q5,q6⟩:=hl
 exact sameI_any ok r.ok gn r.g tl r.t k r.k nx r.nx aSD bSD aSU bSU aF bF aD bD aU bU aT bT nSD cSD mSD dSD nSU cSU mSU dSU nF cF mF dF nD cD mD dD nU cU mU dU nT cT r.n dT sD r.sD sU r.sU F r.F D r.D U r.U T r.T w q2 l1 q3 l2 q1 l3 q4 l4 q5 l5 q6 l6 (by omega) ASD s1 ASU s2 AF s3 AD s4 AU s5 AT s6
set_option maxHeartbeats 16000000 in
set_option maxRecDepth 100000 in
theorem svg_any (a x:Option Addr) (n c m cx:Nat) (f:Int) (d:Bool) (zs:List Int) (ps:List PD) (ka:Option Addr) (kn kc:Nat) (ok:Bool) (gn tl k nx:Int) (aF aSD aSU aD aU aT:Option Addr) (nF cF nSD cSD nSU cSU nD cD nU cU nT cT:Nat) (F sD sU D U T:List Int) (w:World) (hd:DAt w (.agg #[.slice a n c,.slice x m cx,.int .i64 f,.bool d]) zs ps f d) (hn:zs.length=n) (hm:ps.length=m) (hz:n≤1048576) (hM:m≤1048576) (hps:∀ i,(ps.getD i (0,[])).2.length≤1048576) (bz:Byte zs) (bp:∀ i,Byte (ps.getD i (0,[])).2) (hkn:kn≤1048576) (hl:F.length=nF*4∧sD.length=nSD∧sU.length=nSU∧D.length=nD∧U.length=nU∧T.length=nT*2) (hb:nF≤1048576∧nSD≤1048576∧nSU≤1048576∧nD≤1048576∧nU≤1048576∧nT≤1048576) (AF:FAt w aF F) (ASD:At .i64 w aSD sD) (ASU:At .i64 w aSU sU) (AD:At .i64 w aD D) (AU:At .i64 w aU U) (AT:At .i64 w aT T) :
  Calls Tryz.prog 15 #[.agg #[.slice a n c,.slice x m cx,.int .i64 f,.bool d,.slice ka kn kc,.bool ok,.int .u32 gn,.int .u32 tl,.slice aSD nSD cSD,.slice aSU nSU cSU,.slice aF nF cF,.slice aD nD cD,.slice aU nU cU,.int .i64 k,.slice aT nT cT,.int .u32 nx]] w fun e w'=>e=.returned (.bool (vgB n ps f d m kn ok (imE ok gn tl k nx F sD sU D U T (imG zs ps f))))∧Below w.heap.size w w':=by
 have bb:Below w.heap.size w (w.alloc (.cells #[.slice a n c,.slice x m cx,.int .i64 f,.bool d,.slice ka kn kc,.bool ok,.int .u32 gn,.int .u32 tl,.slice aSD nSD cSD,.slice aSU nSU cSU,.slice aF nF cF,.slice aD nD cD,.slice aU nU cU,.int .i64 k,.slice aT nT cT,.int .u32 nx] 59)):=(Below.refl _ _).alloc (Nat.le_refl _) _
 have HR:Hid ((w.alloc (.cells #[.slice a n c,.slice x m cx,.int .i64 f,.bool d,.slice ka kn kc,.bool ok,.int .u32 gn,.int .u32 tl,.slice aSD nSD cSD,.slice aSU nSU cSU,.slice aF nF cF,.slice aD nD cD,.slice aU nU cU,.int .i64 k,.slice aT nT cT,.int .u32 nx] 59)).heap[w.heap.size]?=some (.cells #[.slice a n c,.slice x m cx,.int .i64 f,.bool d,.slice ka kn kc,.bool ok,.int .u32 gn,.int .u32 tl,.slice aSD nSD cSD,.slice aSU nSU cSU,.slice aF nF cF,.slice aD nD cD,.slice aU nU cU,.int .i64 k,.slice aT nT cT,.int .u32 nx] 59 (0,0))):=heap_alloc_new w _
 have HB0:=hid_ofV bb
 have HSV0:Hid (∀ ww,Below w.heap.size w ww→Calls Tryz.prog 21 #[.agg #[.slice a n c,.slice x m cx,.int .i64 f,.bool d]] ww fun e w'=>e=.returned (.bool (validB n ps f))∧Below ww.heap.size ww w'):=fun ww b=>by
  have:=sval_any _ zs ps f d ww (hd.below b) (by omega) (by omega) hps;rw[hn] at this;exact this
 have HLD0:Hid (∀ ww,Below w.heap.size w ww→Calls Tryz.prog 6 #[.agg #[.slice a n c,.slice x m cx,.int .i64 f,.bool d]] ww fun e w'=>∃ v,e=.returned v∧ImW w' v (imG zs ps f)∧Below ww.heap.size ww w'):=fun ww b=>sldV (hd.below b) (by omega) (by omega) hps bz bp
 have HSM0:Hid (∀ ww v,Below w.heap.size w ww→ImW ww v (imG zs ps f)→Calls Tryz.prog 50 #[.agg #[.bool ok,.int .u32 gn,.int .u32 tl,.slice aSD nSD cSD,.slice aSU nSU cSU,.slice aF nF cF,.slice aD nD cD,.slice aU nU cU,.int .i64 k,.slice aT nT cT,.int .u32 nx],v] ww fun e w'=>e=.returned (.bool (imE ok gn tl k nx F sD sU D U T (imG zs ps f)))∧Below ww.heap.size ww w'):=fun ww v b h=>sameW ok gn tl k nx aF aSD aSU aD aU aT nF cF nSD cSD nSU cSU nD cD nU cU nT cT F sD sU D U T _ v ww h (imG_bd bz bp) hl hb (AF.below b) (ASD.below b) (ASU.below b) (AD.below b) (AU.below b) (AT.below b)
 obtain⟨V,hV⟩:∃ V,V=vgB n ps f d m kn ok (imE ok gn tl k nx F sD sU D U T (imG zs ps f)):=⟨_,rfl⟩
 rw[←hV]
 have HV:=hid_ofV hV
 generalize imE ok gn tl k nx F sD sU D U T (imG zs ps f)=E at *
 generalize imG zs ps f=r at *
 clear hV bb hd bz bp hl hb AF ASD ASU AD AU AT hps hn hm
 go_enter Tryz.func15,Tryz.ntmps15
 go_upto_region 1 with fail
 generalize w.alloc (.cells #[.slice a n c,.slice x m cx,.int .i64 f,.bool d,.slice ka kn kc,.bool ok,.int .u32 gn,.int .u32 tl,.slice aSD nSD cSD,.slice aSU nSU cSU,.slice aF nF cF,.slice aD nD cD,.slice aU nU cU,.int .i64 k,.slice aT nT cT,.int .u32 nx] 59)=w0 at *
 have hlt:w.heap.size<w0.heap.size:=(Array.getElem?_eq_some_iff.1 HR.out).1
 have HRW:Hid (∀ ww,Below w0.heap.size w0 ww→ww.heap[w.heap.size]?=some (.cells #[.slice a n c,.slice x m cx,.int .i64 f,.bool d,.slice ka kn kc,.bool ok,.int .u32 gn,.int .u32 tl,.slice aSD nSD cSD,.slice aSU nSU cSU,.slice aF nF cF,.slice aD nD cD,.slice aU nU cU,.int .i64 k,.slice aT nT cT,.int .u32 nx] 59 (0,0))):=fun ww b=>by rw[b.block _ hlt];exact HR.out
 have HSV:Hid (∀ ww,Below w0.heap.size w0 ww→Calls Tryz.prog 21 #[.agg #[.slice a n c,.slice x m cx,.int .i64 f,.bool d]] ww fun e w'=>e=.returned (.bool (validB n ps f))∧Below ww.heap.size ww w'):=fun ww b=>HSV0.out ww (HB0.out.trans (b.mono HB0.out.size))
 have HLD:Hid (∀ ww,Below w0.heap.size w0 ww→Calls Tryz.prog 6 #[.agg #[.slice a n c,.slice x m cx,.int .i64 f,.bool d]] ww fun e w'=>∃ v,e=.returned v∧ImW w' v r∧Below ww.heap.size ww w'):=fun ww b=>HLD0.out ww (HB0.out.trans (b.mono HB0.out.size))
 have HSM:Hid (∀ ww v,Below w0.heap.size w0 ww→ImW ww v r→Calls Tryz.prog 50 #[.agg #[.bool ok,.int .u32 gn,.int .u32 tl,.slice aSD nSD cSD,.slice aSU nSU cSU,.slice aF nF cF,.slice aD nD cD,.slice aU nU cU,.int .i64 k,.slice aT nT cT,.int .u32 nx],v] ww fun e w'=>e=.returned (.bool E)∧Below ww.heap.size ww w'):=fun ww v b h=>HSM0.out ww v (HB0.out.trans (b.mono HB0.out.size)) h
 clear HSV0 HLD0 HSM0 HR hlt hkn hz hM
 cases hv:validB n ps f with
 |false=>
  have HF:Hid (V=false):=by show _=_;rw[HV.out];unfold vgB;rw[hv];rfl
  rw[hv] at HSV;clear HV HLD HSM hv;refine wp_region_any (by kernel_rfl) ?_;refine wpAny_slotsU (fun _ a b=>Below a.heap.size a b) (frame:=(fun (a b:Value)=>fun (t:Nat→Value)=>({ tmps:=List.toArray [a,b,t 35,t 0,t 1,t 2,t 3,t 4,t 5,t 6,t 7,t 8,t 9,t 10,t 11,t 12,t 13,t 14,t 15,t 16,t 17,t 18,t 19,t 20,t 21,t 22,t 23,t 24,t 25,t 26,t 27,t 28,t 29,t 30,t 31,t 32,t 33,t 34],defers:=[] }:Act)) _ _)
   (Ext:=fun Ls u w'=>ApX w0 [] Ls u w') (Good:=fun i Ls w' v=>if i=0 then v=.pointer (some ⟨w.heap.size,0,none⟩) else if i=1 then v=.agg #[.slice a n c,.slice x m cx,.int .i64 f,.bool d] else if i=2 then v=.bool false else if i=3 then v=.bool false else if i=4 then True else if i=5 then True else if i=6 then True else if i=7 then True else if i=8 then v=.bool false else if i=9 then v=.bool false else if i=10 then True else if i=11 then True else if i=12 then True else if i=13 then True else if i=14 then True else if i=15 then v=.bool false else if i=16 then v=.bool false else if i=17 then True else if i=18 then True else if i=19 then True else if i=20 then True else if i=21 then v=.bool false else if i=22 then v=.bool false else if i=23 then True else if i=24 then True else if i=25 then True else if i=26 then v=.bool false else if i=27 then v=.bool false else if i=28 then True else if i=29 then True else if i=30 then True else if i=31 then True else if i=32 then True else if i=33 then True else if i=34 then v=.bool false else if i=35 then v=.bool false else True) ?hstab1 (by kernel_rfl) ?hop1 ?hdone1 _ _ ((fun (x0 x1 x2 x3 x4 x5 x6 x7 x8 x9 x10 x11 x12 x13 x14 x15 x16 x17 x18 x19 x20 x21 x22 x23 x24 x25 x26 x27 x28 x29 x30 x31 x32 x33 x34 x35:Value)=>fun (i:Nat)=>if i=0 then x0 else if i=1 then x1 else if i=2 then x2 else if i=3 then x3 else if i=4 then x4 else if i=5 then x5 else if i=6 then x6 else if i=7 then x7 else if i=8 then x8 else if i=9 then x9 else if i=10 then x10 else if i=11 then x11 else if i=12 then x12 else if i=13 then x13 else if i=14 then x14 else if i=15 then x15 else if i=16 then x16 else if i=17 then x17 else if i=18 then x18 else if i=19 then x19 else if i=20 then x20 else if i=21 then x21 else if i=22 then x22 else if i=23 then x23 else if i=24 then x24 else if i=25 then x25 else if i=26 then x26 else if i=27 then x27 else if i=28 then x28 else if i=29 then x29 else if i=30 then x30 else if i=31 then x31 else if i=32 then x32 else if i=33 then x33 else if i=34 then x34 else if i=35 then x35 else undef) _ _ _ _ _ _ _ _ _ _ _ _ _ _ _ _ _ _ _ _ _ _ _ _ _ _ _ _ _ _ _ _ _ _ _ _) _ (by simp) ?ext1 ?start1 (by simp)
  case start1=>intro i hi h;exact absurd h (by rw[Array.getD_eq_getD_getElem?,Array.getElem?_replicate];split<;>simp)
  case ext1=>exact(ApX.start w0 [] _ _ (fun i=>by rw[Array.getD_eq_getD_getElem?,Array.getElem?_replicate];split<;>rfl)).drew
  case hstab1=>
   intro j Ls w9 w' i v hM _ _ h;exact h
  case hop1=>
   intro i o Ls t w' ho hLi hx hdep K hK;have hi:i<36:=(Array.getElem?_eq_some_iff.1 ho).1;obtain rfl|rfl|rfl|rfl|rfl|rfl|rfl|rfl|rfl|rfl|rfl|rfl|rfl|rfl|rfl|rfl|rfl|rfl|rfl|rfl|rfl|rfl|rfl|rfl|rfl|rfl|rfl|rfl|rfl|rfl|rfl|rfl|rfl|rfl|rfl|rfl:i=0∨i=1∨i=2∨i=3∨i=4∨i=5∨i=6∨i=7∨i=8∨i=9∨i=10∨i=11∨i=12∨i=13∨i=14∨i=15∨i=16∨i=17∨i=18∨i=19∨i=20∨i=21∨i=22∨i=23∨i=24∨i=25∨i=26∨i=27∨i=28∨i=29∨i=30∨i=31∨i=32∨i=33∨i=34∨i=35:=by omega
   all_goals(simp at ho;subst ho)
   ·clear hdep;have hK':=hK w' (.pointer (some ⟨w.heap.size,0,none⟩)) (by simp) (hx.step 0 _ (Below.refl _ _) (fun h=>absurd h (by decide))) (Below.refl _ _);clear hK;rw[if_pos (by rfl)];go_simp;simpa[upd] using hK'
   ·have d0:t 0=.pointer (some ⟨w.heap.size,0,none⟩):=by simpa using(hdep ⟨0,.data⟩ (by simp) rfl).2
    clear hdep;have hr:=HRW.out w' hx.below;have y0:=cell_of_row w' w.heap.size 0 _ _ _ hr;have y1:=cell_of_row w' w.heap.size 1 _ _ _ hr;have y2:=cell_of_row w' w.heap.size 2 _ _ _ hr;have y3:=cell_of_row w' w.heap.size 3 _ _ _ hr;clear hr;simp at y0 y1 y2 y3;have hK':=hK w' (.agg #[.slice a n c,.slice x m cx,.int .i64 f,.bool d]) (by simp) (hx.step 1 _ (Below.refl _ _) (fun h=>absurd h (by decide))) (Below.refl _ _);clear hK;rw[if_pos (by rfl)];go_simp;simpa[upd,d0] using hK'
   ·have d1:t 1=.agg #[.slice a n c,.slice x m cx,.int .i64 f,.bool d]:=by simpa using(hdep ⟨1,.data⟩ (by simp) rfl).2
    clear hdep;have A:=HSV.out w' hx.below;have hK':∀ ww,Below w'.heap.size w' ww→K _ ww:=fun ww hb=>hK ww (.bool false) (by simp) (hx.step 2 _ hb (fun h=>absurd h (by decide))) hb
    clear hK;rw[if_pos (by rfl)];go_simp;try simp only[d1]
    refine A.mono ?_;rintro e w9 ⟨rfl,hb9⟩;have hK2:=hK' w9 hb9;clear hK' A hb9;go_simp;simpa[upd,d1] using hK2
   ·have d2:t 2=.bool false:=by simpa using(hdep ⟨2,.data⟩ (by simp) rfl).2
    clear hdep;have hK':=hK w' (.bool false) (by simp) (hx.step 3 _ (Below.refl _ _) (fun h=>absurd h (by decide))) (Below.refl _ _);clear hK;rw[if_pos (by rfl)];go_simp;simpa[upd,d2] using hK'
   ·have d3:t 3=.bool false:=by simpa using(hdep ⟨3,.guard⟩ (by simp) rfl).2
    clear hdep;have hK':=hK w' undef (by simp) (hx.step 4 _ (Below.refl _ _) (fun h=>absurd h (by decide))) (Below.refl _ _);clear hK;rw[if_neg (by simp[Region.wanted,yielded,d3])];simpa[upd,Act.put] using hK'
   ·have d3:t 3=.bool false:=by simpa using(hdep ⟨3,.guard⟩ (by simp) rfl).2
    clear hdep;have hK':=hK w' undef (by simp) (hx.step 5 _ (Below.refl _ _) (fun h=>absurd h (by decide))) (Below.refl _ _);clear hK;rw[if_neg (by simp[Region.wanted,yielded,d3])];simpa[upd,Act.put] using hK'
   ·have d3:t 3=.bool false:=by simpa using(hdep ⟨3,.guard⟩ (by simp) rfl).2
    clear hdep;have hK':=hK w' undef (by simp) (hx.step 6 _ (Below.refl _ _) (fun h=>absurd h (by decide))) (Below.refl _ _);clear hK;rw[if_neg (by simp[Region.wanted,yielded,d3])];simpa[upd,Act.put] using hK'
   ·have d3:t 3=.bool false:=by simpa using(hdep ⟨3,.guard⟩ (by simp) rfl).2
    clear hdep;have hK':=hK w' undef (by simp) (hx.step 7 _ (Below.refl _ _) (fun h=>absurd h (by decide))) (Below.refl _ _);clear hK;rw[if_neg (by simp[Region.wanted,yielded,d3])];simpa[upd,Act.put] using hK'
   ·have d3:t 3=.bool false:=by simpa using(hdep ⟨3,.data⟩ (by simp) rfl).2
    clear hdep;have hK':=hK w' (.bool false) (by simp) (hx.step 8 _ (Below.refl _ _) (fun h=>absurd h (by decide))) (Below.refl _ _);clear hK;rw[if_pos (by rfl)];go_simp;simpa[upd,d3] using hK'
   ·have d8:t 8=.bool false:=by simpa using(hdep ⟨8,.data⟩ (by simp) rfl).2
    clear hdep;have hK':=hK w' (.bool false) (by simp) (hx.step 9 _ (Below.refl _ _) (fun h=>absurd h (by decide))) (Below.refl _ _);clear hK;rw[if_pos (by rfl)];go_simp;simpa[upd,d8] using hK'
   ·have d9:t 9=.bool false:=by simpa using(hdep ⟨9,.guard⟩ (by simp) rfl).2
    clear hdep;have hK':=hK w' undef (by simp) (hx.step 10 _ (Below.refl _ _) (fun h=>absurd h (by decide))) (Below.refl _ _);clear hK;rw[if_neg (by simp[Region.wanted,yielded,d9])];simpa[upd,Act.put] using hK'
   ·have d9:t 9=.bool false:=by simpa using(hdep ⟨9,.guard⟩ (by simp) rfl).2
    clear hdep;have hK':=hK w' undef (by simp) (hx.step 11 _ (Below.refl _ _) (fun h=>absurd h (by decide))) (Below.refl _ _);clear hK;rw[if_neg (by simp[Region.wanted,yielded,d9])];simpa[upd,Act.put] using hK'
   ·have d9:t 9=.bool false:=by simpa using(hdep ⟨9,.guard⟩ (by simp) rfl).2
    clear hdep;have hK':=hK w' undef (by simp) (hx.step 12 _ (Below.refl _ _) (fun h=>absurd h (by decide))) (Below.refl _ _);clear hK;rw[if_neg (by simp[Region.wanted,yielded,d9])];simpa[upd,Act.put] using hK'
   ·have d9:t 9=.bool false:=by simpa using(hdep ⟨9,.guard⟩ (by simp) rfl).2
    clear hdep;have hK':=hK w' undef (by simp) (hx.step 13 _ (Below.refl _ _) (fun h=>absurd h (by decide))) (Below.refl _ _);clear hK;rw[if_neg (by simp[Region.wanted,yielded,d9])];simpa[upd,Act.put] using hK'
   ·have d9:t 9=.bool false:=by simpa using(hdep ⟨9,.guard⟩ (by simp) rfl).2
    clear hdep;have hK':=hK w' undef (by simp) (hx.step 14 _ (Below.refl _ _) (fun h=>absurd h (by decide))) (Below.refl _ _);clear hK;rw[if_neg (by simp[Region.wanted,yielded,d9])];simpa[upd,Act.put] using hK'
   ·have d9:t 9=.bool false:=by simpa using(hdep ⟨9,.data⟩ (by simp) rfl).2
    clear hdep;have hK':=hK w' (.bool false) (by simp) (hx.step 15 _ (Below.refl _ _) (fun h=>absurd h (by decide))) (Below.refl _ _);clear hK;rw[if_pos (by rfl)];go_simp;simpa[upd,d9] using hK'
   ·have d15:t 15=.bool false:=by simpa using(hdep ⟨15,.data⟩ (by simp) rfl).2
    clear hdep;have hK':=hK w' (.bool false) (by simp) (hx.step 16 _ (Below.refl _ _) (fun h=>absurd h (by decide))) (Below.refl _ _);clear hK;rw[if_pos (by rfl)];go_simp;simpa[upd,d15] using hK'
   ·have d16:t 16=.bool false:=by simpa using(hdep ⟨16,.guard⟩ (by simp) rfl).2
    clear hdep;have hK':=hK w' undef (by simp) (hx.step 17 _ (Below.refl _ _) (fun h=>absurd h (by decide))) (Below.refl _ _);clear hK;rw[if_neg (by simp[Region.wanted,yielded,d16])];simpa[upd,Act.put] using hK'
   ·have d16:t 16=.bool false:=by simpa using(hdep ⟨16,.guard⟩ (by simp) rfl).2
    clear hdep;have hK':=hK w' undef (by simp) (hx.step 18 _ (Below.refl _ _) (fun h=>absurd h (by decide))) (Below.refl _ _);clear hK;rw[if_neg (by simp[Region.wanted,yielded,d16])];simpa[upd,Act.put] using hK'
   ·have d16:t 16=.bool false:=by simpa using(hdep ⟨16,.guard⟩ (by simp) rfl).2
    clear hdep;have hK':=hK w' undef (by simp) (hx.step 19 _ (Below.refl _ _) (fun h=>absurd h (by decide))) (Below.refl _ _);clear hK;rw[if_neg (by simp[Region.wanted,yielded,d16])];simpa[upd,Act.put] using hK'
   ·have d16:t 16=.bool false:=by simpa using(hdep ⟨16,.guard⟩ (by simp) rfl).2
    clear hdep;have hK':=hK w' undef (by simp) (hx.step 20 _ (Below.refl _ _) (fun h=>absurd h (by decide))) (Below.refl _ _);clear hK;rw[if_neg (by simp[Region.wanted,yielded,d16])];simpa[upd,Act.put] using hK'
   ·have d16:t 16=.bool false:=by simpa using(hdep ⟨16,.data⟩ (by simp) rfl).2
    clear hdep;have hK':=hK w' (.bool false) (by simp) (hx.step 21 _ (Below.refl _ _) (fun h=>absurd h (by decide))) (Below.refl _ _);clear hK;rw[if_pos (by rfl)];go_simp;simpa[upd,d16] using hK'
   ·have d21:t 21=.bool false:=by simpa using(hdep ⟨21,.data⟩ (by simp) rfl).2
    clear hdep;have hK':=hK w' (.bool false) (by simp) (hx.step 22 _ (Below.refl _ _) (fun h=>absurd h (by decide))) (Below.refl _ _);clear hK;rw[if_pos (by rfl)];go_simp;simpa[upd,d21] using hK'
   ·have d22:t 22=.bool false:=by simpa using(hdep ⟨22,.guard⟩ (by simp) rfl).2
    clear hdep;have hK':=hK w' undef (by simp) (hx.step 23 _ (Below.refl _ _) (fun h=>absurd h (by decide))) (Below.refl _ _);clear hK;rw[if_neg (by simp[Region.wanted,yielded,d22])];simpa[upd,Act.put] using hK'
   ·have d22:t 22=.bool false:=by simpa using(hdep ⟨22,.guard⟩ (by simp) rfl).2
    clear hdep;have hK':=hK w' undef (by simp) (hx.step 24 _ (Below.refl _ _) (fun h=>absurd h (by decide))) (Below.refl _ _);clear hK;rw[if_neg (by simp[Region.wanted,yielded,d22])];simpa[upd,Act.put] using hK'
   ·have d22:t 22=.bool false:=by simpa using(hdep ⟨22,.guard⟩ (by simp) rfl).2
    clear hdep;have hK':=hK w' undef (by simp) (hx.step 25 _ (Below.refl _ _) (fun h=>absurd h (by decide))) (Below.refl _ _);clear hK;rw[if_neg (by simp[Region.wanted,yielded,d22])];simpa[upd,Act.put] using hK'
   ·have d22:t 22=.bool false:=by simpa using(hdep ⟨22,.data⟩ (by simp) rfl).2
    clear hdep;have hK':=hK w' (.bool false) (by simp) (hx.step 26 _ (Below.refl _ _) (fun h=>absurd h (by decide))) (Below.refl _ _);clear hK;rw[if_pos (by rfl)];go_simp;simpa[upd,d22] using hK'
   ·have d26:t 26=.bool false:=by simpa using(hdep ⟨26,.data⟩ (by simp) rfl).2
    clear hdep;have hK':=hK w' (.bool false) (by simp) (hx.step 27 _ (Below.refl _ _) (fun h=>absurd h (by decide))) (Below.refl _ _);clear hK;rw[if_pos (by rfl)];go_simp;simpa[upd,d26] using hK'
   ·have d27:t 27=.bool false:=by simpa using(hdep ⟨27,.guard⟩ (by simp) rfl).2
    clear hdep;have hK':=hK w' undef (by simp) (hx.step 28 _ (Below.refl _ _) (fun h=>absurd h (by decide))) (Below.refl _ _);clear hK;rw[if_neg (by simp[Region.wanted,yielded,d27])];simpa[upd,Act.put] using hK'
   ·have d27:t 27=.bool false:=by simpa using(hdep ⟨27,.guard⟩ (by simp) rfl).2
    clear hdep;have hK':=hK w' undef (by simp) (hx.step 29 _ (Below.refl _ _) (fun h=>absurd h (by decide))) (Below.refl _ _);clear hK;rw[if_neg (by simp[Region.wanted,yielded,d27])];simpa[upd,Act.put] using hK'
   ·have d27:t 27=.bool false:=by simpa using(hdep ⟨27,.guard⟩ (by simp) rfl).2
    clear hdep;have hK':=hK w' undef (by simp) (hx.step 30 _ (Below.refl _ _) (fun h=>absurd h (by decide))) (Below.refl _ _);clear hK;rw[if_neg (by simp[Region.wanted,yielded,d27])];simpa[upd,Act.put] using hK'
   ·have d27:t 27=.bool false:=by simpa using(hdep ⟨27,.guard⟩ (by simp) rfl).2
    clear hdep;have hK':=hK w' undef (by simp) (hx.step 31 _ (Below.refl _ _) (fun h=>absurd h (by decide))) (Below.refl _ _);clear hK;rw[if_neg (by simp[Region.wanted,yielded,d27])];simpa[upd,Act.put] using hK'
   ·have d27:t 27=.bool false:=by simpa using(hdep ⟨27,.guard⟩ (by simp) rfl).2
    clear hdep;have hK':=hK w' undef (by simp) (hx.step 32 _ (Below.refl _ _) (fun h=>absurd h (by decide))) (Below.refl _ _);clear hK;rw[if_neg (by simp[Region.wanted,yielded,d27])];simpa[upd,Act.put] using hK'
   ·have d27:t 27=.bool false:=by simpa using(hdep ⟨27,.guard⟩ (by simp) rfl).2
    clear hdep;have hK':=hK w' undef (by simp) (hx.step 33 _ (Below.refl _ _) (fun h=>absurd h (by decide))) (Below.refl _ _);clear hK;rw[if_neg (by simp[Region.wanted,yielded,d27])];simpa[upd,Act.put] using hK'
   ·have d27:t 27=.bool false:=by simpa using(hdep ⟨27,.data⟩ (by simp) rfl).2
    clear hdep;have hK':=hK w' (.bool false) (by simp) (hx.step 34 _ (Below.refl _ _) (fun h=>absurd h (by decide))) (Below.refl _ _);clear hK;rw[if_pos (by rfl)];go_simp;simpa[upd,d27] using hK'
   ·have d34:t 34=.bool false:=by simpa using(hdep ⟨34,.data⟩ (by simp) rfl).2
    clear hdep;have hK':=hK w' (.bool false) (by simp) (hx.step 35 _ (Below.refl _ _) (fun h=>absurd h (by decide))) (Below.refl _ _);clear hK;rw[if_pos (by rfl)];go_simp;simpa[upd,d34] using hK'
  case hdone1=>
   intro Ls t w1 hx hg;have f35:t 35=.bool false:=by simpa using hg 35 (by decide)
   have HBF:=hid_ofV (HB0.out.trans (hx.below.mono HB0.out.size));clear hx hg;dsimp only;rw[f35];generalize t 0=t0;go_wp2
   go_ret
   exact⟨by rw[HF.out];rfl,HBF.out⟩
 |true=>
  rw[hv] at HSV;cases d with
  |true=>
   have HF:Hid (V=false):=by show _=_;rw[HV.out];unfold vgB;simp
   clear HV HLD HSM hv;refine wp_region_any (by kernel_rfl) ?_;refine wpAny_slotsU (fun _ a b=>Below a.heap.size a b) (frame:=(fun (a b:Value)=>fun (t:Nat→Value)=>({ tmps:=List.toArray [a,b,t 35,t 0,t 1,t 2,t 3,t 4,t 5,t 6,t 7,t 8,t 9,t 10,t 11,t 12,t 13,t 14,t 15,t 16,t 17,t 18,t 19,t 20,t 21,t 22,t 23,t 24,t 25,t 26,t 27,t 28,t 29,t 30,t 31,t 32,t 33,t 34],defers:=[] }:Act)) _ _)
    (Ext:=fun Ls u w'=>ApX w0 [] Ls u w') (Good:=fun i Ls w' v=>if i=0 then v=.pointer (some ⟨w.heap.size,0,none⟩) else if i=1 then v=.agg #[.slice a n c,.slice x m cx,.int .i64 f,.bool true] else if i=2 then v=.bool true else if i=3 then v=.bool true else if i=4 then v=.pointer (some ⟨w.heap.size,0,none⟩) else if i=5 then v=.pointer (some ⟨w.heap.size,3,none⟩) else if i=6 then v=.bool true else if i=7 then v=.bool false else if i=8 then v=.bool false else if i=9 then v=.bool false else if i=10 then True else if i=11 then True else if i=12 then True else if i=13 then True else if i=14 then True else if i=15 then v=.bool false else if i=16 then v=.bool false else if i=17 then True else if i=18 then True else if i=19 then True else if i=20 then True else if i=21 then v=.bool false else if i=22 then v=.bool false else if i=23 then True else if i=24 then True else if i=25 then True else if i=26 then v=.bool false else if i=27 then v=.bool false else if i=28 then True else if i=29 then True else if i=30 then True else if i=31 then True else if i=32 then True else if i=33 then True else if i=34 then v=.bool false else if i=35 then v=.bool false else True) ?hstab2 (by kernel_rfl) ?hop2 ?hdone2 _ _ ((fun (x0 x1 x2 x3 x4 x5 x6 x7 x8 x9 x10 x11 x12 x13 x14 x15 x16 x17 x18 x19 x20 x21 x22 x23 x24 x25 x26 x27 x28 x29 x30 x31 x32 x33 x34 x35:Value)=>fun (i:Nat)=>if i=0 then x0 else if i=1 then x1 else if i=2 then x2 else if i=3 then x3 else if i=4 then x4 else if i=5 then x5 else if i=6 then x6 else if i=7 then x7 else if i=8 then x8 else if i=9 then x9 else if i=10 then x10 else if i=11 then x11 else if i=12 then x12 else if i=13 then x13 else if i=14 then x14 else if i=15 then x15 else if i=16 then x16 else if i=17 then x17 else if i=18 then x18 else if i=19 then x19 else if i=20 then x20 else if i=21 then x21 else if i=22 then x22 else if i=23 then x23 else if i=24 then x24 else if i=25 then x25 else if i=26 then x26 else if i=27 then x27 else if i=28 then x28 else if i=29 then x29 else if i=30 then x30 else if i=31 then x31 else if i=32 then x32 else if i=33 then x33 else if i=34 then x34 else if i=35 then x35 else undef) _ _ _ _ _ _ _ _ _ _ _ _ _ _ _ _ _ _ _ _ _ _ _ _ _ _ _ _ _ _ _ _ _ _ _ _) _ (by simp) ?ext2 ?start2 (by simp)
   case start2=>intro i hi h;exact absurd h (by rw[Array.getD_eq_getD_getElem?,Array.getElem?_replicate];split<;>simp)
   case ext2=>exact(ApX.start w0 [] _ _ (fun i=>by rw[Array.getD_eq_getD_getElem?,Array.getElem?_replicate];split<;>rfl)).drew
   case hstab2=>
    intro j Ls w9 w' i v hM _ _ h;exact h
   case hop2=>
    intro i o Ls t w' ho hLi hx hdep K hK;have hi:i<36:=(Array.getElem?_eq_some_iff.1 ho).1;obtain rfl|rfl|rfl|rfl|rfl|rfl|rfl|rfl|rfl|rfl|rfl|rfl|rfl|rfl|rfl|rfl|rfl|rfl|rfl|rfl|rfl|rfl|rfl|rfl|rfl|rfl|rfl|rfl|rfl|rfl|rfl|rfl|rfl|rfl|rfl|rfl:i=0∨i=1∨i=2∨i=3∨i=4∨i=5∨i=6∨i=7∨i=8∨i=9∨i=10∨i=11∨i=12∨i=13∨i=14∨i=15∨i=16∨i=17∨i=18∨i=19∨i=20∨i=21∨i=22∨i=23∨i=24∨i=25∨i=26∨i=27∨i=28∨i=29∨i=30∨i=31∨i=32∨i=33∨i=34∨i=35:=by omega
    all_goals(simp at ho;subst ho)
    ·clear hdep;have hK':=hK w' (.pointer (some ⟨w.heap.size,0,none⟩)) (by simp) (hx.step 0 _ (Below.refl _ _) (fun h=>absurd h (by decide))) (Below.refl _ _);clear hK;rw[if_pos (by rfl)];go_simp;simpa[upd] using hK'
    ·have d0:t 0=.pointer (some ⟨w.heap.size,0,none⟩):=by simpa using(hdep ⟨0,.data⟩ (by simp) rfl).2
     clear hdep;have hr:=HRW.out w' hx.below;have y0:=cell_of_row w' w.heap.size 0 _ _ _ hr;have y1:=cell_of_row w' w.heap.size 1 _ _ _ hr;have y2:=cell_of_row w' w.heap.size 2 _ _ _ hr;have y3:=cell_of_row w' w.heap.size 3 _ _ _ hr;clear hr;simp at y0 y1 y2 y3;have hK':=hK w' (.agg #[.slice a n c,.slice x m cx,.int .i64 f,.bool true]) (by simp) (hx.step 1 _ (Below.refl _ _) (fun h=>absurd h (by decide))) (Below.refl _ _);clear hK;rw[if_pos (by rfl)];go_simp;simpa[upd,d0] using hK'
    ·have d1:t 1=.agg #[.slice a n c,.slice x m cx,.int .i64 f,.bool true]:=by simpa using(hdep ⟨1,.data⟩ (by simp) rfl).2
     clear hdep;have A:=HSV.out w' hx.below;have hK':∀ ww,Below w'.heap.size w' ww→K _ ww:=fun ww hb=>hK ww (.bool true) (by simp) (hx.step 2 _ hb (fun h=>absurd h (by decide))) hb
     clear hK;rw[if_pos (by rfl)];go_simp;try simp only[d1]
     refine A.mono ?_;rintro e w9 ⟨rfl,hb9⟩;have hK2:=hK' w9 hb9;clear hK' A hb9;go_simp;simpa[upd,d1] using hK2
    ·have d2:t 2=.bool true:=by simpa using(hdep ⟨2,.data⟩ (by simp) rfl).2
     clear hdep;have hK':=hK w' (.bool true) (by simp) (hx.step 3 _ (Below.refl _ _) (fun h=>absurd h (by decide))) (Below.refl _ _);clear hK;rw[if_pos (by rfl)];go_simp;simpa[upd,d2] using hK'
    ·have d3:t 3=.bool true:=by simpa using(hdep ⟨3,.guard⟩ (by simp) rfl).2
     clear hdep;have hK':=hK w' (.pointer (some ⟨w.heap.size,0,none⟩)) (by simp) (hx.step 4 _ (Below.refl _ _) (fun h=>absurd h (by decide))) (Below.refl _ _);clear hK;rw[if_pos (by simp[Region.wanted,yielded,d3])];go_simp;simpa[upd,d3] using hK'
    ·have d4:t 4=.pointer (some ⟨w.heap.size,0,none⟩):=by simpa using(hdep ⟨4,.data⟩ (by simp) rfl).2
     have d3:t 3=.bool true:=by simpa using(hdep ⟨3,.guard⟩ (by simp) rfl).2
     clear hdep;have hK':=hK w' (.pointer (some ⟨w.heap.size,3,none⟩)) (by simp) (hx.step 5 _ (Below.refl _ _) (fun h=>absurd h (by decide))) (Below.refl _ _);clear hK;rw[if_pos (by simp[Region.wanted,yielded,d3])];go_simp;simpa[upd,d4,d3] using hK'
    ·have d5:t 5=.pointer (some ⟨w.heap.size,3,none⟩):=by simpa using(hdep ⟨5,.data⟩ (by simp) rfl).2
     have d3:t 3=.bool true:=by simpa using(hdep ⟨3,.guard⟩ (by simp) rfl).2
     clear hdep;have hr:=HRW.out w' hx.below;have y3:=cell_of_row w' w.heap.size 3 _ _ _ hr;clear hr;simp at y3;have hK':=hK w' (.bool true) (by simp) (hx.step 6 _ (Below.refl _ _) (fun h=>absurd h (by decide))) (Below.refl _ _);clear hK;rw[if_pos (by simp[Region.wanted,yielded,d3])];go_simp;simpa[upd,d5,d3] using hK'
    ·have d6:t 6=.bool true:=by simpa using(hdep ⟨6,.data⟩ (by simp) rfl).2
     have d3:t 3=.bool true:=by simpa using(hdep ⟨3,.guard⟩ (by simp) rfl).2
     clear hdep;have hK':=hK w' (.bool false) (by simp) (hx.step 7 _ (Below.refl _ _) (fun h=>absurd h (by decide))) (Below.refl _ _);clear hK;rw[if_pos (by simp[Region.wanted,yielded,d3])];go_simp;simpa[upd,d6,d3] using hK'
    ·have d3:t 3=.bool true:=by simpa using(hdep ⟨3,.data⟩ (by simp) rfl).2
     have d7:t 7=.bool false:=by simpa using(hdep ⟨7,.data⟩ (by simp) rfl).2
     clear hdep;have hK':=hK w' (.bool false) (by simp) (hx.step 8 _ (Below.refl _ _) (fun h=>absurd h (by decide))) (Below.refl _ _);clear hK;rw[if_pos (by rfl)];go_simp;simpa[upd,d3,d7] using hK'
    ·have d8:t 8=.bool false:=by simpa using(hdep ⟨8,.data⟩ (by simp) rfl).2
     clear hdep;have hK':=hK w' (.bool false) (by simp) (hx.step 9 _ (Below.refl _ _) (fun h=>absurd h (by decide))) (Below.refl _ _);clear hK;rw[if_pos (by rfl)];go_simp;simpa[upd,d8] using hK'
    ·have d9:t 9=.bool false:=by simpa using(hdep ⟨9,.guard⟩ (by simp) rfl).2
     clear hdep;have hK':=hK w' undef (by simp) (hx.step 10 _ (Below.refl _ _) (fun h=>absurd h (by decide))) (Below.refl _ _);clear hK;rw[if_neg (by simp[Region.wanted,yielded,d9])];simpa[upd,Act.put] using hK'
    ·have d9:t 9=.bool false:=by simpa using(hdep ⟨9,.guard⟩ (by simp) rfl).2
     clear hdep;have hK':=hK w' undef (by simp) (hx.step 11 _ (Below.refl _ _) (fun h=>absurd h (by decide))) (Below.refl _ _);clear hK;rw[if_neg (by simp[Region.wanted,yielded,d9])];simpa[upd,Act.put] using hK'
    ·have d9:t 9=.bool false:=by simpa using(hdep ⟨9,.guard⟩ (by simp) rfl).2
     clear hdep;have hK':=hK w' undef (by simp) (hx.step 12 _ (Below.refl _ _) (fun h=>absurd h (by decide))) (Below.refl _ _);clear hK;rw[if_neg (by simp[Region.wanted,yielded,d9])];simpa[upd,Act.put] using hK'
    ·have d9:t 9=.bool false:=by simpa using(hdep ⟨9,.guard⟩ (by simp) rfl).2
     clear hdep;have hK':=hK w' undef (by simp) (hx.step 13 _ (Below.refl _ _) (fun h=>absurd h (by decide))) (Below.refl _ _);clear hK;rw[if_neg (by simp[Region.wanted,yielded,d9])];simpa[upd,Act.put] using hK'
    ·have d9:t 9=.bool false:=by simpa using(hdep ⟨9,.guard⟩ (by simp) rfl).2
     clear hdep;have hK':=hK w' undef (by simp) (hx.step 14 _ (Below.refl _ _) (fun h=>absurd h (by decide))) (Below.refl _ _);clear hK;rw[if_neg (by simp[Region.wanted,yielded,d9])];simpa[upd,Act.put] using hK'
    ·have d9:t 9=.bool false:=by simpa using(hdep ⟨9,.data⟩ (by simp) rfl).2
     clear hdep;have hK':=hK w' (.bool false) (by simp) (hx.step 15 _ (Below.refl _ _) (fun h=>absurd h (by decide))) (Below.refl _ _);clear hK;rw[if_pos (by rfl)];go_simp;simpa[upd,d9] using hK'
    ·have d15:t 15=.bool false:=by simpa using(hdep ⟨15,.data⟩ (by simp) rfl).2
     clear hdep;have hK':=hK w' (.bool false) (by simp) (hx.step 16 _ (Below.refl _ _) (fun h=>absurd h (by decide))) (Below.refl _ _);clear hK;rw[if_pos (by rfl)];go_simp;simpa[upd,d15] using hK'
    ·have d16:t 16=.bool false:=by simpa using(hdep ⟨16,.guard⟩ (by simp) rfl).2
     clear hdep;have hK':=hK w' undef (by simp) (hx.step 17 _ (Below.refl _ _) (fun h=>absurd h (by decide))) (Below.refl _ _);clear hK;rw[if_neg (by simp[Region.wanted,yielded,d16])];simpa[upd,Act.put] using hK'
    ·have d16:t 16=.bool false:=by simpa using(hdep ⟨16,.guard⟩ (by simp) rfl).2
     clear hdep;have hK':=hK w' undef (by simp) (hx.step 18 _ (Below.refl _ _) (fun h=>absurd h (by decide))) (Below.refl _ _);clear hK;rw[if_neg (by simp[Region.wanted,yielded,d16])];simpa[upd,Act.put] using hK'
    ·have d16:t 16=.bool false:=by simpa using(hdep ⟨16,.guard⟩ (by simp) rfl).2
     clear hdep;have hK':=hK w' undef (by simp) (hx.step 19 _ (Below.refl _ _) (fun h=>absurd h (by decide))) (Below.refl _ _);clear hK;rw[if_neg (by simp[Region.wanted,yielded,d16])];simpa[upd,Act.put] using hK'
    ·have d16:t 16=.bool false:=by simpa using(hdep ⟨16,.guard⟩ (by simp) rfl).2
     clear hdep;have hK':=hK w' undef (by simp) (hx.step 20 _ (Below.refl _ _) (fun h=>absurd h (by decide))) (Below.refl _ _);clear hK;rw[if_neg (by simp[Region.wanted,yielded,d16])];simpa[upd,Act.put] using hK'
    ·have d16:t 16=.bool false:=by simpa using(hdep ⟨16,.data⟩ (by simp) rfl).2
     clear hdep;have hK':=hK w' (.bool false) (by simp) (hx.step 21 _ (Below.refl _ _) (fun h=>absurd h (by decide))) (Below.refl _ _);clear hK;rw[if_pos (by rfl)];go_simp;simpa[upd,d16] using hK'
    ·have d21:t 21=.bool false:=by simpa using(hdep ⟨21,.data⟩ (by simp) rfl).2
     clear hdep;have hK':=hK w' (.bool false) (by simp) (hx.step 22 _ (Below.refl _ _) (fun h=>absurd h (by decide))) (Below.refl _ _);clear hK;rw[if_pos (by rfl)];go_simp;simpa[upd,d21] using hK'
    ·have d22:t 22=.bool false:=by simpa using(hdep ⟨22,.guard⟩ (by simp) rfl).2
     clear hdep;have hK':=hK w' undef (by simp) (hx.step 23 _ (Below.refl _ _) (fun h=>absurd h (by decide))) (Below.refl _ _);clear hK;rw[if_neg (by simp[Region.wanted,yielded,d22])];simpa[upd,Act.put] using hK'
    ·have d22:t 22=.bool false:=by simpa using(hdep ⟨22,.guard⟩ (by simp) rfl).2
     clear hdep;have hK':=hK w' undef (by simp) (hx.step 24 _ (Below.refl _ _) (fun h=>absurd h (by decide))) (Below.refl _ _);clear hK;rw[if_neg (by simp[Region.wanted,yielded,d22])];simpa[upd,Act.put] using hK'
    ·have d22:t 22=.bool false:=by simpa using(hdep ⟨22,.guard⟩ (by simp) rfl).2
     clear hdep;have hK':=hK w' undef (by simp) (hx.step 25 _ (Below.refl _ _) (fun h=>absurd h (by decide))) (Below.refl _ _);clear hK;rw[if_neg (by simp[Region.wanted,yielded,d22])];simpa[upd,Act.put] using hK'
    ·have d22:t 22=.bool false:=by simpa using(hdep ⟨22,.data⟩ (by simp) rfl).2
     clear hdep;have hK':=hK w' (.bool false) (by simp) (hx.step 26 _ (Below.refl _ _) (fun h=>absurd h (by decide))) (Below.refl _ _);clear hK;rw[if_pos (by rfl)];go_simp;simpa[upd,d22] using hK'
    ·have d26:t 26=.bool false:=by simpa using(hdep ⟨26,.data⟩ (by simp) rfl).2
     clear hdep;have hK':=hK w' (.bool false) (by simp) (hx.step 27 _ (Below.refl _ _) (fun h=>absurd h (by decide))) (Below.refl _ _);clear hK;rw[if_pos (by rfl)];go_simp;simpa[upd,d26] using hK'
    ·have d27:t 27=.bool false:=by simpa using(hdep ⟨27,.guard⟩ (by simp) rfl).2
     clear hdep;have hK':=hK w' undef (by simp) (hx.step 28 _ (Below.refl _ _) (fun h=>absurd h (by decide))) (Below.refl _ _);clear hK;rw[if_neg (by simp[Region.wanted,yielded,d27])];simpa[upd,Act.put] using hK'
    ·have d27:t 27=.bool false:=by simpa using(hdep ⟨27,.guard⟩ (by simp) rfl).2
     clear hdep;have hK':=hK w' undef (by simp) (hx.step 29 _ (Below.refl _ _) (fun h=>absurd h (by decide))) (Below.refl _ _);clear hK;rw[if_neg (by simp[Region.wanted,yielded,d27])];simpa[upd,Act.put] using hK'
    ·have d27:t 27=.bool false:=by simpa using(hdep ⟨27,.guard⟩ (by simp) rfl).2
     clear hdep;have hK':=hK w' undef (by simp) (hx.step 30 _ (Below.refl _ _) (fun h=>absurd h (by decide))) (Below.refl _ _);clear hK;rw[if_neg (by simp[Region.wanted,yielded,d27])];simpa[upd,Act.put] using hK'
    ·have d27:t 27=.bool false:=by simpa using(hdep ⟨27,.guard⟩ (by simp) rfl).2
     clear hdep;have hK':=hK w' undef (by simp) (hx.step 31 _ (Below.refl _ _) (fun h=>absurd h (by decide))) (Below.refl _ _);clear hK;rw[if_neg (by simp[Region.wanted,yielded,d27])];simpa[upd,Act.put] using hK'
    ·have d27:t 27=.bool false:=by simpa using(hdep ⟨27,.guard⟩ (by simp) rfl).2
     clear hdep;have hK':=hK w' undef (by simp) (hx.step 32 _ (Below.refl _ _) (fun h=>absurd h (by decide))) (Below.refl _ _);clear hK;rw[if_neg (by simp[Region.wanted,yielded,d27])];simpa[upd,Act.put] using hK'
    ·have d27:t 27=.bool false:=by simpa using(hdep ⟨27,.guard⟩ (by simp) rfl).2
     clear hdep;have hK':=hK w' undef (by simp) (hx.step 33 _ (Below.refl _ _) (fun h=>absurd h (by decide))) (Below.refl _ _);clear hK;rw[if_neg (by simp[Region.wanted,yielded,d27])];simpa[upd,Act.put] using hK'
    ·have d27:t 27=.bool false:=by simpa using(hdep ⟨27,.data⟩ (by simp) rfl).2
     clear hdep;have hK':=hK w' (.bool false) (by simp) (hx.step 34 _ (Below.refl _ _) (fun h=>absurd h (by decide))) (Below.refl _ _);clear hK;rw[if_pos (by rfl)];go_simp;simpa[upd,d27] using hK'
    ·have d34:t 34=.bool false:=by simpa using(hdep ⟨34,.data⟩ (by simp) rfl).2
     clear hdep;have hK':=hK w' (.bool false) (by simp) (hx.step 35 _ (Below.refl _ _) (fun h=>absurd h (by decide))) (Below.refl _ _);clear hK;rw[if_pos (by rfl)];go_simp;simpa[upd,d34] using hK'
   case hdone2=>
    intro Ls t w1 hx hg;have f35:t 35=.bool false:=by simpa using hg 35 (by decide)
    have HBF:=hid_ofV (HB0.out.trans (hx.below.mono HB0.out.size));clear hx hg;dsimp only;rw[f35];generalize t 0=t0;go_wp2
    go_ret
    exact⟨by rw[HF.out];rfl,HBF.out⟩
  |false=>
   by_cases h0:m=0;rotate_left
   ·have HF:Hid (V=false):=by show _=_;rw[HV.out];unfold vgB;simp[h0]
    have hm0:¬ ((m:Int)=0):=by omega
    have hm1:((m:Int) == 0)=false:=by simpa using hm0
    have hm2:decide ((m:Int)=0)=false:=by simpa using hm0
    have hm3:=h0;clear HV HLD HSM hv;refine wp_region_any (by kernel_rfl) ?_;refine wpAny_slotsU (fun _ a b=>Below a.heap.size a b) (frame:=(fun (a b:Value)=>fun (t:Nat→Value)=>({ tmps:=List.toArray [a,b,t 35,t 0,t 1,t 2,t 3,t 4,t 5,t 6,t 7,t 8,t 9,t 10,t 11,t 12,t 13,t 14,t 15,t 16,t 17,t 18,t 19,t 20,t 21,t 22,t 23,t 24,t 25,t 26,t 27,t 28,t 29,t 30,t 31,t 32,t 33,t 34],defers:=[] }:Act)) _ _)
     (Ext:=fun Ls u w'=>ApX w0 [] Ls u w') (Good:=fun i Ls w' v=>if i=0 then v=.pointer (some ⟨w.heap.size,0,none⟩) else if i=1 then v=.agg #[.slice a n c,.slice x m cx,.int .i64 f,.bool false] else if i=2 then v=.bool true else if i=3 then v=.bool true else if i=4 then v=.pointer (some ⟨w.heap.size,0,none⟩) else if i=5 then v=.pointer (some ⟨w.heap.size,3,none⟩) else if i=6 then v=.bool false else if i=7 then v=.bool true else if i=8 then v=.bool true else if i=9 then v=.bool true else if i=10 then v=.pointer (some ⟨w.heap.size,0,none⟩) else if i=11 then v=.pointer (some ⟨w.heap.size,1,none⟩) else if i=12 then v=.slice x m cx else if i=13 then v=.int .i64 (m:Nat) else if i=14 then v=.bool false else if i=15 then v=.bool false else if i=16 then v=.bool false else if i=17 then True else if i=18 then True else if i=19 then True else if i=20 then True else if i=21 then v=.bool false else if i=22 then v=.bool false else if i=23 then True else if i=24 then True else if i=25 then True else if i=26 then v=.bool false else if i=27 then v=.bool false else if i=28 then True else if i=29 then True else if i=30 then True else if i=31 then True else if i=32 then True else if i=33 then True else if i=34 then v=.bool false else if i=35 then v=.bool false else True) ?hstab3 (by kernel_rfl) ?hop3 ?hdone3 _ _ ((fun (x0 x1 x2 x3 x4 x5 x6 x7 x8 x9 x10 x11 x12 x13 x14 x15 x16 x17 x18 x19 x20 x21 x22 x23 x24 x25 x26 x27 x28 x29 x30 x31 x32 x33 x34 x35:Value)=>fun (i:Nat)=>if i=0 then x0 else if i=1 then x1 else if i=2 then x2 else if i=3 then x3 else if i=4 then x4 else if i=5 then x5 else if i=6 then x6 else if i=7 then x7 else if i=8 then x8 else if i=9 then x9 else if i=10 then x10 else if i=11 then x11 else if i=12 then x12 else if i=13 then x13 else if i=14 then x14 else if i=15 then x15 else if i=16 then x16 else if i=17 then x17 else if i=18 then x18 else if i=19 then x19 else if i=20 then x20 else if i=21 then x21 else if i=22 then x22 else if i=23 then x23 else if i=24 then x24 else if i=25 then x25 else if i=26 then x26 else if i=27 then x27 else if i=28 then x28 else if i=29 then x29 else if i=30 then x30 else if i=31 then x31 else if i=32 then x32 else if i=33 then x33 else if i=34 then x34 else if i=35 then x35 else undef) _ _ _ _ _ _ _ _ _ _ _ _ _ _ _ _ _ _ _ _ _ _ _ _ _ _ _ _ _ _ _ _ _ _ _ _) _ (by simp) ?ext3 ?start3 (by simp)
    case start3=>intro i hi h;exact absurd h (by rw[Array.getD_eq_getD_getElem?,Array.getElem?_replicate];split<;>simp)
    case ext3=>exact(ApX.start w0 [] _ _ (fun i=>by rw[Array.getD_eq_getD_getElem?,Array.getElem?_replicate];split<;>rfl)).drew
    case hstab3=>
     intro j Ls w9 w' i v hM _ _ h;exact h
    case hop3=>
     intro i o Ls t w' ho hLi hx hdep K hK;have hi:i<36:=(Array.getElem?_eq_some_iff.1 ho).1;obtain rfl|rfl|rfl|rfl|rfl|rfl|rfl|rfl|rfl|rfl|rfl|rfl|rfl|rfl|rfl|rfl|rfl|rfl|rfl|rfl|rfl|rfl|rfl|rfl|rfl|rfl|rfl|rfl|rfl|rfl|rfl|rfl|rfl|rfl|rfl|rfl:i=0∨i=1∨i=2∨i=3∨i=4∨i=5∨i=6∨i=7∨i=8∨i=9∨i=10∨i=11∨i=12∨i=13∨i=14∨i=15∨i=16∨i=17∨i=18∨i=19∨i=20∨i=21∨i=22∨i=23∨i=24∨i=25∨i=26∨i=27∨i=28∨i=29∨i=30∨i=31∨i=32∨i=33∨i=34∨i=35:=by omega
     all_goals(simp at ho;subst ho)
     ·clear hdep;have hK':=hK w' (.pointer (some ⟨w.heap.size,0,none⟩)) (by simp) (hx.step 0 _ (Below.refl _ _) (fun h=>absurd h (by decide))) (Below.refl _ _);clear hK;rw[if_pos (by rfl)];go_simp;simpa[upd] using hK'
     ·have d0:t 0=.pointer (some ⟨w.heap.size,0,none⟩):=by simpa using(hdep ⟨0,.data⟩ (by simp) rfl).2
      clear hdep;have hr:=HRW.out w' hx.below;have y0:=cell_of_row w' w.heap.size 0 _ _ _ hr;have y1:=cell_of_row w' w.heap.size 1 _ _ _ hr;have y2:=cell_of_row w' w.heap.size 2 _ _ _ hr;have y3:=cell_of_row w' w.heap.size 3 _ _ _ hr;clear hr;simp at y0 y1 y2 y3;have hK':=hK w' (.agg #[.slice a n c,.slice x m cx,.int .i64 f,.bool false]) (by simp) (hx.step 1 _ (Below.refl _ _) (fun h=>absurd h (by decide))) (Below.refl _ _);clear hK;rw[if_pos (by rfl)];go_simp;simpa[upd,d0] using hK'
     ·have d1:t 1=.agg #[.slice a n c,.slice x m cx,.int .i64 f,.bool false]:=by simpa using(hdep ⟨1,.data⟩ (by simp) rfl).2
      clear hdep;have A:=HSV.out w' hx.below;have hK':∀ ww,Below w'.heap.size w' ww→K _ ww:=fun ww hb=>hK ww (.bool true) (by simp) (hx.step 2 _ hb (fun h=>absurd h (by decide))) hb
      clear hK;rw[if_pos (by rfl)];go_simp;try simp only[d1]
      refine A.mono ?_;rintro e w9 ⟨rfl,hb9⟩;have hK2:=hK' w9 hb9;clear hK' A hb9;go_simp;simpa[upd,d1] using hK2
     ·have d2:t 2=.bool true:=by simpa using(hdep ⟨2,.data⟩ (by simp) rfl).2
      clear hdep;have hK':=hK w' (.bool true) (by simp) (hx.step 3 _ (Below.refl _ _) (fun h=>absurd h (by decide))) (Below.refl _ _);clear hK;rw[if_pos (by rfl)];go_simp;simpa[upd,d2] using hK'
     ·have d3:t 3=.bool true:=by simpa using(hdep ⟨3,.guard⟩ (by simp) rfl).2
      clear hdep;have hK':=hK w' (.pointer (some ⟨w.heap.size,0,none⟩)) (by simp) (hx.step 4 _ (Below.refl _ _) (fun h=>absurd h (by decide))) (Below.refl _ _);clear hK;rw[if_pos (by simp[Region.wanted,yielded,d3])];go_simp;simpa[upd,d3] using hK'
     ·have d4:t 4=.pointer (some ⟨w.heap.size,0,none⟩):=by simpa using(hdep ⟨4,.data⟩ (by simp) rfl).2
      have d3:t 3=.bool true:=by simpa using(hdep ⟨3,.guard⟩ (by simp) rfl).2
      clear hdep;have hK':=hK w' (.pointer (some ⟨w.heap.size,3,none⟩)) (by simp) (hx.step 5 _ (Below.refl _ _) (fun h=>absurd h (by decide))) (Below.refl _ _);clear hK;rw[if_pos (by simp[Region.wanted,yielded,d3])];go_simp;simpa[upd,d4,d3] using hK'
     ·have d5:t 5=.pointer (some ⟨w.heap.size,3,none⟩):=by simpa using(hdep ⟨5,.data⟩ (by simp) rfl).2
      have d3:t 3=.bool true:=by simpa using(hdep ⟨3,.guard⟩ (by simp) rfl).2
      clear hdep;have hr:=HRW.out w' hx.below;have y3:=cell_of_row w' w.heap.size 3 _ _ _ hr;clear hr;simp at y3;have hK':=hK w' (.bool false) (by simp) (hx.step 6 _ (Below.refl _ _) (fun h=>absurd h (by decide))) (Below.refl _ _);clear hK;rw[if_pos (by simp[Region.wanted,yielded,d3])];go_simp;simpa[upd,d5,d3] using hK'
     ·have d6:t 6=.bool false:=by simpa using(hdep ⟨6,.data⟩ (by simp) rfl).2
      have d3:t 3=.bool true:=by simpa using(hdep ⟨3,.guard⟩ (by simp) rfl).2
      clear hdep;have hK':=hK w' (.bool true) (by simp) (hx.step 7 _ (Below.refl _ _) (fun h=>absurd h (by decide))) (Below.refl _ _);clear hK;rw[if_pos (by simp[Region.wanted,yielded,d3])];go_simp;simpa[upd,d6,d3] using hK'
     ·have d3:t 3=.bool true:=by simpa using(hdep ⟨3,.data⟩ (by simp) rfl).2
      have d7:t 7=.bool true:=by simpa using(hdep ⟨7,.data⟩ (by simp) rfl).2
      clear hdep;have hK':=hK w' (.bool true) (by simp) (hx.step 8 _ (Below.refl _ _) (fun h=>absurd h (by decide))) (Below.refl _ _);clear hK;rw[if_pos (by rfl)];go_simp;simpa[upd,d3,d7] using hK'
     ·have d8:t 8=.bool true:=by simpa using(hdep ⟨8,.data⟩ (by simp) rfl).2
      clear hdep;have hK':=hK w' (.bool true) (by simp) (hx.step 9 _ (Below.refl _ _) (fun h=>absurd h (by decide))) (Below.refl _ _);clear hK;rw[if_pos (by rfl)];go_simp;simpa[upd,d8] using hK'
     ·have d9:t 9=.bool true:=by simpa using(hdep ⟨9,.guard⟩ (by simp) rfl).2
      clear hdep;have hK':=hK w' (.pointer (some ⟨w.heap.size,0,none⟩)) (by simp) (hx.step 10 _ (Below.refl _ _) (fun h=>absurd h (by decide))) (Below.refl _ _);clear hK;rw[if_pos (by simp[Region.wanted,yielded,d9])];go_simp;simpa[upd,d9] using hK'
     ·have d10:t 10=.pointer (some ⟨w.heap.size,0,none⟩):=by simpa using(hdep ⟨10,.data⟩ (by simp) rfl).2
      have d9:t 9=.bool true:=by simpa using(hdep ⟨9,.guard⟩ (by simp) rfl).2
      clear hdep;have hK':=hK w' (.pointer (some ⟨w.heap.size,1,none⟩)) (by simp) (hx.step 11 _ (Below.refl _ _) (fun h=>absurd h (by decide))) (Below.refl _ _);clear hK;rw[if_pos (by simp[Region.wanted,yielded,d9])];go_simp;simpa[upd,d10,d9] using hK'
     ·have d11:t 11=.pointer (some ⟨w.heap.size,1,none⟩):=by simpa using(hdep ⟨11,.data⟩ (by simp) rfl).2
      have d9:t 9=.bool true:=by simpa using(hdep ⟨9,.guard⟩ (by simp) rfl).2
      clear hdep;have hr:=HRW.out w' hx.below;have y1:=cell_of_row w' w.heap.size 1 _ _ _ hr;clear hr;simp at y1;have hK':=hK w' (.slice x m cx) (by simp) (hx.step 12 _ (Below.refl _ _) (fun h=>absurd h (by decide))) (Below.refl _ _);clear hK;rw[if_pos (by simp[Region.wanted,yielded,d9])];go_simp;simpa[upd,d11,d9] using hK'
     ·have d12:t 12=.slice x m cx:=by simpa using(hdep ⟨12,.data⟩ (by simp) rfl).2
      have d9:t 9=.bool true:=by simpa using(hdep ⟨9,.guard⟩ (by simp) rfl).2
      clear hdep;have hK':=hK w' (.int .i64 (m:Nat)) (by simp) (hx.step 13 _ (Below.refl _ _) (fun h=>absurd h (by decide))) (Below.refl _ _);clear hK;rw[if_pos (by simp[Region.wanted,yielded,d9])];go_simp;simpa[upd,d12,d9] using hK'
     ·have d13:t 13=.int .i64 (m:Nat):=by simpa using(hdep ⟨13,.data⟩ (by simp) rfl).2
      have d9:t 9=.bool true:=by simpa using(hdep ⟨9,.guard⟩ (by simp) rfl).2
      clear hdep;have hK':=hK w' (.bool false) (by simp) (hx.step 14 _ (Below.refl _ _) (fun h=>absurd h (by decide))) (Below.refl _ _);clear hK;rw[if_pos (by simp[Region.wanted,yielded,d9])];go_simp;simpa[upd,d13,d9,hm0,hm1,hm2,hm3] using hK'
     ·have d9:t 9=.bool true:=by simpa using(hdep ⟨9,.data⟩ (by simp) rfl).2
      have d14:t 14=.bool false:=by simpa using(hdep ⟨14,.data⟩ (by simp) rfl).2
      clear hdep;have hK':=hK w' (.bool false) (by simp) (hx.step 15 _ (Below.refl _ _) (fun h=>absurd h (by decide))) (Below.refl _ _);clear hK;rw[if_pos (by rfl)];go_simp;simpa[upd,d9,d14] using hK'
     ·have d15:t 15=.bool false:=by simpa using(hdep ⟨15,.data⟩ (by simp) rfl).2
      clear hdep;have hK':=hK w' (.bool false) (by simp) (hx.step 16 _ (Below.refl _ _) (fun h=>absurd h (by decide))) (Below.refl _ _);clear hK;rw[if_pos (by rfl)];go_simp;simpa[upd,d15] using hK'
     ·have d16:t 16=.bool false:=by simpa using(hdep ⟨16,.guard⟩ (by simp) rfl).2
      clear hdep;have hK':=hK w' undef (by simp) (hx.step 17 _ (Below.refl _ _) (fun h=>absurd h (by decide))) (Below.refl _ _);clear hK;rw[if_neg (by simp[Region.wanted,yielded,d16])];simpa[upd,Act.put] using hK'
     ·have d16:t 16=.bool false:=by simpa using(hdep ⟨16,.guard⟩ (by simp) rfl).2
      clear hdep;have hK':=hK w' undef (by simp) (hx.step 18 _ (Below.refl _ _) (fun h=>absurd h (by decide))) (Below.refl _ _);clear hK;rw[if_neg (by simp[Region.wanted,yielded,d16])];simpa[upd,Act.put] using hK'
     ·have d16:t 16=.bool false:=by simpa using(hdep ⟨16,.guard⟩ (by simp) rfl).2
      clear hdep;have hK':=hK w' undef (by simp) (hx.step 19 _ (Below.refl _ _) (fun h=>absurd h (by decide))) (Below.refl _ _);clear hK;rw[if_neg (by simp[Region.wanted,yielded,d16])];simpa[upd,Act.put] using hK'
     ·have d16:t 16=.bool false:=by simpa using(hdep ⟨16,.guard⟩ (by simp) rfl).2
      clear hdep;have hK':=hK w' undef (by simp) (hx.step 20 _ (Below.refl _ _) (fun h=>absurd h (by decide))) (Below.refl _ _);clear hK;rw[if_neg (by simp[Region.wanted,yielded,d16])];simpa[upd,Act.put] using hK'
     ·have d16:t 16=.bool false:=by simpa using(hdep ⟨16,.data⟩ (by simp) rfl).2
      clear hdep;have hK':=hK w' (.bool false) (by simp) (hx.step 21 _ (Below.refl _ _) (fun h=>absurd h (by decide))) (Below.refl _ _);clear hK;rw[if_pos (by rfl)];go_simp;simpa[upd,d16] using hK'
     ·have d21:t 21=.bool false:=by simpa using(hdep ⟨21,.data⟩ (by simp) rfl).2
      clear hdep;have hK':=hK w' (.bool false) (by simp) (hx.step 22 _ (Below.refl _ _) (fun h=>absurd h (by decide))) (Below.refl _ _);clear hK;rw[if_pos (by rfl)];go_simp;simpa[upd,d21] using hK'
     ·have d22:t 22=.bool false:=by simpa using(hdep ⟨22,.guard⟩ (by simp) rfl).2
      clear hdep;have hK':=hK w' undef (by simp) (hx.step 23 _ (Below.refl _ _) (fun h=>absurd h (by decide))) (Below.refl _ _);clear hK;rw[if_neg (by simp[Region.wanted,yielded,d22])];simpa[upd,Act.put] using hK'
     ·have d22:t 22=.bool false:=by simpa using(hdep ⟨22,.guard⟩ (by simp) rfl).2
      clear hdep;have hK':=hK w' undef (by simp) (hx.step 24 _ (Below.refl _ _) (fun h=>absurd h (by decide))) (Below.refl _ _);clear hK;rw[if_neg (by simp[Region.wanted,yielded,d22])];simpa[upd,Act.put] using hK'
     ·have d22:t 22=.bool false:=by simpa using(hdep ⟨22,.guard⟩ (by simp) rfl).2
      clear hdep;have hK':=hK w' undef (by simp) (hx.step 25 _ (Below.refl _ _) (fun h=>absurd h (by decide))) (Below.refl _ _);clear hK;rw[if_neg (by simp[Region.wanted,yielded,d22])];simpa[upd,Act.put] using hK'
     ·have d22:t 22=.bool false:=by simpa using(hdep ⟨22,.data⟩ (by simp) rfl).2
      clear hdep;have hK':=hK w' (.bool false) (by simp) (hx.step 26 _ (Below.refl _ _) (fun h=>absurd h (by decide))) (Below.refl _ _);clear hK;rw[if_pos (by rfl)];go_simp;simpa[upd,d22] using hK'
     ·have d26:t 26=.bool false:=by simpa using(hdep ⟨26,.data⟩ (by simp) rfl).2
      clear hdep;have hK':=hK w' (.bool false) (by simp) (hx.step 27 _ (Below.refl _ _) (fun h=>absurd h (by decide))) (Below.refl _ _);clear hK;rw[if_pos (by rfl)];go_simp;simpa[upd,d26] using hK'
     ·have d27:t 27=.bool false:=by simpa using(hdep ⟨27,.guard⟩ (by simp) rfl).2
      clear hdep;have hK':=hK w' undef (by simp) (hx.step 28 _ (Below.refl _ _) (fun h=>absurd h (by decide))) (Below.refl _ _);clear hK;rw[if_neg (by simp[Region.wanted,yielded,d27])];simpa[upd,Act.put] using hK'
     ·have d27:t 27=.bool false:=by simpa using(hdep ⟨27,.guard⟩ (by simp) rfl).2
      clear hdep;have hK':=hK w' undef (by simp) (hx.step 29 _ (Below.refl _ _) (fun h=>absurd h (by decide))) (Below.refl _ _);clear hK;rw[if_neg (by simp[Region.wanted,yielded,d27])];simpa[upd,Act.put] using hK'
     ·have d27:t 27=.bool false:=by simpa using(hdep ⟨27,.guard⟩ (by simp) rfl).2
      clear hdep;have hK':=hK w' undef (by simp) (hx.step 30 _ (Below.refl _ _) (fun h=>absurd h (by decide))) (Below.refl _ _);clear hK;rw[if_neg (by simp[Region.wanted,yielded,d27])];simpa[upd,Act.put] using hK'
     ·have d27:t 27=.bool false:=by simpa using(hdep ⟨27,.guard⟩ (by simp) rfl).2
      clear hdep;have hK':=hK w' undef (by simp) (hx.step 31 _ (Below.refl _ _) (fun h=>absurd h (by decide))) (Below.refl _ _);clear hK;rw[if_neg (by simp[Region.wanted,yielded,d27])];simpa[upd,Act.put] using hK'
     ·have d27:t 27=.bool false:=by simpa using(hdep ⟨27,.guard⟩ (by simp) rfl).2
      clear hdep;have hK':=hK w' undef (by simp) (hx.step 32 _ (Below.refl _ _) (fun h=>absurd h (by decide))) (Below.refl _ _);clear hK;rw[if_neg (by simp[Region.wanted,yielded,d27])];simpa[upd,Act.put] using hK'
     ·have d27:t 27=.bool false:=by simpa using(hdep ⟨27,.guard⟩ (by simp) rfl).2
      clear hdep;have hK':=hK w' undef (by simp) (hx.step 33 _ (Below.refl _ _) (fun h=>absurd h (by decide))) (Below.refl _ _);clear hK;rw[if_neg (by simp[Region.wanted,yielded,d27])];simpa[upd,Act.put] using hK'
     ·have d27:t 27=.bool false:=by simpa using(hdep ⟨27,.data⟩ (by simp) rfl).2
      clear hdep;have hK':=hK w' (.bool false) (by simp) (hx.step 34 _ (Below.refl _ _) (fun h=>absurd h (by decide))) (Below.refl _ _);clear hK;rw[if_pos (by rfl)];go_simp;simpa[upd,d27] using hK'
     ·have d34:t 34=.bool false:=by simpa using(hdep ⟨34,.data⟩ (by simp) rfl).2
      clear hdep;have hK':=hK w' (.bool false) (by simp) (hx.step 35 _ (Below.refl _ _) (fun h=>absurd h (by decide))) (Below.refl _ _);clear hK;rw[if_pos (by rfl)];go_simp;simpa[upd,d34] using hK'
    case hdone3=>
     intro Ls t w1 hx hg;have f35:t 35=.bool false:=by simpa using hg 35 (by decide)
     have HBF:=hid_ofV (HB0.out.trans (hx.below.mono HB0.out.size));clear hx hg;dsimp only;rw[f35];generalize t 0=t0;go_wp2
     go_ret
     exact⟨by rw[HF.out];rfl,HBF.out⟩
   subst h0;by_cases hk:kn=32;rotate_left
   ·have HF:Hid (V=false):=by show _=_;rw[HV.out];unfold vgB;simp[hk]
    have hk0:¬ ((kn:Int)=32):=by omega
    have hk1:((kn:Int) == 32)=false:=by simpa using hk0
    have hk2:decide ((kn:Int)=32)=false:=by simpa using hk0
    have hk3:=hk;clear HV HLD HSM hv;refine wp_region_any (by kernel_rfl) ?_;refine wpAny_slotsU (fun _ a b=>Below a.heap.size a b) (frame:=(fun (a b:Value)=>fun (t:Nat→Value)=>({ tmps:=List.toArray [a,b,t 35,t 0,t 1,t 2,t 3,t 4,t 5,t 6,t 7,t 8,t 9,t 10,t 11,t 12,t 13,t 14,t 15,t 16,t 17,t 18,t 19,t 20,t 21,t 22,t 23,t 24,t 25,t 26,t 27,t 28,t 29,t 30,t 31,t 32,t 33,t 34],defers:=[] }:Act)) _ _)
     (Ext:=fun Ls u w'=>ApX w0 [] Ls u w') (Good:=fun i Ls w' v=>if i=0 then v=.pointer (some ⟨w.heap.size,0,none⟩) else if i=1 then v=.agg #[.slice a n c,.slice x 0 cx,.int .i64 f,.bool false] else if i=2 then v=.bool true else if i=3 then v=.bool true else if i=4 then v=.pointer (some ⟨w.heap.size,0,none⟩) else if i=5 then v=.pointer (some ⟨w.heap.size,3,none⟩) else if i=6 then v=.bool false else if i=7 then v=.bool true else if i=8 then v=.bool true else if i=9 then v=.bool true else if i=10 then v=.pointer (some ⟨w.heap.size,0,none⟩) else if i=11 then v=.pointer (some ⟨w.heap.size,1,none⟩) else if i=12 then v=.slice x 0 cx else if i=13 then v=.int .i64 (0:Nat) else if i=14 then v=.bool true else if i=15 then v=.bool true else if i=16 then v=.bool true else if i=17 then v=.pointer (some ⟨w.heap.size,4,none⟩) else if i=18 then v=.slice ka kn kc else if i=19 then v=.int .i64 (kn:Nat) else if i=20 then v=.bool false else if i=21 then v=.bool false else if i=22 then v=.bool false else if i=23 then True else if i=24 then True else if i=25 then True else if i=26 then v=.bool false else if i=27 then v=.bool false else if i=28 then True else if i=29 then True else if i=30 then True else if i=31 then True else if i=32 then True else if i=33 then True else if i=34 then v=.bool false else if i=35 then v=.bool false else True) ?hstab4 (by kernel_rfl) ?hop4 ?hdone4 _ _ ((fun (x0 x1 x2 x3 x4 x5 x6 x7 x8 x9 x10 x11 x12 x13 x14 x15 x16 x17 x18 x19 x20 x21 x22 x23 x24 x25 x26 x27 x28 x29 x30 x31 x32 x33 x34 x35:Value)=>fun (i:Nat)=>if i=0 then x0 else if i=1 then x1 else if i=2 then x2 else if i=3 then x3 else if i=4 then x4 else if i=5 then x5 else if i=6 then x6 else if i=7 then x7 else if i=8 then x8 else if i=9 then x9 else if i=10 then x10 else if i=11 then x11 else if i=12 then x12 else if i=13 then x13 else if i=14 then x14 else if i=15 then x15 else if i=16 then x16 else if i=17 then x17 else if i=18 then x18 else if i=19 then x19 else if i=20 then x20 else if i=21 then x21 else if i=22 then x22 else if i=23 then x23 else if i=24 then x24 else if i=25 then x25 else if i=26 then x26 else if i=27 then x27 else if i=28 then x28 else if i=29 then x29 else if i=30 then x30 else if i=31 then x31 else if i=32 then x32 else if i=33 then x33 else if i=34 then x34 else if i=35 then x35 else undef) _ _ _ _ _ _ _ _ _ _ _ _ _ _ _ _ _ _ _ _ _ _ _ _ _ _ _ _ _ _ _ _ _ _ _ _) _ (by simp) ?ext4 ?start4 (by simp)
    case start4=>intro i hi h;exact absurd h (by rw[Array.getD_eq_getD_getElem?,Array.getElem?_replicate];split<;>simp)
    case ext4=>exact(ApX.start w0 [] _ _ (fun i=>by rw[Array.getD_eq_getD_getElem?,Array.getElem?_replicate];split<;>rfl)).drew
    case hstab4=>
     intro j Ls w9 w' i v hM _ _ h;exact h
    case hop4=>
     intro i o Ls t w' ho hLi hx hdep K hK;have hi:i<36:=(Array.getElem?_eq_some_iff.1 ho).1;obtain rfl|rfl|rfl|rfl|rfl|rfl|rfl|rfl|rfl|rfl|rfl|rfl|rfl|rfl|rfl|rfl|rfl|rfl|rfl|rfl|rfl|rfl|rfl|rfl|rfl|rfl|rfl|rfl|rfl|rfl|rfl|rfl|rfl|rfl|rfl|rfl:i=0∨i=1∨i=2∨i=3∨i=4∨i=5∨i=6∨i=7∨i=8∨i=9∨i=10∨i=11∨i=12∨i=13∨i=14∨i=15∨i=16∨i=17∨i=18∨i=19∨i=20∨i=21∨i=22∨i=23∨i=24∨i=25∨i=26∨i=27∨i=28∨i=29∨i=30∨i=31∨i=32∨i=33∨i=34∨i=35:=by omega
     all_goals(simp at ho;subst ho)
     ·clear hdep;have hK':=hK w' (.pointer (some ⟨w.heap.size,0,none⟩)) (by simp) (hx.step 0 _ (Below.refl _ _) (fun h=>absurd h (by decide))) (Below.refl _ _);clear hK;rw[if_pos (by rfl)];go_simp;simpa[upd] using hK'
     ·have d0:t 0=.pointer (some ⟨w.heap.size,0,none⟩):=by simpa using(hdep ⟨0,.data⟩ (by simp) rfl).2
      clear hdep;have hr:=HRW.out w' hx.below;have y0:=cell_of_row w' w.heap.size 0 _ _ _ hr;have y1:=cell_of_row w' w.heap.size 1 _ _ _ hr;have y2:=cell_of_row w' w.heap.size 2 _ _ _ hr;have y3:=cell_of_row w' w.heap.size 3 _ _ _ hr;clear hr;simp at y0 y1 y2 y3;have hK':=hK w' (.agg #[.slice a n c,.slice x 0 cx,.int .i64 f,.bool false]) (by simp) (hx.step 1 _ (Below.refl _ _) (fun h=>absurd h (by decide))) (Below.refl _ _);clear hK;rw[if_pos (by rfl)];go_simp;simpa[upd,d0] using hK'
     ·have d1:t 1=.agg #[.slice a n c,.slice x 0 cx,.int .i64 f,.bool false]:=by simpa using(hdep ⟨1,.data⟩ (by simp) rfl).2
      clear hdep;have A:=HSV.out w' hx.below;have hK':∀ ww,Below w'.heap.size w' ww→K _ ww:=fun ww hb=>hK ww (.bool true) (by simp) (hx.step 2 _ hb (fun h=>absurd h (by decide))) hb
      clear hK;rw[if_pos (by rfl)];go_simp;try simp only[d1]
      refine A.mono ?_;rintro e w9 ⟨rfl,hb9⟩;have hK2:=hK' w9 hb9;clear hK' A hb9;go_simp;simpa[upd,d1] using hK2
     ·have d2:t 2=.bool true:=by simpa using(hdep ⟨2,.data⟩ (by simp) rfl).2
      clear hdep;have hK':=hK w' (.bool true) (by simp) (hx.step 3 _ (Below.refl _ _) (fun h=>absurd h (by decide))) (Below.refl _ _);clear hK;rw[if_pos (by rfl)];go_simp;simpa[upd,d2] using hK'
     ·have d3:t 3=.bool true:=by simpa using(hdep ⟨3,.guard⟩ (by simp) rfl).2
      clear hdep;have hK':=hK w' (.pointer (some ⟨w.heap.size,0,none⟩)) (by simp) (hx.step 4 _ (Below.refl _ _) (fun h=>absurd h (by decide))) (Below.refl _ _);clear hK;rw[if_pos (by simp[Region.wanted,yielded,d3])];go_simp;simpa[upd,d3] using hK'
     ·have d4:t 4=.pointer (some ⟨w.heap.size,0,none⟩):=by simpa using(hdep ⟨4,.data⟩ (by simp) rfl).2
      have d3:t 3=.bool true:=by simpa using(hdep ⟨3,.guard⟩ (by simp) rfl).2
      clear hdep;have hK':=hK w' (.pointer (some ⟨w.heap.size,3,none⟩)) (by simp) (hx.step 5 _ (Below.refl _ _) (fun h=>absurd h (by decide))) (Below.refl _ _);clear hK;rw[if_pos (by simp[Region.wanted,yielded,d3])];go_simp;simpa[upd,d4,d3] using hK'
     ·have d5:t 5=.pointer (some ⟨w.heap.size,3,none⟩):=by simpa using(hdep ⟨5,.data⟩ (by simp) rfl).2
      have d3:t 3=.bool true:=by simpa using(hdep ⟨3,.guard⟩ (by simp) rfl).2
      clear hdep;have hr:=HRW.out w' hx.below;have y3:=cell_of_row w' w.heap.size 3 _ _ _ hr;clear hr;simp at y3;have hK':=hK w' (.bool false) (by simp) (hx.step 6 _ (Below.refl _ _) (fun h=>absurd h (by decide))) (Below.refl _ _);clear hK;rw[if_pos (by simp[Region.wanted,yielded,d3])];go_simp;simpa[upd,d5,d3] using hK'
     ·have d6:t 6=.bool false:=by simpa using(hdep ⟨6,.data⟩ (by simp) rfl).2
      have d3:t 3=.bool true:=by simpa using(hdep ⟨3,.guard⟩ (by simp) rfl).2
      clear hdep;have hK':=hK w' (.bool true) (by simp) (hx.step 7 _ (Below.refl _ _) (fun h=>absurd h (by decide))) (Below.refl _ _);clear hK;rw[if_pos (by simp[Region.wanted,yielded,d3])];go_simp;simpa[upd,d6,d3] using hK'
     ·have d3:t 3=.bool true:=by simpa using(hdep ⟨3,.data⟩ (by simp) rfl).2
      have d7:t 7=.bool true:=by simpa using(hdep ⟨7,.data⟩ (by simp) rfl).2
      clear hdep;have hK':=hK w' (.bool true) (by simp) (hx.step 8 _ (Below.refl _ _) (fun h=>absurd h (by decide))) (Below.refl _ _);clear hK;rw[if_pos (by rfl)];go_simp;simpa[upd,d3,d7] using hK'
     ·have d8:t 8=.bool true:=by simpa using(hdep ⟨8,.data⟩ (by simp) rfl).2
      clear hdep;have hK':=hK w' (.bool true) (by simp) (hx.step 9 _ (Below.refl _ _) (fun h=>absurd h (by decide))) (Below.refl _ _);clear hK;rw[if_pos (by rfl)];go_simp;simpa[upd,d8] using hK'
     ·have d9:t 9=.bool true:=by simpa using(hdep ⟨9,.guard⟩ (by simp) rfl).2
      clear hdep;have hK':=hK w' (.pointer (some ⟨w.heap.size,0,none⟩)) (by simp) (hx.step 10 _ (Below.refl _ _) (fun h=>absurd h (by decide))) (Below.refl _ _);clear hK;rw[if_pos (by simp[Region.wanted,yielded,d9])];go_simp;simpa[upd,d9] using hK'
     ·have d10:t 10=.pointer (some ⟨w.heap.size,0,none⟩):=by simpa using(hdep ⟨10,.data⟩ (by simp) rfl).2
      have d9:t 9=.bool true:=by simpa using(hdep ⟨9,.guard⟩ (by simp) rfl).2
      clear hdep;have hK':=hK w' (.pointer (some ⟨w.heap.size,1,none⟩)) (by simp) (hx.step 11 _ (Below.refl _ _) (fun h=>absurd h (by decide))) (Below.refl _ _);clear hK;rw[if_pos (by simp[Region.wanted,yielded,d9])];go_simp;simpa[upd,d10,d9] using hK'
     ·have d11:t 11=.pointer (some ⟨w.heap.size,1,none⟩):=by simpa using(hdep ⟨11,.data⟩ (by simp) rfl).2
      have d9:t 9=.bool true:=by simpa using(hdep ⟨9,.guard⟩ (by simp) rfl).2
      clear hdep;have hr:=HRW.out w' hx.below;have y1:=cell_of_row w' w.heap.size 1 _ _ _ hr;clear hr;simp at y1;have hK':=hK w' (.slice x 0 cx) (by simp) (hx.step 12 _ (Below.refl _ _) (fun h=>absurd h (by decide))) (Below.refl _ _);clear hK;rw[if_pos (by simp[Region.wanted,yielded,d9])];go_simp;simpa[upd,d11,d9] using hK'
     ·have d12:t 12=.slice x 0 cx:=by simpa using(hdep ⟨12,.data⟩ (by simp) rfl).2
      have d9:t 9=.bool true:=by simpa using(hdep ⟨9,.guard⟩ (by simp) rfl).2
      clear hdep;have hK':=hK w' (.int .i64 (0:Nat)) (by simp) (hx.step 13 _ (Below.refl _ _) (fun h=>absurd h (by decide))) (Below.refl _ _);clear hK;rw[if_pos (by simp[Region.wanted,yielded,d9])];go_simp;simpa[upd,d12,d9] using hK'
     ·have d13:t 13=.int .i64 (0:Nat):=by simpa using(hdep ⟨13,.data⟩ (by simp) rfl).2
      have d9:t 9=.bool true:=by simpa using(hdep ⟨9,.guard⟩ (by simp) rfl).2
      clear hdep;have hK':=hK w' (.bool true) (by simp) (hx.step 14 _ (Below.refl _ _) (fun h=>absurd h (by decide))) (Below.refl _ _);clear hK;rw[if_pos (by simp[Region.wanted,yielded,d9])];go_simp;simpa[upd,d13,d9] using hK'
     ·have d9:t 9=.bool true:=by simpa using(hdep ⟨9,.data⟩ (by simp) rfl).2
      have d14:t 14=.bool true:=by simpa using(hdep ⟨14,.data⟩ (by simp) rfl).2
      clear hdep;have hK':=hK w' (.bool true) (by simp) (hx.step 15 _ (Below.refl _ _) (fun h=>absurd h (by decide))) (Below.refl _ _);clear hK;rw[if_pos (by rfl)];go_simp;simpa[upd,d9,d14] using hK'
     ·have d15:t 15=.bool true:=by simpa using(hdep ⟨15,.data⟩ (by simp) rfl).2
      clear hdep;have hK':=hK w' (.bool true) (by simp) (hx.step 16 _ (Below.refl _ _) (fun h=>absurd h (by decide))) (Below.refl _ _);clear hK;rw[if_pos (by rfl)];go_simp;simpa[upd,d15] using hK'
     ·have d16:t 16=.bool true:=by simpa using(hdep ⟨16,.guard⟩ (by simp) rfl).2
      clear hdep;have hK':=hK w' (.pointer (some ⟨w.heap.size,4,none⟩)) (by simp) (hx.step 17 _ (Below.refl _ _) (fun h=>absurd h (by decide))) (Below.refl _ _);clear hK;rw[if_pos (by simp[Region.wanted,yielded,d16])];go_simp;simpa[upd,d16] using hK'
     ·have d17:t 17=.pointer (some ⟨w.heap.size,4,none⟩):=by simpa using(hdep ⟨17,.data⟩ (by simp) rfl).2
      have d16:t 16=.bool true:=by simpa using(hdep ⟨16,.guard⟩ (by simp) rfl).2
      clear hdep;have hr:=HRW.out w' hx.below;have y4:=cell_of_row w' w.heap.size 4 _ _ _ hr;clear hr;simp at y4;have hK':=hK w' (.slice ka kn kc) (by simp) (hx.step 18 _ (Below.refl _ _) (fun h=>absurd h (by decide))) (Below.refl _ _);clear hK;rw[if_pos (by simp[Region.wanted,yielded,d16])];go_simp;simpa[upd,d17,d16] using hK'
     ·have d18:t 18=.slice ka kn kc:=by simpa using(hdep ⟨18,.data⟩ (by simp) rfl).2
      have d16:t 16=.bool true:=by simpa using(hdep ⟨16,.guard⟩ (by simp) rfl).2
      clear hdep;have hK':=hK w' (.int .i64 (kn:Nat)) (by simp) (hx.step 19 _ (Below.refl _ _) (fun h=>absurd h (by decide))) (Below.refl _ _);clear hK;rw[if_pos (by simp[Region.wanted,yielded,d16])];go_simp;simpa[upd,d18,d16] using hK'
     ·have d19:t 19=.int .i64 (kn:Nat):=by simpa using(hdep ⟨19,.data⟩ (by simp) rfl).2
      have d16:t 16=.bool true:=by simpa using(hdep ⟨16,.guard⟩ (by simp) rfl).2
      clear hdep;have hK':=hK w' (.bool false) (by simp) (hx.step 20 _ (Below.refl _ _) (fun h=>absurd h (by decide))) (Below.refl _ _);clear hK;rw[if_pos (by simp[Region.wanted,yielded,d16])];go_simp;simpa[upd,d19,d16,hk0,hk1,hk2,hk3] using hK'
     ·have d16:t 16=.bool true:=by simpa using(hdep ⟨16,.data⟩ (by simp) rfl).2
      have d20:t 20=.bool false:=by simpa using(hdep ⟨20,.data⟩ (by simp) rfl).2
      clear hdep;have hK':=hK w' (.bool false) (by simp) (hx.step 21 _ (Below.refl _ _) (fun h=>absurd h (by decide))) (Below.refl _ _);clear hK;rw[if_pos (by rfl)];go_simp;simpa[upd,d16,d20] using hK'
     ·have d21:t 21=.bool false:=by simpa using(hdep ⟨21,.data⟩ (by simp) rfl).2
      clear hdep;have hK':=hK w' (.bool false) (by simp) (hx.step 22 _ (Below.refl _ _) (fun h=>absurd h (by decide))) (Below.refl _ _);clear hK;rw[if_pos (by rfl)];go_simp;simpa[upd,d21] using hK'
     ·have d22:t 22=.bool false:=by simpa using(hdep ⟨22,.guard⟩ (by simp) rfl).2
      clear hdep;have hK':=hK w' undef (by simp) (hx.step 23 _ (Below.refl _ _) (fun h=>absurd h (by decide))) (Below.refl _ _);clear hK;rw[if_neg (by simp[Region.wanted,yielded,d22])];simpa[upd,Act.put] using hK'
     ·have d22:t 22=.bool false:=by simpa using(hdep ⟨22,.guard⟩ (by simp) rfl).2
      clear hdep;have hK':=hK w' undef (by simp) (hx.step 24 _ (Below.refl _ _) (fun h=>absurd h (by decide))) (Below.refl _ _);clear hK;rw[if_neg (by simp[Region.wanted,yielded,d22])];simpa[upd,Act.put] using hK'
     ·have d22:t 22=.bool false:=by simpa using(hdep ⟨22,.guard⟩ (by simp) rfl).2
      clear hdep;have hK':=hK w' undef (by simp) (hx.step 25 _ (Below.refl _ _) (fun h=>absurd h (by decide))) (Below.refl _ _);clear hK;rw[if_neg (by simp[Region.wanted,yielded,d22])];simpa[upd,Act.put] using hK'
     ·have d22:t 22=.bool false:=by simpa using(hdep ⟨22,.data⟩ (by simp) rfl).2
      clear hdep;have hK':=hK w' (.bool false) (by simp) (hx.step 26 _ (Below.refl _ _) (fun h=>absurd h (by decide))) (Below.refl _ _);clear hK;rw[if_pos (by rfl)];go_simp;simpa[upd,d22] using hK'
     ·have d26:t 26=.bool false:=by simpa using(hdep ⟨26,.data⟩ (by simp) rfl).2
      clear hdep;have hK':=hK w' (.bool false) (by simp) (hx.step 27 _ (Below.refl _ _) (fun h=>absurd h (by decide))) (Below.refl _ _);clear hK;rw[if_pos (by rfl)];go_simp;simpa[upd,d26] using hK'
     ·have d27:t 27=.bool false:=by simpa using(hdep ⟨27,.guard⟩ (by simp) rfl).2
      clear hdep;have hK':=hK w' undef (by simp) (hx.step 28 _ (Below.refl _ _) (fun h=>absurd h (by decide))) (Below.refl _ _);clear hK;rw[if_neg (by simp[Region.wanted,yielded,d27])];simpa[upd,Act.put] using hK'
     ·have d27:t 27=.bool false:=by simpa using(hdep ⟨27,.guard⟩ (by simp) rfl).2
      clear hdep;have hK':=hK w' undef (by simp) (hx.step 29 _ (Below.refl _ _) (fun h=>absurd h (by decide))) (Below.refl _ _);clear hK;rw[if_neg (by simp[Region.wanted,yielded,d27])];simpa[upd,Act.put] using hK'
     ·have d27:t 27=.bool false:=by simpa using(hdep ⟨27,.guard⟩ (by simp) rfl).2
      clear hdep;have hK':=hK w' undef (by simp) (hx.step 30 _ (Below.refl _ _) (fun h=>absurd h (by decide))) (Below.refl _ _);clear hK;rw[if_neg (by simp[Region.wanted,yielded,d27])];simpa[upd,Act.put] using hK'
     ·have d27:t 27=.bool false:=by simpa using(hdep ⟨27,.guard⟩ (by simp) rfl).2
      clear hdep;have hK':=hK w' undef (by simp) (hx.step 31 _ (Below.refl _ _) (fun h=>absurd h (by decide))) (Below.refl _ _);clear hK;rw[if_neg (by simp[Region.wanted,yielded,d27])];simpa[upd,Act.put] using hK'
     ·have d27:t 27=.bool false:=by simpa using(hdep ⟨27,.guard⟩ (by simp) rfl).2
      clear hdep;have hK':=hK w' undef (by simp) (hx.step 32 _ (Below.refl _ _) (fun h=>absurd h (by decide))) (Below.refl _ _);clear hK;rw[if_neg (by simp[Region.wanted,yielded,d27])];simpa[upd,Act.put] using hK'
     ·have d27:t 27=.bool false:=by simpa using(hdep ⟨27,.guard⟩ (by simp) rfl).2
      clear hdep;have hK':=hK w' undef (by simp) (hx.step 33 _ (Below.refl _ _) (fun h=>absurd h (by decide))) (Below.refl _ _);clear hK;rw[if_neg (by simp[Region.wanted,yielded,d27])];simpa[upd,Act.put] using hK'
     ·have d27:t 27=.bool false:=by simpa using(hdep ⟨27,.data⟩ (by simp) rfl).2
      clear hdep;have hK':=hK w' (.bool false) (by simp) (hx.step 34 _ (Below.refl _ _) (fun h=>absurd h (by decide))) (Below.refl _ _);clear hK;rw[if_pos (by rfl)];go_simp;simpa[upd,d27] using hK'
     ·have d34:t 34=.bool false:=by simpa using(hdep ⟨34,.data⟩ (by simp) rfl).2
      clear hdep;have hK':=hK w' (.bool false) (by simp) (hx.step 35 _ (Below.refl _ _) (fun h=>absurd h (by decide))) (Below.refl _ _);clear hK;rw[if_pos (by rfl)];go_simp;simpa[upd,d34] using hK'
    case hdone4=>
     intro Ls t w1 hx hg;have f35:t 35=.bool false:=by simpa using hg 35 (by decide)
     have HBF:=hid_ofV (HB0.out.trans (hx.below.mono HB0.out.size));clear hx hg;dsimp only;rw[f35];generalize t 0=t0;go_wp2
     go_ret
     exact⟨by rw[HF.out];rfl,HBF.out⟩
   subst hk;cases ok with
   |false=>
    have HF:Hid (V=false):=by show _=_;rw[HV.out];unfold vgB;simp
    clear HV HLD HSM hv;refine wp_region_any (by kernel_rfl) ?_;refine wpAny_slotsU (fun _ a b=>Below a.heap.size a b) (frame:=(fun (a b:Value)=>fun (t:Nat→Value)=>({ tmps:=List.toArray [a,b,t 35,t 0,t 1,t 2,t 3,t 4,t 5,t 6,t 7,t 8,t 9,t 10,t 11,t 12,t 13,t 14,t 15,t 16,t 17,t 18,t 19,t 20,t 21,t 22,t 23,t 24,t 25,t 26,t 27,t 28,t 29,t 30,t 31,t 32,t 33,t 34],defers:=[] }:Act)) _ _)
     (Ext:=fun Ls u w'=>ApX w0 [] Ls u w') (Good:=fun i Ls w' v=>if i=0 then v=.pointer (some ⟨w.heap.size,0,none⟩) else if i=1 then v=.agg #[.slice a n c,.slice x 0 cx,.int .i64 f,.bool false] else if i=2 then v=.bool true else if i=3 then v=.bool true else if i=4 then v=.pointer (some ⟨w.heap.size,0,none⟩) else if i=5 then v=.pointer (some ⟨w.heap.size,3,none⟩) else if i=6 then v=.bool false else if i=7 then v=.bool true else if i=8 then v=.bool true else if i=9 then v=.bool true else if i=10 then v=.pointer (some ⟨w.heap.size,0,none⟩) else if i=11 then v=.pointer (some ⟨w.heap.size,1,none⟩) else if i=12 then v=.slice x 0 cx else if i=13 then v=.int .i64 (0:Nat) else if i=14 then v=.bool true else if i=15 then v=.bool true else if i=16 then v=.bool true else if i=17 then v=.pointer (some ⟨w.heap.size,4,none⟩) else if i=18 then v=.slice ka 32 kc else if i=19 then v=.int .i64 (32:Nat) else if i=20 then v=.bool true else if i=21 then v=.bool true else if i=22 then v=.bool true else if i=23 then v=.pointer (some ⟨w.heap.size,5,none⟩) else if i=24 then v=.pointer (some ⟨w.heap.size,5,none⟩) else if i=25 then v=.bool false else if i=26 then v=.bool false else if i=27 then v=.bool false else if i=28 then True else if i=29 then True else if i=30 then True else if i=31 then True else if i=32 then True else if i=33 then True else if i=34 then v=.bool false else if i=35 then v=.bool false else True) ?hstab5 (by kernel_rfl) ?hop5 ?hdone5 _ _ ((fun (x0 x1 x2 x3 x4 x5 x6 x7 x8 x9 x10 x11 x12 x13 x14 x15 x16 x17 x18 x19 x20 x21 x22 x23 x24 x25 x26 x27 x28 x29 x30 x31 x32 x33 x34 x35:Value)=>fun (i:Nat)=>if i=0 then x0 else if i=1 then x1 else if i=2 then x2 else if i=3 then x3 else if i=4 then x4 else if i=5 then x5 else if i=6 then x6 else if i=7 then x7 else if i=8 then x8 else if i=9 then x9 else if i=10 then x10 else if i=11 then x11 else if i=12 then x12 else if i=13 then x13 else if i=14 then x14 else if i=15 then x15 else if i=16 then x16 else if i=17 then x17 else if i=18 then x18 else if i=19 then x19 else if i=20 then x20 else if i=21 then x21 else if i=22 then x22 else if i=23 then x23 else if i=24 then x24 else if i=25 then x25 else if i=26 then x26 else if i=27 then x27 else if i=28 then x28 else if i=29 then x29 else if i=30 then x30 else if i=31 then x31 else if i=32 then x32 else if i=33 then x33 else if i=34 then x34 else if i=35 then x35 else undef) _ _ _ _ _ _ _ _ _ _ _ _ _ _ _ _ _ _ _ _ _ _ _ _ _ _ _ _ _ _ _ _ _ _ _ _) _ (by simp) ?ext5 ?start5 (by simp)
    case start5=>intro i hi h;exact absurd h (by rw[Array.getD_eq_getD_getElem?,Array.getElem?_replicate];split<;>simp)
    case ext5=>exact(ApX.start w0 [] _ _ (fun i=>by rw[Array.getD_eq_getD_getElem?,Array.getElem?_replicate];split<;>rfl)).drew
    case hstab5=>
     intro j Ls w9 w' i v hM _ _ h;exact h
    case hop5=>
     intro i o Ls t w' ho hLi hx hdep K hK;have hi:i<36:=(Array.getElem?_eq_some_iff.1 ho).1;obtain rfl|rfl|rfl|rfl|rfl|rfl|rfl|rfl|rfl|rfl|rfl|rfl|rfl|rfl|rfl|rfl|rfl|rfl|rfl|rfl|rfl|rfl|rfl|rfl|rfl|rfl|rfl|rfl|rfl|rfl|rfl|rfl|rfl|rfl|rfl|rfl:i=0∨i=1∨i=2∨i=3∨i=4∨i=5∨i=6∨i=7∨i=8∨i=9∨i=10∨i=11∨i=12∨i=13∨i=14∨i=15∨i=16∨i=17∨i=18∨i=19∨i=20∨i=21∨i=22∨i=23∨i=24∨i=25∨i=26∨i=27∨i=28∨i=29∨i=30∨i=31∨i=32∨i=33∨i=34∨i=35:=by omega
     all_goals(simp at ho;subst ho)
     ·clear hdep;have hK':=hK w' (.pointer (some ⟨w.heap.size,0,none⟩)) (by simp) (hx.step 0 _ (Below.refl _ _) (fun h=>absurd h (by decide))) (Below.refl _ _);clear hK;rw[if_pos (by rfl)];go_simp;simpa[upd] using hK'
     ·have d0:t 0=.pointer (some ⟨w.heap.size,0,none⟩):=by simpa using(hdep ⟨0,.data⟩ (by simp) rfl).2
      clear hdep;have hr:=HRW.out w' hx.below;have y0:=cell_of_row w' w.heap.size 0 _ _ _ hr;have y1:=cell_of_row w' w.heap.size 1 _ _ _ hr;have y2:=cell_of_row w' w.heap.size 2 _ _ _ hr;have y3:=cell_of_row w' w.heap.size 3 _ _ _ hr;clear hr;simp at y0 y1 y2 y3;have hK':=hK w' (.agg #[.slice a n c,.slice x 0 cx,.int .i64 f,.bool false]) (by simp) (hx.step 1 _ (Below.refl _ _) (fun h=>absurd h (by decide))) (Below.refl _ _);clear hK;rw[if_pos (by rfl)];go_simp;simpa[upd,d0] using hK'
     ·have d1:t 1=.agg #[.slice a n c,.slice x 0 cx,.int .i64 f,.bool false]:=by simpa using(hdep ⟨1,.data⟩ (by simp) rfl).2
      clear hdep;have A:=HSV.out w' hx.below;have hK':∀ ww,Below w'.heap.size w' ww→K _ ww:=fun ww hb=>hK ww (.bool true) (by simp) (hx.step 2 _ hb (fun h=>absurd h (by decide))) hb
      clear hK;rw[if_pos (by rfl)];go_simp;try simp only[d1]
      refine A.mono ?_;rintro e w9 ⟨rfl,hb9⟩;have hK2:=hK' w9 hb9;clear hK' A hb9;go_simp;simpa[upd,d1] using hK2
     ·have d2:t 2=.bool true:=by simpa using(hdep ⟨2,.data⟩ (by simp) rfl).2
      clear hdep;have hK':=hK w' (.bool true) (by simp) (hx.step 3 _ (Below.refl _ _) (fun h=>absurd h (by decide))) (Below.refl _ _);clear hK;rw[if_pos (by rfl)];go_simp;simpa[upd,d2] using hK'
     ·have d3:t 3=.bool true:=by simpa using(hdep ⟨3,.guard⟩ (by simp) rfl).2
      clear hdep;have hK':=hK w' (.pointer (some ⟨w.heap.size,0,none⟩)) (by simp) (hx.step 4 _ (Below.refl _ _) (fun h=>absurd h (by decide))) (Below.refl _ _);clear hK;rw[if_pos (by simp[Region.wanted,yielded,d3])];go_simp;simpa[upd,d3] using hK'
     ·have d4:t 4=.pointer (some ⟨w.heap.size,0,none⟩):=by simpa using(hdep ⟨4,.data⟩ (by simp) rfl).2
      have d3:t 3=.bool true:=by simpa using(hdep ⟨3,.guard⟩ (by simp) rfl).2
      clear hdep;have hK':=hK w' (.pointer (some ⟨w.heap.size,3,none⟩)) (by simp) (hx.step 5 _ (Below.refl _ _) (fun h=>absurd h (by decide))) (Below.refl _ _);clear hK;rw[if_pos (by simp[Region.wanted,yielded,d3])];go_simp;simpa[upd,d4,d3] using hK'
     ·have d5:t 5=.pointer (some ⟨w.heap.size,3,none⟩):=by simpa using(hdep ⟨5,.data⟩ (by simp) rfl).2
      have d3:t 3=.bool true:=by simpa using(hdep ⟨3,.guard⟩ (by simp) rfl).2
      clear hdep;have hr:=HRW.out w' hx.below;have y3:=cell_of_row w' w.heap.size 3 _ _ _ hr;clear hr;simp at y3;have hK':=hK w' (.bool false) (by simp) (hx.step 6 _ (Below.refl _ _) (fun h=>absurd h (by decide))) (Below.refl _ _);clear hK;rw[if_pos (by simp[Region.wanted,yielded,d3])];go_simp;simpa[upd,d5,d3] using hK'
     ·have d6:t 6=.bool false:=by simpa using(hdep ⟨6,.data⟩ (by simp) rfl).2
      have d3:t 3=.bool true:=by simpa using(hdep ⟨3,.guard⟩ (by simp) rfl).2
      clear hdep;have hK':=hK w' (.bool true) (by simp) (hx.step 7 _ (Below.refl _ _) (fun h=>absurd h (by decide))) (Below.refl _ _);clear hK;rw[if_pos (by simp[Region.wanted,yielded,d3])];go_simp;simpa[upd,d6,d3] using hK'
     ·have d3:t 3=.bool true:=by simpa using(hdep ⟨3,.data⟩ (by simp) rfl).2
      have d7:t 7=.bool true:=by simpa using(hdep ⟨7,.data⟩ (by simp) rfl).2
      clear hdep;have hK':=hK w' (.bool true) (by simp) (hx.step 8 _ (Below.refl _ _) (fun h=>absurd h (by decide))) (Below.refl _ _);clear hK;rw[if_pos (by rfl)];go_simp;simpa[upd,d3,d7] using hK'
     ·have d8:t 8=.bool true:=by simpa using(hdep ⟨8,.data⟩ (by simp) rfl).2
      clear hdep;have hK':=hK w' (.bool true) (by simp) (hx.step 9 _ (Below.refl _ _) (fun h=>absurd h (by decide))) (Below.refl _ _);clear hK;rw[if_pos (by rfl)];go_simp;simpa[upd,d8] using hK'
     ·have d9:t 9=.bool true:=by simpa using(hdep ⟨9,.guard⟩ (by simp) rfl).2
      clear hdep;have hK':=hK w' (.pointer (some ⟨w.heap.size,0,none⟩)) (by simp) (hx.step 10 _ (Below.refl _ _) (fun h=>absurd h (by decide))) (Below.refl _ _);clear hK;rw[if_pos (by simp[Region.wanted,yielded,d9])];go_simp;simpa[upd,d9] using hK'
     ·have d10:t 10=.pointer (some ⟨w.heap.size,0,none⟩):=by simpa using(hdep ⟨10,.data⟩ (by simp) rfl).2
      have d9:t 9=.bool true:=by simpa using(hdep ⟨9,.guard⟩ (by simp) rfl).2
      clear hdep;have hK':=hK w' (.pointer (some ⟨w.heap.size,1,none⟩)) (by simp) (hx.step 11 _ (Below.refl _ _) (fun h=>absurd h (by decide))) (Below.refl _ _);clear hK;rw[if_pos (by simp[Region.wanted,yielded,d9])];go_simp;simpa[upd,d10,d9] using hK'
     ·have d11:t 11=.pointer (some ⟨w.heap.size,1,none⟩):=by simpa using(hdep ⟨11,.data⟩ (by simp) rfl).2
      have d9:t 9=.bool true:=by simpa using(hdep ⟨9,.guard⟩ (by simp) rfl).2
      clear hdep;have hr:=HRW.out w' hx.below;have y1:=cell_of_row w' w.heap.size 1 _ _ _ hr;clear hr;simp at y1;have hK':=hK w' (.slice x 0 cx) (by simp) (hx.step 12 _ (Below.refl _ _) (fun h=>absurd h (by decide))) (Below.refl _ _);clear hK;rw[if_pos (by simp[Region.wanted,yielded,d9])];go_simp;simpa[upd,d11,d9] using hK'
     ·have d12:t 12=.slice x 0 cx:=by simpa using(hdep ⟨12,.data⟩ (by simp) rfl).2
      have d9:t 9=.bool true:=by simpa using(hdep ⟨9,.guard⟩ (by simp) rfl).2
      clear hdep;have hK':=hK w' (.int .i64 (0:Nat)) (by simp) (hx.step 13 _ (Below.refl _ _) (fun h=>absurd h (by decide))) (Below.refl _ _);clear hK;rw[if_pos (by simp[Region.wanted,yielded,d9])];go_simp;simpa[upd,d12,d9] using hK'
     ·have d13:t 13=.int .i64 (0:Nat):=by simpa using(hdep ⟨13,.data⟩ (by simp) rfl).2
      have d9:t 9=.bool true:=by simpa using(hdep ⟨9,.guard⟩ (by simp) rfl).2
      clear hdep;have hK':=hK w' (.bool true) (by simp) (hx.step 14 _ (Below.refl _ _) (fun h=>absurd h (by decide))) (Below.refl _ _);clear hK;rw[if_pos (by simp[Region.wanted,yielded,d9])];go_simp;simpa[upd,d13,d9] using hK'
     ·have d9:t 9=.bool true:=by simpa using(hdep ⟨9,.data⟩ (by simp) rfl).2
      have d14:t 14=.bool true:=by simpa using(hdep ⟨14,.data⟩ (by simp) rfl).2
      clear hdep;have hK':=hK w' (.bool true) (by simp) (hx.step 15 _ (Below.refl _ _) (fun h=>absurd h (by decide))) (Below.refl _ _);clear hK;rw[if_pos (by rfl)];go_simp;simpa[upd,d9,d14] using hK'
     ·have d15:t 15=.bool true:=by simpa using(hdep ⟨15,.data⟩ (by simp) rfl).2
      clear hdep;have hK':=hK w' (.bool true) (by simp) (hx.step 16 _ (Below.refl _ _) (fun h=>absurd h (by decide))) (Below.refl _ _);clear hK;rw[if_pos (by rfl)];go_simp;simpa[upd,d15] using hK'
     ·have d16:t 16=.bool true:=by simpa using(hdep ⟨16,.guard⟩ (by simp) rfl).2
      clear hdep;have hK':=hK w' (.pointer (some ⟨w.heap.size,4,none⟩)) (by simp) (hx.step 17 _ (Below.refl _ _) (fun h=>absurd h (by decide))) (Below.refl _ _);clear hK;rw[if_pos (by simp[Region.wanted,yielded,d16])];go_simp;simpa[upd,d16] using hK'
     ·have d17:t 17=.pointer (some ⟨w.heap.size,4,none⟩):=by simpa using(hdep ⟨17,.data⟩ (by simp) rfl).2
      have d16:t 16=.bool true:=by simpa using(hdep ⟨16,.guard⟩ (by simp) rfl).2
      clear hdep;have hr:=HRW.out w' hx.below;have y4:=cell_of_row w' w.heap.size 4 _ _ _ hr;clear hr;simp at y4;have hK':=hK w' (.slice ka 32 kc) (by simp) (hx.step 18 _ (Below.refl _ _) (fun h=>absurd h (by decide))) (Below.refl _ _);clear hK;rw[if_pos (by simp[Region.wanted,yielded,d16])];go_simp;simpa[upd,d17,d16] using hK'
     ·have d18:t 18=.slice ka 32 kc:=by simpa using(hdep ⟨18,.data⟩ (by simp) rfl).2
      have d16:t 16=.bool true:=by simpa using(hdep ⟨16,.guard⟩ (by simp) rfl).2
      clear hdep;have hK':=hK w' (.int .i64 (32:Nat)) (by simp) (hx.step 19 _ (Below.refl _ _) (fun h=>absurd h (by decide))) (Below.refl _ _);clear hK;rw[if_pos (by simp[Region.wanted,yielded,d16])];go_simp;simpa[upd,d18,d16] using hK'
     ·have d19:t 19=.int .i64 (32:Nat):=by simpa using(hdep ⟨19,.data⟩ (by simp) rfl).2
      have d16:t 16=.bool true:=by simpa using(hdep ⟨16,.guard⟩ (by simp) rfl).2
      clear hdep;have hK':=hK w' (.bool true) (by simp) (hx.step 20 _ (Below.refl _ _) (fun h=>absurd h (by decide))) (Below.refl _ _);clear hK;rw[if_pos (by simp[Region.wanted,yielded,d16])];go_simp;simpa[upd,d19,d16] using hK'
     ·have d16:t 16=.bool true:=by simpa using(hdep ⟨16,.data⟩ (by simp) rfl).2
      have d20:t 20=.bool true:=by simpa using(hdep ⟨20,.data⟩ (by simp) rfl).2
      clear hdep;have hK':=hK w' (.bool true) (by simp) (hx.step 21 _ (Below.refl _ _) (fun h=>absurd h (by decide))) (Below.refl _ _);clear hK;rw[if_pos (by rfl)];go_simp;simpa[upd,d16,d20] using hK'
     ·have d21:t 21=.bool true:=by simpa using(hdep ⟨21,.data⟩ (by simp) rfl).2
      clear hdep;have hK':=hK w' (.bool true) (by simp) (hx.step 22 _ (Below.refl _ _) (fun h=>absurd h (by decide))) (Below.refl _ _);clear hK;rw[if_pos (by rfl)];go_simp;simpa[upd,d21] using hK'
     ·have d22:t 22=.bool true:=by simpa using(hdep ⟨22,.guard⟩ (by simp) rfl).2
      clear hdep;have hK':=hK w' (.pointer (some ⟨w.heap.size,5,none⟩)) (by simp) (hx.step 23 _ (Below.refl _ _) (fun h=>absurd h (by decide))) (Below.refl _ _);clear hK;rw[if_pos (by simp[Region.wanted,yielded,d22])];go_simp;simpa[upd,d22] using hK'
     ·have d23:t 23=.pointer (some ⟨w.heap.size,5,none⟩):=by simpa using(hdep ⟨23,.data⟩ (by simp) rfl).2
      have d22:t 22=.bool true:=by simpa using(hdep ⟨22,.guard⟩ (by simp) rfl).2
      clear hdep;have hK':=hK w' (.pointer (some ⟨w.heap.size,5,none⟩)) (by simp) (hx.step 24 _ (Below.refl _ _) (fun h=>absurd h (by decide))) (Below.refl _ _);clear hK;rw[if_pos (by simp[Region.wanted,yielded,d22])];go_simp;simpa[upd,d23,d22] using hK'
     ·have d24:t 24=.pointer (some ⟨w.heap.size,5,none⟩):=by simpa using(hdep ⟨24,.data⟩ (by simp) rfl).2
      have d22:t 22=.bool true:=by simpa using(hdep ⟨22,.guard⟩ (by simp) rfl).2
      clear hdep;have hr:=HRW.out w' hx.below;have y5:=cell_of_row w' w.heap.size 5 _ _ _ hr;clear hr;simp at y5;have hK':=hK w' (.bool false) (by simp) (hx.step 25 _ (Below.refl _ _) (fun h=>absurd h (by decide))) (Below.refl _ _);clear hK;rw[if_pos (by simp[Region.wanted,yielded,d22])];go_simp;simpa[upd,d24,d22] using hK'
     ·have d22:t 22=.bool true:=by simpa using(hdep ⟨22,.data⟩ (by simp) rfl).2
      have d25:t 25=.bool false:=by simpa using(hdep ⟨25,.data⟩ (by simp) rfl).2
      clear hdep;have hK':=hK w' (.bool false) (by simp) (hx.step 26 _ (Below.refl _ _) (fun h=>absurd h (by decide))) (Below.refl _ _);clear hK;rw[if_pos (by rfl)];go_simp;simpa[upd,d22,d25] using hK'
     ·have d26:t 26=.bool false:=by simpa using(hdep ⟨26,.data⟩ (by simp) rfl).2
      clear hdep;have hK':=hK w' (.bool false) (by simp) (hx.step 27 _ (Below.refl _ _) (fun h=>absurd h (by decide))) (Below.refl _ _);clear hK;rw[if_pos (by rfl)];go_simp;simpa[upd,d26] using hK'
     ·have d27:t 27=.bool false:=by simpa using(hdep ⟨27,.guard⟩ (by simp) rfl).2
      clear hdep;have hK':=hK w' undef (by simp) (hx.step 28 _ (Below.refl _ _) (fun h=>absurd h (by decide))) (Below.refl _ _);clear hK;rw[if_neg (by simp[Region.wanted,yielded,d27])];simpa[upd,Act.put] using hK'
     ·have d27:t 27=.bool false:=by simpa using(hdep ⟨27,.guard⟩ (by simp) rfl).2
      clear hdep;have hK':=hK w' undef (by simp) (hx.step 29 _ (Below.refl _ _) (fun h=>absurd h (by decide))) (Below.refl _ _);clear hK;rw[if_neg (by simp[Region.wanted,yielded,d27])];simpa[upd,Act.put] using hK'
     ·have d27:t 27=.bool false:=by simpa using(hdep ⟨27,.guard⟩ (by simp) rfl).2
      clear hdep;have hK':=hK w' undef (by simp) (hx.step 30 _ (Below.refl _ _) (fun h=>absurd h (by decide))) (Below.refl _ _);clear hK;rw[if_neg (by simp[Region.wanted,yielded,d27])];simpa[upd,Act.put] using hK'
     ·have d27:t 27=.bool false:=by simpa using(hdep ⟨27,.guard⟩ (by simp) rfl).2
      clear hdep;have hK':=hK w' undef (by simp) (hx.step 31 _ (Below.refl _ _) (fun h=>absurd h (by decide))) (Below.refl _ _);clear hK;rw[if_neg (by simp[Region.wanted,yielded,d27])];simpa[upd,Act.put] using hK'
     ·have d27:t 27=.bool false:=by simpa using(hdep ⟨27,.guard⟩ (by simp) rfl).2
      clear hdep;have hK':=hK w' undef (by simp) (hx.step 32 _ (Below.refl _ _) (fun h=>absurd h (by decide))) (Below.refl _ _);clear hK;rw[if_neg (by simp[Region.wanted,yielded,d27])];simpa[upd,Act.put] using hK'
     ·have d27:t 27=.bool false:=by simpa using(hdep ⟨27,.guard⟩ (by simp) rfl).2
      clear hdep;have hK':=hK w' undef (by simp) (hx.step 33 _ (Below.refl _ _) (fun h=>absurd h (by decide))) (Below.refl _ _);clear hK;rw[if_neg (by simp[Region.wanted,yielded,d27])];simpa[upd,Act.put] using hK'
     ·have d27:t 27=.bool false:=by simpa using(hdep ⟨27,.data⟩ (by simp) rfl).2
      clear hdep;have hK':=hK w' (.bool false) (by simp) (hx.step 34 _ (Below.refl _ _) (fun h=>absurd h (by decide))) (Below.refl _ _);clear hK;rw[if_pos (by rfl)];go_simp;simpa[upd,d27] using hK'
     ·have d34:t 34=.bool false:=by simpa using(hdep ⟨34,.data⟩ (by simp) rfl).2
      clear hdep;have hK':=hK w' (.bool false) (by simp) (hx.step 35 _ (Below.refl _ _) (fun h=>absurd h (by decide))) (Below.refl _ _);clear hK;rw[if_pos (by rfl)];go_simp;simpa[upd,d34] using hK'
    case hdone5=>
     intro Ls t w1 hx hg;have f35:t 35=.bool false:=by simpa using hg 35 (by decide)
     have HBF:=hid_ofV (HB0.out.trans (hx.below.mono HB0.out.size));clear hx hg;dsimp only;rw[f35];generalize t 0=t0;go_wp2
     go_ret
     exact⟨by rw[HF.out];rfl,HBF.out⟩
   |true=>
    have HF:Hid (V=E):=by show _=_;rw[HV.out];unfold vgB;rw[hv];simp
    clear HV hv;refine wp_region_any (by kernel_rfl) ?_;refine wpAny_slotsU (fun _ a b=>Below a.heap.size a b) (frame:=(fun (a b:Value)=>fun (t:Nat→Value)=>({ tmps:=List.toArray [a,b,t 35,t 0,t 1,t 2,t 3,t 4,t 5,t 6,t 7,t 8,t 9,t 10,t 11,t 12,t 13,t 14,t 15,t 16,t 17,t 18,t 19,t 20,t 21,t 22,t 23,t 24,t 25,t 26,t 27,t 28,t 29,t 30,t 31,t 32,t 33,t 34],defers:=[] }:Act)) _ _)
     (Ext:=fun Ls u w'=>ApX w0 [] Ls u w') (Good:=fun i Ls w' v=>if i=0 then v=.pointer (some ⟨w.heap.size,0,none⟩) else if i=1 then v=.agg #[.slice a n c,.slice x 0 cx,.int .i64 f,.bool false] else if i=2 then v=.bool true else if i=3 then v=.bool true else if i=4 then v=.pointer (some ⟨w.heap.size,0,none⟩) else if i=5 then v=.pointer (some ⟨w.heap.size,3,none⟩) else if i=6 then v=.bool false else if i=7 then v=.bool true else if i=8 then v=.bool true else if i=9 then v=.bool true else if i=10 then v=.pointer (some ⟨w.heap.size,0,none⟩) else if i=11 then v=.pointer (some ⟨w.heap.size,1,none⟩) else if i=12 then v=.slice x 0 cx else if i=13 then v=.int .i64 (0:Nat) else if i=14 then v=.bool true else if i=15 then v=.bool true else if i=16 then v=.bool true else if i=17 then v=.pointer (some ⟨w.heap.size,4,none⟩) else if i=18 then v=.slice ka 32 kc else if i=19 then v=.int .i64 (32:Nat) else if i=20 then v=.bool true else if i=21 then v=.bool true else if i=22 then v=.bool true else if i=23 then v=.pointer (some ⟨w.heap.size,5,none⟩) else if i=24 then v=.pointer (some ⟨w.heap.size,5,none⟩) else if i=25 then v=.bool true else if i=26 then v=.bool true else if i=27 then v=.bool true else if i=28 then v=.pointer (some ⟨w.heap.size,5,none⟩) else if i=29 then v=.agg #[.bool true,.int .u32 gn,.int .u32 tl,.slice aSD nSD cSD,.slice aSU nSU cSU,.slice aF nF cF,.slice aD nD cD,.slice aU nU cU,.int .i64 k,.slice aT nT cT,.int .u32 nx] else if i=30 then v=.pointer (some ⟨w.heap.size,0,none⟩) else if i=31 then v=.agg #[.slice a n c,.slice x 0 cx,.int .i64 f,.bool false] else if i=32 then ImW w' v r else if i=33 then v=.bool E else if i=34 then v=.bool E else if i=35 then v=.bool E else True) ?hstab6 (by kernel_rfl) ?hop6 ?hdone6 _ _ ((fun (x0 x1 x2 x3 x4 x5 x6 x7 x8 x9 x10 x11 x12 x13 x14 x15 x16 x17 x18 x19 x20 x21 x22 x23 x24 x25 x26 x27 x28 x29 x30 x31 x32 x33 x34 x35:Value)=>fun (i:Nat)=>if i=0 then x0 else if i=1 then x1 else if i=2 then x2 else if i=3 then x3 else if i=4 then x4 else if i=5 then x5 else if i=6 then x6 else if i=7 then x7 else if i=8 then x8 else if i=9 then x9 else if i=10 then x10 else if i=11 then x11 else if i=12 then x12 else if i=13 then x13 else if i=14 then x14 else if i=15 then x15 else if i=16 then x16 else if i=17 then x17 else if i=18 then x18 else if i=19 then x19 else if i=20 then x20 else if i=21 then x21 else if i=22 then x22 else if i=23 then x23 else if i=24 then x24 else if i=25 then x25 else if i=26 then x26 else if i=27 then x27 else if i=28 then x28 else if i=29 then x29 else if i=30 then x30 else if i=31 then x31 else if i=32 then x32 else if i=33 then x33 else if i=34 then x34 else if i=35 then x35 else undef) _ _ _ _ _ _ _ _ _ _ _ _ _ _ _ _ _ _ _ _ _ _ _ _ _ _ _ _ _ _ _ _ _ _ _ _) _ (by simp) ?ext6 ?start6 (by simp)
    case start6=>intro i hi h;exact absurd h (by rw[Array.getD_eq_getD_getElem?,Array.getElem?_replicate];split<;>simp)
    case ext6=>exact(ApX.start w0 [] _ _ (fun i=>by rw[Array.getD_eq_getD_getElem?,Array.getElem?_replicate];split<;>rfl)).drew
    case hstab6=>
     intro j Ls w9 w' i v hM _ _ h;by_cases h32:j=32
     ·subst h32;simp at h ⊢;exact h.below hM
     simp only[if_neg h32] at h ⊢;exact h
    case hop6=>
     intro i o Ls t w' ho hLi hx hdep K hK;have hi:i<36:=(Array.getElem?_eq_some_iff.1 ho).1;obtain rfl|rfl|rfl|rfl|rfl|rfl|rfl|rfl|rfl|rfl|rfl|rfl|rfl|rfl|rfl|rfl|rfl|rfl|rfl|rfl|rfl|rfl|rfl|rfl|rfl|rfl|rfl|rfl|rfl|rfl|rfl|rfl|rfl|rfl|rfl|rfl:i=0∨i=1∨i=2∨i=3∨i=4∨i=5∨i=6∨i=7∨i=8∨i=9∨i=10∨i=11∨i=12∨i=13∨i=14∨i=15∨i=16∨i=17∨i=18∨i=19∨i=20∨i=21∨i=22∨i=23∨i=24∨i=25∨i=26∨i=27∨i=28∨i=29∨i=30∨i=31∨i=32∨i=33∨i=34∨i=35:=by omega
     all_goals(simp at ho;subst ho)
     ·clear hdep;have hK':=hK w' (.pointer (some ⟨w.heap.size,0,none⟩)) (by simp) (hx.step 0 _ (Below.refl _ _) (fun h=>absurd h (by decide))) (Below.refl _ _);clear hK;rw[if_pos (by rfl)];go_simp;simpa[upd] using hK'
     ·have d0:t 0=.pointer (some ⟨w.heap.size,0,none⟩):=by simpa using(hdep ⟨0,.data⟩ (by simp) rfl).2
      clear hdep;have hr:=HRW.out w' hx.below;have y0:=cell_of_row w' w.heap.size 0 _ _ _ hr;have y1:=cell_of_row w' w.heap.size 1 _ _ _ hr;have y2:=cell_of_row w' w.heap.size 2 _ _ _ hr;have y3:=cell_of_row w' w.heap.size 3 _ _ _ hr;clear hr;simp at y0 y1 y2 y3;have hK':=hK w' (.agg #[.slice a n c,.slice x 0 cx,.int .i64 f,.bool false]) (by simp) (hx.step 1 _ (Below.refl _ _) (fun h=>absurd h (by decide))) (Below.refl _ _);clear hK;rw[if_pos (by rfl)];go_simp;simpa[upd,d0] using hK'
     ·have d1:t 1=.agg #[.slice a n c,.slice x 0 cx,.int .i64 f,.bool false]:=by simpa using(hdep ⟨1,.data⟩ (by simp) rfl).2
      clear hdep;have A:=HSV.out w' hx.below;have hK':∀ ww,Below w'.heap.size w' ww→K _ ww:=fun ww hb=>hK ww (.bool true) (by simp) (hx.step 2 _ hb (fun h=>absurd h (by decide))) hb
      clear hK;rw[if_pos (by rfl)];go_simp;try simp only[d1]
      refine A.mono ?_;rintro e w9 ⟨rfl,hb9⟩;have hK2:=hK' w9 hb9;clear hK' A hb9;go_simp;simpa[upd,d1] using hK2
     ·have d2:t 2=.bool true:=by simpa using(hdep ⟨2,.data⟩ (by simp) rfl).2
      clear hdep;have hK':=hK w' (.bool true) (by simp) (hx.step 3 _ (Below.refl _ _) (fun h=>absurd h (by decide))) (Below.refl _ _);clear hK;rw[if_pos (by rfl)];go_simp;simpa[upd,d2] using hK'
     ·have d3:t 3=.bool true:=by simpa using(hdep ⟨3,.guard⟩ (by simp) rfl).2
      clear hdep;have hK':=hK w' (.pointer (some ⟨w.heap.size,0,none⟩)) (by simp) (hx.step 4 _ (Below.refl _ _) (fun h=>absurd h (by decide))) (Below.refl _ _);clear hK;rw[if_pos (by simp[Region.wanted,yielded,d3])];go_simp;simpa[upd,d3] using hK'
     ·have d4:t 4=.pointer (some ⟨w.heap.size,0,none⟩):=by simpa using(hdep ⟨4,.data⟩ (by simp) rfl).2
      have d3:t 3=.bool true:=by simpa using(hdep ⟨3,.guard⟩ (by simp) rfl).2
      clear hdep;have hK':=hK w' (.pointer (some ⟨w.heap.size,3,none⟩)) (by simp) (hx.step 5 _ (Below.refl _ _) (fun h=>absurd h (by decide))) (Below.refl _ _);clear hK;rw[if_pos (by simp[Region.wanted,yielded,d3])];go_simp;simpa[upd,d4,d3] using hK'
     ·have d5:t 5=.pointer (some ⟨w.heap.size,3,none⟩):=by simpa using(hdep ⟨5,.data⟩ (by simp) rfl).2
      have d3:t 3=.bool true:=by simpa using(hdep ⟨3,.guard⟩ (by simp) rfl).2
      clear hdep;have hr:=HRW.out w' hx.below;have y3:=cell_of_row w' w.heap.size 3 _ _ _ hr;clear hr;simp at y3;have hK':=hK w' (.bool false) (by simp) (hx.step 6 _ (Below.refl _ _) (fun h=>absurd h (by decide))) (Below.refl _ _);clear hK;rw[if_pos (by simp[Region.wanted,yielded,d3])];go_simp;simpa[upd,d5,d3] using hK'
     ·have d6:t 6=.bool false:=by simpa using(hdep ⟨6,.data⟩ (by simp) rfl).2
      have d3:t 3=.bool true:=by simpa using(hdep ⟨3,.guard⟩ (by simp) rfl).2
      clear hdep;have hK':=hK w' (.bool true) (by simp) (hx.step 7 _ (Below.refl _ _) (fun h=>absurd h (by decide))) (Below.refl _ _);clear hK;rw[if_pos (by simp[Region.wanted,yielded,d3])];go_simp;simpa[upd,d6,d3] using hK'
     ·have d3:t 3=.bool true:=by simpa using(hdep ⟨3,.data⟩ (by simp) rfl).2
      have d7:t 7=.bool true:=by simpa using(hdep ⟨7,.data⟩ (by simp) rfl).2
      clear hdep;have hK':=hK w' (.bool true) (by simp) (hx.step 8 _ (Below.refl _ _) (fun h=>absurd h (by decide))) (Below.refl _ _);clear hK;rw[if_pos (by rfl)];go_simp;simpa[upd,d3,d7] using hK'
     ·have d8:t 8=.bool true:=by simpa using(hdep ⟨8,.data⟩ (by simp) rfl).2
      clear hdep;have hK':=hK w' (.bool true) (by simp) (hx.step 9 _ (Below.refl _ _) (fun h=>absurd h (by decide))) (Below.refl _ _);clear hK;rw[if_pos (by rfl)];go_simp;simpa[upd,d8] using hK'
     ·have d9:t 9=.bool true:=by simpa using(hdep ⟨9,.guard⟩ (by simp) rfl).2
      clear hdep;have hK':=hK w' (.pointer (some ⟨w.heap.size,0,none⟩)) (by simp) (hx.step 10 _ (Below.refl _ _) (fun h=>absurd h (by decide))) (Below.refl _ _);clear hK;rw[if_pos (by simp[Region.wanted,yielded,d9])];go_simp;simpa[upd,d9] using hK'
     ·have d10:t 10=.pointer (some ⟨w.heap.size,0,none⟩):=by simpa using(hdep ⟨10,.data⟩ (by simp) rfl).2
      have d9:t 9=.bool true:=by simpa using(hdep ⟨9,.guard⟩ (by simp) rfl).2
      clear hdep;have hK':=hK w' (.pointer (some ⟨w.heap.size,1,none⟩)) (by simp) (hx.step 11 _ (Below.refl _ _) (fun h=>absurd h (by decide))) (Below.refl _ _);clear hK;rw[if_pos (by simp[Region.wanted,yielded,d9])];go_simp;simpa[upd,d10,d9] using hK'
     ·have d11:t 11=.pointer (some ⟨w.heap.size,1,none⟩):=by simpa using(hdep ⟨11,.data⟩ (by simp) rfl).2
      have d9:t 9=.bool true:=by simpa using(hdep ⟨9,.guard⟩ (by simp) rfl).2
      clear hdep;have hr:=HRW.out w' hx.below;have y1:=cell_of_row w' w.heap.size 1 _ _ _ hr;clear hr;simp at y1;have hK':=hK w' (.slice x 0 cx) (by simp) (hx.step 12 _ (Below.refl _ _) (fun h=>absurd h (by decide))) (Below.refl _ _);clear hK;rw[if_pos (by simp[Region.wanted,yielded,d9])];go_simp;simpa[upd,d11,d9] using hK'
     ·have d12:t 12=.slice x 0 cx:=by simpa using(hdep ⟨12,.data⟩ (by simp) rfl).2
      have d9:t 9=.bool true:=by simpa using(hdep ⟨9,.guard⟩ (by simp) rfl).2
      clear hdep;have hK':=hK w' (.int .i64 (0:Nat)) (by simp) (hx.step 13 _ (Below.refl _ _) (fun h=>absurd h (by decide))) (Below.refl _ _);clear hK;rw[if_pos (by simp[Region.wanted,yielded,d9])];go_simp;simpa[upd,d12,d9] using hK'
     ·have d13:t 13=.int .i64 (0:Nat):=by simpa using(hdep ⟨13,.data⟩ (by simp) rfl).2
      have d9:t 9=.bool true:=by simpa using(hdep ⟨9,.guard⟩ (by simp) rfl).2
      clear hdep;have hK':=hK w' (.bool true) (by simp) (hx.step 14 _ (Below.refl _ _) (fun h=>absurd h (by decide))) (Below.refl _ _);clear hK;rw[if_pos (by simp[Region.wanted,yielded,d9])];go_simp;simpa[upd,d13,d9] using hK'
     ·have d9:t 9=.bool true:=by simpa using(hdep ⟨9,.data⟩ (by simp) rfl).2
      have d14:t 14=.bool true:=by simpa using(hdep ⟨14,.data⟩ (by simp) rfl).2
      clear hdep;have hK':=hK w' (.bool true) (by simp) (hx.step 15 _ (Below.refl _ _) (fun h=>absurd h (by decide))) (Below.refl _ _);clear hK;rw[if_pos (by rfl)];go_simp;simpa[upd,d9,d14] using hK'
     ·have d15:t 15=.bool true:=by simpa using(hdep ⟨15,.data⟩ (by simp) rfl).2
      clear hdep;have hK':=hK w' (.bool true) (by simp) (hx.step 16 _ (Below.refl _ _) (fun h=>absurd h (by decide))) (Below.refl _ _);clear hK;rw[if_pos (by rfl)];go_simp;simpa[upd,d15] using hK'
     ·have d16:t 16=.bool true:=by simpa using(hdep ⟨16,.guard⟩ (by simp) rfl).2
      clear hdep;have hK':=hK w' (.pointer (some ⟨w.heap.size,4,none⟩)) (by simp) (hx.step 17 _ (Below.refl _ _) (fun h=>absurd h (by decide))) (Below.refl _ _);clear hK;rw[if_pos (by simp[Region.wanted,yielded,d16])];go_simp;simpa[upd,d16] using hK'
     ·have d17:t 17=.pointer (some ⟨w.heap.size,4,none⟩):=by simpa using(hdep ⟨17,.data⟩ (by simp) rfl).2
      have d16:t 16=.bool true:=by simpa using(hdep ⟨16,.guard⟩ (by simp) rfl).2
      clear hdep;have hr:=HRW.out w' hx.below;have y4:=cell_of_row w' w.heap.size 4 _ _ _ hr;clear hr;simp at y4;have hK':=hK w' (.slice ka 32 kc) (by simp) (hx.step 18 _ (Below.refl _ _) (fun h=>absurd h (by decide))) (Below.refl _ _);clear hK;rw[if_pos (by simp[Region.wanted,yielded,d16])];go_simp;simpa[upd,d17,d16] using hK'
     ·have d18:t 18=.slice ka 32 kc:=by simpa using(hdep ⟨18,.data⟩ (by simp) rfl).2
      have d16:t 16=.bool true:=by simpa using(hdep ⟨16,.guard⟩ (by simp) rfl).2
      clear hdep;have hK':=hK w' (.int .i64 (32:Nat)) (by simp) (hx.step 19 _ (Below.refl _ _) (fun h=>absurd h (by decide))) (Below.refl _ _);clear hK;rw[if_pos (by simp[Region.wanted,yielded,d16])];go_simp;simpa[upd,d18,d16] using hK'
     ·have d19:t 19=.int .i64 (32:Nat):=by simpa using(hdep ⟨19,.data⟩ (by simp) rfl).2
      have d16:t 16=.bool true:=by simpa using(hdep ⟨16,.guard⟩ (by simp) rfl).2
      clear hdep;have hK':=hK w' (.bool true) (by simp) (hx.step 20 _ (Below.refl _ _) (fun h=>absurd h (by decide))) (Below.refl _ _);clear hK;rw[if_pos (by simp[Region.wanted,yielded,d16])];go_simp;simpa[upd,d19,d16] using hK'
     ·have d16:t 16=.bool true:=by simpa using(hdep ⟨16,.data⟩ (by simp) rfl).2
      have d20:t 20=.bool true:=by simpa using(hdep ⟨20,.data⟩ (by simp) rfl).2
      clear hdep;have hK':=hK w' (.bool true) (by simp) (hx.step 21 _ (Below.refl _ _) (fun h=>absurd h (by decide))) (Below.refl _ _);clear hK;rw[if_pos (by rfl)];go_simp;simpa[upd,d16,d20] using hK'
     ·have d21:t 21=.bool true:=by simpa using(hdep ⟨21,.data⟩ (by simp) rfl).2
      clear hdep;have hK':=hK w' (.bool true) (by simp) (hx.step 22 _ (Below.refl _ _) (fun h=>absurd h (by decide))) (Below.refl _ _);clear hK;rw[if_pos (by rfl)];go_simp;simpa[upd,d21] using hK'
     ·have d22:t 22=.bool true:=by simpa using(hdep ⟨22,.guard⟩ (by simp) rfl).2
      clear hdep;have hK':=hK w' (.pointer (some ⟨w.heap.size,5,none⟩)) (by simp) (hx.step 23 _ (Below.refl _ _) (fun h=>absurd h (by decide))) (Below.refl _ _);clear hK;rw[if_pos (by simp[Region.wanted,yielded,d22])];go_simp;simpa[upd,d22] using hK'
     ·have d23:t 23=.pointer (some ⟨w.heap.size,5,none⟩):=by simpa using(hdep ⟨23,.data⟩ (by simp) rfl).2
      have d22:t 22=.bool true:=by simpa using(hdep ⟨22,.guard⟩ (by simp) rfl).2
      clear hdep;have hK':=hK w' (.pointer (some ⟨w.heap.size,5,none⟩)) (by simp) (hx.step 24 _ (Below.refl _ _) (fun h=>absurd h (by decide))) (Below.refl _ _);clear hK;rw[if_pos (by simp[Region.wanted,yielded,d22])];go_simp;simpa[upd,d23,d22] using hK'
     ·have d24:t 24=.pointer (some ⟨w.heap.size,5,none⟩):=by simpa using(hdep ⟨24,.data⟩ (by simp) rfl).2
      have d22:t 22=.bool true:=by simpa using(hdep ⟨22,.guard⟩ (by simp) rfl).2
      clear hdep;have hr:=HRW.out w' hx.below;have y5:=cell_of_row w' w.heap.size 5 _ _ _ hr;clear hr;simp at y5;have hK':=hK w' (.bool true) (by simp) (hx.step 25 _ (Below.refl _ _) (fun h=>absurd h (by decide))) (Below.refl _ _);clear hK;rw[if_pos (by simp[Region.wanted,yielded,d22])];go_simp;simpa[upd,d24,d22] using hK'
     ·have d22:t 22=.bool true:=by simpa using(hdep ⟨22,.data⟩ (by simp) rfl).2
      have d25:t 25=.bool true:=by simpa using(hdep ⟨25,.data⟩ (by simp) rfl).2
      clear hdep;have hK':=hK w' (.bool true) (by simp) (hx.step 26 _ (Below.refl _ _) (fun h=>absurd h (by decide))) (Below.refl _ _);clear hK;rw[if_pos (by rfl)];go_simp;simpa[upd,d22,d25] using hK'
     ·have d26:t 26=.bool true:=by simpa using(hdep ⟨26,.data⟩ (by simp) rfl).2
      clear hdep;have hK':=hK w' (.bool true) (by simp) (hx.step 27 _ (Below.refl _ _) (fun h=>absurd h (by decide))) (Below.refl _ _);clear hK;rw[if_pos (by rfl)];go_simp;simpa[upd,d26] using hK'
     ·have d27:t 27=.bool true:=by simpa using(hdep ⟨27,.guard⟩ (by simp) rfl).2
      clear hdep;have hK':=hK w' (.pointer (some ⟨w.heap.size,5,none⟩)) (by simp) (hx.step 28 _ (Below.refl _ _) (fun h=>absurd h (by decide))) (Below.refl _ _);clear hK;rw[if_pos (by simp[Region.wanted,yielded,d27])];go_simp;simpa[upd,d27] using hK'
     ·have d28:t 28=.pointer (some ⟨w.heap.size,5,none⟩):=by simpa using(hdep ⟨28,.data⟩ (by simp) rfl).2
      have d27:t 27=.bool true:=by simpa using(hdep ⟨27,.guard⟩ (by simp) rfl).2
      clear hdep;have hr:=HRW.out w' hx.below;have y5:=cell_of_row w' w.heap.size 5 _ _ _ hr;have y6:=cell_of_row w' w.heap.size 6 _ _ _ hr;have y7:=cell_of_row w' w.heap.size 7 _ _ _ hr;have y8:=cell_of_row w' w.heap.size 8 _ _ _ hr;have y9:=cell_of_row w' w.heap.size 9 _ _ _ hr;have y10:=cell_of_row w' w.heap.size 10 _ _ _ hr;have y11:=cell_of_row w' w.heap.size 11 _ _ _ hr;have y12:=cell_of_row w' w.heap.size 12 _ _ _ hr;have y13:=cell_of_row w' w.heap.size 13 _ _ _ hr;have y14:=cell_of_row w' w.heap.size 14 _ _ _ hr;have y15:=cell_of_row w' w.heap.size 15 _ _ _ hr;clear hr;simp at y5 y6 y7 y8 y9 y10 y11 y12 y13 y14 y15;have hK':=hK w' (.agg #[.bool true,.int .u32 gn,.int .u32 tl,.slice aSD nSD cSD,.slice aSU nSU cSU,.slice aF nF cF,.slice aD nD cD,.slice aU nU cU,.int .i64 k,.slice aT nT cT,.int .u32 nx]) (by simp) (hx.step 29 _ (Below.refl _ _) (fun h=>absurd h (by decide))) (Below.refl _ _);clear hK;rw[if_pos (by simp[Region.wanted,yielded,d27])];go_simp;simpa[upd,d28,d27] using hK'
     ·have d27:t 27=.bool true:=by simpa using(hdep ⟨27,.guard⟩ (by simp) rfl).2
      clear hdep;have hK':=hK w' (.pointer (some ⟨w.heap.size,0,none⟩)) (by simp) (hx.step 30 _ (Below.refl _ _) (fun h=>absurd h (by decide))) (Below.refl _ _);clear hK;rw[if_pos (by simp[Region.wanted,yielded,d27])];go_simp;simpa[upd,d27] using hK'
     ·have d30:t 30=.pointer (some ⟨w.heap.size,0,none⟩):=by simpa using(hdep ⟨30,.data⟩ (by simp) rfl).2
      have d27:t 27=.bool true:=by simpa using(hdep ⟨27,.guard⟩ (by simp) rfl).2
      clear hdep;have hr:=HRW.out w' hx.below;have y0:=cell_of_row w' w.heap.size 0 _ _ _ hr;have y1:=cell_of_row w' w.heap.size 1 _ _ _ hr;have y2:=cell_of_row w' w.heap.size 2 _ _ _ hr;have y3:=cell_of_row w' w.heap.size 3 _ _ _ hr;clear hr;simp at y0 y1 y2 y3;have hK':=hK w' (.agg #[.slice a n c,.slice x 0 cx,.int .i64 f,.bool false]) (by simp) (hx.step 31 _ (Below.refl _ _) (fun h=>absurd h (by decide))) (Below.refl _ _);clear hK;rw[if_pos (by simp[Region.wanted,yielded,d27])];go_simp;simpa[upd,d30,d27] using hK'
     ·have d31:t 31=.agg #[.slice a n c,.slice x 0 cx,.int .i64 f,.bool false]:=by simpa using(hdep ⟨31,.data⟩ (by simp) rfl).2
      have d27:t 27=.bool true:=by simpa using(hdep ⟨27,.guard⟩ (by simp) rfl).2
      clear hdep;have A:=HLD.out w' hx.below;have hK':∀ ww v,ImW ww v r→Below w'.heap.size w' ww→K _ ww:=fun ww v hv hb=>hK ww v (by simpa using hv) (hx.step 32 v hb (fun h=>absurd h (by decide))) hb
      clear hK;rw[if_pos (by simp[Region.wanted,yielded,d27])];go_simp;try simp only[d31,d27]
      refine A.mono ?_;rintro e w9 ⟨v9,rfl,h9,hb9⟩;have hK2:=hK' w9 v9 h9 hb9;clear hK' A hb9;go_simp;simpa[upd,d31,d27] using hK2
     ·have d29:t 29=.agg #[.bool true,.int .u32 gn,.int .u32 tl,.slice aSD nSD cSD,.slice aSU nSU cSU,.slice aF nF cF,.slice aD nD cD,.slice aU nU cU,.int .i64 k,.slice aT nT cT,.int .u32 nx]:=by simpa using(hdep ⟨29,.data⟩ (by simp) rfl).2
      have f32:ImW w' (t 32) r:=by simpa using(hdep ⟨32,.data⟩ (by simp) rfl).2
      have d27:t 27=.bool true:=by simpa using(hdep ⟨27,.guard⟩ (by simp) rfl).2
      clear hdep;have A:=HSM.out w' (t 32) hx.below f32;have hK':∀ ww,Below w'.heap.size w' ww→K _ ww:=fun ww hb=>hK ww (.bool E) (by simp) (hx.step 33 _ hb (fun h=>absurd h (by decide))) hb
      clear hK;rw[if_pos (by simp[Region.wanted,yielded,d27])];go_simp;try simp only[d29,d27]
      refine A.mono ?_;rintro e w9 ⟨rfl,hb9⟩;have hK2:=hK' w9 hb9;clear hK' A hb9;go_simp;simpa[upd,d29,d27] using hK2
     ·have d27:t 27=.bool true:=by simpa using(hdep ⟨27,.data⟩ (by simp) rfl).2
      have d33:t 33=.bool E:=by simpa using(hdep ⟨33,.data⟩ (by simp) rfl).2
      clear hdep;have hK':=hK w' (.bool E) (by simp) (hx.step 34 _ (Below.refl _ _) (fun h=>absurd h (by decide))) (Below.refl _ _);clear hK;rw[if_pos (by rfl)];go_simp;simpa[upd,d27,d33] using hK'
     ·have d34:t 34=.bool E:=by simpa using(hdep ⟨34,.data⟩ (by simp) rfl).2
      clear hdep;have hK':=hK w' (.bool E) (by simp) (hx.step 35 _ (Below.refl _ _) (fun h=>absurd h (by decide))) (Below.refl _ _);clear hK;rw[if_pos (by rfl)];go_simp;simpa[upd,d34] using hK'
    case hdone6=>
     intro Ls t w1 hx hg;have f35:t 35=.bool E:=by simpa using hg 35 (by decide)
     have HBF:=hid_ofV (HB0.out.trans (hx.below.mono HB0.out.size));clear hx hg;dsimp only;rw[f35];generalize t 0=t0;go_wp2
     go_ret
     exact⟨by rw[HF.out];rfl,HBF.out⟩
end Go.Proofs.YtganeokokjodoaaGreat
