import Derived.Test.YtncomnkdlpoelaaGreatDoorMCatC
import Derived.Test.YtncomnkdlpoelaaGreatDoorMSMu
import Derived.Test.YtncomnkdlpoelaaGreatDoorMPMi
import Derived.Test.YtncomnkdlpoelaaGreatDoorMBase
import Derived.Test.YtncomnkdlpoelaaGreatDoorMSLess
import Derived.Test.YtncomnkdlpoelaaGreatDoorMShQ
import Derived.Test.YtncomnkdlpoelaaGreatDoorMCatZ
import Derived.Test.YtncomnkdlpoelaaGreatDoorMCat
import Derived.Test.YtncomnkdlpoelaaGreatDoorMCatF
import Derived.Test.YtncomnkdlpoelaaGreatDoorMMuM
import Derived.Lib.AppendZerosOnto
namespace Go.Proofs.YtncomnkdlpoelaaGreatDoor
open Go.ChangeShapes Go.WideShapes Go.ChangeAt Go.RowKit
set_option linter.unusedVariables false
def PtV (w:World) (v:Value) (Q:Q4):Prop:=∃ g1 c1 g2 c2 g3 c3 g4 c4,v=.agg #[.slice (some ⟨g1,0,none⟩) 16 c1,.slice (some ⟨g2,0,none⟩) 16 c2,.slice (some ⟨g3,0,none⟩) 16 c3,.slice (some ⟨g4,0,none⟩) 16 c4]∧
 FeA w (some ⟨g1,0,none⟩) Q.1∧FeA w (some ⟨g2,0,none⟩) Q.2.1∧FeA w (some ⟨g3,0,none⟩) Q.2.2.1∧FeA w (some ⟨g4,0,none⟩) Q.2.2.2
theorem PtV.below {w w':World} {v:Value} {Q:Q4} (h:PtV w v Q) (hb:Below w.heap.size w w'):PtV w' v Q:=by
 obtain⟨g1,c1,g2,c2,g3,c3,g4,c4,e,f1,f2,f3,f4⟩:=h;exact⟨g1,c1,g2,c2,g3,c3,g4,c4,e,f1.below hb,f2.below hb,f3.below hb,f4.below hb⟩
theorem PtV.mk {w:World} {zs:List Int} {g1 c1 g2 c2 g3 c3 g4 c4:Nat} (f1:FeA w (some ⟨g1,0,none⟩) (mX zs mdD)) (f2:FeA w (some ⟨g2,0,none⟩) (mY zs)) (f3:FeA w (some ⟨g3,0,none⟩) (1%fp)) (f4:FeA w (some ⟨g4,0,none⟩) (mX zs mdD*mY zs%fp)) :
  PtV w (.agg #[.slice (some ⟨g1,0,none⟩) 16 c1,.slice (some ⟨g2,0,none⟩) 16 c2,.slice (some ⟨g3,0,none⟩) 16 c3,.slice (some ⟨g4,0,none⟩) 16 c4]) (ptQ zs):=⟨g1,c1,g2,c2,g3,c3,g4,c4,rfl,f1,f2,f3,f4⟩
def PtS (w:World) (v:Value):Prop:=∃ Q,PtV w v Q
theorem PtS.below {w w':World} {v:Value} (h:PtS w v) (hb:Below w.heap.size w w'):PtS w' v:=by obtain⟨Q,h⟩:=h;exact⟨Q,h.below hb⟩
def FdV (w:World) (v:Value) (x:Int):Prop:=∃ g c,v=.slice (some ⟨g,0,none⟩) 16 c∧FeA w (some ⟨g,0,none⟩) x
theorem FdV.below {w w':World} {v:Value} {x:Int} (h:FdV w v x) (hb:Below w.heap.size w w'):FdV w' v x:=by obtain⟨g,c,e,f⟩:=h;exact⟨g,c,e,f.below hb⟩
def TxE (w:World) (v:Value) (m:Nat):Prop:=∃ g c zs,v=.slice (some ⟨g,0,none⟩) m c∧m≤c∧zs.length=m∧Byte zs∧At .u8 w (some ⟨g,0,none⟩) zs
theorem TxE.below {w w':World} {v:Value} {m:Nat} (h:TxE w v m) (hb:Below w.heap.size w w'):TxE w' v m:=by obtain⟨g,c,zs,e,h1,h2,h3,h4⟩:=h;exact⟨g,c,zs,e,h1,h2,h3,h4.below hb⟩
theorem TxE.of_own {w:World} {B:Nat} {v:Value} {zs:List Int} {m:Nat} (h:Own w B v zs) (hl:zs.length=m) (hz:Byte zs):TxE w v m:=by
 obtain⟨g,c,e,_,_,hc⟩:=h.base;obtain⟨g',c',e',_,_,hA⟩:=h.at2;rw[e] at e';cases e';rw[hl] at e hc;exact⟨g,c,zs,e,hc,hl,hz,hA⟩
def TxO (w:World) (B:Nat) (v:Value) (m:Nat):Prop:=∃ zs,Own w B v zs∧zs.length=m∧Byte zs
theorem TxO.of_own {w:World} {B:Nat} {v:Value} {zs:List Int} {m:Nat} (h:Own w B v zs) (hl:zs.length=m) (hz:Byte zs):TxO w B v m:=⟨zs,h,hl,hz⟩
theorem TxO.lower {w:World} {B B':Nat} {v:Value} {m:Nat} (h:TxO w B v m) (hB:B'≤B):TxO w B' v m:=by obtain⟨zs,h1,h2,h3⟩:=h;exact⟨zs,h1.monoE hB,h2,h3⟩
theorem TxO.below {w w':World} {B:Nat} {v:Value} {m:Nat} (h:TxO w B v m) (hb:Below w.heap.size w w'):TxO w' B v m:=by obtain⟨zs,h1,h2,h3⟩:=h;exact⟨zs,h1.keepE (fun k _ hk=>hb.block k hk),h2,h3⟩
theorem At.cutE {w:World} {g n:Nat} {zs:List Int} (h:At .u8 w (some ⟨g,0,none⟩) zs) (m:Nat):At .u8 w (some ⟨g,0,none⟩) (zs.take m):=by
 rcases h with h|⟨b,off,e,hb,hc⟩
 ·left;rw[h];simp
 ·cases e;refine .inr ⟨g,0,rfl,hb,fun i hi=>?_⟩;have hi':i<m∧i<zs.length:=by simp at hi;omega
  rw[hc i hi'.2];simp[hi'.1,hi'.2]
theorem PtW.feE {w:World} {G g:Nat} {a:Option Addr} {n c:Nat} {s1 s2 s3:Value} {x:Int} (h:PtW w G #[.slice a n c,s1,s2,s3]) (f:FeA w (some ⟨g,0,none⟩) x):g≠G:=by
 intro e;subst e;obtain⟨zs,h1,h2,_⟩:=f;obtain⟨b,o,e,_,hc⟩:=h1.get (by have:=h2.1;omega);cases e;have c0:=hc 0 (by have:=h2.1;omega);rw[Nat.zero_add,h.c0] at c0;cases c0
set_option maxHeartbeats 2000000 in
theorem base_any (w:World):Calls Tryz.prog 38 #[] w (fun e w'=>∃ v,e=.returned v∧PtV w' v (ptQ bB)∧Below w.heap.size w w'):=by
 have HR0:=hdI <| PtW.new w
 have HB0:=hid_ofE ((Below.refl w.heap.size w).alloc (Nat.le_refl _) (.cells #[.slice none 0 0,.slice none 0 0,.slice none 0 0,.slice none 0 0] 79));have hs0:w.heap.size<(w.alloc (.cells #[.slice none 0 0,.slice none 0 0,.slice none 0 0,.slice none 0 0] 79)).heap.size:=by simp
 go_enter Tryz.func38,Tryz.ntmps38;go_wp2_with fail;generalize w.alloc (.cells #[.slice none 0 0,.slice none 0 0,.slice none 0 0,.slice none 0 0] 79)=w0 at *;refine(sbas_any _).mono ?_;rintro e w1 ⟨v1,bs1,rfl,O1,b1,l1,x1,B1⟩;obtain rfl:bs1=bB:=bB_of b1 l1 x1;obtain⟨g1,c1,rfl,hg1,hg1',A1⟩:=O1.at2;rw[bB_len];have HA1:=hid_ofE A1;have HR1:=hid_ofE (HR0.out.below B1 hs0);have HB1:=hdI <| HB0.out.trans (B1.mono HB0.out.size)
 clear O1 A1 B1 HR0 HB0;have hs1:=HR1.out.lt;go_wp2_with fail;refine(d_any _).mono ?_;rintro e w2 ⟨g2,c2,rfl,k2,l2,hf,B2⟩;have HA2:=HA1.out.below B2;have HR2:=hid_ofE (HR1.out.below B2 hs1);have HB2:=hdI <| HB1.out.trans (B2.mono HB1.out.size)
 clear HA1 HR1 HB1 B2;have hs2:=HR2.out.lt;go_wp2_with fail;refine(decodeS_any _ _ 32 c1 c2 bB mdD _ bB_len (by decide) HA2 bB_byte hf).mono ?_;rintro e w3 ⟨s1,s2,s3,s4,rfl,B3,hone,hok⟩;obtain⟨x1,i1,x2,i2,x3,i3,x4,i4,rfl,rfl,rfl,rfl,f1,f2,f3,f4⟩:=hok bB_ok;have HR3:=hid_ofE (HR2.out.below B3 hs2);have HB3:=hdI <| HB2.out.trans (B3.mono HB2.out.size)
 have HF3:=hid_ofE (And.intro f1 (And.intro f2 (And.intro f3 f4)));have hs3:=HR3.out.lt;have HPN:=hdI <| PtW.new w3
 clear HA2 hf HR2 HB2 B3 hone hok f1 f2 f3 f4;go_wp2_with (first
  |(refine wpList_storePt rfl (.tmp 2) (.tmp 8) rfl w3.heap.size _ _ _ _ _ rfl rfl rfl rfl rfl rfl rfl HPN.out ?_)
  |fail)
 intro w4 hp4 hw4;have b34:=(below_new3 _ _).trans (hw4.below (Nat.le_refl _));have HB4:=hdI <| HB3.out.trans (b34.mono HB3.out.size)
 have HR4:=hid_ofE (HR3.out.below b34 hs3);have HP4:=hid_ofE hp4;have HF4:Hid (FeA w4 (some ⟨x1,0,none⟩) (mX bB mdD)∧FeA w4 (some ⟨x2,0,none⟩) (mY bB)∧FeA w4 (some ⟨x3,0,none⟩) (1%fp)∧FeA w4 (some ⟨x4,0,none⟩) (mX bB mdD*mY bB%fp)):=by
  obtain⟨f1,f2,f3,f4⟩:=HF3.out;exact⟨f1.below b34,f2.below b34,f3.below b34,f4.below b34⟩
 clear HF3 HR3 HB3 HPN hp4 hw4 b34;generalize w3.heap.size=Ga at *;go_wp2_with (first
  |(refine wpList_load_row rfl 79 (.tmp 2) rfl Ga rfl 79 _ (0,0) _ HP4.out Tryz.underlying79 rfl Tryz.sizePt ?_)
  |(refine wpList_storePt rfl (.tmp 0) (.tmp 9) rfl w.heap.size _ _ _ _ _ rfl rfl rfl rfl rfl rfl rfl HR4.out ?_)
  |fail)
 intro w5 hp5 hw5;have HF:Hid (∃ v,Ending.returned (.agg #[.slice (some ⟨x1,0,none⟩) 16 i1,.slice (some ⟨x2,0,none⟩) 16 i2,.slice (some ⟨x3,0,none⟩) 16 i3,.slice (some ⟨x4,0,none⟩) 16 i4])=.returned v∧PtV w5 v (ptQ bB)∧Below w.heap.size w w5):=by
  obtain⟨f1,f2,f3,f4⟩:=HF4.out;refine⟨_,rfl,PtV.mk (f1.wr hw5 (HR4.out.feE f1)) (f2.wr hw5 (HR4.out.feE f2)) (f3.wr hw5 (HR4.out.feE f3)) (f4.wr hw5 (HR4.out.feE f4)),HB4.out.trans (hw5.below (Nat.le_refl _))⟩
 have HP5:=hid_ofE hp5;clear hp5 hw5 HR4 HP4 HF4 HB4;go_wp2;exact bodyPost_ret (v:=.agg #[.slice (some ⟨x1,0,none⟩) 16 i1,.slice (some ⟨x2,0,none⟩) 16 i2,.slice (some ⟨x3,0,none⟩) 16 i3,.slice (some ⟨x4,0,none⟩) 16 i4]) (results_cell_row rfl _ _ w.heap.size 79 _ (0,0) _ rfl HP5.out Tryz.underlying79 rfl Tryz.sizePt) rfl HF.out
set_option maxRecDepth 100000 in
set_option maxHeartbeats 4000000 in
theorem pubO_any (x:Int) (w:World) (hx0:0≤x) (hx1:x≤1000):Calls Tryz.prog 16 #[.int .i64 x] w (fun e w'=>∃ v,e=.returned v∧TxO w' w.heap.size v 32∧Below w.heap.size w w'):=by
 go_enter Tryz.func16,Tryz.ntmps16;go_wp2_with fail;refine wp_region_any (by kernel_rfl) ?_;refine wpAny_slotsU (fun _ a b=>Below a.heap.size a b) (frame:=(fun (a b:Value)=>fun (t:Nat→Value)=>({ tmps:=List.toArray [a,b,t 7,t 0,t 1,t 2,t 3,t 4,t 5,t 6],defers:=[] }:Act)) _ _)
  (Ext:=fun L u w'=>ApX w [] L u w') (Good:=fun i L w' v=>if i=0 then v=.int .i64 x else if i=1 then TxE w' v 32 else if i=2 then TxE w' v 2 else if i=3 then PtV w' v (ptQ bB) else if i=4 then FdV w' v mdD else if i=5 then PtS w' v else if i=6 then TxO w' w.heap.size v 32 else if i=7 then TxO w' w.heap.size v 32 else True) ?hstab (by kernel_rfl) ?hop ?hdone _ _ ((fun (x0 x1 x2 x3 x4 x5 x6 x7:Value)=>fun (i:Nat)=>if i=0 then x0 else if i=1 then x1 else if i=2 then x2 else if i=3 then x3 else if i=4 then x4 else if i=5 then x5 else if i=6 then x6 else if i=7 then x7 else undef) _ _ _ _ _ _ _ _) _ (by simp) ?ext ?start (by simp)
 case start=>intro i hi h;exact absurd h (by rw[Array.getD_eq_getD_getElem?,Array.getElem?_replicate];split<;>simp)
 case ext=>exact(ApX.start w [] _ _ (fun i=>by rw[Array.getD_eq_getD_getElem?,Array.getElem?_replicate];split<;>rfl)).drew
 case hstab=>
  intro j L w9 w' i v hM _ _ h;by_cases h1:j=1
  ·subst h1;simp at h ⊢;exact h.below hM
  by_cases h2:j=2
  ·subst h2;simp at h ⊢;exact h.below hM
  by_cases h3:j=3
  ·subst h3;simp at h ⊢;exact h.below hM
  by_cases h4:j=4
  ·subst h4;simp at h ⊢;exact h.below hM
  by_cases h5:j=5
  ·subst h5;simp at h ⊢;exact h.below hM
  by_cases h6:j=6
  ·subst h6;simp at h ⊢;exact h.below hM
  by_cases h7:j=7
  ·subst h7;simp at h ⊢;exact h.below hM
  simp only[if_neg h1,if_neg h2,if_neg h3,if_neg h4,if_neg h5,if_neg h6,if_neg h7] at h ⊢;exact h
 case hop=>
  intro i o L t w' ho hLi hx hdep K hK;have hi:i<8:=(Array.getElem?_eq_some_iff.1 ho).1;obtain rfl|rfl|rfl|rfl|rfl|rfl|rfl|rfl:i=0∨i=1∨i=2∨i=3∨i=4∨i=5∨i=6∨i=7:=by omega
  all_goals(simp at ho;subst ho)
  ·clear hdep;have hK':=hK w' (.int .i64 x) (by simp) (hx.step 0 _ (Below.refl _ _) (fun h=>absurd h (by decide))) (Below.refl _ _);clear hK;rw[if_pos (by rfl)];go_simp;simpa[upd] using hK'
  ·have d0:t 0=.int .i64 x:=by simpa using(hdep ⟨0,.data⟩ (by simp) rfl).2
   clear hdep;have A:=scOf_any x w' hx0 hx1;have hK':∀ ww v,TxE ww v 32→Below w'.heap.size w' ww→K _ ww:=fun ww v hv hb=>hK ww v (by simpa using hv) (hx.step 1 v hb (fun h=>absurd h (by decide))) hb
   clear hK;rw[if_pos (by rfl)];go_simp;try simp only[d0]
   refine A.mono ?_;rintro e w9 ⟨v9,zs,rfl,o9,b9,l9,_,hb9⟩;have hK2:=hK' w9 v9 (TxE.of_own o9 l9 b9) hb9;clear hK' A o9 b9 l9 hb9;go_simp;simpa[upd,d0] using hK2
  ·have f1:TxE w' (t 1) 32:=by simpa using(hdep ⟨1,.data⟩ (by simp) rfl).2
   clear hdep;refine Exists.elim f1 fun gg hh=>?_
   obtain⟨cc,zs,d1,h1,h2,h3,h4⟩:=hh;have hcc:2≤cc:=by omega
   have hcc':(2:Int)≤(cc:Int):=by omega
   have hK':=hK w' (.slice (some ⟨gg,0,none⟩) 2 cc) (by simpa using⟨gg,cc,zs.take 2,rfl,hcc,by simp;omega,fun v hv=>h3 v (List.mem_of_mem_take hv),h4.cutE (n:=0) 2⟩) (hx.step 2 _ (Below.refl _ _) (fun h=>absurd h (by decide))) (Below.refl _ _);clear hK h4 h3;rw[if_pos (by rfl)];go_simp;simpa[upd,d1,hcc'] using hK'
  ·clear hdep;have A:=base_any w';have hK':∀ ww v,PtV ww v (ptQ bB)→Below w'.heap.size w' ww→K _ ww:=fun ww v hv hb=>hK ww v (by simpa using hv) (hx.step 3 v hb (fun h=>absurd h (by decide))) hb
   clear hK;rw[if_pos (by rfl)];go_simp;try simp only[]
   refine A.mono ?_;rintro e w9 ⟨v9,rfl,p9,hb9⟩;have hK2:=hK' w9 v9 p9 hb9;clear hK' A p9 hb9;go_simp;simpa[upd] using hK2
  ·clear hdep;have A:=d_any w';have hK':∀ ww v,FdV ww v mdD→Below w'.heap.size w' ww→K _ ww:=fun ww v hv hb=>hK ww v (by simpa using hv) (hx.step 4 v hb (fun h=>absurd h (by decide))) hb
   clear hK;rw[if_pos (by rfl)];go_simp;try simp only[]
   refine A.mono ?_;rintro e w9 ⟨g9,c9,rfl,_,_,q9,hb9⟩;have hK2:=hK' w9 (.slice (some ⟨g9,0,none⟩) 16 c9) ⟨g9,c9,rfl,q9⟩ hb9;clear hK' A q9 hb9;go_simp;simpa[upd] using hK2
  ·have f2:TxE w' (t 2) 2:=by simpa using(hdep ⟨2,.data⟩ (by simp) rfl).2
   have f3:PtV w' (t 3) (ptQ bB):=by simpa using(hdep ⟨3,.data⟩ (by simp) rfl).2
   have f4:FdV w' (t 4) mdD:=by simpa using(hdep ⟨4,.data⟩ (by simp) rfl).2
   clear hdep;refine Exists.elim f2 fun gg hh=>?_
   obtain⟨cc,zs,d2,_,h2,h3,h4⟩:=hh;refine Exists.elim f3 fun q1 hh'=>?_
   obtain⟨e1,q2,e2,q3,e3,q4,e4,d3,y1,y2,y3,y4⟩:=hh';refine Exists.elim f4 fun gd hh''=>?_
   obtain⟨cd,d4,yd⟩:=hh'';have A:=ltimes2_any (some ⟨gg,0,none⟩) cc zs q1 q2 q3 q4 gd e1 e2 e3 e4 cd (ptQ bB) w' h2 h3 h4 y1 y2 y3 y4 yd;have hK':∀ ww v,PtS ww v→Below w'.heap.size w' ww→K _ ww:=fun ww v hv hb=>hK ww v (by simpa using hv) (hx.step 5 v hb (fun h=>absurd h (by decide))) hb
   clear hK h4 y1 y2 y3 y4 yd;rw[if_pos (by rfl)];go_simp;try simp only[d2,d3,d4]
   refine A.mono ?_;rintro e w9 ⟨a1,k1,a2,k2,a3,k3,a4,k4,rfl,z1,z2,z3,z4,hb9⟩;have hK2:=hK' w9 _ ⟨_,a1,k1,a2,k2,a3,k3,a4,k4,rfl,z1,z2,z3,z4⟩ hb9;clear hK' A z1 z2 z3 z4 hb9;go_simp;simpa[upd,d2,d3,d4] using hK2
  ·have f5:PtS w' (t 5):=by simpa using(hdep ⟨5,.data⟩ (by simp) rfl).2
   clear hdep;refine Exists.elim f5 fun QQ hh=>?_
   obtain⟨q1,e1,q2,e2,q3,e3,q4,e4,d5,y1,y2,y3,y4⟩:=hh;have A:=code_any (some ⟨q1,0,none⟩) (some ⟨q2,0,none⟩) (some ⟨q3,0,none⟩) (some ⟨q4,0,none⟩) e1 e2 e3 e4 _ _ _ w' y1 y2 y3;have hK':∀ ww v,TxO ww w.heap.size v 32→Below w'.heap.size w' ww→K _ ww:=fun ww v hv hb=>hK ww v (by simpa using hv) (hx.step 6 v hb (fun h=>absurd h (by decide))) hb
   clear hK y1 y2 y3 y4;rw[if_pos (by rfl)];go_simp;try simp only[d5]
   refine A.mono ?_;rintro e w9 ⟨v9,bx,rfl,o9,hy,hl,hv,hb9⟩;have hK2:=hK' w9 v9 (TxO.of_own (o9.monoE hx.below.size) hl hy) hb9;clear hK' A o9 hy hl hv hb9;go_simp;simpa[upd,d5] using hK2
  ·have f6:TxO w' w.heap.size (t 6) 32:=by simpa using(hdep ⟨6,.data⟩ (by simp) rfl).2
   clear hdep;have hK':=hK w' (t 6) (by simpa using f6) (hx.step 7 _ (Below.refl _ _) (fun h=>absurd h (by decide))) (Below.refl _ _);clear hK;rw[if_pos (by rfl)];go_simp;simpa[upd] using hK'
 case hdone=>
  intro L t w9 hx hg;have h7:TxO w9 w.heap.size (t 7) 32:=by simpa using hg 7 (by decide)
  have HF:Hid (TxO w9 w.heap.size (t 7) 32∧Below w.heap.size w w9):=⟨h7,hx.below⟩
  clear hg hx h7;go_wp2
  go_ret
  exact⟨_,rfl,HF.out.1,HF.out.2⟩
set_option maxRecDepth 100000 in
set_option maxHeartbeats 2000000 in
theorem resp_any (r a:Int) (kb ko kc:Nat) (ks:List Int) (w:World) (hr0:0≤r) (hr1:r≤1000) (ha0:0≤a) (ha1:a≤1000) (hl:ks.length=32) (hz:Byte ks) (hb:kb<w.heap.size)
  (hc:∀ i,i<ks.length→w.cell? ⟨kb,ko+i,none⟩=some (.int .u8 (ks.getD i 0))) :
  Calls Tryz.prog 89 #[.int .i64 r,.slice (some ⟨kb,ko,none⟩) 32 kc,.int .i64 a] w (fun e w'=>∃ v,e=.returned v∧TxO w' w.heap.size v 32∧Below w.heap.size w w'):=by
 have HC:=hid_ofE hc;have HZ:=hid_ofE hz;clear hc hz;go_enter Tryz.func89,Tryz.ntmps89;go_wp2
 go_loopw [7,8,9] (fun v c i wr=>∃(q:Nat) (zs:List Int) (cy:Int),q≤40∧i=.int .i64 q∧c=.int .i64 cy∧0≤cy∧cy≤1000000∧zs.length=q∧Byte zs∧Own wr w.heap.size v zs∧Below w.heap.size w wr) (fun _ _ i _=>40-(intOf i).toNat)
 case atStart=>exact⟨0,[],r,by omega,rfl,rfl,hr0,by omega,rfl,(fun v hv=>by cases hv),Own.empty _ _ (Nat.le_refl _),(Below.refl _ _).alloc (Nat.le_refl _) _⟩
 case round=>
  obtain⟨q,zs,cy,hq,rfl,rfl,c0,c1,zl,zb,hown,hbel⟩:=hrel;have hsz:=hbel.size;by_cases hlt:q<40
  ·have hlt':(q:Int)<40:=by omega
   have HO:=hid_ofE hown;have HB:=hid_ofE hbel;clear hown hbel;by_cases h32:q<32
   ·have h32':(q:Int)<32:=by omega
    have hce:wr.cell? ⟨kb,ko+q,none⟩=some (.int .u8 (ks.getD q 0)):=by rw[HB.out.cell (p:=⟨kb,ko+q,none⟩) hb];exact HC.out q (by omega)
    obtain⟨z0,z1⟩:=getD_byteE HZ.out q;have hm0:0≤ks.getD q 0*a:=Int.mul_nonneg z0 ha0;have hm1:ks.getD q 0*a≤255*1000:=Int.mul_le_mul (by omega) ha1 ha0 (by decide);clear HC HZ;generalize ks.getD q 0=z at *;obtain⟨p,hp⟩:∃ p,z*a=p:=⟨_,rfl⟩
    rw[hp] at hm0 hm1;have e1:wrap64 (z*a)=p:=by rw[hp];unfold wrap64;omega
    clear hp;go_wp2_with (at_builtin;refine wpList_app _ rfl _ _ rfl w.heap.size _ _ rfl (HO.out.alloc _) ⟨wr.heap.size,0,none⟩ 1 1 [(cy+p)%256] rfl rfl ?c1 ?c2 ?c3 ?_);all_goals first|(intro j hj;obtain rfl:j=0:=by omega
                                                                                                                                                                                          simp[Addr.add];done)|skip
    case c2=>simp;omega
    case c3=>first|omega|(rw[World.size_alloc];omega)
    intro v' w2 hown2 hb2 _;have HO2:=hid_ofE hown2;have HB2:Hid (Below w.heap.size w w2):=(HB.out.alloc hsz _).trans hb2;clear hown2 hb2 HO HB;go_wp2;go_roundw
    case rel=>exact⟨q+1,zs++[(cy+p)%256],(cy+p)/256,by omega,by go_num,by go_num,by omega,by omega,by simp;omega,byte_app1 zb (by omega),HO2.out,HB2.out⟩
    case measure=>simp[intOf];omega
   ·have h32':¬ (q:Int)<32:=by omega
    clear HC HZ;go_wp2_with (at_builtin;refine wpList_app _ rfl _ _ rfl w.heap.size _ _ rfl (HO.out.alloc _) ⟨wr.heap.size,0,none⟩ 1 1 [cy%256] rfl rfl ?d1 ?d2 ?d3 ?_);all_goals first|(intro j hj;obtain rfl:j=0:=by omega
                                                                                                                                                                                         simp[Addr.add];done)|skip
    case d2=>first|omega|(simp;omega)
    case d3=>first|omega|(rw[World.size_alloc];omega)
    intro v' w2 hown2 hb2 _;have HO2:=hid_ofE hown2;have HB2:Hid (Below w.heap.size w w2):=(HB.out.alloc hsz _).trans hb2;clear hown2 hb2 HO HB;go_wp2;go_roundw
    case rel=>exact⟨q+1,zs++[cy%256],cy/256,by omega,by go_num,by go_num,by omega,by omega,by simp;omega,byte_app1 zb (by omega),HO2.out,HB2.out⟩
    case measure=>simp[intOf];omega
  ·have hq40:q=40:=by omega
   subst hq40;clear HC HZ;obtain⟨g,c,rfl,_,_,hA⟩:=hown.at2;rw[zl];have HR:=hid_ofE (sred_any (some ⟨g,0,none⟩) 40 c zs wr zl (by decide) hA zb);have HB:=hid_ofE hbel;clear hA hown hbel;go_wp2_with fail;refine HR.out.mono ?_;rintro e w2 ⟨v2,rs,rfl,O2,b2,l2,_,B2⟩;have HF:=hid_ofE (And.intro (TxO.of_own (O2.monoE hsz) l2 b2) (HB.out.trans (B2.mono hsz)));clear HR HB O2 B2;go_wp2
   go_ret
   exact⟨_,rfl,HF.out.1,HF.out.2⟩
theorem shaL_lenE (zs:List Int):(shaL zs).length=64:=by
 unfold shaL;rw[txtW_len,(finL_w8 _ _ _).1]
theorem byte_app {xs ys:List Int} (hx:Byte xs) (hy:Byte ys):Byte (xs++ys):=fun z hz=>by
 rcases List.mem_append.1 hz with h|h
 ·exact hx z h
 ·exact hy z h
theorem Part.of_own {w:World} {B:Nat} {v:Value} {zs:List Int} (h:Own w B v zs):Part w v zs:=by
 obtain⟨g,c,rfl,hA,_⟩:=PtA.of_own h;exact⟨g,0,c,rfl,hA.lt,hA.c⟩
theorem cat3 (w:World) (v1 v2 v3:Value) (z1 z2 z3:List Int) (h1:Part w v1 z1) (h2:Part w v2 z2) (h3:Part w v3 z3) (hl:z1.length+z2.length+z3.length≤100000) :
  Calls Tryz.prog 63 #[.slice (some ⟨w.heap.size,0,none⟩) 3 3] (w.alloc (.cells #[v1,v2,v3] 22)) fun e w'=>∃ v,e=.returned v∧Own w' w.heap.size v (z1++z2++z3)∧Below w.heap.size w w':=by
 have hal:Below w.heap.size w (w.alloc (.cells #[v1,v2,v3] 22)):=below_new3 _ _;have hfl:[z1,z2,z3].flatten=z1++z2++z3:=by simp
 have C:=cat_any w.heap.size 3 3 [v1,v2,v3] [z1,z2,z3] (w.alloc (.cells #[v1,v2,v3] 22)) rfl (by simp)
  (fun i hi=>by
   rw[cell_of_row _ _ i _ _ _ (heap_alloc_new w _)]
   match i,hi with
   |0,_=>rfl
   |1,_=>rfl
   |2,_=>rfl)
  (fun i hi=>by
   match i,hi with
   |0,_=>exact h1.below hal
   |1,_=>exact h2.below hal
   |2,_=>exact h3.below hal)
  (by rw[hfl,List.length_append,List.length_append];omega) (by decide)
 rw[hfl] at C;refine C.mono ?_;rintro e w' ⟨v,rfl,O,B⟩;exact⟨v,rfl,O.monoE hal.size,hal.trans (B.mono hal.size)⟩
set_option maxRecDepth 100000 in
set_option maxHeartbeats 2000000 in
theorem sign_any (a r:Int) (bm om nm cm:Nat) (ms:List Int) (w:World) (ha0:0≤a) (ha1:a≤1000) (hr0:0≤r) (hr1:r≤1000) (hm:PtA w bm om ms) (hz:Byte ms) (hml:ms.length=nm) (hl:nm≤1000) :
  Calls Tryz.prog 66 #[.int .i64 a,.int .i64 r,.slice (some ⟨bm,om,none⟩) nm cm] w (fun e w'=>∃ v,e=.returned v∧TxO w' w.heap.size v 64∧Below w.heap.size w w'):=by
 have HM:=hid_ofE hm;have HZ:=hid_ofE hz;clear hm hz;go_enter Tryz.func66,Tryz.ntmps66;go_wp2_with fail;refine(pubO_any r w hr0 hr1).mono ?_;rintro e w1 ⟨v1,rfl,⟨z1,O1,l1,b1⟩,B1⟩;obtain⟨g1,k1,rfl,_,_⟩:=PtA.of_own O1;rw[l1] at O1 ⊢;have HO1:=hid_ofE O1;have HB1:=hid_ofE B1;clear O1 B1;go_wp2_with fail;refine(pubO_any a w1 ha0 ha1).mono ?_;rintro e w2 ⟨v2,rfl,⟨z2,O2,l2,b2⟩,B2⟩;obtain⟨g2,k2,rfl,_,_⟩:=PtA.of_own O2;rw[l2] at O2 ⊢;have HO2:=hid_ofE (And.intro (HO1.out.keepE (fun k _ hk=>B2.block k hk)) O2);have HB2:=hid_ofE (HB1.out.trans (B2.mono HB1.out.size));clear O2 B2 HO1 HB1;have C:=hid_ofE (cat3 w2 _ _ _ z1 z2 ms (Part.of_own HO2.out.1) (Part.of_own HO2.out.2) ((HM.out.below HB2.out).part nm cm hml) (by omega));go_wp2_with fail;refine C.out.mono ?_;rintro e w3 ⟨v3,rfl,O3,B3⟩;obtain⟨g3,c3,rfl,hA3,hc3⟩:=PtA.of_own O3;have HBY:=hid_ofE (byte_app (byte_app b1 b2) HZ.out);have hlen:(z1++z2++ms).length=64+nm:=by rw[List.length_append,List.length_append,l1,l2,hml]
 have HO3:=hid_ofE (HO2.out.1.keepE (fun k _ hk=>B3.block k hk));have HB3:=hid_ofE (HB2.out.trans (B3.mono HB2.out.size));have H:=hid_ofE (shaS_any g3 0 c3 (64+nm) (z1++z2++ms) w3 hlen hA3.lt hA3.c HBY.out (by omega));rw[hlen];have HSL:=hid_ofE (And.intro (shaL_lenE (z1++z2++ms)) (show Byte (shaL (z1++z2++ms)) by unfold shaL;exact txtW_byte _));clear C O3 B3 hA3 hc3 HBY HO2 HB2 HM hlen;generalize shaL (z1++z2++ms)=hs at *;go_wp2_with fail;refine H.out.mono ?_;rintro e w4 ⟨v4,rfl,O4,B4⟩;obtain⟨g4,c4,rfl,hA4,hc4⟩:=PtA.of_own O4;have HO4:=hid_ofE (HO3.out.keepE (fun k _ hk=>B4.block k hk));have HB4:=hid_ofE (HB3.out.trans (B4.mono HB3.out.size));have R:=hid_ofE (sred_any (some ⟨g4,0,none⟩) 64 c4 hs w4 HSL.out.1 (by decide) hA4.at_ HSL.out.2);rw[HSL.out.1];clear H O4 B4 hA4 hc4 HO3 HB3;go_wp2_with fail;refine R.out.mono ?_;rintro e w5 ⟨v5,rs,rfl,O5,b5,l5,_,B5⟩;obtain⟨g5,c5,rfl,hA5,hc5⟩:=PtA.of_own O5;rw[l5];have HO5:=hid_ofE (HO4.out.keepE (fun k _ hk=>B5.block k hk));have HB5:=hid_ofE (HB4.out.trans (B5.mono HB4.out.size));have P:=hid_ofE (resp_any r a g5 0 c5 rs w5 hr0 hr1 ha0 ha1 l5 b5 hA5.lt hA5.c);clear R O5 B5 hA5 hc5 HO4 HB4;go_wp2_with fail;refine P.out.mono ?_;rintro e w6 ⟨v6,rfl,⟨z6,O6,l6,b6⟩,B6⟩;obtain⟨g6,c6,rfl,hA6,hc6⟩:=PtA.of_own O6;rw[l6];have HO6:=hid_ofE (HO5.out.keepE (fun k _ hk=>B6.block k hk));have HB6:=hid_ofE (HB5.out.trans (B6.mono HB5.out.size));have HA6:=hid_ofE hA6;clear P O6 B6 hA6 hc6 HO5 HB5;go_wp2_with (at_builtin;refine wpList_app _ rfl _ _ rfl w.heap.size _ _ rfl HO6.out ⟨g6,0,none⟩ 32 c6 z6 rfl l6 ?c1 ?c2 HB6.out.size ?_)
 case c1=>intro j hj;rw[Addr.add_lit];exact HA6.out.c j (by omega)
 case c2=>omega
 intro v7 w7 O7 B7 _;have HF:=hid_ofE (And.intro (TxO.of_own O7 (by rw[List.length_append,l1,l6]:(z1++z6).length=64) (byte_app b1 b6)) (HB6.out.trans B7));clear O7 B7 HO6 HB6 HA6;go_wp2
 go_ret
 exact⟨_,rfl,HF.out.1,HF.out.2⟩
theorem cat2 (w:World) (v1 v2:Value) (z1 z2:List Int) (h1:Part w v1 z1) (h2:Part w v2 z2) (hl:z1.length+z2.length≤100000) :
  Calls Tryz.prog 63 #[.slice (some ⟨w.heap.size,0,none⟩) 2 2] (w.alloc (.cells #[v1,v2] 22)) fun e w'=>∃ v,e=.returned v∧Own w' w.heap.size v (z1++z2)∧Below w.heap.size w w':=by
 have hal:Below w.heap.size w (w.alloc (.cells #[v1,v2] 22)):=below_new _ _;have hfl:[z1,z2].flatten=z1++z2:=by simp
 have C:=cat_any w.heap.size 2 2 [v1,v2] [z1,z2] (w.alloc (.cells #[v1,v2] 22)) rfl (by simp)
  (fun i hi=>by
   rw[cell_of_row _ _ i _ _ _ (heap_alloc_new w _)]
   match i,hi with
   |0,_=>rfl
   |1,_=>rfl)
  (fun i hi=>by
   match i,hi with
   |0,_=>exact h1.below hal
   |1,_=>exact h2.below hal)
  (by rw[hfl,List.length_append];omega) (by decide)
 rw[hfl] at C;refine C.mono ?_;rintro e w' ⟨v,rfl,O,B⟩;exact⟨v,rfl,O.monoE hal.size,hal.trans (B.mono hal.size)⟩
set_option maxRecDepth 100000 in
set_option maxHeartbeats 2000000 in
theorem ticket_any (a r s x:Int) (w:World) (ha0:0≤a) (ha1:a≤1000) (hr0:0≤r) (hr1:r≤1000) (hs0:0≤s) (hs1:s<65536) (hx0:0≤x) (hx1:x<4294967296) :
  Calls Tryz.prog 40 #[.int .i64 a,.int .i64 r,.int .i64 s,.int .i64 x] w (fun e w'=>∃ v,e=.returned v∧TxO w' w.heap.size v 72∧Below w.heap.size w w'):=by
 obtain⟨wf,ewf⟩:∃ wf,wf=(w.alloc (.cells #[.int .u8 84,.int .u8 49] 5)).freeze ⟨w.heap.size,2,none⟩ 1:=⟨_,rfl⟩
 have hcv:(convert 22 22 (.slice (some ⟨w.heap.size,0,none⟩) 2 2)).run Tryz.prog (w.alloc (.cells #[.int .u8 84,.int .u8 49] 5))=.ok (.slice (some ⟨w.heap.size,0,none⟩) 2 2) wf:=by
  rw[ewf];exact run_convert_const _ w.heap.size _ 2 2 (0,0) (heap_alloc_new w _)
 have hfs:wf.heap.size=w.heap.size+1:=by rw[ewf,freeze_size];simp
 have HF:=hdI (show Below w.heap.size w wf∧Part wf (.slice (some ⟨w.heap.size,0,none⟩) 2 2) [84,49] from by
  rw[ewf];exact⟨(below_new _ _).trans (freeze_below _ _ 2 _ (Nat.le_refl _)),(part_new w #[.int .u8 84,.int .u8 49] [84,49] _ rfl 2 rfl 2).mono (freeze_mono _ _ _)⟩)
 clear ewf;go_enter Tryz.func40,Tryz.ntmps40;go_wp2_with fail;refine(four_any x _ ⟨hx0,hx1⟩).mono ?_;rintro e w2 ⟨rfl,h2⟩;have b1:=below_new wf (.cells #[.int .u8 (s%256),.int .u8 (s/256)] 5);have b2:=below_new (wf.alloc (.cells #[.int .u8 (s%256),.int .u8 (s/256)] 5)) (.cells #[.int .u8 (x%256),.int .u8 (x/256%256),.int .u8 (x/65536%256),.int .u8 (x/16777216)] 5);rw[←h2] at b2;have p2:=part_new wf #[.int .u8 (s%256),.int .u8 (s/256)] [s%256,s/256] 5 rfl 2 rfl 2;have p3:=part_new (wf.alloc (.cells #[.int .u8 (s%256),.int .u8 (s/256)] 5)) #[.int .u8 (x%256),.int .u8 (x/256%256),.int .u8 (x/65536%256),.int .u8 (x/16777216)] (four x) 5 rfl 4 rfl 4;rw[←h2] at p3;rw[hfs] at p2;rw[World.size_alloc,hfs] at p3 ⊢;have C:=hdI (cat3 w2 _ _ _ [84,49] [s%256,s/256] (four x) ((HF.out.2.below b1).below b2) (p2.below b2) p3 (by simp[four]));have HB:=hdI (HF.out.1.trans ((b1.mono (by rw[hfs];omega)).trans (b2.mono (by simp;omega))));have HY:=hdI (show Byte ([84,49]++[s%256,s/256]++four x) from byte_app (byte_app (by intro z hz;simp at hz;omega) (by intro z hz;simp at hz;omega)) (four_byte x ⟨hx0,hx1⟩));have HL:=hdI (show([84,49]++[s%256,s/256]++four x).length=8 from rfl);clear HF b1 b2 p2 p3 h2 hcv hfs;generalize [84,49]++[s%256,s/256]++four x=hs at *;go_wp2_with fail;refine C.out.mono ?_;rintro e w3 ⟨v3,rfl,O3,B3⟩;obtain⟨g3,c3,rfl,hA3,hc3⟩:=PtA.of_own O3;rw[HL.out] at O3 hc3 ⊢;have HO3:=hdI (O3.monoE HB.out.size);have HB3:=hdI (HB.out.trans (B3.mono HB.out.size));have HA3:=hdI hA3;clear C O3 B3 HB hA3;by_cases h0:a=0
 ·subst h0;go_wp2_with fail;refine(zeros_any 64 w3 (by decide) (by decide)).mono ?_;rintro e w4 ⟨v4,rfl,O4,B4⟩;obtain⟨g4,c4,rfl⟩:=O4.2;have hl4:(List.replicate (64:Int).toNat (0:Int)).length=64:=rfl;rw[hl4] at O4 ⊢;have C:=hdI (cat2 w4 _ _ hs _ (Part.of_own (HO3.out.keepE (fun k _ hk=>B4.block k hk))) (Part.of_own O4) (by rw[HL.out,hl4];decide));have HB4:=hdI (HB3.out.trans (B4.mono HB3.out.size));clear O4 B4 HO3 HB3 HA3;go_wp2_with fail;refine C.out.mono ?_;rintro e w5 ⟨v5,rfl,O5,B5⟩;have HF:=hdI (And.intro (TxO.of_own (O5.monoE HB4.out.size) (show _=72 by rw[List.length_append,HL.out,hl4]) (byte_app HY.out (fun z hz=>by rw[List.mem_replicate] at hz;omega))) (HB4.out.trans (B5.mono HB4.out.size)));clear O5 B5 C HB4;go_wp2
  go_ret
  exact⟨_,rfl,HF.out.1,HF.out.2⟩
 ·go_wp2_with fail;refine(sign_any a r g3 0 8 c3 hs w3 ha0 ha1 hr0 hr1 HA3.out HY.out HL.out (by decide)).mono ?_;rintro e w4 ⟨v4,rfl,⟨z4,O4,l4,y4⟩,B4⟩;obtain⟨g4,c4,rfl,hA4,hc4⟩:=PtA.of_own O4;rw[l4];have HO4:=hdI (HO3.out.keepE (fun k _ hk=>B4.block k hk));have HB4:=hdI (HB3.out.trans (B4.mono HB3.out.size));have HA4:=hdI hA4;clear O4 B4 hA4 hc4 HO3 HB3 HA3;go_wp2_with (at_builtin;refine wpList_app _ rfl _ _ rfl w.heap.size _ _ rfl HO4.out ⟨g4,0,none⟩ 64 c4 z4 rfl l4 ?c1 ?c2 HB4.out.size ?_)
  case c1=>intro j hj;rw[Addr.add_lit];exact HA4.out.c j (by omega)
  case c2=>rw[HL.out];decide
  intro v7 w7 O7 B7 _;have HF:=hdI (And.intro (TxO.of_own O7 (show _=72 by rw[List.length_append,HL.out,l4]) (byte_app HY.out y4)) (HB4.out.trans B7));clear O7 B7 HO4 HB4 HA4;go_wp2
  go_ret
  exact⟨_,rfl,HF.out.1,HF.out.2⟩
set_option maxHeartbeats 800000 in
theorem lwN_eq (a b:Option Addr) (n c c':Nat) (xs:List Int) (w:World) (hn:xs.length=n) (hN:n≤1048576) (ha:At .i64 w a xs) (hb:At .i64 w b xs) :
  Calls Tryz.prog 27 #[.slice a n c,.slice b n c'] w fun e w'=>e=.returned (.bool true)∧∃ q,w'=w.drewN q:=by
 have h0:((n:Int) != (n:Int))=false:=by simp
 have HL:=hdI hn;clear hn;go_enter Tryz.func27,Tryz.ntmps27;go_wp2
 go_loopw [5] (fun i wr=>∃ k q:Nat,k≤n∧i=.int .i64 k∧wr=w.drewN q) (fun i _=>n-(intOf i).toNat)
 case atStart=>exact⟨0,0,Nat.zero_le _,rfl,rfl⟩
 case round=>
  obtain⟨k,q,hk,rfl,rfl⟩:=hrel;by_cases hlt:k<n
  ·obtain⟨b1,o1,rfl,hb1,hc⟩:=ha.get (by have:=HL.out;omega);obtain⟨b2,o2,rfl,hb2,hc'⟩:=hb.get (by have:=HL.out;omega);have g1:=hc k (by have:=HL.out;omega);have g2:=hc' k (by have:=HL.out;omega);generalize xs.getD k 0=x at *;have hlt':(k:Int)<(n:Int):=by omega
   clear hc hc' ha hb;have hx:(x != x)=false:=by simp
   go_wp2
   go_quiet (fail)
   go_wp2;go_roundw
   case rel=>exact⟨k+1,_,by omega,by go_num,rfl⟩
   case measure=>simp[intOf];omega
  ·go_wp2
   go_ret
   exact⟨rfl,q,rfl⟩
set_option maxHeartbeats 800000 in
theorem lwT_eq (a b:Option Addr) (n c c':Nat) (T:List Int) (w:World) (hn:T.length=n*2) (hN:n≤1048576) (ha:At .i64 w a T) (hb:At .i64 w b T) :
  Calls Tryz.prog 28 #[.slice a n c,.slice b n c'] w fun e w'=>e=.returned (.bool true)∧∃ q,w'=w.drewN q:=by
 have h0:((n:Int) != (n:Int))=false:=by simp
 have HL:=hdI hn;clear hn;go_enter Tryz.func28,Tryz.ntmps28;go_wp2
 go_loopw [5] (fun i wr=>∃ k q:Nat,k≤n∧i=.int .i64 k∧wr=w.drewN q) (fun i _=>n-(intOf i).toNat)
 case atStart=>exact⟨0,0,Nat.zero_le _,rfl,rfl⟩
 case round=>
  obtain⟨k,q,hk,rfl,rfl⟩:=hrel;by_cases hlt:k<n
  ·obtain⟨b1,o1,rfl,hb1,hc⟩:=ha.get (by have:=HL.out;omega);obtain⟨b2,o2,rfl,hb2,hc'⟩:=hb.get (by have:=HL.out;omega);have e0:=hc (k*2) (by have:=HL.out;omega);have e1:=hc (k*2+1) (by have:=HL.out;omega);have f0:=hc' (k*2) (by have:=HL.out;omega);have f1:=hc' (k*2+1) (by have:=HL.out;omega);rw[←Nat.add_assoc] at e1 f1;generalize T.getD (k*2) 0=x0 at *;generalize T.getD (k*2+1) 0=x1 at *;have hlt':(k:Int)<(n:Int):=by omega
   clear hc hc' ha hb;go_wp2
   go_quiet (fail)
   go_wp2;go_roundw
   case rel=>exact⟨k+1,_,by omega,by go_num,rfl⟩
   case measure=>simp[intOf];omega
  ·go_wp2
   go_ret
   exact⟨rfl,q,rfl⟩
set_option maxRecDepth 100000 in
set_option maxHeartbeats 2000000 in
theorem lwS_eq (aD aU aT bD bU bT:Option Addr) (nD cD nU cU nT cT dD dU dT:Nat) (D U T:List Int) (k:Int) (w:World) (hD:D.length=nD) (hU:U.length=nU) (hT:T.length=nT*2) (mD:nD≤1048576) (mU:nU≤1048576) (mT:nT≤1048576)
  (haD:At .i64 w aD D) (haU:At .i64 w aU U) (haT:At .i64 w aT T) (hbD:At .i64 w bD D) (hbU:At .i64 w bU U) (hbT:At .i64 w bT T) :
  Calls Tryz.prog 7 #[.agg #[.slice aD nD cD,.slice aU nU cU,.int .i64 k,.slice aT nT cT],.agg #[.slice bD nD dD,.slice bU nU dU,.int .i64 k,.slice bT nT dT]] w fun e w'=>e=.returned (.bool true)∧Below w.heap.size w w':=by
 have b0:Below w.heap.size w ((w.alloc (.cells #[.slice aD nD cD,.slice aU nU cU,.int .i64 k,.slice aT nT cT] 26)).alloc (.cells #[.slice bD nD dD,.slice bU nU dU,.int .i64 k,.slice bT nT dT] 26)):=((Below.refl _ _).alloc (Nat.le_refl _) _).alloc (by simp) _;have H1:=hdI (fun wz (h:Below w.heap.size w wz)=>lwN_eq aD bD nD cD dD D wz hD mD (haD.below h) (hbD.below h));have H2:=hdI (fun wz (h:Below w.heap.size w wz)=>lwN_eq aU bU nU cU dU U wz hU mU (haU.below h) (hbU.below h));have H3:=hdI (fun wz (h:Below w.heap.size w wz)=>lwT_eq aT bT nT cT dT T wz hT mT (haT.below h) (hbT.below h));have r1:=heap_alloc2_old w (.cells #[.slice aD nD cD,.slice aU nU cU,.int .i64 k,.slice aT nT cT] 26) (.cells #[.slice bD nD dD,.slice bU nU dU,.int .i64 k,.slice bT nT dT] 26);have r2:=heap_alloc2_new w (.cells #[.slice aD nD cD,.slice aU nU cU,.int .i64 k,.slice aT nT cT] 26) (.cells #[.slice bD nD dD,.slice bU nU dU,.int .i64 k,.slice bT nT dT] 26);have HB:=hdI b0;clear hD hU hT mD mU mT haD haU haT hbD hbU hbT b0;go_enter Tryz.func7,Tryz.ntmps7
 go_upto_region 1 with fail
 generalize (w.alloc (.cells #[.slice aD nD cD,.slice aU nU cU,.int .i64 k,.slice aT nT cT] 26)).alloc (.cells #[.slice bD nD dD,.slice bU nU dU,.int .i64 k,.slice bT nT dT] 26)=w0 at *;have x0:w0.cell? ⟨w.heap.size,0,none⟩=some (.slice aD nD cD):=cell_of_row _ _ _ _ _ _ r1;have x1:w0.cell? ⟨w.heap.size,1,none⟩=some (.slice aU nU cU):=cell_of_row _ _ _ _ _ _ r1;have x2:w0.cell? ⟨w.heap.size,2,none⟩=some (.int .i64 k):=cell_of_row _ _ _ _ _ _ r1;have x3:w0.cell? ⟨w.heap.size,3,none⟩=some (.slice aT nT cT):=cell_of_row _ _ _ _ _ _ r1;have y0:w0.cell? ⟨w.heap.size+1,0,none⟩=some (.slice bD nD dD):=cell_of_row _ _ _ _ _ _ r2;have y1:w0.cell? ⟨w.heap.size+1,1,none⟩=some (.slice bU nU dU):=cell_of_row _ _ _ _ _ _ r2;have y2:w0.cell? ⟨w.heap.size+1,2,none⟩=some (.int .i64 k):=cell_of_row _ _ _ _ _ _ r2;have y3:w0.cell? ⟨w.heap.size+1,3,none⟩=some (.slice bT nT dT):=cell_of_row _ _ _ _ _ _ r2;clear r1 r2;have hkk:(k == k)=true:=by simp
 go_wp2_with fail;refine(H1.out _ HB.out).mono ?_;rintro e w1 ⟨rfl,q1,rfl⟩;go_wp2_with fail;refine(H2.out _ (belD HB.out _)).mono ?_;rintro e w1 ⟨rfl,q2,rfl⟩;go_wp2_with fail;refine(H3.out _ (belD HB.out _)).mono ?_;rintro e w1 ⟨rfl,q3,rfl⟩;go_wp2
 go_ret
 exact⟨rfl,by first|exact belD HB.out _|exact belD (belD HB.out _) _⟩
set_option maxRecDepth 100000 in
set_option maxHeartbeats 1000000 in
theorem clnI_any (a:Option Addr) (n cap:Nat) (xs:List Int) (w:World) (hn:xs.length=n) (hm:n≤1048576) (ha:At .i64 w a xs) :
  Calls Tryz.prog 46 #[.slice a n cap] w fun e w'=>∃ v,e=.returned v∧IO w.heap.size w' v xs∧Below w.heap.size w w':=by
 have E:=run_nilS 23 2 Tryz.underlying23 w a n cap;cases a with
 |none=>
  have hx:xs=[]:=by rcases ha with h|⟨b,o,e,_⟩;exact h;cases e
  have HP:Hid (IO w.heap.size w (.slice none 0 0) xs):=by
   subst hx
   skip
   exact⟨rfl,.inl ⟨rfl,rfl⟩⟩
  clear hn ha hm hx;go_enter Tryz.func46,Tryz.ntmps46;go_wp2
  go_ret
  exact⟨_,rfl,HP.out,Below.refl _ _⟩
 |some ad=>
  have bb:Below w.heap.size w (w.alloc (.cells #[] 2)):=(Below.refl _ _).alloc (Nat.le_refl _) _;have HA:Hid (At .i64 (w.alloc (.cells #[] 2)) (some ad) xs∧EmS w.heap.size 2 (w.alloc (.cells #[] 2)) (.slice (some ⟨w.heap.size,0,none⟩) 0 0)):=⟨ha.below bb,EmS.new _ w (Nat.le_refl _)⟩
  have HB:=hid_ofV bb;have HN:=hid_ofV (And.intro hn hm);clear hn ha hm bb;go_enter Tryz.func46,Tryz.ntmps46;go_wp2_with (first
   |(refine wpList_plain rfl fun K hK=>wp_appG 23 2 (.int .i64 0) 1 8 Tryz.infoI64 Tryz.underlying23 rfl (by decide) (by decide) _ (.tmp 5) (.tmp 6) rfl w.heap.size _ rfl HA.out.2 (some ad) n cap xs rfl (by rw[HN.out.1,Nat.mul_one]) HA.out.1 HN.out.2 (by simp) fun v' w3 ho hb=>hK _ _ ?_)
   |fail)
  have HF:Hid (IO w.heap.size w3 v' xs∧Below w.heap.size w w3):=⟨by first|exact ho|(unfold IO;rw[HN.out.1];exact ho),HB.out.trans (hb.mono HB.out.size)⟩
  clear ho hb HA HB HN;go_wp2
  go_ret
  exact⟨_,rfl,HF.out.1,HF.out.2⟩
theorem own_fresh {w0 w:World} {tE:TypeId} {k n:Nat} {v:Value} {xs:List Value} (h:w.ownsRow w0.heap.size tE k v n xs):FreshH w0 w v:=by
 intro j hj;rcases h.2 with⟨rfl,_⟩|⟨g,c,cur,rfl,hb,hh,_⟩
 ·rcases hj with⟨a,e,_⟩|⟨cs,e,_⟩<;>cases e
 ·rcases hj with⟨a,e,rfl⟩|⟨cs,e,_⟩
  ·cases e;exact⟨hb,(Array.getElem?_eq_some_iff.1 hh).1⟩
  ·cases e
theorem rowLo {w:World} {lo lo':Nat} {tE:TypeId} {k n:Nat} {v:Value} {xs:List Value} (h:w.ownsRow lo tE k v n xs) (hl:lo'≤lo):w.ownsRow lo' tE k v n xs:=by
 refine⟨h.1,?_⟩;rcases h.2 with h|⟨g,c,cur,e,hb,r⟩
 ·exact .inl h
 ·exact .inr ⟨g,c,cur,e,Nat.le_trans hl hb,r⟩
theorem IO.lo {lo lo':Nat} {w:World} {v:Value} {xs:List Int} (h:IO lo w v xs) (hl:lo'≤lo):IO lo' w v xs:=rowLo h hl
theorem TapO.lo {lo lo' n:Nat} {w:World} {v:Value} {xs:List Int} (h:TapO lo w v xs n) (hl:lo'≤lo):TapO lo' w v xs n:=rowLo h hl
theorem TapO.frm {B:Nat} {w:World} {v:Value} {T:List Int} {m:Nat} (h:TapO B w v T m):∃ a c,v=.slice a m c:=by
 rcases h.2 with⟨rfl,h0⟩|⟨g,c,cur,rfl,_⟩
 ·have:=h.1;rw[h0] at this;simp at this;exact⟨none,0,by rw[show m=0 by omega]⟩
 ·exact⟨_,_,rfl⟩
theorem ap_slice {a a':Option Addr} {n c n' c':Nat} (h:ApVH (.slice a n c) (.slice a' n' c')):Aprt a a':=fun x y e e' h'=>h x.block (.inl ⟨x,e,rfl⟩) (.inl ⟨y,e',h'.symm⟩)
theorem S3.lo {lo lo':Nat} {w:World} {aD aU aT:Option Addr} {nD nU nT:Nat} {D U T:List Int} (h:S3 lo w aD aU aT nD nU nT D U T) (hl:lo'≤lo):S3 lo' w aD aU aT nD nU nT D U T:=
 ⟨h.d,h.u,h.t,h.nd,h.nu,h.nt,h.ld.mono hl (Nat.le_refl _),h.lu.mono hl (Nat.le_refl _),h.lt.mono hl (Nat.le_refl _),h.du,h.dt,h.ut⟩
theorem s3_of {lo:Nat} {w:World} {aD aU aT:Option Addr} {nD cD nU cU nT cT:Nat} {D U T:List Int} (h1:IO lo w (.slice aD nD cD) D) (h2:IO lo w (.slice aU nU cU) U) (h3:TapO lo w (.slice aT nT cT) T nT) (a1:Aprt aD aU) (a2:Aprt aD aT) (a3:Aprt aU aT):S3 lo w aD aU aT nD nU nT D U T:=by
 obtain⟨d1,d2,d3⟩:=h1.sat;obtain⟨u1,u2,u3⟩:=h2.sat;obtain⟨t1,t2,t3⟩:=h3.tapV.sat;exact⟨d1,u1,t1,d2,u2,t2,d3,u3,t3,a1,a2,a3⟩
def STY (lo:Nat) (w:World) (v:Value) (D U:List Int) (k:Int) (T:List Int) (nT:Nat):Prop:=∃ bD mD dD bU mU dU bT dT,v=.agg #[.slice bD mD dD,.slice bU mU dU,.int .i64 k,.slice bT nT dT]∧S3 lo w bD bU bT mD mU nT D U T
theorem STY.below {lo:Nat} {w w':World} {v:Value} {D U:List Int} {k:Int} {T:List Int} {nT:Nat} (h:STY lo w v D U k T nT) (b:Below w.heap.size w w'):STY lo w' v D U k T nT:=by
 obtain⟨bD,mD,dD,bU,mU,dU,bT,dT,e,h⟩:=h;exact⟨bD,mD,dD,bU,mU,dU,bT,dT,e,h.below b⟩
set_option maxRecDepth 100000 in
set_option maxHeartbeats 4000000 in
theorem cpSt_any (aD aU aT:Option Addr) (nD cD nU cU nT cT:Nat) (D U:List Int) (k:Int) (T:List Int) (w:World) (hD:D.length=nD) (hU:U.length=nU) (hT:T.length=nT*2) (mD:nD≤1048576) (mU:nU≤1048576) (mT:nT≤1048576) (haD:At .i64 w aD D) (haU:At .i64 w aU U) (haT:At .i64 w aT T) :
  Calls Tryz.prog 24 #[.agg #[.slice aD nD cD,.slice aU nU cU,.int .i64 k,.slice aT nT cT]] w fun e w'=>∃ v,e=.returned v∧STY w.heap.size w' v D U k T nT∧Below w.heap.size w w':=by
 have HCD:=hid_ofV (fun ww (b:Below w.heap.size w ww)=>clnI_any aD nD cD D ww hD mD (haD.below b));have HCU:=hid_ofV (fun ww (b:Below w.heap.size w ww)=>clnI_any aU nU cU U ww hU mU (haU.below b));have HCT:=hid_ofV (fun ww (b:Below w.heap.size w ww)=>clnT0_any aT nT cT T ww hT mT (haT.below b));have HSZ:Hid ((Tryz.prog.info? 26).map (·.size)=some 4):=by show _=_;kernel_rfl
 have HE1:Hid (BE w 26 #[.slice aD nD cD,.slice aU nU cU,.int .i64 k,.slice aT nT cT] #[.slice none 0 0,.slice none 0 0,.int .i64 0,.slice none 0 0] ((w.alloc (.cells #[.slice aD nD cD,.slice aU nU cU,.int .i64 k,.slice aT nT cT] 26)).alloc (.cells #[.slice none 0 0,.slice none 0 0,.int .i64 0,.slice none 0 0] 26))):=BE.start _ _ _ _;have HL1:=hdI <| (Array.getElem?_eq_some_iff.1 HE1.out.b0).1
 clear hD hU hT mD mU mT haD haU haT;go_enter Tryz.func24,Tryz.ntmps24;go_wp2_with fail;generalize ((w.alloc (.cells #[.slice aD nD cD,.slice aU nU cU,.int .i64 k,.slice aT nT cT] 26)).alloc (.cells #[.slice none 0 0,.slice none 0 0,.int .i64 0,.slice none 0 0] 26))=w1 at *;refine wp_region_any (by kernel_rfl) ?_;refine wpAny_slotsF 12 (fun _ a b=>Below a.heap.size a b) (frame:=(fun (a b c:Value)=>fun (t:Nat→Value)=>({ tmps:=List.toArray [a,b,c,t 0,t 1,t 2,t 3,t 4,t 5,t 6,t 7,t 8,t 9,t 10,t 11],defers:=[] }:Act)) _ _ _)
  (Ext:=fun L u w'=>ApH w1 [2,5,10] L u w') (Good:=fun i L w' v=>if i=0 then v=.pointer (some ⟨w.heap.size,0,none⟩) else if i=1 then v=.slice aD nD cD else if i=2 then IO w1.heap.size w' v D else if i=3 then v=.pointer (some ⟨w.heap.size,1,none⟩) else if i=4 then v=.slice aU nU cU else if i=5 then IO w1.heap.size w' v U else if i=6 then v=.pointer (some ⟨w.heap.size,2,none⟩) else if i=7 then v=.int .i64 k else if i=8 then v=.pointer (some ⟨w.heap.size,3,none⟩) else if i=9 then v=.slice aT nT cT else if i=10 then TapO w1.heap.size w' v T nT else if i=11 then STY w1.heap.size w' v D U k T nT else True) (Fin:=fun _ ww=>∃ bD mD dD bU mU dU bT dT,ww.heap[w.heap.size+1]?=some (.cells #[.slice bD mD dD,.slice bU mU dU,.int .i64 k,.slice bT nT dT] 26 (0,0))∧S3 w.heap.size ww bD bU bT mD mU nT D U T∧Below w.heap.size w ww) rfl (by kernel_rfl) ?hstab (by kernel_rfl) ?hop ?hend ?hdone _ _ ((fun (x0 x1 x2 x3 x4 x5 x6 x7 x8 x9 x10 x11:Value)=>fun (i:Nat)=>if i=0 then x0 else if i=1 then x1 else if i=2 then x2 else if i=3 then x3 else if i=4 then x4 else if i=5 then x5 else if i=6 then x6 else if i=7 then x7 else if i=8 then x8 else if i=9 then x9 else if i=10 then x10 else if i=11 then x11 else undef) _ _ _ _ _ _ _ _ _ _ _ _) _ (by simp) ?none ?ext (by simp)
 case none=>intro i;rw[Array.getD_eq_getD_getElem?,Array.getElem?_replicate];split<;>rfl
 case ext=>exact ApH.start w1 [2,5,10] _ _ (fun i=>by rw[Array.getD_eq_getD_getElem?,Array.getElem?_replicate];split<;>rfl) ⟨rfl,rfl,rfl,Nat.le_refl _,fun _ _=>rfl⟩
 case hstab=>
  intro j L w9 w' i v _ hM _ _ h;by_cases h2:j=2
  ·subst h2;simp at h ⊢;exact h.below hM
  by_cases h5:j=5
  ·subst h5;simp at h ⊢;exact h.below hM
  by_cases h10:j=10
  ·subst h10;simp at h ⊢;exact h.below hM
  by_cases h11:j=11
  ·subst h11;simp at h ⊢;exact h.below hM
  simp only[if_neg h2,if_neg h5,if_neg h10,if_neg h11] at h ⊢;exact h
 case hop=>
  intro i o L t w' hi ho hLi hx hdep K hK;have cX:∀ q9:Nat,w'.cell? ⟨w.heap.size,q9,none⟩=(#[.slice aD nD cD,.slice aU nU cU,.int .i64 k,.slice aT nT cT]:Array Value)[q9]?:=fun q9=>by rw[World.cell?_of_block (a:=⟨w.heap.size,q9,none⟩) (w:=w1) (hx.below.block _ HL1.out),cell_of_row w1 w.heap.size q9 _ _ _ HE1.out.b0]
  obtain rfl|rfl|rfl|rfl|rfl|rfl|rfl|rfl|rfl|rfl|rfl|rfl:i=0∨i=1∨i=2∨i=3∨i=4∨i=5∨i=6∨i=7∨i=8∨i=9∨i=10∨i=11:=by omega
  all_goals(simp at ho;subst ho)
  all_goals try(have hK':=hK w' _ rfl (hx.step _ _ (Below.refl _ _) (fun h=>absurd h (by decide))) (Below.refl _ _);clear hK;simp[Region.binds] at hdep;rw[if_pos (by rfl)];go_simp;simpa[upd,hdep] using hK')
  ·have d1:t 1=.slice aD nD cD:=by simpa using(hdep ⟨1,.data⟩ (by simp) rfl).2
   clear hdep;have bw:=HE1.out.below.trans (hx.below.mono HE1.out.below.size);have hsz:=hx.below.size;have A:=HCD.out w' bw;have hK':∀ ww v,IO w1.heap.size ww v D→FreshH w' ww v→Below w'.heap.size w' ww→K _ ww:=fun ww v hv hf hb=>hK ww v (by simpa using hv) (hx.step 2 v hb (fun _=>hf)) hb
   clear hK;rw[if_pos (by rfl)];go_simp;try simp only[d1]
   refine A.mono ?_;rintro e w9 ⟨v9,rfl,h9,hb9⟩;have hK2:=hK' w9 v9 (h9.lo hsz) (own_fresh h9) hb9;clear hK' A h9 hb9;go_simp;simpa[upd,d1] using hK2
  ·have d4:t 4=.slice aU nU cU:=by simpa using(hdep ⟨4,.data⟩ (by simp) rfl).2
   clear hdep;have bw:=HE1.out.below.trans (hx.below.mono HE1.out.below.size);have hsz:=hx.below.size;have A:=HCU.out w' bw;have hK':∀ ww v,IO w1.heap.size ww v U→FreshH w' ww v→Below w'.heap.size w' ww→K _ ww:=fun ww v hv hf hb=>hK ww v (by simpa using hv) (hx.step 5 v hb (fun _=>hf)) hb
   clear hK;rw[if_pos (by rfl)];go_simp;try simp only[d4]
   refine A.mono ?_;rintro e w9 ⟨v9,rfl,h9,hb9⟩;have hK2:=hK' w9 v9 (h9.lo hsz) (own_fresh h9) hb9;clear hK' A h9 hb9;go_simp;simpa[upd,d4] using hK2
  ·have d9:t 9=.slice aT nT cT:=by simpa using(hdep ⟨9,.data⟩ (by simp) rfl).2
   clear hdep;have bw:=HE1.out.below.trans (hx.below.mono HE1.out.below.size);have hsz:=hx.below.size;have A:=HCT.out w' bw;have hK':∀ ww v,TapO w1.heap.size ww v T nT→FreshH w' ww v→Below w'.heap.size w' ww→K _ ww:=fun ww v hv hf hb=>hK ww v (by simpa using hv) (hx.step 10 v hb (fun _=>hf)) hb
   clear hK;rw[if_pos (by rfl)];go_simp;try simp only[d9]
   refine A.mono ?_;rintro e w9 ⟨v9,rfl,h9,hb9⟩;have hK2:=hK' w9 v9 (h9.lo hsz) (own_fresh h9) hb9;clear hK' A h9 hb9;go_simp;simpa[upd,d9] using hK2
  ·have l2:=(hdep ⟨2,.data⟩ (by simp) rfl).1;have f2:IO w1.heap.size w' (t 2) D:=by simpa using(hdep ⟨2,.data⟩ (by simp) rfl).2
   have l5:=(hdep ⟨5,.data⟩ (by simp) rfl).1;have f5:IO w1.heap.size w' (t 5) U:=by simpa using(hdep ⟨5,.data⟩ (by simp) rfl).2
   have d7:t 7=.int .i64 k:=by simpa using(hdep ⟨7,.data⟩ (by simp) rfl).2
   have l10:=(hdep ⟨10,.data⟩ (by simp) rfl).1;have f10:TapO w1.heap.size w' (t 10) T nT:=by simpa using(hdep ⟨10,.data⟩ (by simp) rfl).2
   clear hdep;have a1:=hx.ap 2 (by decide) 5 (by decide) (by decide) l2 l5;have a2:=hx.ap 2 (by decide) 10 (by decide) (by decide) l2 l10;have a3:=hx.ap 5 (by decide) 10 (by decide) (by decide) l5 l10;obtain⟨bD,mD,dD,eD⟩:=f2.form;obtain⟨bU,mU,dU,eU⟩:=f5.form;obtain⟨bT,dT,eT⟩:=f10.frm;rw[eD] at f2 a1 a2;rw[eU] at f5 a1 a3;rw[eT] at f10 a2 a3;have hsv:STY w1.heap.size w' (.agg #[.slice bD mD dD,.slice bU mU dU,.int .i64 k,.slice bT nT dT]) D U k T nT:=⟨bD,mD,dD,bU,mU,dU,bT,dT,rfl,s3_of f2 f5 f10 (ap_slice a1) (ap_slice a2) (ap_slice a3)⟩
   have hK':=hK w' _ (by simpa using hsv) (hx.step 11 _ (Below.refl _ _) (fun h=>absurd h (by decide))) (Below.refl _ _);clear hK f2 f5 f10 hsv a1 a2 a3;rw[if_pos (by rfl)];go_simp;simpa[upd,d7,eD,eU,eT] using hK'
 case hend=>
  intro o L t w' ho hx hg K hK;simp at ho;subst ho;have f11:STY w1.heap.size w' (t 11) D U k T nT:=by simpa using(hg 11 (by decide)).2
  clear hg;obtain⟨bD,mD,dD,bU,mU,dU,bT,dT,e11,s11⟩:=f11;have hrs:=(hx.below.block _ (Array.getElem?_eq_some_iff.1 HE1.out.b1).1).trans HE1.out.b1;have hK':∀ ww,Wr (w.heap.size+1) w' ww→ww.heap[w.heap.size+1]?=some (.cells #[.slice bD mD dD,.slice bU mU dU,.int .i64 k,.slice bT nT dT] 26 (0,0))→K _ ww:=fun ww hw hr=>hK ww undef ⟨bD,mD,dD,bU,mU,dU,bT,dT,hr,(s11.keep (Nat.le_of_eq hw.size.symm) (fun k hk _=>hw.block k (by have:=(Array.getElem?_eq_some_iff.1 HE1.out.b1).1;omega))).lo (by have:=HE1.out.below.size;omega),(HE1.out.below.trans (hx.below.mono HE1.out.below.size)).trans (hw.below (by omega))⟩
  clear hK s11;rw[if_pos (by rfl)];refine wp_store_row 26 (.tmp 2) (.tmp 14) rfl (w.heap.size+1) #[.slice bD mD dD,.slice bU mU dU,.int .i64 k,.slice bT nT dT] rfl e11 26 _ hrs HSZ.out rfl (by simp[Value.oneCell']) ?_;have hK2:=hK' _ (Wr.setRow _ _ _) (setRow_heap _ _ _ _ _ _ hrs);clear hK';simpa[upd,Act.put] using hK2
 case hdone=>
  intro t w9 hf;obtain⟨bD,mD,dD,bU,mU,dU,bT,dT,hr,hI,hb9⟩:=hf;have HR9:Hid (w9.heap[w.heap.size+1]?=some (.cells #[.slice bD mD dD,.slice bU mU dU,.int .i64 k,.slice bT nT dT] 26 (0,0))):=hr;have HF:Hid (STY w.heap.size w9 (.agg #[.slice bD mD dD,.slice bU mU dU,.int .i64 k,.slice bT nT dT]) D U k T nT∧Below w.heap.size w w9):=⟨⟨bD,mD,dD,bU,mU,dU,bT,dT,rfl,hI⟩,hb9⟩
  clear hr hI hb9;go_wp2_with fail;exact bodyPost_ret (v:=.agg #[.slice bD mD dD,.slice bU mU dU,.int .i64 k,.slice bT nT dT]) (results_cell_row rfl _ _ (w.heap.size+1) 26 _ (0,0) _ rfl HR9.out Tryz.underlying26 rfl HSZ.out) rfl ⟨_,rfl,HF.out.1,HF.out.2⟩
def RowC (w:World) (g C:Nat):Prop:=∃ cur:Array Value,w.heap[g]?=some (.cells cur 5 (0,0))∧cur.size=C
theorem wpList_appZ (w:World) {ops:Array Oper} {rest:List Oper} {o:Oper} {a:Act} {Q:Exit→Act→World→Prop} (hg:o.guard=none) (s x:Operand)
  (hop:o.op=Op.call { callee:=Callee.builtin Builtin.append,args:=#[s,x],argTypes:=#[22,3] }) (hs:a.eval s=.slice none 0 0) (n:Nat) (hx:a.eval x=.int .i64 n) (hn:0<n) (hb:n≤2097152)
  (hK:∀ C w',n≤C→C≤maxLen→RowC w' w.heap.size C→Below w.heap.size w w'→wpList Tryz.prog ops Q rest (a.put o.dst (.slice (some ⟨w.heap.size,0,none⟩) n C)) w') :
  wpList Tryz.prog ops Q (o::rest) a w:=by
 obtain⟨i0,hi,hz0,hz1,hz2⟩:=info_parts Tryz.infoU8';have hfit:Builtin.nextslicecap (0+n) 0*i0.bytes≤281474976710656:=by rw[Nat.zero_add,nextslicecap_zero (by omega),hz2];omega
 have hr:=Go.Lib.run_append_grow_zeros (P:=Tryz.prog) w 22 3 o.type 5 i0 (.int .u8 0) .i64 .i64 Tryz.underlying22 Tryz.underlying3 hi hz0 none 0 0 [] (by rfl) n hn (by omega) (by omega) (by omega) (by rw[hz2];omega) hfit;have hge:=grownCap_ge w (0+n) 0 5;have hle:=grownCap_le_maxLen w (0+n) 0 5 (by unfold maxLen;omega);rw[Nat.zero_add] at hr hge hle;generalize grownCap w n 0 5=C at hr hge hle;refine wpList_plain hg fun K hK'=>?_
 have hk:=hK' _ _ (hK C _ hge hle ⟨_,heap_alloc_new w.drew (.cells ((([]:List Value).toArray++Builtin.zeroCells (Value.int .u8 0).cells n)++Builtin.zeroCells (Value.int .u8 0).cells (C-n)) 5),by simp[Builtin.zeroCells,Value.cells];omega⟩ ((Below.refl _ _).drew.alloc (Nat.le_refl _) _));unfold Oper.wp execOp;simp only[hop,resolve,invoke,builtin,Sem.run_bind,Sem.run_pure,Result.andThen_ok,List.map_toArray,List.map_cons,List.map_nil,hs,hx,hr];exact hk
set_option maxRecDepth 100000 in
set_option maxHeartbeats 1000000 in
theorem grow_any (n:Nat) (w:World) (hn:0<n) (hb:n≤2097152) :
  Calls Tryz.prog 136 #[.slice none 0 0,.int .i64 n] w fun e w'=>∃ v,e=.returned v∧Own w' w.heap.size v []∧Below w.heap.size w w':=by
 have h0:¬ ((n:Int)<0):=by omega
 have h1:(n:Int)>0:=by omega
 go_enter Tryz.func136,Tryz.ntmps136;go_wp2_with (first
  |(refine wpList_appZ _ rfl (.tmp 20) (.tmp 21) rfl rfl n rfl hn hb ?_)
  |fail)
 intro C w1 hC hm hrow hb1;have HF:Hid (Own w1 w.heap.size (.slice (some ⟨w.heap.size,0,none⟩) 0 C) []):=by
  obtain⟨cur,h1,h2⟩:=hrow;exact⟨⟨by simp,.inr ⟨w.heap.size,C,cur,rfl,Nat.le_refl _,h1,by simp,hm,by rw[h2,Nat.mul_one],by simp⟩⟩,_,_,rfl⟩
 have HB:=hdI <| hb1
 have hC':(0:Int)≤C:=by omega
 have hm':C≤9223372036854775807:=by unfold maxLen at hm;omega
 clear hrow hb1 hm;go_wp2
 go_ret
 exact⟨_,rfl,HF.out,HB.out⟩
def tot (zss:List (List Int)) (k:Nat):Nat:=(zss.take k).flatten.length
theorem tot_succ (zss:List (List Int)) (k:Nat) (h:k<zss.length):tot zss (k+1)=tot zss k+(zss.getD k []).length:=by
 unfold tot;rw[flat_snoc zss k h,List.length_append]
set_option maxRecDepth 100000 in
set_option maxHeartbeats 2000000 in
theorem conc_any (p m cap:Nat) (vs:List Value) (zss:List (List Int)) (w:World) (hm:zss.length=m) (hp:p<w.heap.size) (hc:∀ i,i<m→w.cell? ⟨p,i,none⟩=some (vs.getD i undef))
  (hz:∀ i,i<m→Part w (vs.getD i undef) (zss.getD i [])) (ht:zss.flatten.length≤2097152) (h0:0<zss.flatten.length) (hm':m≤2097152) :
  Calls Tryz.prog 109 #[.slice (some ⟨p,0,none⟩) m cap] w fun e w'=>∃ v,e=.returned v∧Own w' w.heap.size v zss.flatten∧Below w.heap.size w w':=by
 have HM:=hdI <| hm
 have HC:=hdI <| hc
 have HZ:=hdI <| hz
 have HT:Hid (zss.flatten.length≤2097152∧0<zss.flatten.length):=⟨ht,h0⟩
 have HTA:Hid (tot zss m=zss.flatten.length):=by show _=_;unfold tot;rw[List.take_of_length_le (by omega)]
 clear hc hz ht h0 hm;go_enter Tryz.func109,Tryz.ntmps109;go_wp2_with fail
 go_loop [3,11] (fun q i=>∃ k:Nat,k≤m∧i=.int .i64 k∧q=.int .i64 (tot zss k)) (fun _ i=>m-(intOf i).toNat)
 case atStart=>exact⟨0,Nat.zero_le _,rfl,rfl⟩
 case round=>
  obtain⟨k,hk,rfl,rfl⟩:=hrel;by_cases hlt:k<m
  ·have hlt':(k:Int)<m:=by omega
   obtain⟨b,o,c,hv,hb,hcell⟩:=HZ.out k hlt;have hck:w.cell? ⟨p,k,none⟩=some (.slice (some ⟨b,o,none⟩) (zss.getD k []).length c):=by rw[HC.out k hlt,hv]
   have HS:=hdI <| tot_succ zss k (by have:=HM.out;omega)
   have hle:tot zss (k+1)≤2097152:=Nat.le_trans (flat_le zss (k+1)) HT.out.1;rw[HS.out] at hle;clear hcell hv hb;generalize (zss.getD k []).length=z at *;generalize tot zss k=y at *;have hn0:¬ ((y:Int)+z<0):=by omega
   go_wp2
   go_round
   case rel=>exact⟨k+1,by omega,by go_num,by rw[HS.out];go_num⟩
   case measure=>simp[intOf];omega
  ·have hke:k=m:=by omega
   subst hke;obtain⟨N,hN⟩:∃ N,tot zss k=N:=⟨_,rfl⟩
   have CG:=grow_any N w (by rw[←hN,HTA.out];exact HT.out.2) (by rw[←hN,HTA.out];exact HT.out.1);have hNb:N≤2097152:=by rw[←hN,HTA.out];exact HT.out.1
   rw[hN];clear hN HTA;have hlt':¬ ((k:Int)<k):=by omega
   go_wp2_with fail;refine CG.mono ?_;rintro e w1 ⟨v1,rfl,ho1,hb1⟩;have HO1:=hdI <| ho1
   have HB1:=hdI <| hb1
   clear ho1 hb1 hlt' CG;go_wp2_with fail
   go_loopw [6,27] (fun v i wr=>∃(j:Nat) (l:Value),j≤k∧i=.int .i64 j∧l=v∧Own wr w.heap.size l (zss.take j).flatten∧Below w.heap.size w wr) (fun _ i _=>k-(intOf i).toNat)
   case atStart=>exact⟨0,_,Nat.zero_le _,rfl,rfl,HO1.out,HB1.out⟩
   case round=>
    clear HO1 HB1;obtain⟨j,l,hj,rfl,rfl,hown,hbel⟩:=hrel;by_cases hlt:j<k
    ·have hsz:=hbel.size;obtain⟨b,o,c,hv,hb,hcell⟩:=HZ.out j hlt;have hck:wr.cell? ⟨p,j,none⟩=some (.slice (some ⟨b,o,none⟩) (zss.getD j []).length c):=by rw[hbel.cell (p:=⟨p,j,none⟩) hp,HC.out j hlt,hv]
     have HNW:Hid (∀ i,i<(zss.getD j []).length→wr.cell? ((⟨b,o,none⟩:Addr).add i)=some (.int .u8 ((zss.getD j []).getD i 0))):=by
      intro i hi;rw[Addr.add_lit,hbel.cell (p:=⟨b,o+i,none⟩) hb];exact hcell i hi
     have hfl:=flat_snoc zss j (by have:=HM.out;omega);have hle:=flat_le zss (j+1);have HL:Hid ((zss.take j).flatten.length+(zss.getD j []).length≤1099511627776):=by show _≤_;rw[hfl,List.length_append] at hle;have:=HT.out.1;omega
     have HFL:=hdI <| hfl
     have HOW:=hdI <| hown
     have HBE:=hdI <| hbel
     clear hcell hv hb hfl hle hown hbel;go_wp2_with (first
      |(at_builtin;refine wpList_app _ rfl (.tmp 31) (.tmp 32) rfl w.heap.size _ _ rfl HOW.out ⟨b,o,none⟩ _ c (zss.getD j []) rfl rfl HNW.out HL.out hsz ?_)
      |fail)
     intro v' w2 hown' hbel' _;have HO2:Hid (Own w2 w.heap.size v' (zss.take (j+1)).flatten):=by show Own _ _ _ _;rw[HFL.out];exact hown'
     have HB2:=hdI <| HBE.out.trans hbel'
     clear hown' hbel' HOW HBE HNW;go_wp2;go_roundw
     case rel=>exact⟨j+1,_,by omega,by go_num,rfl,HO2.out,HB2.out⟩
     case measure=>simp[intOf];omega
    ·have hje:j=k:=by omega
     have hlt':¬ ((j:Int)<k):=by omega
     have HO2:Hid (Own wr w.heap.size l zss.flatten):=by
      have:zss.take j=zss:=List.take_of_length_le (by have:=HM.out;omega);rw[this] at hown;exact hown
     clear hown;go_wp2
     go_ret
     exact⟨_,rfl,HO2.out,hbel⟩
end Go.Proofs.YtncomnkdlpoelaaGreatDoor
