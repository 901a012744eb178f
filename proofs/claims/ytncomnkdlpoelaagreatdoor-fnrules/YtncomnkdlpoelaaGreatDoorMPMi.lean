import Derived.Test.YtncomnkdlpoelaaGreatDoorMEsd
import Derived.Test.YtncomnkdlpoelaaGreatDoorMReg
import Derived.Test.YtncomnkdlpoelaaGreatDoorMMuM
import Derived.Test.YtncomnkdlpoelaaGreatDoorMSSum
import Derived.Test.YtncomnkdlpoelaaGreatDoorMCatC
import Derived.Test.YtncomnkdlpoelaaGreatDoorMShQ
import Derived.Test.YtncomnkdlpoelaaGreatDoorMCat
import Derived.Test.YtncomnkdlpoelaaGreatDoorMShK
import Derived.Test.YtncomnkdlpoelaaGreatDoorMCatZ
import Derived.Maps.AppendAt
import Derived.Test.YtncomnkdlpoelaaGreatDoorMCatF
import Derived.Test.YtncomnkdlpoelaaGreatDoorMSvK
import Derived.Deep.Cut
import Derived.Deep.CutRange
import Derived.Test.YtncomnkdlpoelaaGreatDoorMBase
import Derived.Lib.AppendZerosOnto
namespace Go.Proofs.YtncomnkdlpoelaaGreatDoor
open Go.ChangeShapes Go.WideShapes Go.ChangeAt Go.RowKit
set_option linter.unusedVariables false
def PtV (w:World) (v:Value) (Q:Q4):Prop:=∃ g1 c1 g2 c2 g3 c3 g4 c4,v=.agg #[.slice (some ⟨g1,0,none⟩) 16 c1,.slice (some ⟨g2,0,none⟩) 16 c2,.slice (some ⟨g3,0,none⟩) 16 c3,.slice (some ⟨g4,0,none⟩) 16 c4]∧
 FeA w (some ⟨g1,0,none⟩) Q.1∧FeA w (some ⟨g2,0,none⟩) Q.2.1∧FeA w (some ⟨g3,0,none⟩) Q.2.2.1∧FeA w (some ⟨g4,0,none⟩) Q.2.2.2
theorem PtV.below {w w':World} {v:Value} {Q:Q4} (h:PtV w v Q) (hb:Below w.heap.size w w'):PtV w' v Q:=by
 obtain⟨g1,c1,g2,c2,g3,c3,g4,c4,e,f1,f2,f3,f4⟩:=h;exact⟨g1,c1,g2,c2,g3,c3,g4,c4,e,f1.below hb,f2.below hb,f3.below hb,f4.below hb⟩
theorem PtV.mk {w:World} {zs:List Int} {g1 c1 g2 c2 g3 c3 g4 c4:Nat} (f1:FeA w (some ⟨g1,0,none⟩) (mX zs mdD)) (f2:FeA w (some ⟨g2,0,none⟩) (mY zs)) (f3:FeA w (some ⟨g3,0,none⟩) (1%fp)) (f4:FeA w (some ⟨g4,0,none⟩) (mX zs mdD*mY zs%fp)) :
  PtV w (.agg #[.slice (some ⟨g1,0,none⟩) 16 c1,.slice (some ⟨g2,0,none⟩) 16 c2,.slice (some ⟨g3,0,none⟩) 16 c3,.slice (some ⟨g4,0,none⟩) 16 c4]) (ptQ zs):=⟨g1,c1,g2,c2,g3,c3,g4,c4,rfl,f1,f2,f3,f4⟩
def PtS (w:World) (v:Value):Prop:=∃ Q,PtV w v Q
theorem PtS.below {w w':World} {v:Value} (h:PtS w v) (hb:Below w.heap.size w w'):PtS w' v:=by obtain⟨Q,h⟩:=h;exact⟨Q,h.below hb⟩
def FdV (w:World) (v:Value) (x:Int):Prop:=∃ g c,v=.slice (some ⟨g,0,none⟩) 16 c∧FeA w (some ⟨g,0,none⟩) x
theorem FdV.below {w w':World} {v:Value} {x:Int} (h:FdV w v x) (hb:Below w.heap.size w w'):FdV w' v x:=by obtain⟨g,c,e,f⟩:=h;exact⟨g,c,e,f.below hb⟩
def TxE (w:World) (v:Value) (m:Nat):Prop:=∃ g c zs,v=.slice (some ⟨g,0,none⟩) m c∧m≤c∧zs.length=m∧Byte zs∧At .u8 w (some ⟨g,0,none⟩) zs
theorem TxE.below {w w':World} {v:Value} {m:Nat} (h:TxE w v m) (hb:Below w.heap.size w w'):TxE w' v m:=by obtain⟨g,c,zs,e,h1,h2,h3,h4⟩:=h;exact⟨g,c,zs,e,h1,h2,h3,h4.below hb⟩
theorem TxE.of_own {w:World} {B:Nat} {v:Value} {zs:List Int} {m:Nat} (h:Own w B v zs) (hl:zs.length=m) (hz:Byte zs):TxE w v m:=by
 obtain⟨g,c,e,_,_,hc⟩:=h.base;obtain⟨g',c',e',_,_,hA⟩:=h.at2;rw[e] at e';cases e';rw[hl] at e hc;exact⟨g,c,zs,e,hc,hl,hz,hA⟩
def TxO (w:World) (B:Nat) (v:Value) (m:Nat):Prop:=∃ zs,Own w B v zs∧zs.length=m∧Byte zs
theorem TxO.of_own {w:World} {B:Nat} {v:Value} {zs:List Int} {m:Nat} (h:Own w B v zs) (hl:zs.length=m) (hz:Byte zs):TxO w B v m:=⟨zs,h,hl,hz⟩
theorem TxO.lower {w:World} {B B':Nat} {v:Value} {m:Nat} (h:TxO w B v m) (hB:B'≤B):TxO w B' v m:=by obtain⟨zs,h1,h2,h3⟩:=h;exact⟨zs,h1.monoE hB,h2,h3⟩
theorem TxO.below {w w':World} {B:Nat} {v:Value} {m:Nat} (h:TxO w B v m) (hb:Below w.heap.size w w'):TxO w' B v m:=by obtain⟨zs,h1,h2,h3⟩:=h;exact⟨zs,h1.keepE (fun k _ hk=>hb.block k hk),h2,h3⟩
theorem At.cutE {w:World} {g n:Nat} {zs:List Int} (h:At .u8 w (some ⟨g,0,none⟩) zs) (m:Nat):At .u8 w (some ⟨g,0,none⟩) (zs.take m):=by
 rcases h with h|⟨b,off,e,hb,hc⟩
 ·left;rw[h];simp
 ·cases e;refine .inr ⟨g,0,rfl,hb,fun i hi=>?_⟩;have hi':i<m∧i<zs.length:=by simp at hi;omega
  rw[hc i hi'.2];simp[hi'.1,hi'.2]
theorem PtW.feE {w:World} {G g:Nat} {a:Option Addr} {n c:Nat} {s1 s2 s3:Value} {x:Int} (h:PtW w G #[.slice a n c,s1,s2,s3]) (f:FeA w (some ⟨g,0,none⟩) x):g≠G:=by
 intro e;subst e;obtain⟨zs,h1,h2,_⟩:=f;obtain⟨b,o,e,_,hc⟩:=h1.get (by have:=h2.1;omega);cases e;have c0:=hc 0 (by have:=h2.1;omega);rw[Nat.zero_add,h.c0] at c0;cases c0
set_option maxHeartbeats 2000000 in
theorem base_any (w:World):Calls Tryz.prog 38 #[] w (fun e w'=>∃ v,e=.returned v∧PtV w' v (ptQ bB)∧Below w.heap.size w w'):=by
 have HR0:=hdI <| PtW.new w
 have HB0:=hid_ofE ((Below.refl w.heap.size w).alloc (Nat.le_refl _) (.cells #[.slice none 0 0,.slice none 0 0,.slice none 0 0,.slice none 0 0] 79));have hs0:w.heap.size<(w.alloc (.cells #[.slice none 0 0,.slice none 0 0,.slice none 0 0,.slice none 0 0] 79)).heap.size:=by simp
 go_enter Tryz.func38,Tryz.ntmps38;go_wp2_with fail;generalize w.alloc (.cells #[.slice none 0 0,.slice none 0 0,.slice none 0 0,.slice none 0 0] 79)=w0 at *;refine(sbas_any _).mono ?_;rintro e w1 ⟨v1,bs1,rfl,O1,b1,l1,x1,B1⟩;obtain rfl:bs1=bB:=bB_of b1 l1 x1;obtain⟨g1,c1,rfl,hg1,hg1',A1⟩:=O1.at2;rw[bB_len];have HA1:=hid_ofE A1;have HR1:=hid_ofE (HR0.out.below B1 hs0);have HB1:=hdI <| HB0.out.trans (B1.mono HB0.out.size)
 have hs1:=HR1.out.lt;go_wp2_with fail;refine(d_any _).mono ?_;rintro e w2 ⟨g2,c2,rfl,k2,l2,hf,B2⟩;have HA2:=HA1.out.below B2;have HR2:=hid_ofE (HR1.out.below B2 hs1);have HB2:=hdI <| HB1.out.trans (B2.mono HB1.out.size)
 have hs2:=HR2.out.lt;go_wp2_with fail;refine(decodeS_any _ _ 32 c1 c2 bB mdD _ bB_len (by decide) HA2 bB_byte hf).mono ?_;rintro e w3 ⟨s1,s2,s3,s4,rfl,B3,hone,hok⟩;obtain⟨x1,i1,x2,i2,x3,i3,x4,i4,rfl,rfl,rfl,rfl,f1,f2,f3,f4⟩:=hok bB_ok;have HR3:=hid_ofE (HR2.out.below B3 hs2);have HB3:=hdI <| HB2.out.trans (B3.mono HB2.out.size)
 have HF3:=hid_ofE (And.intro f1 (And.intro f2 (And.intro f3 f4)));have hs3:=HR3.out.lt;have HPN:=hdI <| PtW.new w3
 go_wp2_with (first
  |(refine wpList_storePt rfl (.tmp 2) (.tmp 8) rfl w3.heap.size _ _ _ _ _ rfl rfl rfl rfl rfl rfl rfl HPN.out ?_)
  |fail)
 intro w4 hp4 hw4;have b34:=(below_new3 _ _).trans (hw4.below (Nat.le_refl _));have HB4:=hdI <| HB3.out.trans (b34.mono HB3.out.size)
 have HR4:=hid_ofE (HR3.out.below b34 hs3);have HP4:=hid_ofE hp4;have HF4:Hid (FeA w4 (some ⟨x1,0,none⟩) (mX bB mdD)∧FeA w4 (some ⟨x2,0,none⟩) (mY bB)∧FeA w4 (some ⟨x3,0,none⟩) (1%fp)∧FeA w4 (some ⟨x4,0,none⟩) (mX bB mdD*mY bB%fp)):=by
  obtain⟨f1,f2,f3,f4⟩:=HF3.out;exact⟨f1.below b34,f2.below b34,f3.below b34,f4.below b34⟩
 generalize w3.heap.size=Ga at *;go_wp2_with (first
  |(refine wpList_load_row rfl 79 (.tmp 2) rfl Ga rfl 79 _ (0,0) _ HP4.out Tryz.underlying79 rfl Tryz.sizePt ?_)
  |(refine wpList_storePt rfl (.tmp 0) (.tmp 9) rfl w.heap.size _ _ _ _ _ rfl rfl rfl rfl rfl rfl rfl HR4.out ?_)
  |fail)
 intro w5 hp5 hw5;have HF:Hid (∃ v,Ending.returned (.agg #[.slice (some ⟨x1,0,none⟩) 16 i1,.slice (some ⟨x2,0,none⟩) 16 i2,.slice (some ⟨x3,0,none⟩) 16 i3,.slice (some ⟨x4,0,none⟩) 16 i4])=.returned v∧PtV w5 v (ptQ bB)∧Below w.heap.size w w5):=by
  obtain⟨f1,f2,f3,f4⟩:=HF4.out;refine⟨_,rfl,PtV.mk (f1.wr hw5 (HR4.out.feE f1)) (f2.wr hw5 (HR4.out.feE f2)) (f3.wr hw5 (HR4.out.feE f3)) (f4.wr hw5 (HR4.out.feE f4)),HB4.out.trans (hw5.below (Nat.le_refl _))⟩
 have HP5:=hid_ofE hp5;go_wp2;exact bodyPost_ret (v:=.agg #[.slice (some ⟨x1,0,none⟩) 16 i1,.slice (some ⟨x2,0,none⟩) 16 i2,.slice (some ⟨x3,0,none⟩) 16 i3,.slice (some ⟨x4,0,none⟩) 16 i4]) (results_cell_row rfl _ _ w.heap.size 79 _ (0,0) _ rfl HP5.out Tryz.underlying79 rfl Tryz.sizePt) rfl HF.out
set_option maxRecDepth 100000 in
set_option maxHeartbeats 4000000 in
theorem pubO_any (x:Int) (w:World) (hx0:0≤x) (hx1:x≤1000):Calls Tryz.prog 16 #[.int .i64 x] w (fun e w'=>∃ v,e=.returned v∧TxO w' w.heap.size v 32∧Below w.heap.size w w'):=by
 go_enter Tryz.func16,Tryz.ntmps16;go_wp2_with fail;refine wp_region_any (by kernel_rfl) ?_;refine wpAny_slotsU (fun _ a b=>Below a.heap.size a b) (frame:=(fun (a b:Value)=>fun (t:Nat→Value)=>({ tmps:=List.toArray [a,b,t 7,t 0,t 1,t 2,t 3,t 4,t 5,t 6],defers:=[] }:Act)) _ _)
  (Ext:=fun L u w'=>ApX w [] L u w') (Good:=fun i L w' v=>if i=0 then v=.int .i64 x else if i=1 then TxE w' v 32 else if i=2 then TxE w' v 2 else if i=3 then PtV w' v (ptQ bB) else if i=4 then FdV w' v mdD else if i=5 then PtS w' v else if i=6 then TxO w' w.heap.size v 32 else if i=7 then TxO w' w.heap.size v 32 else True) ?hstab (by kernel_rfl) ?hop ?hdone _ _ ((fun (x0 x1 x2 x3 x4 x5 x6 x7:Value)=>fun (i:Nat)=>if i=0 then x0 else if i=1 then x1 else if i=2 then x2 else if i=3 then x3 else if i=4 then x4 else if i=5 then x5 else if i=6 then x6 else if i=7 then x7 else undef) _ _ _ _ _ _ _ _) _ (by simp) ?ext ?start (by simp)
 case start=>intro i hi h;exact absurd h (by rw[Array.getD_eq_getD_getElem?,Array.getElem?_replicate];split<;>simp)
 case ext=>exact(ApX.start w [] _ _ (fun i=>by rw[Array.getD_eq_getD_getElem?,Array.getElem?_replicate];split<;>rfl)).drew
 case hstab=>
  intro j L w9 w' i v hM _ _ h;by_cases h1:j=1
  ·subst h1;simp at h ⊢;exact h.below hM
  by_cases h2:j=2
  ·subst h2;simp at h ⊢;exact h.below hM
  by_cases h3:j=3
  ·subst h3;simp at h ⊢;exact h.below hM
  by_cases h4:j=4
  ·subst h4;simp at h ⊢;exact h.below hM
  by_cases h5:j=5
  ·subst h5;simp at h ⊢;exact h.below hM
  by_cases h6:j=6
  ·subst h6;simp at h ⊢;exact h.below hM
  by_cases h7:j=7
  ·subst h7;simp at h ⊢;exact h.below hM
  simp only[if_neg h1,if_neg h2,if_neg h3,if_neg h4,if_neg h5,if_neg h6,if_neg h7] at h ⊢;exact h
 case hop=>
  intro i o L t w' ho hLi hx hdep K hK;have hi:i<8:=(Array.getElem?_eq_some_iff.1 ho).1;obtain rfl|rfl|rfl|rfl|rfl|rfl|rfl|rfl:i=0∨i=1∨i=2∨i=3∨i=4∨i=5∨i=6∨i=7:=by omega
  all_goals(simp at ho;subst ho)
  ·clear hdep;have hK':=hK w' (.int .i64 x) (by simp) (hx.step 0 _ (Below.refl _ _) (fun h=>absurd h (by decide))) (Below.refl _ _);rw[if_pos (by rfl)];go_simp;simpa[upd] using hK'
  ·have d0:t 0=.int .i64 x:=by simpa using(hdep ⟨0,.data⟩ (by simp) rfl).2
   have A:=scOf_any x w' hx0 hx1;have hK':∀ ww v,TxE ww v 32→Below w'.heap.size w' ww→K _ ww:=fun ww v hv hb=>hK ww v (by simpa using hv) (hx.step 1 v hb (fun h=>absurd h (by decide))) hb
   rw[if_pos (by rfl)];go_simp;try simp only[d0]
   refine A.mono ?_;rintro e w9 ⟨v9,zs,rfl,o9,b9,l9,_,hb9⟩;have hK2:=hK' w9 v9 (TxE.of_own o9 l9 b9) hb9;go_simp;simpa[upd,d0] using hK2
  ·have f1:TxE w' (t 1) 32:=by simpa using(hdep ⟨1,.data⟩ (by simp) rfl).2
   refine Exists.elim f1 fun gg hh=>?_
   obtain⟨cc,zs,d1,h1,h2,h3,h4⟩:=hh;have hcc:2≤cc:=by omega
   have hcc':(2:Int)≤(cc:Int):=by omega
   have hK':=hK w' (.slice (some ⟨gg,0,none⟩) 2 cc) (by simpa using⟨gg,cc,zs.take 2,rfl,hcc,by simp;omega,fun v hv=>h3 v (List.mem_of_mem_take hv),h4.cutE (n:=0) 2⟩) (hx.step 2 _ (Below.refl _ _) (fun h=>absurd h (by decide))) (Below.refl _ _);rw[if_pos (by rfl)];go_simp;simpa[upd,d1,hcc'] using hK'
  ·clear hdep;have A:=base_any w';have hK':∀ ww v,PtV ww v (ptQ bB)→Below w'.heap.size w' ww→K _ ww:=fun ww v hv hb=>hK ww v (by simpa using hv) (hx.step 3 v hb (fun h=>absurd h (by decide))) hb
   rw[if_pos (by rfl)];go_simp;try simp only[]
   refine A.mono ?_;rintro e w9 ⟨v9,rfl,p9,hb9⟩;have hK2:=hK' w9 v9 p9 hb9;go_simp;simpa[upd] using hK2
  ·clear hdep;have A:=d_any w';have hK':∀ ww v,FdV ww v mdD→Below w'.heap.size w' ww→K _ ww:=fun ww v hv hb=>hK ww v (by simpa using hv) (hx.step 4 v hb (fun h=>absurd h (by decide))) hb
   rw[if_pos (by rfl)];go_simp;try simp only[]
   refine A.mono ?_;rintro e w9 ⟨g9,c9,rfl,_,_,q9,hb9⟩;have hK2:=hK' w9 (.slice (some ⟨g9,0,none⟩) 16 c9) ⟨g9,c9,rfl,q9⟩ hb9;go_simp;simpa[upd] using hK2
  ·have f2:TxE w' (t 2) 2:=by simpa using(hdep ⟨2,.data⟩ (by simp) rfl).2
   have f3:PtV w' (t 3) (ptQ bB):=by simpa using(hdep ⟨3,.data⟩ (by simp) rfl).2
   have f4:FdV w' (t 4) mdD:=by simpa using(hdep ⟨4,.data⟩ (by simp) rfl).2
   refine Exists.elim f2 fun gg hh=>?_
   obtain⟨cc,zs,d2,_,h2,h3,h4⟩:=hh;refine Exists.elim f3 fun q1 hh'=>?_
   obtain⟨e1,q2,e2,q3,e3,q4,e4,d3,y1,y2,y3,y4⟩:=hh';refine Exists.elim f4 fun gd hh''=>?_
   obtain⟨cd,d4,yd⟩:=hh'';have A:=ltimes2_any (some ⟨gg,0,none⟩) cc zs q1 q2 q3 q4 gd e1 e2 e3 e4 cd (ptQ bB) w' h2 h3 h4 y1 y2 y3 y4 yd;have hK':∀ ww v,PtS ww v→Below w'.heap.size w' ww→K _ ww:=fun ww v hv hb=>hK ww v (by simpa using hv) (hx.step 5 v hb (fun h=>absurd h (by decide))) hb
   rw[if_pos (by rfl)];go_simp;try simp only[d2,d3,d4]
   refine A.mono ?_;rintro e w9 ⟨a1,k1,a2,k2,a3,k3,a4,k4,rfl,z1,z2,z3,z4,hb9⟩;have hK2:=hK' w9 _ ⟨_,a1,k1,a2,k2,a3,k3,a4,k4,rfl,z1,z2,z3,z4⟩ hb9;go_simp;simpa[upd,d2,d3,d4] using hK2
  ·have f5:PtS w' (t 5):=by simpa using(hdep ⟨5,.data⟩ (by simp) rfl).2
   refine Exists.elim f5 fun QQ hh=>?_
   obtain⟨q1,e1,q2,e2,q3,e3,q4,e4,d5,y1,y2,y3,y4⟩:=hh;have A:=code_any (some ⟨q1,0,none⟩) (some ⟨q2,0,none⟩) (some ⟨q3,0,none⟩) (some ⟨q4,0,none⟩) e1 e2 e3 e4 _ _ _ w' y1 y2 y3;have hK':∀ ww v,TxO ww w.heap.size v 32→Below w'.heap.size w' ww→K _ ww:=fun ww v hv hb=>hK ww v (by simpa using hv) (hx.step 6 v hb (fun h=>absurd h (by decide))) hb
   rw[if_pos (by rfl)];go_simp;try simp only[d5]
   refine A.mono ?_;rintro e w9 ⟨v9,bx,rfl,o9,hy,hl,hv,hb9⟩;have hK2:=hK' w9 v9 (TxO.of_own (o9.monoE hx.below.size) hl hy) hb9;go_simp;simpa[upd,d5] using hK2
  ·have f6:TxO w' w.heap.size (t 6) 32:=by simpa using(hdep ⟨6,.data⟩ (by simp) rfl).2
   have hK':=hK w' (t 6) (by simpa using f6) (hx.step 7 _ (Below.refl _ _) (fun h=>absurd h (by decide))) (Below.refl _ _);rw[if_pos (by rfl)];go_simp;simpa[upd] using hK'
 case hdone=>
  intro L t w9 hx hg;have h7:TxO w9 w.heap.size (t 7) 32:=by simpa using hg 7 (by decide)
  have HF:Hid (TxO w9 w.heap.size (t 7) 32∧Below w.heap.size w w9):=⟨h7,hx.below⟩
  go_wp2
  go_ret
  exact⟨_,rfl,HF.out.1,HF.out.2⟩
set_option maxRecDepth 100000 in
set_option maxHeartbeats 2000000 in
theorem resp_any (r a:Int) (kb ko kc:Nat) (ks:List Int) (w:World) (hr0:0≤r) (hr1:r≤1000) (ha0:0≤a) (ha1:a≤1000) (hl:ks.length=32) (hz:Byte ks) (hb:kb<w.heap.size)
  (hc:∀ i,i<ks.length→w.cell? ⟨kb,ko+i,none⟩=some (.int .u8 (ks.getD i 0))) :
  Calls Tryz.prog 89 #[.int .i64 r,.slice (some ⟨kb,ko,none⟩) 32 kc,.int .i64 a] w (fun e w'=>∃ v,e=.returned v∧TxO w' w.heap.size v 32∧Below w.heap.size w w'):=by
 have HC:=hid_ofE hc;have HZ:=hid_ofE hz;clear hc hz;go_enter Tryz.func89,Tryz.ntmps89;go_wp2
 go_loopw [7,8,9] (fun v c i wr=>∃(q:Nat) (zs:List Int) (cy:Int),q≤40∧i=.int .i64 q∧c=.int .i64 cy∧0≤cy∧cy≤1000000∧zs.length=q∧Byte zs∧Own wr w.heap.size v zs∧Below w.heap.size w wr) (fun _ _ i _=>40-(intOf i).toNat)
 case atStart=>exact⟨0,[],r,by omega,rfl,rfl,hr0,by omega,rfl,(fun v hv=>by cases hv),Own.empty _ _ (Nat.le_refl _),(Below.refl _ _).alloc (Nat.le_refl _) _⟩
 case round=>
  obtain⟨q,zs,cy,hq,rfl,rfl,c0,c1,zl,zb,hown,hbel⟩:=hrel;have hsz:=hbel.size;by_cases hlt:q<40
  ·have hlt':(q:Int)<40:=by omega
   have HO:=hid_ofE hown;have HB:=hid_ofE hbel;clear hown hbel;by_cases h32:q<32
   ·have h32':(q:Int)<32:=by omega
    have hce:wr.cell? ⟨kb,ko+q,none⟩=some (.int .u8 (ks.getD q 0)):=by rw[HB.out.cell (p:=⟨kb,ko+q,none⟩) hb];exact HC.out q (by omega)
    obtain⟨z0,z1⟩:=getD_byteE HZ.out q;have hm0:0≤ks.getD q 0*a:=Int.mul_nonneg z0 ha0;have hm1:ks.getD q 0*a≤255*1000:=Int.mul_le_mul (by omega) ha1 ha0 (by decide);clear HC HZ;generalize ks.getD q 0=z at *;obtain⟨p,hp⟩:∃ p,z*a=p:=⟨_,rfl⟩
    rw[hp] at hm0 hm1;have e1:wrap64 (z*a)=p:=by rw[hp];unfold wrap64;omega
    clear hp;go_wp2_with (at_builtin;refine wpList_app _ rfl _ _ rfl w.heap.size _ _ rfl (HO.out.alloc _) ⟨wr.heap.size,0,none⟩ 1 1 [(cy+p)%256] rfl rfl ?c1 ?c2 ?c3 ?_);all_goals first|(intro j hj;obtain rfl:j=0:=by omega
                                                                                                                                                                                          simp[Addr.add];done)|skip
    case c2=>simp;omega
    case c3=>first|omega|(rw[World.size_alloc];omega)
    intro v' w2 hown2 hb2 _;have HO2:=hid_ofE hown2;have HB2:Hid (Below w.heap.size w w2):=(HB.out.alloc hsz _).trans hb2;clear hown2 hb2 HO HB;go_wp2;go_roundw
    case rel=>exact⟨q+1,zs++[(cy+p)%256],(cy+p)/256,by omega,by go_num,by go_num,by omega,by omega,by simp;omega,byte_app1 zb (by omega),HO2.out,HB2.out⟩
    case measure=>simp[intOf];omega
   ·have h32':¬ (q:Int)<32:=by omega
    clear HC HZ;go_wp2_with (at_builtin;refine wpList_app _ rfl _ _ rfl w.heap.size _ _ rfl (HO.out.alloc _) ⟨wr.heap.size,0,none⟩ 1 1 [cy%256] rfl rfl ?d1 ?d2 ?d3 ?_);all_goals first|(intro j hj;obtain rfl:j=0:=by omega
                                                                                                                                                                                         simp[Addr.add];done)|skip
    case d2=>first|omega|(simp;omega)
    case d3=>first|omega|(rw[World.size_alloc];omega)
    intro v' w2 hown2 hb2 _;have HO2:=hid_ofE hown2;have HB2:Hid (Below w.heap.size w w2):=(HB.out.alloc hsz _).trans hb2;clear hown2 hb2 HO HB;go_wp2;go_roundw
    case rel=>exact⟨q+1,zs++[cy%256],cy/256,by omega,by go_num,by go_num,by omega,by omega,by simp;omega,byte_app1 zb (by omega),HO2.out,HB2.out⟩
    case measure=>simp[intOf];omega
  ·have hq40:q=40:=by omega
   subst hq40;clear HC HZ;obtain⟨g,c,rfl,_,_,hA⟩:=hown.at2;rw[zl];have HR:=hid_ofE (sred_any (some ⟨g,0,none⟩) 40 c zs wr zl (by decide) hA zb);have HB:=hid_ofE hbel;clear hA hown hbel;go_wp2_with fail;refine HR.out.mono ?_;rintro e w2 ⟨v2,rs,rfl,O2,b2,l2,_,B2⟩;have HF:=hid_ofE (And.intro (TxO.of_own (O2.monoE hsz) l2 b2) (HB.out.trans (B2.mono hsz)));clear HR HB O2 B2;go_wp2
   go_ret
   exact⟨_,rfl,HF.out.1,HF.out.2⟩
theorem shaL_lenE (zs:List Int):(shaL zs).length=64:=by
 unfold shaL;rw[txtW_len,(finL_w8 _ _ _).1]
theorem byte_app {xs ys:List Int} (hx:Byte xs) (hy:Byte ys):Byte (xs++ys):=fun z hz=>by
 rcases List.mem_append.1 hz with h|h
 ·exact hx z h
 ·exact hy z h
theorem Part.of_own {w:World} {B:Nat} {v:Value} {zs:List Int} (h:Own w B v zs):Part w v zs:=by
 obtain⟨g,c,rfl,hA,_⟩:=PtA.of_own h;exact⟨g,0,c,rfl,hA.lt,hA.c⟩
theorem cat3 (w:World) (v1 v2 v3:Value) (z1 z2 z3:List Int) (h1:Part w v1 z1) (h2:Part w v2 z2) (h3:Part w v3 z3) (hl:z1.length+z2.length+z3.length≤100000) :
  Calls Tryz.prog 63 #[.slice (some ⟨w.heap.size,0,none⟩) 3 3] (w.alloc (.cells #[v1,v2,v3] 22)) fun e w'=>∃ v,e=.returned v∧Own w' w.heap.size v (z1++z2++z3)∧Below w.heap.size w w':=by
 have hal:Below w.heap.size w (w.alloc (.cells #[v1,v2,v3] 22)):=below_new3 _ _;have hfl:[z1,z2,z3].flatten=z1++z2++z3:=by simp
 have C:=cat_any w.heap.size 3 3 [v1,v2,v3] [z1,z2,z3] (w.alloc (.cells #[v1,v2,v3] 22)) rfl (by simp)
  (fun i hi=>by
   rw[cell_of_row _ _ i _ _ _ (heap_alloc_new w _)]
   match i,hi with
   |0,_=>rfl
   |1,_=>rfl
   |2,_=>rfl)
  (fun i hi=>by
   match i,hi with
   |0,_=>exact h1.below hal
   |1,_=>exact h2.below hal
   |2,_=>exact h3.below hal)
  (by rw[hfl,List.length_append,List.length_append];omega) (by decide)
 rw[hfl] at C;refine C.mono ?_;rintro e w' ⟨v,rfl,O,B⟩;exact⟨v,rfl,O.monoE hal.size,hal.trans (B.mono hal.size)⟩
set_option maxRecDepth 100000 in
set_option maxHeartbeats 2000000 in
theorem sign_any (a r:Int) (bm om nm cm:Nat) (ms:List Int) (w:World) (ha0:0≤a) (ha1:a≤1000) (hr0:0≤r) (hr1:r≤1000) (hm:PtA w bm om ms) (hz:Byte ms) (hml:ms.length=nm) (hl:nm≤1000) :
  Calls Tryz.prog 66 #[.int .i64 a,.int .i64 r,.slice (some ⟨bm,om,none⟩) nm cm] w (fun e w'=>∃ v,e=.returned v∧TxO w' w.heap.size v 64∧Below w.heap.size w w'):=by
 have HM:=hid_ofE hm;have HZ:=hid_ofE hz;clear hm hz;go_enter Tryz.func66,Tryz.ntmps66;go_wp2_with fail;refine(pubO_any r w hr0 hr1).mono ?_;rintro e w1 ⟨v1,rfl,⟨z1,O1,l1,b1⟩,B1⟩;obtain⟨g1,k1,rfl,_,_⟩:=PtA.of_own O1;rw[l1] at O1 ⊢;have HO1:=hid_ofE O1;have HB1:=hid_ofE B1;clear O1 B1;go_wp2_with fail;refine(pubO_any a w1 ha0 ha1).mono ?_;rintro e w2 ⟨v2,rfl,⟨z2,O2,l2,b2⟩,B2⟩;obtain⟨g2,k2,rfl,_,_⟩:=PtA.of_own O2;rw[l2] at O2 ⊢;have HO2:=hid_ofE (And.intro (HO1.out.keepE (fun k _ hk=>B2.block k hk)) O2);have HB2:=hid_ofE (HB1.out.trans (B2.mono HB1.out.size));clear O2 B2 HO1 HB1;have C:=hid_ofE (cat3 w2 _ _ _ z1 z2 ms (Part.of_own HO2.out.1) (Part.of_own HO2.out.2) ((HM.out.below HB2.out).part nm cm hml) (by omega));go_wp2_with fail;refine C.out.mono ?_;rintro e w3 ⟨v3,rfl,O3,B3⟩;obtain⟨g3,c3,rfl,hA3,hc3⟩:=PtA.of_own O3;have HBY:=hid_ofE (byte_app (byte_app b1 b2) HZ.out);have hlen:(z1++z2++ms).length=64+nm:=by rw[List.length_append,List.length_append,l1,l2,hml]
 have HO3:=hid_ofE (HO2.out.1.keepE (fun k _ hk=>B3.block k hk));have HB3:=hid_ofE (HB2.out.trans (B3.mono HB2.out.size));have H:=hid_ofE (shaS_any g3 0 c3 (64+nm) (z1++z2++ms) w3 hlen hA3.lt hA3.c HBY.out (by omega));rw[hlen];have HSL:=hid_ofE (And.intro (shaL_lenE (z1++z2++ms)) (show Byte (shaL (z1++z2++ms)) by unfold shaL;exact txtW_byte _));clear C O3 B3 hA3 hc3 HBY HO2 HB2 HM hlen;generalize shaL (z1++z2++ms)=hs at *;go_wp2_with fail;refine H.out.mono ?_;rintro e w4 ⟨v4,rfl,O4,B4⟩;obtain⟨g4,c4,rfl,hA4,hc4⟩:=PtA.of_own O4;have HO4:=hid_ofE (HO3.out.keepE (fun k _ hk=>B4.block k hk));have HB4:=hid_ofE (HB3.out.trans (B4.mono HB3.out.size));have R:=hid_ofE (sred_any (some ⟨g4,0,none⟩) 64 c4 hs w4 HSL.out.1 (by decide) hA4.at_ HSL.out.2);rw[HSL.out.1];clear H O4 B4 hA4 hc4 HO3 HB3;go_wp2_with fail;refine R.out.mono ?_;rintro e w5 ⟨v5,rs,rfl,O5,b5,l5,_,B5⟩;obtain⟨g5,c5,rfl,hA5,hc5⟩:=PtA.of_own O5;rw[l5];have HO5:=hid_ofE (HO4.out.keepE (fun k _ hk=>B5.block k hk));have HB5:=hid_ofE (HB4.out.trans (B5.mono HB4.out.size));have P:=hid_ofE (resp_any r a g5 0 c5 rs w5 hr0 hr1 ha0 ha1 l5 b5 hA5.lt hA5.c);clear R O5 B5 hA5 hc5 HO4 HB4;go_wp2_with fail;refine P.out.mono ?_;rintro e w6 ⟨v6,rfl,⟨z6,O6,l6,b6⟩,B6⟩;obtain⟨g6,c6,rfl,hA6,hc6⟩:=PtA.of_own O6;rw[l6];have HO6:=hid_ofE (HO5.out.keepE (fun k _ hk=>B6.block k hk));have HB6:=hid_ofE (HB5.out.trans (B6.mono HB5.out.size));have HA6:=hid_ofE hA6;clear P O6 B6 hA6 hc6 HO5 HB5;go_wp2_with (at_builtin;refine wpList_app _ rfl _ _ rfl w.heap.size _ _ rfl HO6.out ⟨g6,0,none⟩ 32 c6 z6 rfl l6 ?c1 ?c2 HB6.out.size ?_)
 case c1=>intro j hj;rw[Addr.add_lit];exact HA6.out.c j (by omega)
 case c2=>omega
 intro v7 w7 O7 B7 _;have HF:=hid_ofE (And.intro (TxO.of_own O7 (by rw[List.length_append,l1,l6]:(z1++z6).length=64) (byte_app b1 b6)) (HB6.out.trans B7));clear O7 B7 HO6 HB6 HA6;go_wp2
 go_ret
 exact⟨_,rfl,HF.out.1,HF.out.2⟩
theorem freeze_heap (w:World) (g k j:Nat):(w.freeze ⟨g,k,none⟩ 1).heap[j]?=if j=g then(w.heap[j]?).map (fun|.cells c elem (lo,hi)=>Obj.cells c elem (if lo == hi then(k,k+1) else(min lo k,max hi (k+1)))|o=>o) else w.heap[j]?:=by
 unfold World.freeze;rw[if_neg (by decide)];simp only[Array.getElem?_modify];by_cases h:g=j
 ·subst h;simp;rfl
 ·rw[if_neg h,if_neg (Ne.symm h)]
theorem freeze_size (w:World) (a:Addr) (n:Nat):(w.freeze a n).heap.size=w.heap.size:=by
 unfold World.freeze;split<;>simp
theorem freeze_below (w:World) (g k B:Nat) (hB:B≤g):Below B w (w.freeze ⟨g,k,none⟩ 1):=
 ⟨rfl,rfl,rfl,by rw[freeze_size];exact Nat.le_refl _,fun j hj=>by rw[freeze_heap,if_neg (by omega)]⟩
theorem freeze_mono (w:World) (g k:Nat):Mono w (w.freeze ⟨g,k,none⟩ 1):=by
 refine⟨by rw[freeze_size];exact Nat.le_refl _,fun a ha=>?_,fun b cs t fr hb=>?_⟩
 ·by_cases h:a.block=g
  ·subst h;cases hh:w.heap[a.block]? with
   |none=>simp[World.cell?,freeze_heap,hh]
   |some o=>cases o<;>simp[World.cell?,freeze_heap,hh]
  ·simp[World.cell?,freeze_heap,h]
 ·by_cases h:b=g
  ·subst h;rw[freeze_heap,if_pos rfl,hb];exact⟨_,rfl⟩
  ·rw[freeze_heap,if_neg h];exact⟨fr,hb⟩
theorem run_convert_const (w:World) (g:Nat) (C:Array Value) (n c:Nat) (fr:Nat×Nat) (hg:w.heap[g]?=some (.cells C 5 fr)) :
  (convert 22 22 (.slice (some ⟨g,0,none⟩) n c)).run Tryz.prog w=.ok (.slice (some ⟨g,0,none⟩) n c) (w.freeze ⟨g,C.size,none⟩ 1):=by
 have hsh:w.shape? g=some (5,C.size):=by unfold World.shape?;rw[hg]
 simp[convert,run_underlying Tryz.underlying22,run_underlying Tryz.underlying5,markStringish,hsh]
theorem Part.mono {w w':World} {v:Value} {zs:List Int} (h:Part w v zs) (hm:Mono w w'):Part w' v zs:=by
 obtain⟨b,o,c,rfl,hl,hc⟩:=h;exact⟨b,o,c,rfl,by have:=hm.size;omega,fun i hi=>by rw[hm.cell ⟨b,o+i,none⟩ hl];exact hc i hi⟩
theorem part_new (w:World) (cs:Array Value) (zs:List Int) (t:TypeId) (h:cs=(zs.map (Value.int .u8)).toArray) (n:Nat) (hn:n=zs.length) (c:Nat):Part (w.alloc (.cells cs t)) (.slice (some ⟨w.heap.size,0,none⟩) n c) zs:=by
 subst h;subst hn;refine⟨w.heap.size,0,c,rfl,by simp,fun i hi=>?_⟩;rw[cell_of_row _ _ (0+i) _ t (0,0) (heap_alloc_new w _)];simp[hi]
theorem below_new (w:World) (o:Obj):Below w.heap.size w (w.alloc o):=(Below.refl _ _).alloc (Nat.le_refl _) _
theorem four_byte (x:Int) (h:U32 x):Byte (four x):=by
 obtain⟨h0,h1⟩:=h;intro z hz;simp[four] at hz;rcases hz with rfl|rfl|rfl|rfl<;>omega
theorem cat2 (w:World) (v1 v2:Value) (z1 z2:List Int) (h1:Part w v1 z1) (h2:Part w v2 z2) (hl:z1.length+z2.length≤100000) :
  Calls Tryz.prog 63 #[.slice (some ⟨w.heap.size,0,none⟩) 2 2] (w.alloc (.cells #[v1,v2] 22)) fun e w'=>∃ v,e=.returned v∧Own w' w.heap.size v (z1++z2)∧Below w.heap.size w w':=by
 have hal:Below w.heap.size w (w.alloc (.cells #[v1,v2] 22)):=below_new _ _;have hfl:[z1,z2].flatten=z1++z2:=by simp
 have C:=cat_any w.heap.size 2 2 [v1,v2] [z1,z2] (w.alloc (.cells #[v1,v2] 22)) rfl (by simp)
  (fun i hi=>by
   rw[cell_of_row _ _ i _ _ _ (heap_alloc_new w _)]
   match i,hi with
   |0,_=>rfl
   |1,_=>rfl)
  (fun i hi=>by
   match i,hi with
   |0,_=>exact h1.below hal
   |1,_=>exact h2.below hal)
  (by rw[hfl,List.length_append];omega) (by decide)
 rw[hfl] at C;refine C.mono ?_;rintro e w' ⟨v,rfl,O,B⟩;exact⟨v,rfl,O.monoE hal.size,hal.trans (B.mono hal.size)⟩
set_option maxRecDepth 100000 in
set_option maxHeartbeats 2000000 in
theorem ticket_any (a r s x:Int) (w:World) (ha0:0≤a) (ha1:a≤1000) (hr0:0≤r) (hr1:r≤1000) (hs0:0≤s) (hs1:s<65536) (hx0:0≤x) (hx1:x<4294967296) :
  Calls Tryz.prog 40 #[.int .i64 a,.int .i64 r,.int .i64 s,.int .i64 x] w (fun e w'=>∃ v,e=.returned v∧TxO w' w.heap.size v 72∧Below w.heap.size w w'):=by
 obtain⟨wf,ewf⟩:∃ wf,wf=(w.alloc (.cells #[.int .u8 84,.int .u8 49] 5)).freeze ⟨w.heap.size,2,none⟩ 1:=⟨_,rfl⟩
 have hcv:(convert 22 22 (.slice (some ⟨w.heap.size,0,none⟩) 2 2)).run Tryz.prog (w.alloc (.cells #[.int .u8 84,.int .u8 49] 5))=.ok (.slice (some ⟨w.heap.size,0,none⟩) 2 2) wf:=by
  rw[ewf];exact run_convert_const _ w.heap.size _ 2 2 (0,0) (heap_alloc_new w _)
 have hfs:wf.heap.size=w.heap.size+1:=by rw[ewf,freeze_size];simp
 have HF:=hdI (show Below w.heap.size w wf∧Part wf (.slice (some ⟨w.heap.size,0,none⟩) 2 2) [84,49] from by
  rw[ewf];exact⟨(below_new _ _).trans (freeze_below _ _ 2 _ (Nat.le_refl _)),(part_new w #[.int .u8 84,.int .u8 49] [84,49] _ rfl 2 rfl 2).mono (freeze_mono _ _ _)⟩)
 clear ewf;go_enter Tryz.func40,Tryz.ntmps40;go_wp2_with fail;refine(four_any x _ ⟨hx0,hx1⟩).mono ?_;rintro e w2 ⟨rfl,h2⟩;have b1:=below_new wf (.cells #[.int .u8 (s%256),.int .u8 (s/256)] 5);have b2:=below_new (wf.alloc (.cells #[.int .u8 (s%256),.int .u8 (s/256)] 5)) (.cells #[.int .u8 (x%256),.int .u8 (x/256%256),.int .u8 (x/65536%256),.int .u8 (x/16777216)] 5);rw[←h2] at b2;have p2:=part_new wf #[.int .u8 (s%256),.int .u8 (s/256)] [s%256,s/256] 5 rfl 2 rfl 2;have p3:=part_new (wf.alloc (.cells #[.int .u8 (s%256),.int .u8 (s/256)] 5)) #[.int .u8 (x%256),.int .u8 (x/256%256),.int .u8 (x/65536%256),.int .u8 (x/16777216)] (four x) 5 rfl 4 rfl 4;rw[←h2] at p3;rw[hfs] at p2;rw[World.size_alloc,hfs] at p3 ⊢;have C:=hdI (cat3 w2 _ _ _ [84,49] [s%256,s/256] (four x) ((HF.out.2.below b1).below b2) (p2.below b2) p3 (by simp[four]));have HB:=hdI (HF.out.1.trans ((b1.mono (by rw[hfs];omega)).trans (b2.mono (by simp;omega))));have HY:=hdI (show Byte ([84,49]++[s%256,s/256]++four x) from byte_app (byte_app (by intro z hz;simp at hz;omega) (by intro z hz;simp at hz;omega)) (four_byte x ⟨hx0,hx1⟩));have HL:=hdI (show([84,49]++[s%256,s/256]++four x).length=8 from rfl);clear HF b1 b2 p2 p3 h2 hcv hfs;generalize [84,49]++[s%256,s/256]++four x=hs at *;go_wp2_with fail;refine C.out.mono ?_;rintro e w3 ⟨v3,rfl,O3,B3⟩;obtain⟨g3,c3,rfl,hA3,hc3⟩:=PtA.of_own O3;rw[HL.out] at O3 hc3 ⊢;have HO3:=hdI (O3.monoE HB.out.size);have HB3:=hdI (HB.out.trans (B3.mono HB.out.size));have HA3:=hdI hA3;clear C O3 B3 HB hA3;by_cases h0:a=0
 ·subst h0;go_wp2_with fail;refine(zeros_any 64 w3 (by decide) (by decide)).mono ?_;rintro e w4 ⟨v4,rfl,O4,B4⟩;obtain⟨g4,c4,rfl⟩:=O4.2;have hl4:(List.replicate (64:Int).toNat (0:Int)).length=64:=rfl;rw[hl4] at O4 ⊢;have C:=hdI (cat2 w4 _ _ hs _ (Part.of_own (HO3.out.keepE (fun k _ hk=>B4.block k hk))) (Part.of_own O4) (by rw[HL.out,hl4];decide));have HB4:=hdI (HB3.out.trans (B4.mono HB3.out.size));clear O4 B4 HO3 HB3 HA3;go_wp2_with fail;refine C.out.mono ?_;rintro e w5 ⟨v5,rfl,O5,B5⟩;have HF:=hdI (And.intro (TxO.of_own (O5.monoE HB4.out.size) (show _=72 by rw[List.length_append,HL.out,hl4]) (byte_app HY.out (fun z hz=>by rw[List.mem_replicate] at hz;omega))) (HB4.out.trans (B5.mono HB4.out.size)));clear O5 B5 C HB4;go_wp2
  go_ret
  exact⟨_,rfl,HF.out.1,HF.out.2⟩
 ·go_wp2_with fail;refine(sign_any a r g3 0 8 c3 hs w3 ha0 ha1 hr0 hr1 HA3.out HY.out HL.out (by decide)).mono ?_;rintro e w4 ⟨v4,rfl,⟨z4,O4,l4,y4⟩,B4⟩;obtain⟨g4,c4,rfl,hA4,hc4⟩:=PtA.of_own O4;rw[l4];have HO4:=hdI (HO3.out.keepE (fun k _ hk=>B4.block k hk));have HB4:=hdI (HB3.out.trans (B4.mono HB3.out.size));have HA4:=hdI hA4;clear O4 B4 hA4 hc4 HO3 HB3 HA3;go_wp2_with (at_builtin;refine wpList_app _ rfl _ _ rfl w.heap.size _ _ rfl HO4.out ⟨g4,0,none⟩ 64 c4 z4 rfl l4 ?c1 ?c2 HB4.out.size ?_)
  case c1=>intro j hj;rw[Addr.add_lit];exact HA4.out.c j (by omega)
  case c2=>rw[HL.out];decide
  intro v7 w7 O7 B7 _;have HF:=hdI (And.intro (TxO.of_own O7 (show _=72 by rw[List.length_append,HL.out,l4]) (byte_app HY.out y4)) (HB4.out.trans B7));clear O7 B7 HO4 HB4 HA4;go_wp2
  go_ret
  exact⟨_,rfl,HF.out.1,HF.out.2⟩
theorem xor_bdP (u v:Int):0≤bits .xor .u8 u v∧bits .xor .u8 u v<256:=by
 have h:∀ n:Int,0≤IntKind.u8.wrap n∧IntKind.u8.wrap n<256:=fun n=>by rw[IntKind.wrap_u8];omega
 unfold bits;exact h _
def TxB (B:Nat) (w:World) (u:Value) (n:Nat):Prop:=
 ∃ b o c zs cs fr,u=.slice (some ⟨b,o,none⟩) n c∧n≤c∧zs.length=n∧Byte zs∧B≤b∧w.heap[b]?=some (.cells cs 5 fr)∧∀ i,i<n→w.cell? ⟨b,o+i,none⟩=some (.int .u8 (zs.getD i 0))
theorem TxB.keep {B:Nat} {w w':World} {u:Value} {n:Nat} (h:TxB B w u n) (hk:∀ b cs fr,B≤b→w.heap[b]?=some (.cells cs 5 fr)→w'.heap[b]?=w.heap[b]?):TxB B w' u n:=by
 obtain⟨b,o,c,zs,cs,fr,h1,h2,h3,h4,h5,h6,h7⟩:=h;have e:=hk b cs fr h5 h6;exact⟨b,o,c,zs,cs,fr,h1,h2,h3,h4,h5,by rw[e];exact h6,fun i hi=>by rw[World.cell?_of_block (a:=⟨b,o+i,none⟩) e];exact h7 i hi⟩
theorem lt_of_heap {w:World} {b:Nat} {o:Obj} (h:w.heap[b]?=some o):b<w.heap.size:=(Array.getElem?_eq_some_iff.1 h).1
theorem TxB.below {B:Nat} {w w':World} {u:Value} {n:Nat} (h:TxB B w u n) (b:Below w.heap.size w w'):TxB B w' u n:=h.keep fun k _ _ _ hk=>b.block k (lt_of_heap hk)
theorem TxB.wrG {B g:Nat} {w w':World} {u:Value} {n:Nat} (h:TxB B w u n) (b:WrG g w w') (hg:g<B):TxB B w' u n:=h.keep fun k _ _ hB hk=>b.block k (lt_of_heap hk) (by omega)
theorem TxB.mono {B B':Nat} {w:World} {u:Value} {n:Nat} (h:TxB B w u n) (hB:B'≤B):TxB B' w u n:=by
 obtain⟨b,o,c,zs,cs,fr,h1,h2,h3,h4,h5,h6,h7⟩:=h;exact⟨b,o,c,zs,cs,fr,h1,h2,h3,h4,Nat.le_trans hB h5,h6,h7⟩
theorem TxB.of_own {B:Nat} {w:World} {v:Value} {zs:List Int} {n:Nat} (h:Own w B v zs) (hl:zs.length=n) (hz:Byte zs):TxB B w v n:=by
 subst hl;obtain⟨g,c,rfl⟩:=h.2;rcases h.1.2 with⟨h',_⟩|⟨g',c',cur,h',hb,hh,hc,_⟩
 ·cases h'
 ·cases h';refine⟨g,0,c,zs,cur,_,rfl,hc,rfl,hz,hb,hh,fun i hi=>?_⟩;rw[Nat.zero_add,h.1.cellAt i (by omega)];simp[hi]
theorem TxB.of_txO {B:Nat} {w:World} {v:Value} {n:Nat} (h:TxO w B v n):TxB B w v n:=by
 obtain⟨zs,h1,h2,h3⟩:=h;exact TxB.of_own h1 h2 h3
theorem TxB.cut {B:Nat} {w:World} {b o c n:Nat} (h:TxB B w (.slice (some ⟨b,o,none⟩) n c) n) (m:Nat) (hm:m≤n):TxB B w (.slice (some ⟨b,o,none⟩) m c) m:=by
 obtain⟨b',o',c',zs,cs,fr,h1,h2,h3,h4,h5,h6,h7⟩:=h;cases h1;refine⟨b,o,c,zs.take m,cs,fr,rfl,by omega,by simp;omega,fun z hz=>h4 z (List.mem_of_mem_take hz),h5,h6,fun i hi=>?_⟩;rw[h7 i (by omega)]
 congr 2
 simp[List.getD_eq_getElem?_getD,hi]
theorem TxB.at_ {B:Nat} {w:World} {u:Value} {n:Nat} (h:TxB B w u n):∃ a c zs,u=.slice a n c∧n≤c∧zs.length=n∧Byte zs∧At .u8 w a zs:=by
 obtain⟨b,o,c,zs,cs,fr,h1,h2,h3,h4,h5,h6,h7⟩:=h;exact⟨_,c,zs,h1,h2,h3,h4,.inr ⟨b,o,rfl,lt_of_heap h6,fun i hi=>h7 i (by omega)⟩⟩
structure PS (lo:Nat) (w:World) (g:Nat) (x:Option Addr) (n cap:Nat) (v:Value) (m:Nat) (vs:List Value) (wr:World):Prop where
 wg:WrG g w wr
 cb:CurB wr g x n cap
 hg:g<w.heap.size
 row:wr.ownsRow w.heap.size 22 1 v m vs
 tx:∀ u∈vs,∃ k,lo≤k∧k≤72∧TxB w.heap.size wr u k
section
variable {lo:Nat} {w:World} {g:Nat} {x:Option Addr} {n cap:Nat} {v:Value} {m:Nat} {vs:List Value} {wr w':World} {q c:Nat}
theorem PS.ct (h:PS lo w g x n cap v m vs wr) (ht:CurT w g x n):CurT wr g x n:=ht.wr (fun q hq=>h.wg.block q (Nat.lt_trans hq h.hg) (Nat.ne_of_lt hq))
theorem ownsRow_kp {B:Nat} {e:TypeId} {s:Nat} (h:wr.ownsRow B e s v m vs) (hk:∀ q cs,B≤q→wr.heap[q]?=some (.cells cs e (0,0))→w'.heap[q]?=wr.heap[q]?):w'.ownsRow B e s v m vs:=by
 refine⟨h.1,?_⟩;rcases h.2 with h'|⟨q,c,cur,h1,h2,h3,h4⟩
 ·exact .inl h'
 ·exact .inr ⟨q,c,cur,h1,h2,by rw[hk q cur h2 h3];exact h3,h4⟩
theorem PS.cur (h:PS lo w g x n cap v m vs wr) (hc:CurB w' g x n cap) (hw:Wr g wr w'):PS lo w g x n cap v m vs w':=
 ⟨h.wg.trans hw.wrG,hc,h.hg,ownsRow_kp h.row (fun q _ hq _=>hw.block q (by have:=h.hg;omega)),fun u hu=>by
  obtain⟨k,h0,h1,h2⟩:=h.tx u hu;exact⟨k,h0,h1,h2.wrG hw.wrG h.hg⟩⟩
theorem PS.call (h:PS lo w g x n cap v m vs wr) (b:Below wr.heap.size wr w'):PS lo w g x n cap v m vs w':=
 ⟨h.wg.trans (WrG.of_below b),by obtain⟨i,hh,p1,p2,p3,p4,p5⟩:=h.cb;exact⟨i,hh,p1,p2,p3,p4,by rw[b.block g (lt_of_heap p5)];exact p5⟩,h.hg,ownsRow_kp h.row (fun q _ _ hq=>b.block q (lt_of_heap hq)),fun u hu=>by
  obtain⟨k,h0,h1,h2⟩:=h.tx u hu;exact⟨k,h0,h1,h2.below b⟩⟩
theorem PS.app {v' u:Value} {k:Nat} (h:PS lo w g x n cap v m vs wr) (hu:TxB w.heap.size wr u k) (hk0:lo≤k) (hk:k≤72) (hg:wr.grownBy w' v.ownBlock) (hr:w'.ownsRow w.heap.size 22 1 v' (m+1) (vs++[u])):PS lo w g x n cap v' (m+1) (vs++[u]) w':=by
 have hB:∀ q,v.ownBlock=some q→w.heap.size≤q∧∃ cs fr,wr.heap[q]?=some (.cells cs 22 fr):=fun q hq=>by
  rcases h.row.2 with⟨h',_⟩|⟨q',c,cur,h1,h2,h3,h4⟩
  ·rw[h'] at hq;simp[Value.ownBlock] at hq
  ·rw[h1] at hq;simp[Value.ownBlock] at hq;subst hq;exact⟨h2,cur,_,h3⟩
 have kp:∀ q,q<w.heap.size→w'.heap[q]?=wr.heap[q]?:=fun q hq=>hg.block q (Nat.lt_of_lt_of_le hq h.wg.size) (fun e=>by have:=(hB q e.symm).1;omega)
 have kt:∀ b cs fr,w.heap.size≤b→wr.heap[b]?=some (.cells cs 5 fr)→w'.heap[b]?=wr.heap[b]?:=fun b cs fr _ hb=>hg.block b (lt_of_heap hb) (fun e=>by
  obtain⟨_,cs',fr',h'⟩:=hB b e.symm;rw[hb] at h';injection h' with h';injection h' with _ h' _;exact absurd h' (by decide))
 refine⟨⟨hg.os.trans h.wg.os,hg.tape.trans h.wg.tape,hg.output.trans h.wg.output,Nat.le_trans h.wg.size hg.size,fun q hq hne=>(kp q hq).trans (h.wg.block q hq hne)⟩,?_,h.hg,hr,fun z hz=>?_⟩
 ·obtain⟨i,hh,p1,p2,p3,p4,p5⟩:=h.cb;exact⟨i,hh,p1,p2,p3,p4,by rw[kp g h.hg];exact p5⟩
 ·rcases List.mem_append.1 hz with hz|hz
  ·obtain⟨k',h0,h1,h2⟩:=h.tx z hz;exact⟨k',h0,h1,h2.keep kt⟩
  ·simp at hz;subst hz;exact⟨k,hk0,hk,hu.keep kt⟩
theorem PS.weak (h:PS lo w g x n cap v m vs wr):PS 0 w g x n cap v m vs wr:=⟨h.wg,h.cb,h.hg,h.row,fun u hu=>by
 obtain⟨k,h0,h1,h2⟩:=h.tx u hu;exact⟨k,Nat.zero_le _,h1,h2⟩⟩
theorem PS.form (h:PS lo w g x n cap v m vs wr):∃ a c,v=.slice a m c:=by
 rcases h.row.2 with⟨rfl,rfl⟩|⟨q,c,cur,h1,_⟩
 ·exact⟨_,_,rfl⟩
 ·exact⟨_,_,h1⟩
theorem PS.form1 (h:PS lo w g x n cap v m vs wr) (hm:0<m):∃ q c,v=.slice (some ⟨q,0,none⟩) m c∧m≤c∧w.heap.size≤q∧∀ i,i<m→wr.cell? ⟨q,i,none⟩=vs[i]?:=by
 rcases h.row.2 with⟨_,h0⟩|⟨q,c,cur,h1,h2,h3,h4,_⟩
 ·omega
 ·have hr:=h.row;rw[h1] at hr;exact⟨q,c,h1,h4,h2,fun i hi=>hr.cellAt i (by omega)⟩
theorem PS.lt (h:PS lo w g x n cap (.slice (some ⟨q,0,none⟩) m c) m vs wr):q<wr.heap.size:=by
 rcases h.row.2 with⟨h',_⟩|⟨q',c',cur,h1,h2,h3,_⟩
 ·cases h'
 ·cases h1;exact lt_of_heap h3
theorem CurB.bel {w w':World} {g:Nat} {x:Option Addr} {n cap:Nat} (h:CurB w g x n cap) (b:Below w.heap.size w w'):CurB w' g x n cap∧g<w.heap.size:=by
 obtain⟨i,hh,p1,p2,p3,p4,p5⟩:=h;exact⟨⟨i,hh,p1,p2,p3,p4,by rw[b.block g (lt_of_heap p5)];exact p5⟩,lt_of_heap p5⟩
theorem PS.start (lo:Nat) (h:CurB w g x n cap):PS lo w g x n cap (.slice (some ⟨w.heap.size,0,none⟩) 0 0) 0 [] (w.alloc (.cells #[] 22)):=
 ⟨WrG.of_below (below_new _ _),(h.bel (below_new _ _)).1,(h.bel (below_new w (.cells #[] 22))).2,⟨by simp,.inr ⟨w.heap.size,0,#[],rfl,Nat.le_refl _,heap_alloc_new w _,Nat.le_refl _,by simp[maxLen],by simp,by simp⟩⟩,by simp⟩
theorem Tryz.infoTxt:(Tryz.prog.info? 22).map (fun i=>(i.zero,i.size,i.bytes))=some (some (.slice none 0 0),1,24):=by kernel_rfl
theorem wpList_appP1 (wb:World) {ops:Array Oper} {rest:List Oper} {o:Oper} {a:Act} {Q:Exit→Act→World→Prop} (hgd:o.guard=none) (s y:Operand)
  (hop:o.op=Op.call { callee:=Callee.builtin Builtin.append,args:=#[s,y],argTypes:=#[50,50] }) (B:Nat) (v:Value) (m:Nat) (vs:List Value) (u:Value) (hs:a.eval s=v)
  (hown:(wb.alloc (.cells #[u] 22)).ownsRow B 22 1 v m vs) (hx:a.eval y=.slice (some ⟨wb.heap.size,0,none⟩) 1 1) (hu:u.oneCell'=true) (hm:m≤1000) (hB:B≤wb.heap.size)
  (hK:∀ v' w',w'.ownsRow B 22 1 v' (m+1) (vs++[u])→(wb.alloc (.cells #[u] 22)).grownBy w' v.ownBlock→wpList Tryz.prog ops Q rest (a.put o.dst v') w'):wpList Tryz.prog ops Q (o::rest) a (wb.alloc (.cells #[u] 22)):=by
 obtain⟨i0,hi,hz0,hz1,hz2⟩:=info_parts Tryz.infoTxt;obtain⟨v',w',hr,h2,h3,h4,h5⟩:=run_append_own_at (P:=Tryz.prog) (wb.alloc (.cells #[u] 22)) B 50 o.type 22 i0 (.slice none 0 0) 1 24 Tryz.underlying50 hi hz0 hz1 hz2 rfl (by decide) v m _ hown ⟨wb.heap.size,0,none⟩ 1 1 [u] rfl (by
  intro j z hz;have hj:j=0:=by have:=(List.getElem?_eq_some_iff.1 hz).1;simp at this;omega
  subst hj;rw[Addr.add_lit,cell_of_row _ _ _ _ _ _ (heap_alloc_new wb _),Nat.zero_add];simpa using hz) (by simpa using hu) (by unfold maxLen;omega) (by omega) (by simp;omega)
 have hk:=hK v' w' h2 h3;refine wpList_plain hgd fun K hK'=>?_
 unfold Oper.wp execOp;simp only[hop,resolve,invoke,builtin,Sem.run_bind,Sem.run_pure,Result.andThen_ok,List.map_toArray,List.map_cons,List.map_nil,hs,hx,hr];exact hK' _ _ hk
theorem wpList_cpy {w:World} {ops:Array Oper} {rest:List Oper} {o:Oper} {a:Act} {Q:Exit→Act→World→Prop} (hg:o.guard=none) (s y:Operand)
  (hop:o.op=Op.call { callee:=Callee.builtin Builtin.append,args:=#[s,y],argTypes:=#[22,22] }) (B E B':Nat) (u:Value) (k:Nat) (hs:a.eval s=.slice (some ⟨E,0,none⟩) 0 0)
  (hown:Own w B (.slice (some ⟨E,0,none⟩) 0 0) []) (hx:a.eval y=u) (hu:TxB B' w u k) (hk:k≤72) (hB:B≤w.heap.size)
  (hK:∀ v' w' zs,Own w' B v' zs→zs.length=k→Byte zs→Below B w w'→wpList Tryz.prog ops Q rest (a.put o.dst v') w'):wpList Tryz.prog ops Q (o::rest) a w:=by
 obtain⟨b,p,c,zs,cs,fr,h1,h2,h3,h4,h5,h6,h7⟩:=hu;exact wpList_app w hg s y hop B _ [] hs hown ⟨b,p,none⟩ k c zs (hx.trans h1) h3 (fun j hj=>by rw[Addr.add_lit];exact h7 j hj) (by simp;omega) hB fun v' w' O b' _=>hK v' w' zs (by simpa using O) h3 h4 b'
end
theorem SerP.len {xs:List Int} (h:SerP xs):xs.length≤256:=by
 have e:=h.eq_upTo (fun v=>decide ((v:Int)∈xs)) (fun v _=>by simp);rw[←e];exact upTo_len _ _
theorem apR_T {D U:List Int} {k:Int} {T:List Int} {n:Nat} {kind:Int} {a b:Nat}:(apR D U k T n kind a b).T.length≤T.length+2:=by
 unfold apR;split
 ·split
  ·simp
  ·simp[apNo]
 ·split
  ·split
   ·simp
   ·split
    ·simp
    ·simp[apNo]
  ·split
   ·split
    ·simp;omega
    ·simp[apNo]
   ·simp[apNo]
theorem apF_len {D U:List Int} {k:Int} {T:List Int} {n:Nat} {kind:Int} {a b:Nat} (hT:T.length=n*2):(apF D U k T n kind a b).D.length≤256∧(apF D U k T n kind a b).U.length≤256∧(apF D U k T n kind a b).T.length≤514:=by
 unfold apF;split
 ·rename_i h
  have hs:=stP_of h;have h1:=apR_ser (k:=k) (T:=T) (n:=n) (kind:=kind) (a:=a) (b:=b) hs.1 hs.2.2.1;have h2:=hs.2.2.1.len;have h3:=hs.2.2.2.2.1;have h4:=hs.2.2.2.1;refine⟨h1.1.len,h1.2.len,Nat.le_trans apR_T ?_⟩;omega
 ·simp[apNo]
section
variable (ok:Bool) (aD aU aT:Option Addr) (nD cD nU cU nT cT:Nat) (k0 k:Int) (w:World)
end
theorem upTo_or_len (P:Nat→Bool) (a k:Nat):(upTo (fun v=>P v || decide (v=a)) k).length≤(upTo P k).length+(if a<k then 1 else 0):=by
 induction k with
 |zero=>simp[upTo]
 |succ k ih=>
  rw[upTo_succ,upTo_succ];by_cases hp:P k=true
  ·rw[if_pos (by simp[hp]),if_pos hp];simp only[List.length_append,List.length_cons,List.length_nil];split at ih<;>split<;>omega
  ·by_cases ha:k=a
   ·rw[if_pos (by simp[ha]),if_neg hp];simp only[List.length_append,List.length_cons,List.length_nil];rw[if_neg (by omega)] at ih;rw[if_pos (by omega)];omega
   ·rw[if_neg (by simp[hp,ha]),if_neg hp];split at ih<;>split<;>omega
theorem withS_len1 {xs:List Int} (h:SerP xs) (a:Nat):(withS xs a).length≤xs.length+1:=by
 classical
 have e:=h.eq_upTo (fun v=>decide ((v:Int)∈xs)) (fun v _=>by simp);have e2:withS xs a=upTo (fun v=>(fun v:Nat=>decide ((v:Int)∈xs)) v || decide (v=a)) 256:=by
  unfold withS
  congr 1
  funext v
  by_cases h1:(v:Int)∈xs<;>by_cases h2:v=a<;>simp[h1,h2]
 have h3:=upTo_or_len (fun v=>decide ((v:Int)∈xs)) a 256;rw[e] at h3;rw[e2];show(upTo (fun v=>decide ((v:Int)∈xs) || decide (v=a)) 256).length≤_
 split at h3<;>omega
theorem CurB.lt {w:World} {g:Nat} {x:Option Addr} {n cap:Nat} (h:CurB w g x n cap):g<w.heap.size:=by
 obtain⟨i,q,_,_,_,_,h⟩:=h;exact(Array.getElem?_eq_some_iff.1 h).1
theorem CurB.keep {w w':World} {g:Nat} {x:Option Addr} {n cap:Nat} (h:CurB w g x n cap) (hk:w'.heap[g]?=w.heap[g]?):CurB w' g x n cap:=by
 obtain⟨i,q,h1,h2,h3,h4,h5⟩:=h;exact⟨i,q,h1,h2,h3,h4,hk.trans h5⟩
structure DS0 (w:World) (g:Nat) (x:Option Addr) (n cap S:Nat) (vD vU vT:Value) (k:Int) (D U:List Int) (wr:World):Prop where
 wg:WrG g w wr
 cb:CurB wr g x n cap
 bx:wr.heap[w.heap.size]?=some (.cells #[.slice none 0 0,.slice none 0 0,.int .i64 0,.slice none 0 0] 26 (0,0))
 s:wr.heap[S]?=some (.cells #[vD,vU,.int .i64 k,vT] 26 (0,0))
 hg:g<w.heap.size
 hs:w.heap.size<S
 d:IO (S+1) wr vD D
 u:IO (S+1) wr vU U
 pd:SerP D
 pu:SerP U
 ap:ApV vD vU
section
variable {w wr w':World} {g:Nat} {x:Option Addr} {n cap S:Nat} {vD vU vT v:Value} {k:Int} {D U:List Int} {T:List Int} {nT:Nat} {row:Option Nat}
theorem DS0.lt (h:DS0 w g x n cap S vD vU vT k D U wr):S<wr.heap.size:=(Array.getElem?_eq_some_iff.1 h.s).1
theorem DS0.ct (h:DS0 w g x n cap S vD vU vT k D U wr) (ht:CurT w g x n):CurT wr g x n:=ht.wr (fun q hq=>h.wg.block q (Nat.lt_trans hq h.hg) (Nat.ne_of_lt hq))
theorem DS0.cur (h:DS0 w g x n cap S vD vU vT k D U wr) (hc:CurB w' g x n cap) (hw:Wr g wr w'):DS0 w g x n cap S vD vU vT k D U w':=
 ⟨h.wg.trans hw.wrG,hc,by rw[hw.block _ (Nat.ne_of_gt h.hg)];exact h.bx,by rw[hw.block _ (by have:=h.hg;have:=h.hs;omega)];exact h.s,h.hg,h.hs,h.d.wr hw (by have:=h.hg;have:=h.hs;omega),h.u.wr hw (by have:=h.hg;have:=h.hs;omega),h.pd,h.pu,h.ap⟩
theorem DS0.call (h:DS0 w g x n cap S vD vU vT k D U wr) (b:Below wr.heap.size wr w'):DS0 w g x n cap S vD vU vT k D U w':=
 ⟨h.wg.trans (WrG.of_below b),h.cb.keep (b.block g h.cb.lt),by rw[b.block _ (Nat.lt_trans h.hs h.lt)];exact h.bx,by rw[b.block _ h.lt];exact h.s,h.hg,h.hs,h.d.below b,h.u.below b,h.pd,h.pu,h.ap⟩
theorem DS0.gen (h:DS0 w g x n cap S vD vU vT k D U wr) (e1:w'.os=wr.os) (e2:w'.tape=wr.tape) (e3:w'.output=wr.output) (hz:wr.heap.size≤w'.heap.size) (hlow:∀ q,q≤S→w'.heap[q]?=wr.heap[q]?) (hd:IO (S+1) w' vD D) (hu:IO (S+1) w' vU U):DS0 w g x n cap S vD vU vT k D U w':=by
 have h1:=h.hg;have h2:=h.hs;exact⟨⟨e1.trans h.wg.os,e2.trans h.wg.tape,e3.trans h.wg.output,Nat.le_trans h.wg.size hz,fun q hq hqg=>(hlow q (by omega)).trans (h.wg.block q hq hqg)⟩,h.cb.keep (hlow g (by omega)),by rw[hlow _ (by omega)];exact h.bx,by rw[hlow S (Nat.le_refl _)];exact h.s,h.hg,h.hs,hd,hu,h.pd,h.pu,h.ap⟩
theorem io_oth {B q:Nat} {xs:List Int} (hi:IO B wr v xs) (hg:wr.grownBy w' row) (hq:∀ q,row=some q→∃ cs fr,wr.heap[q]?=some (.cells cs 70 fr)):IO B w' v xs:=by
 have hT:(70:TypeId)≠2:=by decide
 obtain⟨a,m,c,rfl⟩:=hi.form;refine⟨hi.1,?_⟩;rcases hi.2 with h'|⟨b,cap,cur,h1,h2,h3,h4⟩
 ·exact .inl h'
 ·refine .inr ⟨b,cap,cur,h1,h2,?_,h4⟩;rw[hg.block b (Array.getElem?_eq_some_iff.1 h3).1 (fun e=>?_)]
  ·exact h3
  ·obtain⟨cs,fr,hc⟩:=hq b e.symm;rw[hc] at h3;simp at h3
theorem TapO.typed {B:Nat} (h:TapO B wr v T nT):∀ q,v.ownBlock=some q→B≤q∧∃ cs fr,wr.heap[q]?=some (.cells cs 70 fr):=fun q hq=>by
 rcases h.2 with⟨h',_⟩|⟨b,c,cur,h',hb,hh,_⟩
 ·rw[h'] at hq;simp[Value.ownBlock] at hq
 ·rw[h'] at hq;simp[Value.ownBlock] at hq;subst hq;exact⟨hb,_,_,hh⟩
theorem DS0.app (h:DS0 w g x n cap S vD vU vT k D U wr) (ht:TapO (S+1) wr vT T nT) (hg:wr.grownBy w' vT.ownBlock):DS0 w g x n cap S vD vU vT k D U w':=by
 refine h.gen hg.os hg.tape hg.output hg.size (fun q hq=>hg.block q (Nat.lt_of_le_of_lt hq h.lt) (fun e=>?_)) (io_oth (q:=0) h.d hg (fun q hq=>(ht.typed q hq).2)) (io_oth (q:=0) h.u hg (fun q hq=>(ht.typed q hq).2));have:=(ht.typed q e.symm).1;omega
theorem DS0.set (h:DS0 w g x n cap S vD vU vT k D U wr) {i:Nat} {cs:Array Value} (e:(#[vD,vU,.int .i64 k,vT]:Array Value).setIfInBounds i v=cs):(wr.setCell ⟨S,i,none⟩ v).heap[S]?=some (.cells cs 26 (0,0))∧Wr S wr (wr.setCell ⟨S,i,none⟩ v):=
 ⟨by rw[heap_setCell_same wr S i _ _ v h.s,e],(Wr.refl S wr).setCell i v⟩
theorem DS0.put (h:DS0 w g x n cap S vD vU vT k D U wr) {i:Nat} {vD' vU' vT':Value} {k':Int} {D' U':List Int} (e:(#[vD,vU,.int .i64 k,vT]:Array Value).setIfInBounds i v=#[vD',vU',.int .i64 k',vT']) (hd:IO (S+1) wr vD' D') (hu:IO (S+1) wr vU' U') (pd:SerP D') (pu:SerP U') (ap:ApV vD' vU') :
  DS0 w g x n cap S vD' vU' vT' k' D' U' (wr.setCell ⟨S,i,none⟩ v):=by
 obtain⟨hs,hw⟩:=h.set e;have h1:=h.hg;have h2:=h.hs;exact⟨⟨hw.os.trans h.wg.os,hw.tape.trans h.wg.tape,hw.output.trans h.wg.output,by rw[hw.size];exact h.wg.size,fun q hq hqg=>(hw.block q (by omega)).trans (h.wg.block q hq hqg)⟩,h.cb.keep (hw.block g (by omega)),by rw[hw.block _ (by omega)];exact h.bx,hs,h.hg,h.hs,hd.wr hw (by omega),hu.wr hw (by omega),pd,pu,ap⟩
theorem DS0.cells (h:DS0 w g x n cap S vD vU vT k D U wr):wr.cell? ⟨S,0,none⟩=some vD∧wr.cell? ⟨S,1,none⟩=some vU∧wr.cell? ⟨S,2,none⟩=some (.int .i64 k)∧wr.cell? ⟨S,3,none⟩=some vT∧∀ i,wr.frozen? ⟨S,i,none⟩=false:=
 ⟨cell_of_row _ _ _ _ _ _ h.s,cell_of_row _ _ _ _ _ _ h.s,cell_of_row _ _ _ _ _ _ h.s,cell_of_row _ _ _ _ _ _ h.s,fun i=>frozen_of_row _ _ _ _ _ h.s⟩
theorem ApV.fresh_l {xs ys:List Int} {B:Nat} (hi:IO wr.heap.size w' v xs) (hu:IO B wr vU ys):ApV v vU∧ApV vU v:=by
 have h1:∀ q,vU.ownBlock=some q→q<wr.heap.size:=fun q hq=>by
  rcases hu.2 with⟨h',_⟩|⟨b,c,cur,h',hb,hh,_⟩
  ·rw[h'] at hq;simp[Value.ownBlock] at hq
  ·rw[h'] at hq;simp[Value.ownBlock] at hq;subst hq;exact(Array.getElem?_eq_some_iff.1 hh).1
 exact⟨fun q hq hq'=>by have:=hi.ownBlock q hq;have:=h1 q hq';omega,fun q hq hq'=>by have:=hi.ownBlock q hq';have:=h1 q hq;omega⟩
end
theorem ApV.nil_l (v:Value):ApV (.slice none 0 0) v:=fun k hk=>by simp[Value.ownBlock] at hk
def EAT (w:World) (g:Nat) (x:Option Addr) (n cap S:Nat) (vD vU vT:Value) (k:Int) (D U:List Int) (T:List Int) (nT:Nat) (f1 f4 f5 f6 f7 f9:Bool) (u6 u7:Value) (w':World):Prop:=
 ((f6=true→f5=true)∧(f5=true→f4=true))∧(f7=true→f6=true∧f1=true)∧(f9=true→f7=true)∧
 (if f9=true then ∃ v' T',DS0 w g x n cap S vD vU v' k D U w'∧TapO (S+1) w' v' T' (nT+1)
  else if f7=true then DS0 w g x n cap S vD vU vT k D U w'∧∃ T',TapO (S+1) w' u7 T' (nT+1)
  else if f6=true then ∃(W:World) (s y:Int),w'=W.alloc (.cells #[.int .i64 s,.int .i64 y] 70)∧u6=.slice (some ⟨W.heap.size,0,none⟩) 1 1∧DS0 w g x n cap S vD vU vT k D U W∧TapO (S+1) W vT T nT
  else DS0 w g x n cap S vD vU vT k D U w'∧TapO (S+1) w' vT T nT)
section
variable {w wr w':World} {g:Nat} {x:Option Addr} {n cap S:Nat} {vD vU vT v:Value} {k:Int} {D U:List Int} {T:List Int} {nT:Nat} {f1 f4 f5 f6 f7 f9:Bool} {u6 u7:Value}
theorem EAT.pre (h:EAT w g x n cap S vD vU vT k D U T nT f1 f4 f5 false f7 f9 u6 u7 w'):DS0 w g x n cap S vD vU vT k D U w'∧TapO (S+1) w' vT T nT∧f7=false∧f9=false:=by
 obtain⟨h0,h1,h2,h3⟩:=h;have e7:f7=false:=by
  cases f7 with
  |false=>rfl
  |true=>exact absurd (h1 rfl).1 (by decide)
 have e9:f9=false:=by
  cases f9 with
  |false=>rfl
  |true=>exact absurd (h2 rfl) (by rw[e7];decide)
 rw[e9,e7,if_neg (by decide),if_neg (by decide),if_neg (by decide)] at h3;exact⟨h3.1,h3.2,e7,e9⟩
theorem EAT.no6 (h:EAT w g x n cap S vD vU vT k D U T nT f1 false f5 f6 f7 f9 u6 u7 w'):f5=false∧f6=false:=by
 have e5:f5=false:=by
  cases f5 with
  |false=>rfl
  |true=>exact absurd (h.1.2 rfl) (by decide)
 exact⟨e5,by
  cases f6 with
  |false=>rfl
  |true=>exact absurd (h.1.1 rfl) (by rw[e5];decide)⟩
theorem EAT.set4 (h:EAT w g x n cap S vD vU vT k D U T nT f1 f4 f5 f6 f7 f9 u6 u7 w'):EAT w g x n cap S vD vU vT k D U T nT f1 true f5 f6 f7 f9 u6 u7 w':=⟨⟨h.1.1,fun _=>rfl⟩,h.2⟩
theorem EAT.set5 (h:EAT w g x n cap S vD vU vT k D U T nT f1 f4 f5 f6 f7 f9 u6 u7 w') (e4:f4=true):EAT w g x n cap S vD vU vT k D U T nT f1 f4 true f6 f7 f9 u6 u7 w':=⟨⟨fun _=>rfl,fun _=>e4⟩,h.2⟩
theorem EAT.load (h:EAT w g x n cap S vD vU vT k D U T nT false f4 f5 f6 f7 f9 u6 u7 w'):w'.heap[S]?=some (.cells #[vD,vU,.int .i64 k,vT] 26 (0,0))∧EAT w g x n cap S vD vU vT k D U T nT true f4 f5 f6 f7 f9 u6 u7 w':=by
 obtain⟨h0,h1,h2,h3⟩:=h;have e7:f7=false:=by
  cases f7 with
  |false=>rfl
  |true=>exact absurd (h1 rfl).2 (by decide)
 have e9:f9=false:=by
  cases f9 with
  |false=>rfl
  |true=>exact absurd (h2 rfl) (by rw[e7];decide)
 refine⟨?_,h0,fun q=>⟨(h1 q).1,rfl⟩,h2,h3⟩;rw[e9,e7,if_neg (by decide),if_neg (by decide)] at h3;split at h3
 ·obtain⟨W,s,y,rfl,_,hd,_⟩:=h3;rw[(below_new W _).block S hd.lt];exact hd.s
 ·exact h3.1.s
theorem EAT.curs (h:EAT w g x n cap S vD vU vT k D U T nT f1 f4 f5 false f7 f9 u6 u7 wr) (hc:CurB w' g x n cap) (hw:Wr g wr w'):EAT w g x n cap S vD vU vT k D U T nT f1 f4 f5 false f7 f9 u6 u7 w':=by
 have hp:=h.pre;obtain⟨h0,h1,h2,h3⟩:=h;refine⟨h0,h1,h2,?_⟩;rw[hp.2.2.2,hp.2.2.1,if_neg (by decide),if_neg (by decide),if_neg (by decide)];exact⟨hp.1.cur hc hw,hp.2.1.wrk hw (by have:=hp.1.hg;have:=hp.1.hs;omega)⟩
theorem EAT.mk6 (h:EAT w g x n cap S vD vU vT k D U T nT f1 f4 f5 false f7 f9 u6 u7 w') (e5:f5=true) (s y:Int):EAT w g x n cap S vD vU vT k D U T nT f1 f4 f5 true f7 f9 (.slice (some ⟨w'.heap.size,0,none⟩) 1 1) u7 (w'.alloc (.cells #[.int .i64 s,.int .i64 y] 70)):=by
 have hp:=h.pre;obtain⟨h0,h1,h2,h3⟩:=h;refine⟨⟨fun _=>e5,h0.2⟩,(fun q=>by rw[hp.2.2.1] at q;cases q),h2,?_⟩;rw[hp.2.2.2,hp.2.2.1,if_neg (by decide),if_neg (by decide),if_pos rfl];exact⟨w',s,y,rfl,rfl,hp.1,hp.2.1⟩
theorem EAT.app (h:EAT w g x n cap S vD vU vT k D U T nT f1 f4 f5 true false f9 u6 u7 w') (e1:f1=true):∃(W:World) (s y:Int),w'=W.alloc (.cells #[.int .i64 s,.int .i64 y] 70)∧u6=.slice (some ⟨W.heap.size,0,none⟩) 1 1∧TapO (S+1) w' vT T nT∧S+1≤w'.heap.size∧
  ∀ v9 w9 T',TapO (S+1) w9 v9 T' (nT+1)→w'.grownBy w9 vT.ownBlock→EAT w g x n cap S vD vU vT k D U T nT f1 f4 f5 true true f9 u6 v9 w9:=by
 obtain⟨h0,h1,h2,h3⟩:=h;have e9:f9=false:=by
  cases f9 with
  |false=>rfl
  |true=>exact absurd (h2 rfl) (by decide)
 rw[e9,if_neg (by decide),if_neg (by decide),if_pos rfl] at h3;obtain⟨W,s,y,hw,hu,hd,ht⟩:=h3;have ht':TapO (S+1) w' vT T nT:=by rw[hw];exact ht.alloc _
 have hd':DS0 w g x n cap S vD vU vT k D U w':=by rw[hw];exact hd.call (below_new W _)
 refine⟨W,s,y,hw,hu,ht',hd'.lt,fun v9 w9 T' h9 hg=>⟨h0,fun _=>⟨rfl,e1⟩,fun _=>rfl,?_⟩⟩;rw[e9,if_neg (by decide),if_pos rfl];exact⟨hd'.app ht' hg,T',h9⟩
theorem EAT.store (h:EAT w g x n cap S vD vU vT k D U T nT f1 f4 f5 f6 true false u6 u7 w'):DS0 w g x n cap S vD vU vT k D U w'∧(∃ T',TapO (S+1) w' u7 T' (nT+1))∧EAT w g x n cap S vD vU vT k D U T nT f1 f4 f5 f6 true true u6 u7 (w'.setCell ⟨S,3,none⟩ u7):=by
 obtain⟨h0,h1,h2,h3⟩:=h;rw[if_neg (by decide),if_pos rfl] at h3;obtain⟨hd,T',ht⟩:=h3;refine⟨hd,⟨T',ht⟩,h0,h1,fun _=>rfl,?_⟩;rw[if_pos rfl];exact⟨u7,T',hd.put (i:=3) rfl hd.d hd.u hd.pd hd.pu hd.ap,ht.wrk (hd.set (i:=3) rfl).2 (by omega)⟩
end
theorem TapO.form {B:Nat} {w:World} {v:Value} {T:List Int} {m:Nat} (h:TapO B w v T m):∃ a c,v=.slice a m c:=by
 rcases h.2 with⟨h',h0⟩|⟨g,c,cur,h',_⟩
 ·subst h0;exact⟨_,_,h'⟩
 ·exact⟨_,_,h'⟩
theorem wp_appT1 (w:World) {o:Oper} {a:Act} {K:Act→World→Prop} {Q:Exit→Act→World→Prop} (sx x:Operand)
  (hop:o.op=Op.call { callee:=Callee.builtin Builtin.append,args:=#[sx,x],argTypes:=#[24,24] }) (B:Nat) (v:Value) (T:List Int) (n:Nat) (hs:a.eval sx=v) (hown:TapO B w v T n)
  (wb:World) (s nw:Int) (hw:w=wb.alloc (.cells #[.int .i64 s,.int .i64 nw] 70)) (hx:a.eval x=.slice (some ⟨wb.heap.size,0,none⟩) 1 1) (hm:n≤1048576) (hB:B≤w.heap.size)
  (hK:∀ v' w',TapO B w' v' (T++[s,nw]) (n+1)→w.grownBy w' v.ownBlock→K (a.put o.dst v') w'):o.wp Tryz.prog a w K Q:=by
 obtain⟨i0,hi,hz0,hz1,hz2⟩:=info_parts Tryz.infoTap;obtain⟨v',w',hr,h2,h3,h4,h5⟩:=run_append_own_at (P:=Tryz.prog) w B 24 o.type 70 i0 (.agg #[.int .i64 0,.int .i64 0]) 2 16 Tryz.underlying24 hi hz0 hz1 hz2 rfl (by decide) v n _ hown ⟨wb.heap.size,0,none⟩ 1 1 [.int .i64 s,.int .i64 nw] rfl (by
  intro j z hz;have hj:j<2:=by have:=(List.getElem?_eq_some_iff.1 hz).1;simpa using this
  rw[Addr.add_lit,hw,cell_of_row _ _ _ _ _ _ (heap_alloc_new wb _),Nat.zero_add];have:j=0∨j=1:=by omega
  rcases this with rfl|rfl<;>simpa using hz) (by simp[Value.oneCell']) (by unfold maxLen;omega) (by omega) hB
 have hk:=hK v' w' (by unfold TapO;rw[List.map_append];exact h2) h3;unfold Oper.wp execOp;simp only[hop,resolve,invoke,builtin,Sem.run_bind,Sem.run_pure,Result.andThen_ok,List.map_toArray,List.map_cons,List.map_nil,hs,hx,hr];exact hk
def EAD (w:World) (g:Nat) (x:Option Addr) (n cap S:Nat) (vD vU vT:Value) (k:Int) (D U:List Int) (T:List Int) (nT:Nat) (f1 f3 f4 f6:Bool) (u4:Value) (w':World):Prop:=
 (f4=true→f3=true∧f1=true)∧(f6=true→f4=true)∧
 (if f6=true then ∃ v' D',DS0 w g x n cap S v' vU vT k D' U w'∧D'.length≤D.length+1∧TapO (S+1) w' vT T nT
  else DS0 w g x n cap S vD vU vT k D U w'∧TapO (S+1) w' vT T nT∧(f4=true→∃ D',IO (S+1) w' u4 D'∧SerP D'∧D'.length≤D.length+1∧ApV u4 vU))
section
variable {w wr w':World} {g:Nat} {x:Option Addr} {n cap S:Nat} {vD vU vT v:Value} {k:Int} {D U:List Int} {T:List Int} {nT:Nat} {f1 f3 f4 f6:Bool} {u4:Value}
theorem EAD.pre (h:EAD w g x n cap S vD vU vT k D U T nT f1 f3 false f6 u4 w'):DS0 w g x n cap S vD vU vT k D U w'∧TapO (S+1) w' vT T nT∧f6=false:=by
 obtain⟨h1,h2,h3⟩:=h;have e6:f6=false:=by
  cases f6 with
  |false=>rfl
  |true=>exact absurd (h2 rfl) (by decide)
 rw[e6,if_neg (by decide)] at h3;exact⟨h3.1,h3.2.1,e6⟩
theorem EAD.no4 (h:EAD w g x n cap S vD vU vT k D U T nT f1 f3 f4 f6 u4 w') (e:f1=false∨f3=false):f4=false:=by
 cases f4 with
 |false=>rfl
 |true=>
  have:=h.1 rfl;rcases e with e|e
  ·rw[e] at this;exact absurd this.2 (by decide)
  ·rw[e] at this;exact absurd this.1 (by decide)
theorem EAD.mk (h1:f4=false) (h2:f6=false) (hd:DS0 w g x n cap S vD vU vT k D U w') (ht:TapO (S+1) w' vT T nT):EAD w g x n cap S vD vU vT k D U T nT f1 f3 f4 f6 u4 w':=by
 subst h1;subst h2;refine⟨(fun q=>by cases q),(fun q=>by cases q),?_⟩;rw[if_neg (by decide)];exact⟨hd,ht,fun q=>by cases q⟩
theorem EAD.mk4 (e1:f1=true) (e3:f3=true) (h2:f6=false) (hd:DS0 w g x n cap S vD vU vT k D U w') (ht:TapO (S+1) w' vT T nT) (D':List Int) (hi:IO (S+1) w' u4 D') (hs:SerP D') (hl:D'.length≤D.length+1) (ha:ApV u4 vU):EAD w g x n cap S vD vU vT k D U T nT f1 f3 true f6 u4 w':=by
 subst h2;refine⟨fun _=>⟨e3,e1⟩,(fun q=>by cases q),?_⟩;rw[if_neg (by decide)];exact⟨hd,ht,fun _=>⟨D',hi,hs,hl,ha⟩⟩
theorem EAD.store (h:EAD w g x n cap S vD vU vT k D U T nT f1 f3 true false u4 w'):DS0 w g x n cap S vD vU vT k D U w'∧(∃ D',IO (S+1) w' u4 D')∧EAD w g x n cap S vD vU vT k D U T nT f1 f3 true true u4 (w'.setCell ⟨S,0,none⟩ u4):=by
 obtain⟨h1,h2,h3⟩:=h;rw[if_neg (by decide)] at h3;obtain⟨hd,ht,h4⟩:=h3;obtain⟨D',hi,hs,hl,ha⟩:=h4 rfl;refine⟨hd,⟨D',hi⟩,h1,fun _=>rfl,?_⟩;rw[if_pos rfl];exact⟨u4,D',hd.put (i:=0) rfl hi hd.u hs hd.pu ha,hl,ht.wrk (hd.set (i:=0) rfl).2 (by omega)⟩
end
def DStP (w:World) (g:Nat) (x:Option Addr) (n cap:Nat) (v:Value) (w':World):Prop:=
 ∃ aD nD cD aU nU cU k aT nT cT D U T,v=.agg #[.slice aD nD cD,.slice aU nU cU,.int .i64 k,.slice aT nT cT]∧IO w.heap.size w' (.slice aD nD cD) D∧IO w.heap.size w' (.slice aU nU cU) U∧TapO w.heap.size w' (.slice aT nT cT) T nT∧SerP D∧D.length≤16∧SerP U∧nT≤100∧(-9223372036854775808≤k∧k≤9223372036854775807)∧ApV (.slice aD nD cD) (.slice aU nU cU)∧CurB w' g x n cap∧WrG g w w'
set_option maxRecDepth 100000 in
set_option maxHeartbeats 16000000 in
theorem drawSt_any (g:Nat) (x:Option Addr) (n cap:Nat) (w:World) (hc:CurB w g x n cap) (ht:CurT w g x n) :
  Calls Tryz.prog 14 #[.pointer (some ⟨g,0,none⟩)] w fun e w'=>∃ v,e=.returned v∧DStP w g x n cap v w':=by
 have HCT:Hid (CurT w g x n):=ht;have hg:=hc.lt;have b2:Below w.heap.size w ((w.alloc (.cells #[.slice none 0 0,.slice none 0 0,.int .i64 0,.slice none 0 0] 26)).alloc (.cells #[.slice none 0 0,.slice none 0 0,.int .i64 0,.slice none 0 0] 26)):=((Below.refl _ _).alloc (Nat.le_refl _) _).alloc (by simp) _;have HN:Hid (((w.alloc (.cells #[.slice none 0 0,.slice none 0 0,.int .i64 0,.slice none 0 0] 26)).alloc (.cells #[.slice none 0 0,.slice none 0 0,.int .i64 0,.slice none 0 0] 26)).heap[w.heap.size+1]?=some (.cells #[.slice none 0 0,.slice none 0 0,.int .i64 0,.slice none 0 0] 26 (0,0))):=heap_alloc2_new _ _ _;have HSZ:Hid ((Tryz.prog.info? 26).map (·.size)=some 4):=by show _=_;kernel_rfl
 have hw:=Wr.setRow (w.heap.size+1) ((w.alloc (.cells #[.slice none 0 0,.slice none 0 0,.int .i64 0,.slice none 0 0] 26)).alloc (.cells #[.slice none 0 0,.slice none 0 0,.int .i64 0,.slice none 0 0] 26)) #[.slice none 0 0,.slice none 0 0,.int .i64 0,.slice none 0 0];have HS0:Hid (DS0 w g x n cap (w.heap.size+1) (.slice none 0 0) (.slice none 0 0) (.slice none 0 0) 0 [] [] (((w.alloc (.cells #[.slice none 0 0,.slice none 0 0,.int .i64 0,.slice none 0 0] 26)).alloc (.cells #[.slice none 0 0,.slice none 0 0,.int .i64 0,.slice none 0 0] 26)).setRow (w.heap.size+1) #[.slice none 0 0,.slice none 0 0,.int .i64 0,.slice none 0 0])):=
  ⟨⟨hw.os.trans b2.os,hw.tape.trans b2.tape,hw.output.trans b2.output,by rw[hw.size];exact b2.size,fun q hq _=>(hw.block q (by omega)).trans (b2.block q hq)⟩,hc.keep ((hw.block g (by omega)).trans (b2.block g hg)),(hw.block _ (by omega)).trans (heap_alloc2_old _ _ _),setRow_heap _ _ _ _ _ _ HN.out,hg,by omega,IO.nil _ _,IO.nil _ _,(fun i hi=>by simp at hi),(fun i hi=>by simp at hi),ApV.nil_l _⟩
 have HT0:Hid (TapO (w.heap.size+1+1) (((w.alloc (.cells #[.slice none 0 0,.slice none 0 0,.int .i64 0,.slice none 0 0] 26)).alloc (.cells #[.slice none 0 0,.slice none 0 0,.int .i64 0,.slice none 0 0] 26)).setRow (w.heap.size+1) #[.slice none 0 0,.slice none 0 0,.int .i64 0,.slice none 0 0]) (.slice none 0 0) [] 0):=⟨by simp,.inl ⟨rfl,rfl⟩⟩
 go_enter Tryz.func14,Tryz.ntmps14
 go_upto_region 2 with (first
  |(refine wpList_store_row rfl 26 (.tmp 3) (.tmp 9) rfl (w.heap.size+1) #[.slice none 0 0,.slice none 0 0,.int .i64 0,.slice none 0 0] rfl rfl 26 _ HN.out HSZ.out rfl (by simp[Value.oneCell']) ?_)
  |fail)
 generalize ((w.alloc (.cells #[.slice none 0 0,.slice none 0 0,.int .i64 0,.slice none 0 0] 26)).alloc (.cells #[.slice none 0 0,.slice none 0 0,.int .i64 0,.slice none 0 0] 26)).setRow (w.heap.size+1) #[.slice none 0 0,.slice none 0 0,.int .i64 0,.slice none 0 0]=w0 at *;generalize w.heap.size+1=S at *;go_wp2_with fail;refine(below_any g x n cap 12 w0 HS0.out.cb (HS0.out.ct HCT.out) (by decide) (by decide)).mono ?_;rintro e w1 ⟨mm,rfl,hm0,hm1,hc1,hw1⟩;have HD1:Hid (DS0 w g x n cap S (.slice none 0 0) (.slice none 0 0) (.slice none 0 0) 0 [] [] w1):=HS0.out.cur hc1 hw1;have HT1:Hid (TapO (S+1) w1 (.slice none 0 0) [] 0):=⟨by simp,.inl ⟨rfl,rfl⟩⟩
 obtain⟨m,rfl⟩:=Int.eq_ofNat_of_zero_le hm0;go_wp2_with fail
 go_loopw [5] (fun i wz=>∃(j:Nat) (vu vt:Value) (U T:List Int) (nT:Nat),j≤m∧i=.int .i64 j∧nT≤j∧DS0 w g x n cap S (.slice none 0 0) (vu) (vt) 0 [] U wz∧TapO (S+1) wz vt T nT) (fun i _=>m-(intOf i).toNat)
 case atStart=>exact⟨0,_,_,[],[],0,Nat.zero_le _,rfl,Nat.le_refl _,HD1.out,HT1.out⟩
 case round=>
  obtain⟨j,vu,vt,U,T,nT,hj,rfl,hnT,hd,ht⟩:=hrel;obtain⟨aU,nU,cU,rfl⟩:=hd.u.form;obtain⟨aT,cT,rfl⟩:=ht.form;have HD:Hid (DS0 w g x n cap S (.slice none 0 0) (.slice aU nU cU) (.slice aT nT cT) 0 [] U wr):=hd;have HT:Hid (TapO (S+1) wr (.slice aT nT cT) T nT):=ht;by_cases hlt:j<m
  ·have hlt':(j:Int)<m:=by omega
   go_wp2_with fail;refine(below_any g x n cap 40 wr HD.out.cb (HD.out.ct HCT.out) (by decide) (by decide)).mono ?_;rintro e w1 ⟨s1,rfl,hs0,hs1,hc1,hw1⟩;have HD1:Hid (DS0 w g x n cap S (.slice none 0 0) (.slice aU nU cU) (.slice aT nT cT) 0 [] U w1):=HD.out.cur hc1 hw1;have HT1:Hid (TapO (S+1) w1 (.slice aT nT cT) T nT):=HT.out.wrk hw1 (by have:=HD.out.hg;have:=HD.out.hs;omega);obtain⟨sn,rfl⟩:=Int.eq_ofNat_of_zero_le hs0;go_wp2_with fail;refine(once_any g x n cap 6 w1 HD1.out.cb (HD1.out.ct HCT.out) (by decide) (by decide)).mono ?_;rintro e w2 ⟨b2,rfl,hc2,hw2⟩;have HD2:Hid (DS0 w g x n cap S (.slice none 0 0) (.slice aU nU cU) (.slice aT nT cT) 0 [] U w2):=HD1.out.cur hc2 hw2;have HT2:Hid (TapO (S+1) w2 (.slice aT nT cT) T nT):=HT1.out.wrk hw2 (by have:=HD1.out.hg;have:=HD1.out.hs;omega)
   go_upto_if 20 with fail
   try dsimp only[Act.put]
   go_cut [6] from 12 to 44 (fun v ww=>∃ sn:Nat,v=.int .i64 sn∧sn<256∧DS0 w g x n cap S (.slice none 0 0) (.slice aU nU cU) (.slice aT nT cT) 0 [] U ww∧TapO (S+1) ww (.slice aT nT cT) T nT)
   case first=>
    cases b2
    ·go_wp2
     go_meet
     case rel=>exact⟨sn,rfl,by omega,HD2.out,HT2.out⟩
    ·go_wp2_with fail;refine(below_any g x n cap 3 w2 HD2.out.cb (HD2.out.ct HCT.out) (by decide) (by decide)).mono ?_;rintro e w3 ⟨s3,rfl,h30,h31,hc3,hw3⟩;have HD3:=hdI (HD2.out.cur hc3 hw3);have HT3:=hdI (HT2.out.wrk hw3 (by have:=HD2.out.hg;have:=HD2.out.hs;omega));clear hc3 hw3 HD2 HT2;obtain⟨sq,hsn⟩:∃ sq:Nat,255-s3=sq:=⟨(255-s3).toNat,by omega⟩
     have HSQ:=hdI hsn;clear hsn;go_wp2
     go_meet
     case rel=>exact⟨sq,by rw[HSQ.out],by have:=HSQ.out;omega,HD3.out,HT3.out⟩
   case rest=>
    clear HD2 HT2 hs0 hs1;obtain⟨sn,rfl,hsn1,hd3,ht3⟩:=hcut;have HD3:=hdI hd3;have HT3:=hdI ht3;clear hd3 ht3;obtain⟨sU,hnU,lU⟩:=HD3.out.u.sat;have hmU:nU≤1048576:=by have:=HD3.out.pu.len;omega
    have A:=hdI (holds_any aU nU cU U (sn:Int) wc hnU hmU sU.at_);have B:=hdI (with_any aU nU cU U sn wc hnU hmU sU.at_);have c1:=HD3.out.cells.2.1;go_wp2_with fail;refine A.out.mono ?_;rintro e w4 ⟨rfl,hw4⟩;subst w4;by_cases hm:memB (sn:Int) U=true
    ·rw[hm];go_wp2;go_roundw
     case rel=>exact⟨j+1,_,_,_,T,nT,by omega,by go_num,by omega,HD3.out,HT3.out⟩
     case measure=>simp[intOf];omega
    ·rw[Bool.not_eq_true] at hm;rw[hm];go_wp2_with fail;refine B.out.mono ?_;rintro e w4 ⟨vn,rfl,hin,hb4⟩;obtain⟨aN,nN,cN,rfl⟩:=hin.form;have hd4:=HD3.out.call hb4;have HD5:Hid (DS0 w g x n cap S (.slice none 0 0) (.slice aN nN cN) (.slice aT nT cT) 0 [] (withS U sn) (w4.setCell ⟨S,1,none⟩ (.slice aN nN cN))):=hd4.put (i:=1) rfl hd4.d (IO.mono hin HD3.out.lt) hd4.pd (withS_ser _ _) (ApV.nil_l _);have HT5:Hid (TapO (S+1) (w4.setCell ⟨S,1,none⟩ (.slice aN nN cN)) (.slice aT nT cT) T nT):=(HT3.out.below hb4).wrk (hd4.set (i:=1) rfl).2 (by omega);have c2:=hd4.cells.2.1;have f2:=hd4.cells.2.2.2.2 1;go_wp2_with fail;generalize w4.setCell ⟨S,1,none⟩ (.slice aN nN cN)=w5 at *;refine(once_any g x n cap 2 w5 HD5.out.cb (HD5.out.ct HCT.out) (by decide) (by decide)).mono ?_;rintro e w6 ⟨b6,rfl,hc6,hw6⟩;have HD6:Hid (DS0 w g x n cap S (.slice none 0 0) (.slice aN nN cN) (.slice aT nT cT) 0 [] (withS U sn) w6):=HD5.out.cur hc6 hw6;have HT6:Hid (TapO (S+1) w6 (.slice aT nT cT) T nT):=HT5.out.wrk hw6 (by have:=HD5.out.hg;have:=HD5.out.hs;omega);cases b6
     ·go_wp2;go_roundw
      case rel=>exact⟨j+1,_,_,_,T,nT,by omega,by go_num,by omega,HD6.out,HT6.out⟩
      case measure=>simp[intOf];omega
     ·have HNT:Hid (nT≤1048576):=by show _≤_;omega
      go_wp2_with fail;refine wp_region_any (by kernel_rfl) ?_;refine wpAny_slotsU (fun _ _ _=>True) (frame:=(fun (a b c d e f g h i j k l m n o p q r s u v w x y z A B C D E F G H I J K L M N O P Q R S T U V W X Y Z a0 a1 a2 a3 a4 a5 a6 a7 a8 a9 b0 b1 b2 b3 b4:Value)=>fun (t:Nat→Value)=>({ tmps:=List.toArray [a,b,c,d,e,f,g,h,i,j,k,l,m,n,o,p,q,r,s,u,v,w,x,y,z,A,B,C,D,E,F,G,H,I,J,K,t 0,t 1,t 2,t 3,t 4,t 5,t 6,t 7,t 8,L,M,N,O,P,Q,R,S,T,U,V,W,X,Y,Z,a0,a1,a2,a3,a4,a5,a6,a7,a8,a9,b0,b1,b2,b3,b4],defers:=[] }:Act)) _ _ _ _ _ _ _ _ _ _ _ _ _ _ _ _ _ _ _ _ _ _ _ _ _ _ _ _ _ _ _ _ _ _ _ _ _ _ _ _ _ _ _ _ _ _ _ _ _ _ _ _ _ _ _ _ _ _ _ _ _ _ _ _ _ _)
       (Ext:=fun L u w'=>EAT w g x n cap S (.slice none 0 0) (.slice aN nN cN) (.slice aT nT cT) 0 [] (withS U sn) T nT (L 1) (L 4) (L 5) (L 6) (L 7) (L 9) (u 6) (u 7) w') (Good:=fun i L w' v=>if i=0 then v=.pointer (some ⟨S,3,none⟩) else if i=1 then v=.slice aT nT cT else if i=2 then v=.int .i64 (sn:Int) else if i=3 then v=.pointer (some ⟨g,0,none⟩) else if i=4 then ∃ y:Int,v=.int .i64 y else if i=5 then ∃ y:Int,v=.agg #[.int .i64 (sn:Int),.int .i64 y] else if i=6 then L 6=true else if i=7 then L 7=true else if i=8 then v=.pointer (some ⟨S,3,none⟩) else if i=9 then L 9=true else True) ?hstab (by kernel_rfl) ?hop ?hdone _ _ ((fun (x0 x1 x2 x3 x4 x5 x6 x7 x8:Value)=>fun (i:Nat)=>if i=0 then x0 else if i=1 then x1 else if i=2 then x2 else if i=3 then x3 else if i=4 then x4 else if i=5 then x5 else if i=6 then x6 else if i=7 then x7 else if i=8 then x8 else undef) _ _ _ _ _ _ _ _ _) _ (by simp) ?ext ?start (by simp)
      case start=>intro i hi h;exact absurd h (by rw[Array.getD_eq_getD_getElem?,Array.getElem?_replicate];split<;>simp)
      case ext=>
       have h0:∀ i,(Array.replicate 10 false).getD i false=false:=fun i=>by rw[Array.getD_eq_getD_getElem?,Array.getElem?_replicate];split<;>rfl
       show EAT _ _ _ _ _ _ _ _ _ _ _ _ _ _ ((Array.replicate 10 false).getD 1 false) ((Array.replicate 10 false).getD 4 false) ((Array.replicate 10 false).getD 5 false) ((Array.replicate 10 false).getD 6 false) ((Array.replicate 10 false).getD 7 false) ((Array.replicate 10 false).getD 9 false) _ _ _
       rw[h0,h0,h0,h0,h0,h0];refine⟨⟨(fun q=>by cases q),(fun q=>by cases q)⟩,(fun q=>by cases q),(fun q=>by cases q),?_⟩;rw[if_neg (by decide),if_neg (by decide),if_neg (by decide)];exact⟨HD6.out.call ⟨rfl,rfl,rfl,Nat.le_refl _,fun _ _=>rfl⟩,HT6.out⟩
      case hstab=>
       intro j L w9 w' i v hM hij hLi h;by_cases h6:j=6
       ·subst h6;simp at h ⊢;unfold updK;simp[h]
       by_cases h7:j=7
       ·subst h7;simp at h ⊢;unfold updK;simp[h]
       by_cases h9:j=9
       ·subst h9;simp at h ⊢;unfold updK;simp[h]
       simp only[if_neg h6,if_neg h7,if_neg h9] at h ⊢;exact h
      case hop=>
       intro i o L t w' ho hLi hx hdep K hK;have hi:i<10:=(Array.getElem?_eq_some_iff.1 ho).1;obtain rfl|rfl|rfl|rfl|rfl|rfl|rfl|rfl|rfl|rfl:i=0∨i=1∨i=2∨i=3∨i=4∨i=5∨i=6∨i=7∨i=8∨i=9:=by omega
       all_goals(simp at ho;subst ho)
       all_goals try(have hK':=hK w' _ rfl (by simpa[updK,upd] using hx) trivial;clear hK;simp[Region.binds] at hdep;rw[if_pos (by rfl)];go_simp;simpa[upd,hdep] using hK';done)
       ·have d0:t 0=.pointer (some ⟨S,3,none⟩):=by simpa using(hdep ⟨0,.data⟩ (by simp) rfl).2
        rw[hLi] at hx;obtain⟨hrow,hx2⟩:=hx.load;have cl:w'.cell? ⟨S,3,none⟩=some (.slice aT nT cT):=cell_of_row _ _ _ _ _ _ hrow;have hK':=hK w' (.slice aT nT cT) (by simp) (by simpa[updK,upd] using hx2) trivial;rw[if_pos (by rfl)];go_simp;simpa[upd,d0] using hK'
       ·have d3:t 3=.pointer (some ⟨g,0,none⟩):=by simpa using(hdep ⟨3,.data⟩ (by simp) rfl).2
        rw[hLi] at hx;obtain⟨l5,l6⟩:=hx.no6;rw[l6] at hx;have hp:=hx.pre;have A:=below_any g x n cap 100 w' hp.1.cb (hp.1.ct HCT.out) (by decide) (by decide);have hK':∀ w9 y,CurB w9 g x n cap→Wr g w' w9→K _ w9:=fun w9 y h1 h2=>hK w9 (.int .i64 y) (by simp) (by simpa[updK,upd,l6] using(hx.curs h1 h2).set4) trivial
        rw[if_pos (by rfl)];go_simp;try simp only[d3]
        refine A.mono ?_;rintro e w9 ⟨y,rfl,_,_,h1,h2⟩;have hK2:=hK' w9 y h1 h2;go_simp;simpa[upd,d3] using hK2
       ·have d2:t 2=.int .i64 (sn:Int):=by simpa using(hdep ⟨2,.data⟩ (by simp) rfl).2
        obtain⟨y4,d4⟩:∃ y:Int,t 4=.int .i64 y:=by simpa using(hdep ⟨4,.data⟩ (by simp) rfl).2
        have l4:L 4=true:=(hdep ⟨4,.data⟩ (by simp) rfl).1;have hK':=hK w' (.agg #[.int .i64 (sn:Int),.int .i64 y4]) (by simp) (by simpa[updK,upd,l4] using hx.set5 l4) trivial;rw[if_pos (by rfl)];go_simp;simpa[upd,d2,d4] using hK'
       ·obtain⟨y5,d5⟩:∃ y:Int,t 5=.agg #[.int .i64 (sn:Int),.int .i64 y]:=by simpa using(hdep ⟨5,.data⟩ (by simp) rfl).2
        have l5:L 5=true:=(hdep ⟨5,.data⟩ (by simp) rfl).1;rw[hLi] at hx;have hx2:=hx.mk6 l5 (sn:Int) y5;have hK':=hK (w'.alloc (.cells #[.int .i64 (sn:Int),.int .i64 y5] 70)) (.slice (some ⟨w'.heap.size,0,none⟩) 1 1) (by simp[updK]) (by simpa[updK,upd] using hx2) trivial;rw[if_pos (by rfl)];go_simp;simpa[upd,d5] using hK'
       ·have d1:t 1=.slice aT nT cT:=by simpa using(hdep ⟨1,.data⟩ (by simp) rfl).2
        have l1:L 1=true:=(hdep ⟨1,.data⟩ (by simp) rfl).1;have l6:L 6=true:=(hdep ⟨6,.data⟩ (by simp) rfl).1;rw[hLi,l6] at hx;obtain⟨W,s9,y9,hwW,d6,ht6,hz6,hx2⟩:=hx.app l1;have hK':∀ v9 w9 T',TapO (S+1) w9 v9 T' (nT+1)→w'.grownBy w9 ((.slice aT nT cT):Value).ownBlock→K _ w9:=fun v9 w9 T' h1 h2=>hK w9 v9 (by simp[updK]) (by simpa[updK,upd,l6] using hx2 v9 w9 T' h1 h2) trivial
        rw[if_pos (by rfl)];refine wp_appT1 w' (.tmp 37) (.tmp 42) rfl (S+1) (.slice aT nT cT) T nT d1 ht6 W s9 y9 hwW d6 HNT.out hz6 ?_;intro v9 w9 h1 h2;have hK2:=hK' v9 w9 _ h1 h2;simpa[upd,Act.put] using hK2
       ·have d8:t 8=.pointer (some ⟨S,3,none⟩):=by simpa using(hdep ⟨8,.data⟩ (by simp) rfl).2
        have l7:L 7=true:=(hdep ⟨7,.data⟩ (by simp) rfl).1;rw[hLi,l7] at hx;obtain⟨hd9,⟨T',ht9⟩,hx2⟩:=hx.store;obtain⟨a7,c7,e7⟩:=ht9.form;have cl:w'.cell? ⟨S,3,none⟩=some (.slice aT nT cT):=hd9.cells.2.2.2.1;have cf:w'.frozen? ⟨S,3,none⟩=false:=hd9.cells.2.2.2.2 3;have hK':=hK (w'.setCell ⟨S,3,none⟩ (t 7)) undef (by simp[updK]) (by simpa[updK,upd,l7] using hx2) trivial;rw[e7] at hK';rw[if_pos (by rfl)];go_simp;simpa[upd,d8,e7,Act.put] using hK'
      case hdone=>
       intro L t w9 hx hg;have l9:L 9=true:=by simpa using hg 9 (by decide)
       rw[l9] at hx;obtain⟨_,_,_,h5⟩:=hx;rw[if_pos rfl] at h5;obtain⟨v5,T5,hs5,ht5⟩:=h5;have HD9:=hdI hs5;have HT9:=hdI ht5;go_wp2;go_roundw
       case rel=>exact⟨j+1,_,v5,_,T5,nT+1,by omega,by go_num,by omega,HD9.out,HT9.out⟩
       case measure=>simp[intOf];omega
  ·have hje:j=m:=by omega
   subst hje;obtain⟨sU,hnU,lU⟩:=HD.out.u.sat;have hmU:nU≤256:=by have:=HD.out.pu.len;omega
   have c1:=HD.out.cells.2.1;have c3:=HD.out.cells.2.2.2.1;have c2:=HD.out.cells.2.2.1;have f2:=HD.out.cells.2.2.2.2 2;obtain⟨k,hk⟩:∃ k:Int,(nU:Int)-(nT:Int)=k:=⟨_,rfl⟩
   have HK:Hid (-9223372036854775808≤k∧k≤9223372036854775807):=by unfold Hid;omega
   have HD4:Hid (DS0 w g x n cap S (.slice none 0 0) (.slice aU nU cU) (.slice aT nT cT) k [] U (wr.setCell ⟨S,2,none⟩ (.int .i64 k))):=HD.out.put (i:=2) rfl HD.out.d HD.out.u HD.out.pd HD.out.pu HD.out.ap;have HT4:Hid (TapO (S+1) (wr.setCell ⟨S,2,none⟩ (.int .i64 k)) (.slice aT nT cT) T nT):=HT.out.wrk (HD.out.set (i:=2) rfl).2 (by omega)
   go_upto_region 14 with fail
   try rw[hk]
   generalize wr.setCell ⟨S,2,none⟩ (.int .i64 k)=w4 at *;go_wp2_with fail;refine(below_any g x n cap 6 w4 HD4.out.cb (HD4.out.ct HCT.out) (by decide) (by decide)).mono ?_;rintro e w5 ⟨m2,rfl,hm0,hm1,hc5,hw5⟩;have HD5:Hid (DS0 w g x n cap S (.slice none 0 0) (.slice aU nU cU) (.slice aT nT cT) k [] U w5):=HD4.out.cur hc5 hw5;have HT5:Hid (TapO (S+1) w5 (.slice aT nT cT) T nT):=HT4.out.wrk hw5 (by have:=HD4.out.hg;have:=HD4.out.hs;omega);go_wp2_with fail;refine(once_any g x n cap 5 w5 HD5.out.cb (HD5.out.ct HCT.out) (by decide) (by decide)).mono ?_;rintro e w6 ⟨b6,rfl,hc6,hw6⟩;have HD6:Hid (DS0 w g x n cap S (.slice none 0 0) (.slice aU nU cU) (.slice aT nT cT) k [] U w6):=HD5.out.cur hc6 hw6;have HT6:Hid (TapO (S+1) w6 (.slice aT nT cT) T nT):=HT5.out.wrk hw6 (by have:=HD5.out.hg;have:=HD5.out.hs;omega)
   go_upto_if 56 with fail
   try dsimp only[Act.put]
   go_cut [7] from 9 (fun v ww=>∃ m2:Nat,v=.int .i64 m2∧m2≤16∧DS0 w g x n cap S (.slice none 0 0) (.slice aU nU cU) (.slice aT nT cT) k [] U ww∧TapO (S+1) ww (.slice aT nT cT) T nT)
   case first=>
    cases b6
    ·go_wp2
     go_meet
     case rel=>exact⟨m2.toNat,by rw[Int.toNat_of_nonneg hm0],by omega,HD6.out,HT6.out⟩
    ·go_wp2
     go_meet
     case rel=>exact⟨16,rfl,by omega,HD6.out,HT6.out⟩
   case rest=>
    clear HD6 HT6 hm1;obtain⟨m2,rfl,hm16,hd6,ht6⟩:=hcut;have HD6:=hdI hd6;have HT6:=hdI ht6;clear hd6 ht6;go_wp2_with fail
    go_loopw [8] (fun i wz=>∃(j2:Nat) (vd:Value) (D:List Int),j2≤40∧i=.int .i64 j2∧D.length≤16∧DS0 w g x n cap S (vd) (.slice aU nU cU) (.slice aT nT cT) k D U wz∧TapO (S+1) wz (.slice aT nT cT) T nT) (fun i _=>40-(intOf i).toNat)
    case atStart=>exact⟨0,_,[],by omega,rfl,by simp,HD6.out,HT6.out⟩
    case round=>
     obtain⟨j2,vd,D,hj2,rfl,hD16,hd,ht⟩:=hrel;obtain⟨aD,nD,cD,rfl⟩:=hd.d.form;obtain⟨sD,hnD,lD⟩:=hd.d.sat;have HD:Hid (DS0 w g x n cap S (.slice aD nD cD) (.slice aU nU cU) (.slice aT nT cT) k D U wr):=hd;have HT:Hid (TapO (S+1) wr (.slice aT nT cT) T nT):=ht;have c0:=hd.cells.1;have c1:=hd.cells.2.1;have c2:=hd.cells.2.2.1;have c3:=hd.cells.2.2.2.1;by_cases hlt:j2<40
     ·have hlt':(j2:Int)<40:=by omega
      by_cases hdm:(nD:Int)<m2
      ·have hDl:D.length+1≤16:=by omega
       go_wp2_with fail;refine wp_region_any (by kernel_rfl) ?_;refine wpAny_slotsU (fun _ _ _=>True) (frame:=(fun (a b c d e f g h i j k l m n o p q r s u v w x y z A B C D E F G H I J K L M N O P Q R S T U V W X Y Z a0 a1 a2 a3 a4 a5 a6 a7 a8 a9 b0 b1 b2 b3 b4 b5 b6 b7:Value)=>fun (t:Nat→Value)=>({ tmps:=List.toArray [a,b,c,d,e,f,g,h,i,j,k,l,m,n,o,p,q,r,s,u,v,w,x,y,z,A,B,C,D,E,F,G,H,I,J,K,L,M,N,O,P,Q,R,S,T,U,V,W,X,Y,Z,a0,a1,a2,a3,a4,a5,a6,a7,a8,a9,b0,b1,b2,b3,b4,b5,b6,t 0,t 1,t 2,t 3,t 4,t 5,b7],defers:=[] }:Act)) _ _ _ _ _ _ _ _ _ _ _ _ _ _ _ _ _ _ _ _ _ _ _ _ _ _ _ _ _ _ _ _ _ _ _ _ _ _ _ _ _ _ _ _ _ _ _ _ _ _ _ _ _ _ _ _ _ _ _ _ _ _ _ _ _ _ _ _ _)
        (Ext:=fun L u w'=>EAD w g x n cap S (.slice aD nD cD) (.slice aU nU cU) (.slice aT nT cT) k D U T nT (L 1) (L 3) (L 4) (L 6) (u 4) w') (Good:=fun i L w' v=>if i=0 then v=.pointer (some ⟨S,0,none⟩) else if i=1 then v=.slice aD nD cD else if i=2 then v=.pointer (some ⟨g,0,none⟩) else if i=3 then ∃ y:Nat,v=.int .i64 (y:Int) else if i=4 then L 4=true else if i=5 then v=.pointer (some ⟨S,0,none⟩) else if i=6 then L 6=true else True) ?hstab (by kernel_rfl) ?hop ?hdone _ _ ((fun (x0 x1 x2 x3 x4 x5:Value)=>fun (i:Nat)=>if i=0 then x0 else if i=1 then x1 else if i=2 then x2 else if i=3 then x3 else if i=4 then x4 else if i=5 then x5 else undef) _ _ _ _ _ _) _ (by simp) ?ext ?start (by simp)
       case start=>intro i hi h;exact absurd h (by rw[Array.getD_eq_getD_getElem?,Array.getElem?_replicate];split<;>simp)
       case ext=>
        have h0:∀ i,(Array.replicate 7 false).getD i false=false:=fun i=>by rw[Array.getD_eq_getD_getElem?,Array.getElem?_replicate];split<;>rfl
        exact EAD.mk (h0 4) (h0 6) (HD.out.call ⟨rfl,rfl,rfl,Nat.le_refl _,fun _ _=>rfl⟩) HT.out
       case hstab=>
        intro j L w9 w' i v hM hij hLi h;by_cases h4:j=4
        ·subst h4;simp at h ⊢;unfold updK;simp[h]
        by_cases h6:j=6
        ·subst h6;simp at h ⊢;unfold updK;simp[h]
        simp only[if_neg h4,if_neg h6] at h ⊢;exact h
       case hop=>
        intro i o L t w' ho hLi hx hdep K hK;have hi:i<7:=(Array.getElem?_eq_some_iff.1 ho).1;obtain rfl|rfl|rfl|rfl|rfl|rfl|rfl:i=0∨i=1∨i=2∨i=3∨i=4∨i=5∨i=6:=by omega
        all_goals(simp at ho;subst ho)
        all_goals try(have hK':=hK w' _ rfl (by simpa[updK,upd] using hx) trivial;clear hK;simp[Region.binds] at hdep;rw[if_pos (by rfl)];go_simp;simpa[upd,hdep] using hK';done)
        ·have d0:t 0=.pointer (some ⟨S,0,none⟩):=by simpa using(hdep ⟨0,.data⟩ (by simp) rfl).2
         have l4:=hx.no4 (.inl hLi);rw[l4] at hx;have hp:=hx.pre;have cl:w'.cell? ⟨S,0,none⟩=some (.slice aD nD cD):=hp.1.cells.1;have hK':=hK w' (.slice aD nD cD) (by simp) (by simpa[updK,upd,l4,hp.2.2] using EAD.mk (f1:=true) (f3:=L 3) (f4:=false) (f6:=false) (u4:=t 4) rfl rfl hp.1 hp.2.1) trivial;rw[if_pos (by rfl)];go_simp;simpa[upd,d0] using hK'
        ·have d2:t 2=.pointer (some ⟨g,0,none⟩):=by simpa using(hdep ⟨2,.data⟩ (by simp) rfl).2
         have l4:=hx.no4 (.inr hLi);rw[l4] at hx;have hp:=hx.pre;have A:=below_any g x n cap 60 w' hp.1.cb (hp.1.ct HCT.out) (by decide) (by decide);have hK':∀ w9 (y:Nat),CurB w9 g x n cap→Wr g w' w9→K _ w9:=fun w9 y h1 h2=>hK w9 (.int .i64 (y:Int)) (by exact(⟨y,rfl⟩:∃ y':Nat,Value.int .i64 (y:Int)=.int .i64 (y':Int))) (by simpa[updK,upd,l4,hp.2.2] using EAD.mk (f1:=L 1) (f3:=true) (f4:=false) (f6:=false) (u4:=t 4) rfl rfl (hp.1.cur h1 h2) (hp.2.1.wrk h2 (by have:=hp.1.hg;have:=hp.1.hs;omega))) trivial
         rw[if_pos (by rfl)];go_simp;try simp only[d2]
         refine A.mono ?_;rintro e w9 ⟨y,rfl,hy0,_,h1,h2⟩;obtain⟨y,rfl⟩:=Int.eq_ofNat_of_zero_le hy0;have hK2:=hK' w9 y h1 h2;go_simp;simpa[upd,d2] using hK2
        ·have d1:t 1=.slice aD nD cD:=by simpa using(hdep ⟨1,.data⟩ (by simp) rfl).2
         obtain⟨y3,d3⟩:∃ y:Nat,t 3=.int .i64 (y:Int):=by simpa using(hdep ⟨3,.data⟩ (by simp) rfl).2
         have l1:L 1=true:=(hdep ⟨1,.data⟩ (by simp) rfl).1;have l3:L 3=true:=(hdep ⟨3,.data⟩ (by simp) rfl).1;rw[hLi] at hx;have hp:=hx.pre;obtain⟨sD,hnD,lD⟩:=hp.1.d.sat;have A:=with_any aD nD cD D y3 w' hnD (by have:=hp.1.pd.len;omega) sD.at_;have hK':∀ w9 v9,IO w'.heap.size w9 v9 (withS D y3)→Below w'.heap.size w' w9→K _ w9:=fun w9 v9 h1 h2=>hK w9 v9 (by simp[updK]) (by
          have:=EAD.mk4 (T:=T) (nT:=nT) (f1:=true) (f3:=true) (f6:=false) (u4:=v9) rfl rfl rfl (hp.1.call h2) (hp.2.1.below h2) (withS D y3) (IO.mono h1 hp.1.lt) (withS_ser _ _) (withS_len1 hp.1.pd _) (ApV.fresh_l h1 hp.1.u).1;simpa[updK,upd,l1,l3,hp.2.2] using this) trivial
         rw[if_pos (by rfl)];go_simp;try simp only[d1,d3]
         refine A.mono ?_;rintro e w9 ⟨v9,rfl,h1,h2⟩;have hK2:=hK' w9 v9 h1 h2;go_simp;simpa[upd,d1,d3] using hK2
        ·have d5:t 5=.pointer (some ⟨S,0,none⟩):=by simpa using(hdep ⟨5,.data⟩ (by simp) rfl).2
         have l4:L 4=true:=(hdep ⟨4,.data⟩ (by simp) rfl).1;rw[hLi,l4] at hx;obtain⟨hd9,⟨D',hi9⟩,hx2⟩:=hx.store;obtain⟨a4,n4,c4,e4⟩:=hi9.form;have cl:w'.cell? ⟨S,0,none⟩=some (.slice aD nD cD):=hd9.cells.1;have cf:w'.frozen? ⟨S,0,none⟩=false:=hd9.cells.2.2.2.2 0;have hK':=hK (w'.setCell ⟨S,0,none⟩ (t 4)) undef (by simp[updK]) (by simpa[updK,upd,l4] using hx2) trivial;rw[e4] at hK';rw[if_pos (by rfl)];go_simp;simpa[upd,d5,e4,Act.put] using hK'
       case hdone=>
        intro L t w9 hx hg;have l6:L 6=true:=by simpa using hg 6 (by decide)
        rw[l6] at hx;obtain⟨_,_,h5⟩:=hx;rw[if_pos rfl] at h5;obtain⟨v5,D5,hs5,hl5,ht5⟩:=h5;have HD9:=hdI hs5;have HT9:=hdI ht5;have hl9:D5.length≤16:=by omega
        go_wp2;go_roundw
        case rel=>exact⟨j2+1,v5,D5,by omega,by go_num,hl9,HD9.out,HT9.out⟩
        case measure=>simp[intOf];omega
      ·have HBX:Hid (wr.heap[w.heap.size]?=some (.cells #[.slice none 0 0,.slice none 0 0,.int .i64 0,.slice none 0 0] 26 (0,0))):=HD.out.bx;have HSB:Hid (wr.heap[S]?=some (.cells #[.slice aD nD cD,.slice aU nU cU,.int .i64 k,.slice aT nT cT] 26 (0,0))):=HD.out.s;go_wp2_with (first
        |(refine wpList_store_row rfl 26 (.tmp 2) (.tmp 74) rfl w.heap.size #[.slice aD nD cD,.slice aU nU cU,.int .i64 k,.slice aT nT cT] rfl rfl 26 _ HBX.out HSZ.out rfl (by simp[Value.oneCell']) ?_)
        |fail)
       (try simp only[Exit.inBlock,Exit.then])
       refine bodyPost_ret (v:=.agg #[.slice aD nD cD,.slice aU nU cU,.int .i64 k,.slice aT nT cT]) (results_cell_row rfl _ _ w.heap.size 26 _ (0,0) _ rfl (setRow_heap _ _ _ _ _ _ HBX.out) Tryz.underlying26 rfl HSZ.out) rfl ⟨_,rfl,?_⟩;have hw:=Wr.setRow w.heap.size wr #[.slice aD nD cD,.slice aU nU cU,.int .i64 k,.slice aT nT cT];have h1:=HD.out.hg;have h2:=HD.out.hs;refine⟨aD,nD,cD,aU,nU,cU,k,aT,nT,cT,D,U,T,rfl,IO.mono (HD.out.d.wr hw (by omega)) (by omega),IO.mono (HD.out.u.wr hw (by omega)) (by omega),TapO.mono (HT.out.wrk hw (by omega)) (by omega),HD.out.pd,hD16,HD.out.pu,(by omega),HK.out,HD.out.ap,HD.out.cb.keep (hw.block g (by omega)),?_⟩;exact⟨hw.os.trans HD.out.wg.os,hw.tape.trans HD.out.wg.tape,hw.output.trans HD.out.wg.output,by rw[hw.size];exact HD.out.wg.size,fun q hq hqg=>(hw.block q (by omega)).trans (HD.out.wg.block q hq hqg)⟩
     ·have hlt':¬ ((j2:Int)<40):=by omega
      have HBX:Hid (wr.heap[w.heap.size]?=some (.cells #[.slice none 0 0,.slice none 0 0,.int .i64 0,.slice none 0 0] 26 (0,0))):=HD.out.bx;have HSB:Hid (wr.heap[S]?=some (.cells #[.slice aD nD cD,.slice aU nU cU,.int .i64 k,.slice aT nT cT] 26 (0,0))):=HD.out.s;go_wp2_with (first
       |(refine wpList_store_row rfl 26 (.tmp 2) (.tmp 74) rfl w.heap.size #[.slice aD nD cD,.slice aU nU cU,.int .i64 k,.slice aT nT cT] rfl rfl 26 _ HBX.out HSZ.out rfl (by simp[Value.oneCell']) ?_)
       |fail)
      (try simp only[Exit.inBlock,Exit.then])
      refine bodyPost_ret (v:=.agg #[.slice aD nD cD,.slice aU nU cU,.int .i64 k,.slice aT nT cT]) (results_cell_row rfl _ _ w.heap.size 26 _ (0,0) _ rfl (setRow_heap _ _ _ _ _ _ HBX.out) Tryz.underlying26 rfl HSZ.out) rfl ⟨_,rfl,?_⟩;have hw:=Wr.setRow w.heap.size wr #[.slice aD nD cD,.slice aU nU cU,.int .i64 k,.slice aT nT cT];have h1:=HD.out.hg;have h2:=HD.out.hs;refine⟨aD,nD,cD,aU,nU,cU,k,aT,nT,cT,D,U,T,rfl,IO.mono (HD.out.d.wr hw (by omega)) (by omega),IO.mono (HD.out.u.wr hw (by omega)) (by omega),TapO.mono (HT.out.wrk hw (by omega)) (by omega),HD.out.pd,hD16,HD.out.pu,(by omega),HK.out,HD.out.ap,HD.out.cb.keep (hw.block g (by omega)),?_⟩;exact⟨hw.os.trans HD.out.wg.os,hw.tape.trans HD.out.wg.tape,hw.output.trans HD.out.wg.output,by rw[hw.size];exact HD.out.wg.size,fun q hq hqg=>(hw.block q (by omega)).trans (HD.out.wg.block q hq hqg)⟩
set_option maxHeartbeats 800000 in
theorem lwN_eq (a b:Option Addr) (n c c':Nat) (xs:List Int) (w:World) (hn:xs.length=n) (hN:n≤1048576) (ha:At .i64 w a xs) (hb:At .i64 w b xs) :
  Calls Tryz.prog 27 #[.slice a n c,.slice b n c'] w fun e w'=>e=.returned (.bool true)∧∃ q,w'=w.drewN q:=by
 have h0:((n:Int) != (n:Int))=false:=by simp
 have HL:=hdI hn;clear hn;go_enter Tryz.func27,Tryz.ntmps27;go_wp2
 go_loopw [5] (fun i wr=>∃ k q:Nat,k≤n∧i=.int .i64 k∧wr=w.drewN q) (fun i _=>n-(intOf i).toNat)
 case atStart=>exact⟨0,0,Nat.zero_le _,rfl,rfl⟩
 case round=>
  obtain⟨k,q,hk,rfl,rfl⟩:=hrel;by_cases hlt:k<n
  ·obtain⟨b1,o1,rfl,hb1,hc⟩:=ha.get (by have:=HL.out;omega);obtain⟨b2,o2,rfl,hb2,hc'⟩:=hb.get (by have:=HL.out;omega);have g1:=hc k (by have:=HL.out;omega);have g2:=hc' k (by have:=HL.out;omega);generalize xs.getD k 0=x at *;have hlt':(k:Int)<(n:Int):=by omega
   clear hc hc' ha hb;have hx:(x != x)=false:=by simp
   go_wp2
   go_quiet (fail)
   go_wp2;go_roundw
   case rel=>exact⟨k+1,_,by omega,by go_num,rfl⟩
   case measure=>simp[intOf];omega
  ·go_wp2
   go_ret
   exact⟨rfl,q,rfl⟩
set_option maxHeartbeats 800000 in
theorem lwT_eq (a b:Option Addr) (n c c':Nat) (T:List Int) (w:World) (hn:T.length=n*2) (hN:n≤1048576) (ha:At .i64 w a T) (hb:At .i64 w b T) :
  Calls Tryz.prog 28 #[.slice a n c,.slice b n c'] w fun e w'=>e=.returned (.bool true)∧∃ q,w'=w.drewN q:=by
 have h0:((n:Int) != (n:Int))=false:=by simp
 have HL:=hdI hn;clear hn;go_enter Tryz.func28,Tryz.ntmps28;go_wp2
 go_loopw [5] (fun i wr=>∃ k q:Nat,k≤n∧i=.int .i64 k∧wr=w.drewN q) (fun i _=>n-(intOf i).toNat)
 case atStart=>exact⟨0,0,Nat.zero_le _,rfl,rfl⟩
 case round=>
  obtain⟨k,q,hk,rfl,rfl⟩:=hrel;by_cases hlt:k<n
  ·obtain⟨b1,o1,rfl,hb1,hc⟩:=ha.get (by have:=HL.out;omega);obtain⟨b2,o2,rfl,hb2,hc'⟩:=hb.get (by have:=HL.out;omega);have e0:=hc (k*2) (by have:=HL.out;omega);have e1:=hc (k*2+1) (by have:=HL.out;omega);have f0:=hc' (k*2) (by have:=HL.out;omega);have f1:=hc' (k*2+1) (by have:=HL.out;omega);rw[←Nat.add_assoc] at e1 f1;generalize T.getD (k*2) 0=x0 at *;generalize T.getD (k*2+1) 0=x1 at *;have hlt':(k:Int)<(n:Int):=by omega
   clear hc hc' ha hb;go_wp2
   go_quiet (fail)
   go_wp2;go_roundw
   case rel=>exact⟨k+1,_,by omega,by go_num,rfl⟩
   case measure=>simp[intOf];omega
  ·go_wp2
   go_ret
   exact⟨rfl,q,rfl⟩
set_option maxRecDepth 100000 in
set_option maxHeartbeats 2000000 in
theorem lwS_eq (aD aU aT bD bU bT:Option Addr) (nD cD nU cU nT cT dD dU dT:Nat) (D U T:List Int) (k:Int) (w:World) (hD:D.length=nD) (hU:U.length=nU) (hT:T.length=nT*2) (mD:nD≤1048576) (mU:nU≤1048576) (mT:nT≤1048576)
  (haD:At .i64 w aD D) (haU:At .i64 w aU U) (haT:At .i64 w aT T) (hbD:At .i64 w bD D) (hbU:At .i64 w bU U) (hbT:At .i64 w bT T) :
  Calls Tryz.prog 7 #[.agg #[.slice aD nD cD,.slice aU nU cU,.int .i64 k,.slice aT nT cT],.agg #[.slice bD nD dD,.slice bU nU dU,.int .i64 k,.slice bT nT dT]] w fun e w'=>e=.returned (.bool true)∧Below w.heap.size w w':=by
 have b0:Below w.heap.size w ((w.alloc (.cells #[.slice aD nD cD,.slice aU nU cU,.int .i64 k,.slice aT nT cT] 26)).alloc (.cells #[.slice bD nD dD,.slice bU nU dU,.int .i64 k,.slice bT nT dT] 26)):=((Below.refl _ _).alloc (Nat.le_refl _) _).alloc (by simp) _;have H1:=hdI (fun wz (h:Below w.heap.size w wz)=>lwN_eq aD bD nD cD dD D wz hD mD (haD.below h) (hbD.below h));have H2:=hdI (fun wz (h:Below w.heap.size w wz)=>lwN_eq aU bU nU cU dU U wz hU mU (haU.below h) (hbU.below h));have H3:=hdI (fun wz (h:Below w.heap.size w wz)=>lwT_eq aT bT nT cT dT T wz hT mT (haT.below h) (hbT.below h));have r1:=heap_alloc2_old w (.cells #[.slice aD nD cD,.slice aU nU cU,.int .i64 k,.slice aT nT cT] 26) (.cells #[.slice bD nD dD,.slice bU nU dU,.int .i64 k,.slice bT nT dT] 26);have r2:=heap_alloc2_new w (.cells #[.slice aD nD cD,.slice aU nU cU,.int .i64 k,.slice aT nT cT] 26) (.cells #[.slice bD nD dD,.slice bU nU dU,.int .i64 k,.slice bT nT dT] 26);have HB:=hdI b0;clear hD hU hT mD mU mT haD haU haT hbD hbU hbT b0;go_enter Tryz.func7,Tryz.ntmps7
 go_upto_region 1 with fail
 generalize (w.alloc (.cells #[.slice aD nD cD,.slice aU nU cU,.int .i64 k,.slice aT nT cT] 26)).alloc (.cells #[.slice bD nD dD,.slice bU nU dU,.int .i64 k,.slice bT nT dT] 26)=w0 at *;have x0:w0.cell? ⟨w.heap.size,0,none⟩=some (.slice aD nD cD):=cell_of_row _ _ _ _ _ _ r1;have x1:w0.cell? ⟨w.heap.size,1,none⟩=some (.slice aU nU cU):=cell_of_row _ _ _ _ _ _ r1;have x2:w0.cell? ⟨w.heap.size,2,none⟩=some (.int .i64 k):=cell_of_row _ _ _ _ _ _ r1;have x3:w0.cell? ⟨w.heap.size,3,none⟩=some (.slice aT nT cT):=cell_of_row _ _ _ _ _ _ r1;have y0:w0.cell? ⟨w.heap.size+1,0,none⟩=some (.slice bD nD dD):=cell_of_row _ _ _ _ _ _ r2;have y1:w0.cell? ⟨w.heap.size+1,1,none⟩=some (.slice bU nU dU):=cell_of_row _ _ _ _ _ _ r2;have y2:w0.cell? ⟨w.heap.size+1,2,none⟩=some (.int .i64 k):=cell_of_row _ _ _ _ _ _ r2;have y3:w0.cell? ⟨w.heap.size+1,3,none⟩=some (.slice bT nT dT):=cell_of_row _ _ _ _ _ _ r2;clear r1 r2;have hkk:(k == k)=true:=by simp
 go_wp2_with fail;refine(H1.out _ HB.out).mono ?_;rintro e w1 ⟨rfl,q1,rfl⟩;go_wp2_with fail;refine(H2.out _ (belD HB.out _)).mono ?_;rintro e w1 ⟨rfl,q2,rfl⟩;go_wp2_with fail;refine(H3.out _ (belD HB.out _)).mono ?_;rintro e w1 ⟨rfl,q3,rfl⟩;go_wp2
 go_ret
 exact⟨rfl,by first|exact belD HB.out _|exact belD (belD HB.out _) _⟩
def RowC (w:World) (g C:Nat):Prop:=∃ cur:Array Value,w.heap[g]?=some (.cells cur 5 (0,0))∧cur.size=C
theorem wpList_appZ (w:World) {ops:Array Oper} {rest:List Oper} {o:Oper} {a:Act} {Q:Exit→Act→World→Prop} (hg:o.guard=none) (s x:Operand)
  (hop:o.op=Op.call { callee:=Callee.builtin Builtin.append,args:=#[s,x],argTypes:=#[22,3] }) (hs:a.eval s=.slice none 0 0) (n:Nat) (hx:a.eval x=.int .i64 n) (hn:0<n) (hb:n≤2097152)
  (hK:∀ C w',n≤C→C≤maxLen→RowC w' w.heap.size C→Below w.heap.size w w'→wpList Tryz.prog ops Q rest (a.put o.dst (.slice (some ⟨w.heap.size,0,none⟩) n C)) w') :
  wpList Tryz.prog ops Q (o::rest) a w:=by
 obtain⟨i0,hi,hz0,hz1,hz2⟩:=info_parts Tryz.infoU8';have hfit:Builtin.nextslicecap (0+n) 0*i0.bytes≤281474976710656:=by rw[Nat.zero_add,nextslicecap_zero (by omega),hz2];omega
 have hr:=Go.Lib.run_append_grow_zeros (P:=Tryz.prog) w 22 3 o.type 5 i0 (.int .u8 0) .i64 .i64 Tryz.underlying22 Tryz.underlying3 hi hz0 none 0 0 [] (by rfl) n hn (by omega) (by omega) (by omega) (by rw[hz2];omega) hfit;have hge:=grownCap_ge w (0+n) 0 5;have hle:=grownCap_le_maxLen w (0+n) 0 5 (by unfold maxLen;omega);rw[Nat.zero_add] at hr hge hle;generalize grownCap w n 0 5=C at hr hge hle;refine wpList_plain hg fun K hK'=>?_
 have hk:=hK' _ _ (hK C _ hge hle ⟨_,heap_alloc_new w.drew (.cells ((([]:List Value).toArray++Builtin.zeroCells (Value.int .u8 0).cells n)++Builtin.zeroCells (Value.int .u8 0).cells (C-n)) 5),by simp[Builtin.zeroCells,Value.cells];omega⟩ ((Below.refl _ _).drew.alloc (Nat.le_refl _) _));unfold Oper.wp execOp;simp only[hop,resolve,invoke,builtin,Sem.run_bind,Sem.run_pure,Result.andThen_ok,List.map_toArray,List.map_cons,List.map_nil,hs,hx,hr];exact hk
set_option maxRecDepth 100000 in
set_option maxHeartbeats 1000000 in
theorem grow_any (n:Nat) (w:World) (hn:0<n) (hb:n≤2097152) :
  Calls Tryz.prog 136 #[.slice none 0 0,.int .i64 n] w fun e w'=>∃ v,e=.returned v∧Own w' w.heap.size v []∧Below w.heap.size w w':=by
 have h0:¬ ((n:Int)<0):=by omega
 have h1:(n:Int)>0:=by omega
 go_enter Tryz.func136,Tryz.ntmps136;go_wp2_with (first
  |(refine wpList_appZ _ rfl (.tmp 20) (.tmp 21) rfl rfl n rfl hn hb ?_)
  |fail)
 intro C w1 hC hm hrow hb1;have HF:Hid (Own w1 w.heap.size (.slice (some ⟨w.heap.size,0,none⟩) 0 C) []):=by
  obtain⟨cur,h1,h2⟩:=hrow;exact⟨⟨by simp,.inr ⟨w.heap.size,C,cur,rfl,Nat.le_refl _,h1,by simp,hm,by rw[h2,Nat.mul_one],by simp⟩⟩,_,_,rfl⟩
 have HB:=hdI <| hb1
 have hC':(0:Int)≤C:=by omega
 have hm':C≤9223372036854775807:=by unfold maxLen at hm;omega
 clear hrow hb1 hm;go_wp2
 go_ret
 exact⟨_,rfl,HF.out,HB.out⟩
def tot (zss:List (List Int)) (k:Nat):Nat:=(zss.take k).flatten.length
theorem tot_succ (zss:List (List Int)) (k:Nat) (h:k<zss.length):tot zss (k+1)=tot zss k+(zss.getD k []).length:=by
 unfold tot;rw[flat_snoc zss k h,List.length_append]
set_option maxRecDepth 100000 in
set_option maxHeartbeats 2000000 in
theorem conc_any (p m cap:Nat) (vs:List Value) (zss:List (List Int)) (w:World) (hm:zss.length=m) (hp:p<w.heap.size) (hc:∀ i,i<m→w.cell? ⟨p,i,none⟩=some (vs.getD i undef))
  (hz:∀ i,i<m→Part w (vs.getD i undef) (zss.getD i [])) (ht:zss.flatten.length≤2097152) (h0:0<zss.flatten.length) (hm':m≤2097152) :
  Calls Tryz.prog 109 #[.slice (some ⟨p,0,none⟩) m cap] w fun e w'=>∃ v,e=.returned v∧Own w' w.heap.size v zss.flatten∧Below w.heap.size w w':=by
 have HM:=hdI <| hm
 have HC:=hdI <| hc
 have HZ:=hdI <| hz
 have HT:Hid (zss.flatten.length≤2097152∧0<zss.flatten.length):=⟨ht,h0⟩
 have HTA:Hid (tot zss m=zss.flatten.length):=by show _=_;unfold tot;rw[List.take_of_length_le (by omega)]
 clear hc hz ht h0 hm;go_enter Tryz.func109,Tryz.ntmps109;go_wp2_with fail
 go_loop [3,11] (fun q i=>∃ k:Nat,k≤m∧i=.int .i64 k∧q=.int .i64 (tot zss k)) (fun _ i=>m-(intOf i).toNat)
 case atStart=>exact⟨0,Nat.zero_le _,rfl,rfl⟩
 case round=>
  obtain⟨k,hk,rfl,rfl⟩:=hrel;by_cases hlt:k<m
  ·have hlt':(k:Int)<m:=by omega
   obtain⟨b,o,c,hv,hb,hcell⟩:=HZ.out k hlt;have hck:w.cell? ⟨p,k,none⟩=some (.slice (some ⟨b,o,none⟩) (zss.getD k []).length c):=by rw[HC.out k hlt,hv]
   have HS:=hdI <| tot_succ zss k (by have:=HM.out;omega)
   have hle:tot zss (k+1)≤2097152:=Nat.le_trans (flat_le zss (k+1)) HT.out.1;rw[HS.out] at hle;clear hcell hv hb;generalize (zss.getD k []).length=z at *;generalize tot zss k=y at *;have hn0:¬ ((y:Int)+z<0):=by omega
   go_wp2
   go_round
   case rel=>exact⟨k+1,by omega,by go_num,by rw[HS.out];go_num⟩
   case measure=>simp[intOf];omega
  ·have hke:k=m:=by omega
   subst hke;obtain⟨N,hN⟩:∃ N,tot zss k=N:=⟨_,rfl⟩
   have CG:=grow_any N w (by rw[←hN,HTA.out];exact HT.out.2) (by rw[←hN,HTA.out];exact HT.out.1);have hNb:N≤2097152:=by rw[←hN,HTA.out];exact HT.out.1
   rw[hN];clear hN HTA;have hlt':¬ ((k:Int)<k):=by omega
   go_wp2_with fail;refine CG.mono ?_;rintro e w1 ⟨v1,rfl,ho1,hb1⟩;have HO1:=hdI <| ho1
   have HB1:=hdI <| hb1
   clear ho1 hb1 hlt' CG;go_wp2_with fail
   go_loopw [6,27] (fun v i wr=>∃(j:Nat) (l:Value),j≤k∧i=.int .i64 j∧l=v∧Own wr w.heap.size l (zss.take j).flatten∧Below w.heap.size w wr) (fun _ i _=>k-(intOf i).toNat)
   case atStart=>exact⟨0,_,Nat.zero_le _,rfl,rfl,HO1.out,HB1.out⟩
   case round=>
    clear HO1 HB1;obtain⟨j,l,hj,rfl,rfl,hown,hbel⟩:=hrel;by_cases hlt:j<k
    ·have hsz:=hbel.size;obtain⟨b,o,c,hv,hb,hcell⟩:=HZ.out j hlt;have hck:wr.cell? ⟨p,j,none⟩=some (.slice (some ⟨b,o,none⟩) (zss.getD j []).length c):=by rw[hbel.cell (p:=⟨p,j,none⟩) hp,HC.out j hlt,hv]
     have HNW:Hid (∀ i,i<(zss.getD j []).length→wr.cell? ((⟨b,o,none⟩:Addr).add i)=some (.int .u8 ((zss.getD j []).getD i 0))):=by
      intro i hi;rw[Addr.add_lit,hbel.cell (p:=⟨b,o+i,none⟩) hb];exact hcell i hi
     have hfl:=flat_snoc zss j (by have:=HM.out;omega);have hle:=flat_le zss (j+1);have HL:Hid ((zss.take j).flatten.length+(zss.getD j []).length≤1099511627776):=by show _≤_;rw[hfl,List.length_append] at hle;have:=HT.out.1;omega
     have HFL:=hdI <| hfl
     have HOW:=hdI <| hown
     have HBE:=hdI <| hbel
     clear hcell hv hb hfl hle hown hbel;go_wp2_with (first
      |(at_builtin;refine wpList_app _ rfl (.tmp 31) (.tmp 32) rfl w.heap.size _ _ rfl HOW.out ⟨b,o,none⟩ _ c (zss.getD j []) rfl rfl HNW.out HL.out hsz ?_)
      |fail)
     intro v' w2 hown' hbel' _;have HO2:Hid (Own w2 w.heap.size v' (zss.take (j+1)).flatten):=by show Own _ _ _ _;rw[HFL.out];exact hown'
     have HB2:=hdI <| HBE.out.trans hbel'
     clear hown' hbel' HOW HBE HNW;go_wp2;go_roundw
     case rel=>exact⟨j+1,_,by omega,by go_num,rfl,HO2.out,HB2.out⟩
     case measure=>simp[intOf];omega
    ·have hje:j=k:=by omega
     have hlt':¬ ((j:Int)<k):=by omega
     have HO2:Hid (Own wr w.heap.size l zss.flatten):=by
      have:zss.take j=zss:=List.take_of_length_le (by have:=HM.out;omega);rw[this] at hown;exact hown
     clear hown;go_wp2
     go_ret
     exact⟨_,rfl,HO2.out,hbel⟩
end Go.Proofs.YtncomnkdlpoelaaGreatDoor
