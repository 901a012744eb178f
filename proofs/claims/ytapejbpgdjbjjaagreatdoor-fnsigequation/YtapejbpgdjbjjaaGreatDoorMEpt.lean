import Derived.Test.YtapejbpgdjbjjaaGreatDoorMVal
import Derived.Test.YtapejbpgdjbjjaaGreatDoorSMp
import Derived.Test.YtapejbpgdjbjjaaGreatDoorMBb
namespace Go.Proofs.YtapejbpgdjbjjaaGreatDoor
open Go.ChangeShapes Go.WideShapes Go.ChangeAt Go.RowKit
set_option linter.unusedVariables false
def PtV (w:World) (v:Value) (Q:Q4):Prop:=∃ g1 c1 g2 c2 g3 c3 g4 c4,v=.agg #[.slice (some ⟨g1,0,none⟩) 16 c1,.slice (some ⟨g2,0,none⟩) 16 c2,.slice (some ⟨g3,0,none⟩) 16 c3,.slice (some ⟨g4,0,none⟩) 16 c4]∧
 FeA w (some ⟨g1,0,none⟩) Q.1∧FeA w (some ⟨g2,0,none⟩) Q.2.1∧FeA w (some ⟨g3,0,none⟩) Q.2.2.1∧FeA w (some ⟨g4,0,none⟩) Q.2.2.2
theorem PtV.below {w w':World} {v:Value} {Q:Q4} (h:PtV w v Q) (hb:Below w.heap.size w w'):PtV w' v Q:=by
 obtain⟨g1,c1,g2,c2,g3,c3,g4,c4,e,f1,f2,f3,f4⟩:=h
 exact⟨g1,c1,g2,c2,g3,c3,g4,c4,e,f1.below hb,f2.below hb,f3.below hb,f4.below hb⟩
theorem PtV.mk {w:World} {zs:List Int} {g1 c1 g2 c2 g3 c3 g4 c4:Nat} (f1:FeA w (some ⟨g1,0,none⟩) (mX zs mdD)) (f2:FeA w (some ⟨g2,0,none⟩) (mY zs)) (f3:FeA w (some ⟨g3,0,none⟩) (1%fp)) (f4:FeA w (some ⟨g4,0,none⟩) (mX zs mdD*mY zs%fp)) :
  PtV w (.agg #[.slice (some ⟨g1,0,none⟩) 16 c1,.slice (some ⟨g2,0,none⟩) 16 c2,.slice (some ⟨g3,0,none⟩) 16 c3,.slice (some ⟨g4,0,none⟩) 16 c4]) (ptQ zs):=⟨g1,c1,g2,c2,g3,c3,g4,c4,rfl,f1,f2,f3,f4⟩
def PtS (w:World) (v:Value):Prop:=∃ Q,PtV w v Q
theorem PtS.below {w w':World} {v:Value} (h:PtS w v) (hb:Below w.heap.size w w'):PtS w' v:=by obtain⟨Q,h⟩:=h;exact⟨Q,h.below hb⟩
def FdV (w:World) (v:Value) (x:Int):Prop:=∃ g c,v=.slice (some ⟨g,0,none⟩) 16 c∧FeA w (some ⟨g,0,none⟩) x
theorem FdV.below {w w':World} {v:Value} {x:Int} (h:FdV w v x) (hb:Below w.heap.size w w'):FdV w' v x:=by obtain⟨g,c,e,f⟩:=h;exact⟨g,c,e,f.below hb⟩
def TxE (w:World) (v:Value) (m:Nat):Prop:=∃ g c zs,v=.slice (some ⟨g,0,none⟩) m c∧m≤c∧zs.length=m∧Byte zs∧At .u8 w (some ⟨g,0,none⟩) zs
theorem TxE.below {w w':World} {v:Value} {m:Nat} (h:TxE w v m) (hb:Below w.heap.size w w'):TxE w' v m:=by obtain⟨g,c,zs,e,h1,h2,h3,h4⟩:=h;exact⟨g,c,zs,e,h1,h2,h3,h4.below hb⟩
theorem TxE.of_own {w:World} {B:Nat} {v:Value} {zs:List Int} {m:Nat} (h:Own w B v zs) (hl:zs.length=m) (hz:Byte zs):TxE w v m:=by
 obtain⟨g,c,e,_,_,hc⟩:=h.base
 obtain⟨g',c',e',_,_,hA⟩:=h.at2
 rw[e] at e'
 cases e'
 rw[hl] at e hc
 exact⟨g,c,zs,e,hc,hl,hz,hA⟩
def TxO (w:World) (B:Nat) (v:Value) (m:Nat):Prop:=∃ zs,Own w B v zs∧zs.length=m∧Byte zs
theorem TxO.tx {w:World} {B:Nat} {v:Value} {m:Nat} (h:TxO w B v m):TxE w v m:=by obtain⟨zs,h1,h2,h3⟩:=h;exact TxE.of_own h1 h2 h3
theorem TxO.of_own {w:World} {B:Nat} {v:Value} {zs:List Int} {m:Nat} (h:Own w B v zs) (hl:zs.length=m) (hz:Byte zs):TxO w B v m:=⟨zs,h,hl,hz⟩
theorem TxO.lower {w:World} {B B':Nat} {v:Value} {m:Nat} (h:TxO w B v m) (hB:B'≤B):TxO w B' v m:=by obtain⟨zs,h1,h2,h3⟩:=h;exact⟨zs,h1.monoE hB,h2,h3⟩
theorem TxO.below {w w':World} {B:Nat} {v:Value} {m:Nat} (h:TxO w B v m) (hb:Below w.heap.size w w'):TxO w' B v m:=by obtain⟨zs,h1,h2,h3⟩:=h;exact⟨zs,h1.keepE (fun k _ hk=>hb.block k hk),h2,h3⟩
theorem At.cutE {w:World} {g n:Nat} {zs:List Int} (h:At .u8 w (some ⟨g,0,none⟩) zs) (m:Nat):At .u8 w (some ⟨g,0,none⟩) (zs.take m):=by
 rcases h with h|⟨b,off,e,hb,hc⟩
 ·left;rw[h];simp
 ·cases e;refine .inr ⟨g,0,rfl,hb,fun i hi=>?_⟩;have hi':i<m∧i<zs.length:=by simp at hi;omega
  rw[hc i hi'.2];simp[hi'.1,hi'.2]
theorem PtW.feE {w:World} {G g:Nat} {a:Option Addr} {n c:Nat} {s1 s2 s3:Value} {x:Int} (h:PtW w G #[.slice a n c,s1,s2,s3]) (f:FeA w (some ⟨g,0,none⟩) x):g≠G:=by
 intro e
 subst e
 obtain⟨zs,h1,h2,_⟩:=f
 obtain⟨b,o,e,_,hc⟩:=h1.get (by have:=h2.1;omega)
 cases e
 have c0:=hc 0 (by have:=h2.1;omega)
 rw[Nat.zero_add,h.c0] at c0
 cases c0
set_option maxHeartbeats 2000000 in
theorem base_any (w:World):Calls Tryz.prog 51 #[] w (fun e w'=>∃ v,e=.returned v∧PtV w' v (ptQ bB)∧Below w.heap.size w w'):=by
 have HR0:Hid (PtW (w.alloc (.cells #[.slice none 0 0,.slice none 0 0,.slice none 0 0,.slice none 0 0] 44)) w.heap.size #[.slice none 0 0,.slice none 0 0,.slice none 0 0,.slice none 0 0]):=PtW.new w
 have HB0:=hid_ofE ((Below.refl w.heap.size w).alloc (Nat.le_refl _) (.cells #[.slice none 0 0,.slice none 0 0,.slice none 0 0,.slice none 0 0] 44))
 have hs0:w.heap.size<(w.alloc (.cells #[.slice none 0 0,.slice none 0 0,.slice none 0 0,.slice none 0 0] 44)).heap.size:=by simp
 go_enter Tryz.func51,Tryz.ntmps51
 go_wp2_with fail
 generalize w.alloc (.cells #[.slice none 0 0,.slice none 0 0,.slice none 0 0,.slice none 0 0] 44)=w0 at *
 refine(sbas_any _).mono ?_
 rintro e w1 ⟨v1,bs1,rfl,O1,b1,l1,x1,B1⟩
 obtain rfl:bs1=bB:=bB_of b1 l1 x1
 obtain⟨g1,c1,rfl,hg1,hg1',A1⟩:=O1.at2
 rw[bB_len]
 have HA1:=hid_ofE A1
 have HR1:=hid_ofE (HR0.out.below B1 hs0)
 have HB1:Hid (Below w.heap.size w w1):=HB0.out.trans (B1.mono HB0.out.size)
 clear O1 A1 B1 HR0 HB0
 have hs1:=HR1.out.lt
 go_wp2_with fail
 refine(d_any _).mono ?_
 rintro e w2 ⟨g2,c2,rfl,k2,l2,hf,B2⟩
 have HA2:=HA1.out.below B2
 have HR2:=hid_ofE (HR1.out.below B2 hs1)
 have HB2:Hid (Below w.heap.size w w2):=HB1.out.trans (B2.mono HB1.out.size)
 clear HA1 HR1 HB1 B2
 have hs2:=HR2.out.lt
 go_wp2_with fail
 refine(decodeS_any _ _ 32 c1 c2 bB mdD _ bB_len (by decide) HA2 bB_byte hf).mono ?_
 rintro e w3 ⟨s1,s2,s3,s4,rfl,B3,hone,hok⟩
 obtain⟨x1,i1,x2,i2,x3,i3,x4,i4,rfl,rfl,rfl,rfl,f1,f2,f3,f4⟩:=hok bB_ok
 have HR3:=hid_ofE (HR2.out.below B3 hs2)
 have HB3:Hid (Below w.heap.size w w3):=HB2.out.trans (B3.mono HB2.out.size)
 have HF3:=hid_ofE (And.intro f1 (And.intro f2 (And.intro f3 f4)))
 have hs3:=HR3.out.lt
 have HPN:Hid (PtW (w3.alloc (.cells #[.slice none 0 0,.slice none 0 0,.slice none 0 0,.slice none 0 0] 44)) w3.heap.size #[.slice none 0 0,.slice none 0 0,.slice none 0 0,.slice none 0 0]):=PtW.new w3
 clear HA2 hf HR2 HB2 B3 hone hok f1 f2 f3 f4
 go_wp2_with (first
  |(refine wpList_storePt rfl (.tmp 2) (.tmp 8) rfl w3.heap.size _ _ _ _ _ rfl rfl rfl rfl rfl rfl rfl HPN.out ?_)
  |fail)
 intro w4 hp4 hw4
 have b34:Below w3.heap.size w3 w4:=(below_new3 _ _).trans (hw4.below (Nat.le_refl _))
 have HB4:Hid (Below w.heap.size w w4):=HB3.out.trans (b34.mono HB3.out.size)
 have HR4:=hid_ofE (HR3.out.below b34 hs3)
 have HP4:=hid_ofE hp4
 have HF4:Hid (FeA w4 (some ⟨x1,0,none⟩) (mX bB mdD)∧FeA w4 (some ⟨x2,0,none⟩) (mY bB)∧FeA w4 (some ⟨x3,0,none⟩) (1%fp)∧FeA w4 (some ⟨x4,0,none⟩) (mX bB mdD*mY bB%fp)):=by
  obtain⟨f1,f2,f3,f4⟩:=HF3.out;exact⟨f1.below b34,f2.below b34,f3.below b34,f4.below b34⟩
 clear HF3 HR3 HB3 HPN hp4 hw4 b34
 generalize w3.heap.size=Ga at *
 go_wp2_with (first
  |(refine wpList_load_row rfl 44 (.tmp 2) rfl Ga rfl 44 _ (0,0) _ HP4.out Tryz.underlying44 rfl Tryz.sizePt ?_)
  |(refine wpList_storePt rfl (.tmp 0) (.tmp 9) rfl w.heap.size _ _ _ _ _ rfl rfl rfl rfl rfl rfl rfl HR4.out ?_)
  |fail)
 intro w5 hp5 hw5
 have HF:Hid (∃ v,Ending.returned (.agg #[.slice (some ⟨x1,0,none⟩) 16 i1,.slice (some ⟨x2,0,none⟩) 16 i2,.slice (some ⟨x3,0,none⟩) 16 i3,.slice (some ⟨x4,0,none⟩) 16 i4])=.returned v∧PtV w5 v (ptQ bB)∧Below w.heap.size w w5):=by
  obtain⟨f1,f2,f3,f4⟩:=HF4.out;refine⟨_,rfl,PtV.mk (f1.wr hw5 (HR4.out.feE f1)) (f2.wr hw5 (HR4.out.feE f2)) (f3.wr hw5 (HR4.out.feE f3)) (f4.wr hw5 (HR4.out.feE f4)),HB4.out.trans (hw5.below (Nat.le_refl _))⟩
 have HP5:=hid_ofE hp5
 clear hp5 hw5 HR4 HP4 HF4 HB4
 go_wp2
 exact bodyPost_ret (v:=.agg #[.slice (some ⟨x1,0,none⟩) 16 i1,.slice (some ⟨x2,0,none⟩) 16 i2,.slice (some ⟨x3,0,none⟩) 16 i3,.slice (some ⟨x4,0,none⟩) 16 i4]) (results_cell_row rfl _ _ w.heap.size 44 _ (0,0) _ rfl HP5.out Tryz.underlying44 rfl Tryz.sizePt) rfl HF.out
set_option maxRecDepth 100000 in
set_option maxHeartbeats 4000000 in
theorem pubO_any (x:Int) (w:World) (hx0:0≤x) (hx1:x≤1000):Calls Tryz.prog 18 #[.int .i64 x] w (fun e w'=>∃ v,e=.returned v∧TxO w' w.heap.size v 32∧Below w.heap.size w w'):=by
 go_enter Tryz.func18,Tryz.ntmps18
 go_wp2_with fail
 refine wp_region_any (by kernel_rfl) ?_
 refine wpAny_slotsU (fun _ a b=>Below a.heap.size a b) (frame:=(fun (a b:Value)=>fun (t:Nat→Value)=>({ tmps:=List.toArray [a,b,t 7,t 0,t 1,t 2,t 3,t 4,t 5,t 6],defers:=[] }:Act)) _ _)
  (Ext:=fun L u w'=>ApX w [] L u w') (Good:=fun i L w' v=>if i=0 then v=.int .i64 x else if i=1 then TxE w' v 32 else if i=2 then TxE w' v 2 else if i=3 then PtV w' v (ptQ bB) else if i=4 then FdV w' v mdD else if i=5 then PtS w' v else if i=6 then TxO w' w.heap.size v 32 else if i=7 then TxO w' w.heap.size v 32 else True) ?hstab (by kernel_rfl) ?hop ?hdone _ _ ((fun (x0 x1 x2 x3 x4 x5 x6 x7:Value)=>fun (i:Nat)=>if i=0 then x0 else if i=1 then x1 else if i=2 then x2 else if i=3 then x3 else if i=4 then x4 else if i=5 then x5 else if i=6 then x6 else if i=7 then x7 else undef) _ _ _ _ _ _ _ _) _ (by simp) ?ext ?start (by simp)
 case start=>intro i hi h;exact absurd h (by rw[Array.getD_eq_getD_getElem?,Array.getElem?_replicate];split<;>simp)
 case ext=>exact(ApX.start w [] _ _ (fun i=>by rw[Array.getD_eq_getD_getElem?,Array.getElem?_replicate];split<;>rfl)).drew
 case hstab=>
  intro j L w9 w' i v hM _ _ h;by_cases h1:j=1
  ·subst h1;simp at h ⊢;exact h.below hM
  by_cases h2:j=2
  ·subst h2;simp at h ⊢;exact h.below hM
  by_cases h3:j=3
  ·subst h3;simp at h ⊢;exact h.below hM
  by_cases h4:j=4
  ·subst h4;simp at h ⊢;exact h.below hM
  by_cases h5:j=5
  ·subst h5;simp at h ⊢;exact h.below hM
  by_cases h6:j=6
  ·subst h6;simp at h ⊢;exact h.below hM
  by_cases h7:j=7
  ·subst h7;simp at h ⊢;exact h.below hM
  simp only[if_neg h1,if_neg h2,if_neg h3,if_neg h4,if_neg h5,if_neg h6,if_neg h7] at h ⊢;exact h
 case hop=>
  intro i o L t w' ho hLi hx hdep K hK;have hi:i<8:=(Array.getElem?_eq_some_iff.1 ho).1;obtain rfl|rfl|rfl|rfl|rfl|rfl|rfl|rfl:i=0∨i=1∨i=2∨i=3∨i=4∨i=5∨i=6∨i=7:=by omega
  all_goals(simp at ho;subst ho)
  ·clear hdep;have hK':=hK w' (.int .i64 x) (by simp) (hx.step 0 _ (Below.refl _ _) (fun h=>absurd h (by decide))) (Below.refl _ _);clear hK;rw[if_pos (by rfl)];go_simp;simpa[upd] using hK'
  ·have d0:t 0=.int .i64 x:=by simpa using(hdep ⟨0,.data⟩ (by simp) rfl).2
   clear hdep;have A:=scOf_any x w' hx0 hx1;have hK':∀ ww v,TxE ww v 32→Below w'.heap.size w' ww→K _ ww:=fun ww v hv hb=>hK ww v (by simpa using hv) (hx.step 1 v hb (fun h=>absurd h (by decide))) hb
   clear hK;rw[if_pos (by rfl)];go_simp;try simp only[d0]
   refine A.mono ?_;rintro e w9 ⟨v9,zs,rfl,o9,b9,l9,_,hb9⟩;have hK2:=hK' w9 v9 (TxE.of_own o9 l9 b9) hb9;clear hK' A o9 b9 l9 hb9;go_simp;simpa[upd,d0] using hK2
  ·have f1:TxE w' (t 1) 32:=by simpa using(hdep ⟨1,.data⟩ (by simp) rfl).2
   clear hdep;refine Exists.elim f1 fun gg hh=>?_
   obtain⟨cc,zs,d1,h1,h2,h3,h4⟩:=hh;have hcc:2≤cc:=by omega
   have hcc':(2:Int)≤(cc:Int):=by omega
   have hK':=hK w' (.slice (some ⟨gg,0,none⟩) 2 cc) (by simpa using⟨gg,cc,zs.take 2,rfl,hcc,by simp;omega,fun v hv=>h3 v (List.mem_of_mem_take hv),h4.cutE (n:=0) 2⟩) (hx.step 2 _ (Below.refl _ _) (fun h=>absurd h (by decide))) (Below.refl _ _);clear hK h4 h3;rw[if_pos (by rfl)];go_simp;simpa[upd,d1,hcc'] using hK'
  ·clear hdep;have A:=base_any w';have hK':∀ ww v,PtV ww v (ptQ bB)→Below w'.heap.size w' ww→K _ ww:=fun ww v hv hb=>hK ww v (by simpa using hv) (hx.step 3 v hb (fun h=>absurd h (by decide))) hb
   clear hK;rw[if_pos (by rfl)];go_simp;try simp only[]
   refine A.mono ?_;rintro e w9 ⟨v9,rfl,p9,hb9⟩;have hK2:=hK' w9 v9 p9 hb9;clear hK' A p9 hb9;go_simp;simpa[upd] using hK2
  ·clear hdep;have A:=d_any w';have hK':∀ ww v,FdV ww v mdD→Below w'.heap.size w' ww→K _ ww:=fun ww v hv hb=>hK ww v (by simpa using hv) (hx.step 4 v hb (fun h=>absurd h (by decide))) hb
   clear hK;rw[if_pos (by rfl)];go_simp;try simp only[]
   refine A.mono ?_;rintro e w9 ⟨g9,c9,rfl,_,_,q9,hb9⟩;have hK2:=hK' w9 (.slice (some ⟨g9,0,none⟩) 16 c9) ⟨g9,c9,rfl,q9⟩ hb9;clear hK' A q9 hb9;go_simp;simpa[upd] using hK2
  ·have f2:TxE w' (t 2) 2:=by simpa using(hdep ⟨2,.data⟩ (by simp) rfl).2
   have f3:PtV w' (t 3) (ptQ bB):=by simpa using(hdep ⟨3,.data⟩ (by simp) rfl).2
   have f4:FdV w' (t 4) mdD:=by simpa using(hdep ⟨4,.data⟩ (by simp) rfl).2
   clear hdep;refine Exists.elim f2 fun gg hh=>?_
   obtain⟨cc,zs,d2,_,h2,h3,h4⟩:=hh;refine Exists.elim f3 fun q1 hh'=>?_
   obtain⟨e1,q2,e2,q3,e3,q4,e4,d3,y1,y2,y3,y4⟩:=hh';refine Exists.elim f4 fun gd hh''=>?_
   obtain⟨cd,d4,yd⟩:=hh'';have A:=ltimes2_any (some ⟨gg,0,none⟩) cc zs q1 q2 q3 q4 gd e1 e2 e3 e4 cd (ptQ bB) w' h2 h3 h4 y1 y2 y3 y4 yd;have hK':∀ ww v,PtS ww v→Below w'.heap.size w' ww→K _ ww:=fun ww v hv hb=>hK ww v (by simpa using hv) (hx.step 5 v hb (fun h=>absurd h (by decide))) hb
   clear hK h4 y1 y2 y3 y4 yd;rw[if_pos (by rfl)];go_simp;try simp only[d2,d3,d4]
   refine A.mono ?_;rintro e w9 ⟨a1,k1,a2,k2,a3,k3,a4,k4,rfl,z1,z2,z3,z4,hb9⟩;have hK2:=hK' w9 _ ⟨_,a1,k1,a2,k2,a3,k3,a4,k4,rfl,z1,z2,z3,z4⟩ hb9;clear hK' A z1 z2 z3 z4 hb9;go_simp;simpa[upd,d2,d3,d4] using hK2
  ·have f5:PtS w' (t 5):=by simpa using(hdep ⟨5,.data⟩ (by simp) rfl).2
   clear hdep;refine Exists.elim f5 fun QQ hh=>?_
   obtain⟨q1,e1,q2,e2,q3,e3,q4,e4,d5,y1,y2,y3,y4⟩:=hh;have A:=code_any (some ⟨q1,0,none⟩) (some ⟨q2,0,none⟩) (some ⟨q3,0,none⟩) (some ⟨q4,0,none⟩) e1 e2 e3 e4 _ _ _ w' y1 y2 y3;have hK':∀ ww v,TxO ww w.heap.size v 32→Below w'.heap.size w' ww→K _ ww:=fun ww v hv hb=>hK ww v (by simpa using hv) (hx.step 6 v hb (fun h=>absurd h (by decide))) hb
   clear hK y1 y2 y3 y4;rw[if_pos (by rfl)];go_simp;try simp only[d5]
   refine A.mono ?_;rintro e w9 ⟨v9,bx,rfl,o9,hy,hl,hv,hb9⟩;have hK2:=hK' w9 v9 (TxO.of_own (o9.monoE hx.below.size) hl hy) hb9;clear hK' A o9 hy hl hv hb9;go_simp;simpa[upd,d5] using hK2
  ·have f6:TxO w' w.heap.size (t 6) 32:=by simpa using(hdep ⟨6,.data⟩ (by simp) rfl).2
   clear hdep;have hK':=hK w' (t 6) (by simpa using f6) (hx.step 7 _ (Below.refl _ _) (fun h=>absurd h (by decide))) (Below.refl _ _);clear hK;rw[if_pos (by rfl)];go_simp;simpa[upd] using hK'
 case hdone=>
  intro L t w9 hx hg;have h7:TxO w9 w.heap.size (t 7) 32:=by simpa using hg 7 (by decide)
  have HF:Hid (TxO w9 w.heap.size (t 7) 32∧Below w.heap.size w w9):=⟨h7,hx.below⟩
  clear hg hx h7;go_wp2
  go_ret
  exact⟨_,rfl,HF.out.1,HF.out.2⟩
theorem pub_any (x:Int) (w:World) (hx0:0≤x) (hx1:x≤1000):Calls Tryz.prog 18 #[.int .i64 x] w (fun e w'=>∃ v,e=.returned v∧TxE w' v 32∧Below w.heap.size w w'):=
 (pubO_any x w hx0 hx1).mono fun _ _ h=>by obtain⟨v,h1,h2,h3⟩:=h;exact⟨v,h1,h2.tx,h3⟩
end Go.Proofs.YtapejbpgdjbjjaaGreatDoor
namespace Go.Proofs.YtapejbpgdjbjjaaGreatDoor
open Go.ChangeShapes Go.WideShapes Go.ChangeAt Go.RowKit
set_option linter.unusedVariables false
def restAt (V:Int) (j:Nat):Int:=V/2^j%bigL
theorem restAt_bd (V:Int) (j:Nat):0≤restAt V j∧restAt V j<bigL:=by
 unfold restAt bigL;omega
theorem restAt_zero (V:Int):restAt V 0=V%bigL:=by simp[restAt]
def bitAt (V:Int) (j:Nat):Int:=V/2^j%2
theorem bitAt_bd (V:Int) (j:Nat):bitAt V j=0∨bitAt V j=1:=by unfold bitAt;omega
theorem restAt_step (V:Int) (j:Nat):restAt V j=if bigL≤2*restAt V (j+1)+bitAt V j then 2*restAt V (j+1)+bitAt V j-bigL else 2*restAt V (j+1)+bitAt V j:=by
 unfold restAt bitAt bigL
 have e:V/2^(j+1)=V/2^j/2:=by rw[Int.pow_succ,Int.ediv_ediv_of_nonneg (Int.pow_nonneg (by decide))]
 rw[e]
 generalize V/2^j=q
 split<;>omega
theorem restAt_top (V:Int) (j:Nat) (h0:0≤V) (h:V<2^j):restAt V j=0:=by
 unfold restAt;rw[Int.ediv_eq_zero_of_lt h0 h];rfl
theorem pow256r (n:Nat):(256:Int)^n=2^(8*n):=by rw[show(256:Int)=2^8 from rfl,←Int.pow_mul]
theorem bitAt_byte (zs:List Int) (j:Nat) (hz:Byte zs):bitAt (val 256 zs) j=zs.getD (j/8) 0/2^(j%8)%2:=by
 induction zs generalizing j with
 |nil=>simp[val,bitAt]
 |cons z zs ih=>
  obtain⟨h0,h1⟩:=Dig.head (B:=256) hz;by_cases hj:j<8
  ·have e1:j/8=0:=by omega
   have e2:j%8=j:=by omega
   rw[e1,e2];simp only[val,bitAt,List.getD_cons_zero];have:j=0∨j=1∨j=2∨j=3∨j=4∨j=5∨j=6∨j=7:=by omega
   rcases this with rfl|rfl|rfl|rfl|rfl|rfl|rfl|rfl<;>simp only[Int.pow_succ,Int.pow_zero]<;>omega
  ·obtain⟨i,rfl⟩:∃ i,j=i+8:=⟨j-8,by omega⟩
   have e1:(i+8)/8=i/8+1:=by omega
   have e2:(i+8)%8=i%8:=by omega
   rw[e1,e2,List.getD_cons_succ,←ih i (Dig.tail (B:=256) hz)];simp only[val,bitAt];have e3:(2:Int)^(i+8)=256*2^i:=by rw[Int.pow_add,Int.mul_comm];rfl
   rw[e3,←Int.ediv_ediv_of_nonneg (by decide)];have e4:(z+256*val 256 zs)/256=val 256 zs:=by omega
   rw[e4]
theorem twice_step (p s P d c b t:Int) (h:s+c*P=2*p+b):(s+(2*d+c)%256*P)+(2*d+c)/256*(P*256)=2*(p+d*P)+b:=by
 have:=val_carry 256 P (2*d) s (2*p+b) c (2*d*P) h rfl
 grind
theorem Own.grow2r {w w':World} {B:Nat} {v:Value} {zs:List Int} (h:Own w B v zs) (hb:Below w.heap.size w w'):Own w' B v zs:=by
 refine⟨⟨h.1.1,?_⟩,h.2⟩
 rcases h.1.2 with h'|⟨g,c,cur,h1,h2,h3,h4⟩
 ·exact .inl h'
 ·exact .inr ⟨g,c,cur,h1,h2,by rw[hb.block g (Array.getElem?_eq_some_iff.1 h3).1];exact h3,h4⟩
theorem Own.lower2 {w:World} {B B':Nat} {v:Value} {zs:List Int} (h:Own w B' v zs) (hB:B≤B'):Own w B v zs:=by
 obtain⟨⟨h1,h2⟩,h3⟩:=h
 refine⟨⟨h1,?_⟩,h3⟩
 rcases h2 with h|⟨g,c,cur,h4,h5,h6⟩
 ·exact .inl h
 ·exact .inr ⟨g,c,cur,h4,by omega,h6⟩
theorem Own.at_ {w:World} {B:Nat} {v:Value} {zs:List Int} (h:Own w B v zs):∃ g c,v=.slice (some ⟨g,0,none⟩) zs.length c∧B≤g∧g<w.heap.size∧At .u8 w (some ⟨g,0,none⟩) zs:=by
 obtain⟨g,c,rfl,hb,hg,hc⟩:=h.base
 exact⟨g,c,rfl,hb,hg,.inr ⟨g,0,rfl,hg,fun i hi=>by rw[Nat.zero_add,h.1.cellAt i (by omega)];simp[hi]⟩⟩
theorem shr_bit {x b:Int} {r:Nat} (h0:0≤x) (h1:x<256) (h:b=x/2^r%2):(wrap64 (x/2^r)).tmod 2=b:=by
 have hp:(0:Int)<2^r:=Int.pow_pos (by decide)
 have a0:0≤x/2^r:=Int.ediv_nonneg h0 (by omega)
 have a1:x/2^r≤x:=Int.ediv_le_self _ h0
 generalize x/2^r=y at *
 have:wrap64 y=y:=by unfold wrap64;omega
 rw[this,Int.tmod_eq_emod_of_nonneg a0,h]
theorem red_end {V m z:Int} {j:Nat} (hm:m=2*restAt V (j+1)+bitAt V j) (h:bigL≤m→z=m-bigL):(bigL≤m→z=restAt V j)∧(¬ bigL≤m→m=restAt V j):=by
 have:=restAt_step V j
 rw[←hm] at this
 refine⟨fun hh=>?_,fun hh=>?_⟩
 ·rw[this,if_pos hh,h hh]
 ·rw[this,if_neg hh]
set_option maxHeartbeats 1000000 in
theorem sred_any (a:Option Addr) (n cap:Nat) (zs:List Int) (w:World) (hn:zs.length=n) (hm:n≤64) (ha:At .u8 w a zs) (hz:Byte zs) :
  Calls Tryz.prog 24 #[.slice a n cap] w fun e w'=>∃ v rs,e=.returned v∧Own w' w.heap.size v rs∧Byte rs∧rs.length=32∧val 256 rs=val 256 zs%bigL∧Below w.heap.size w w':=by
 have hm':¬ ((64:Int)<(n:Int)):=by omega
 go_enter Tryz.func24,Tryz.ntmps24
 go_wp2
 go_loopw [3,4] (fun v i wr=>∃ k:Nat,k≤32∧i=.int .i64 k∧Own wr w.heap.size v (List.replicate k 0)∧Below w.heap.size w wr) (fun _ i _=>32-(intOf i).toNat)
 case atStart=>exact⟨0,Nat.zero_le _,rfl,Own.empty _ _ (Nat.le_refl _),(Below.refl _ _).alloc (Nat.le_refl _) _⟩
 case round=>
  obtain⟨k,hk,rfl,hown,hbel⟩:=hrel;by_cases hlt:k<32
  ·have hsz:=hbel.size;go_wp2_with (at_builtin;refine wpList_app _ rfl _ _ rfl w.heap.size _ _ rfl (hown.alloc _) ⟨wr.heap.size,0,none⟩ 1 1 [0] rfl rfl ?c1 ?c2 ?c3 ?_);all_goals first|(intro j hj;obtain rfl:j=0:=by omega
                                                                                                                                                                                         simp[Addr.add];done)|skip
   case c2=>simp;omega
   case c3=>first|omega|(rw[World.size_alloc];omega)
   intro v' w1 hown' hbel' _;have HO:Hid (Own w1 w.heap.size v' (List.replicate (k+1) 0)):=by rw[List.replicate_succ'];exact hown'
   have HB:Hid (Below w.heap.size w w1):=(hbel.alloc (by omega) _).trans hbel';clear hown hown' hbel hbel';go_wp2;go_roundw
   case rel=>exact⟨k+1,by omega,by go_num,HO.out,HB.out⟩
   case measure=>simp[intOf];omega
  ·have hkn:k=32:=by omega
   subst hkn;rw[show((32:Nat):Int)=32 from rfl];have HO:Hid (Own wr w.heap.size u3 (List.replicate 32 0)):=hown;have hV0:0≤val 256 zs:=val_nonneg (by decide) hz;have hV1:val 256 zs<2^(8*n):=by rw[←pow256r,←hn];exact val_lt (by decide) hz
   have HT:Hid (restAt (val 256 zs) (8*n)=0):=restAt_top _ _ hV0 hV1;clear hown hV0 hV1;go_wp2
   go_loopw [3,5] (fun v i wr=>∃(j:Nat) (rs:List Int),j≤8*n∧i=.int .i64 ((j:Int)-1)∧rs.length=32∧Byte rs∧val 256 rs=restAt (val 256 zs) j∧Own wr w.heap.size v rs∧Below w.heap.size w wr) (fun _ i _=>(intOf i+1).toNat)
   case atStart=>
    refine⟨8*n,_,Nat.le_refl _,by go_num,?_,?_,?_,HO.out,hbel⟩
    ·simp
    ·intro z hz;rw[List.mem_replicate] at hz;omega
    ·rw[HT.out];decide
   case round=>
    clear HT HO hbel;obtain⟨j,rs,hj,rfl,hrl,hrb,hrv,hown,hbel⟩:=hrel;by_cases hj0:0<j
    ·obtain⟨j,rfl⟩:∃ i,j=i+1:=⟨j-1,by omega⟩
     have hsz:=hbel.size;have ei:((j+1:Nat):Int)-1=(j:Int):=by omega
     rw[ei];clear ei;obtain⟨b0,off,rfl,hb0,hc⟩:=(ha.below hbel).get (by omega);have c0:=hc (j/8) (by omega);have hb:=bitAt_byte zs j hz;have hx:=hz.get (j/8);generalize zs.getD (j/8) 0=x at *;obtain⟨hx0,hx1⟩:=hx;go_wp2;rw[shr_bit hx0 hx1 hb];generalize wrap64 (x/2^(j%8))=y41;generalize x/2^(j%8)=y40;have hbb:=bitAt_bd (val 256 zs) j;have HR:Hid (2*restAt (val 256 zs) (j+1)+bitAt (val 256 zs) j<256^32):=by
      have:=(restAt_bd (val 256 zs) (j+1)).2;show 2*restAt (val 256 zs) (j+1)+bitAt (val 256 zs) j<256^32
      unfold bigL at this;omega
     have HBB:Hid (bitAt (val 256 zs) j=0∨bitAt (val 256 zs) j=1):=hbb;have HRV:Hid (val 256 rs=restAt (val 256 zs) (j+1)):=hrv;obtain⟨g3,c3,rfl,hg3,hg3',A3⟩:=hown.at_;rw[hrl];clear hb hbb hc c0 hrv hown;generalize hbj:bitAt (val 256 zs) j=bj at *;have HBJ:Hid (bitAt (val 256 zs) j=bj):=hbj;clear hbj;obtain⟨w5,hw5⟩:∃ x,x=wr:=⟨_,rfl⟩
     subst hw5
     go_loopw [6,7,8] (fun c v i wq=>∃(k:Nat) (ts:List Int) (b:Int),k≤32∧i=.int .i64 k∧c=.int .i64 b∧(0≤b∧b≤1)∧ts.length=k∧Byte ts∧val 256 ts+b*256^k=2*val 256 (rs.take k)+bj∧Own wq w5.heap.size v ts∧Below w5.heap.size w5 wq) (fun _ _ i _=>32-(intOf i).toNat)
     case atStart=>exact⟨0,[],bj,Nat.zero_le _,rfl,rfl,by rcases HBB.out with h|h<;>omega,rfl,by simp[Byte],by simp[val],Own.empty _ _ (Nat.le_refl _),(Below.refl _ _).alloc (Nat.le_refl _) _⟩
     case round=>
      obtain⟨k,ts,b,hk,rfl,rfl,⟨hb0',hb1'⟩,htl,htb,hv,hot,hbt⟩:=hrel;by_cases hlt:k<32
      ·have hst:=hbt.size;have vr:=val_take 256 rs k (by omega);obtain⟨b3,o3,he3,hb3,hc3⟩:=A3.get (by omega);cases he3;have c1:wr.cell? ⟨g3,0+k,none⟩=some (.int .u8 (rs.getD k 0)):=by rw[hbt.cell (p:=⟨g3,0+k,none⟩) hb3];exact hc3 k (by omega)
       rw[Nat.zero_add] at c1;clear hc3;have hd:=hrb.get k;have hstep:=twice_step _ _ _ (rs.getD k 0) _ _ 0 hv;rw[←vr,show(256:Int)^k*256=256^(k+1) from(Int.pow_succ _ _).symm,←htl,←val_snoc,htl] at hstep;generalize rs.getD k 0=d at *;obtain⟨hd0,hd1⟩:=hd;have hq0:0≤(2*d+b)/256:=by omega
       have hq1:(2*d+b)/256≤1:=by omega
       have hr0:0≤(2*d+b)%256:=by omega
       have hr1:(2*d+b)%256<256:=by omega
       have HBy:Hid (Byte (ts++[(2*d+b)%256])):=Dig.snoc (B:=256) htb hr0 hr1;have HS:Hid (val 256 (ts++[(2*d+b)%256])+(2*d+b)/256*256^(k+1)=2*val 256 (rs.take (k+1))+bj):=hstep;have HTL:Hid (ts.length=k):=htl;clear hstep hv vr htb htl A3;have hcov:(2*d+b).tmod 256=(2*d+b)%256:=Int.tmod_eq_emod_of_nonneg (by omega);have hcod:(2*d+b).tdiv 256=(2*d+b)/256:=Int.tdiv_eq_ediv_of_nonneg (by omega);go_wp2_with (at_builtin;refine wpList_app _ rfl _ _ rfl w5.heap.size _ _ rfl (hot.alloc _) ⟨wr.heap.size,0,none⟩ 1 1 [(2*d+b)%256] rfl rfl ?d1 ?d2 ?d3 ?_);all_goals first|(intro j hj;obtain rfl:j=0:=by omega
                                                                                                                                                                                                                                                                                                                                                                                                                                                                                                                                                                                       simp[Addr.add];done)|skip
       case d2=>rw[HTL.out];omega
       case d3=>first|omega|(rw[World.size_alloc];omega)
       intro v' w3 hown' hbel' _;have HO:Hid (Own w3 w5.heap.size v' (ts++[(2*d+b)%256])):=hown';have HB:Hid (Below w5.heap.size w5 w3):=(hbt.alloc (by omega) _).trans hbel';clear hot hown' hbt hbel';go_wp2;go_roundw
       case rel=>exact⟨k+1,ts++[(2*d+b)%256],(2*d+b)/256,by omega,by go_num,rfl,⟨hq0,hq1⟩,by rw[List.length_append,HTL.out];rfl,HBy.out,HS.out,HO.out,HB.out⟩
       case measure=>simp[intOf];omega
      ·have hkn:k=32:=by omega
       subst hkn;rw[List.take_of_length_le (by omega),HRV.out] at hv;have t0:0≤val 256 ts:=val_nonneg (by decide) htb;have hb00:b=0:=by
        have:=HR.out;have:(0:Int)<256^32:=by decide
        rcases (show b=0∨b=1 by omega) with h|h
        ·exact h
        ·exfalso;subst h;omega
       subst hb00;have HV:Hid (val 256 ts=2*restAt (val 256 zs) (j+1)+bj):=by show val 256 ts=_;omega
       obtain⟨g4,c4,rfl,hg4,hg4',A4⟩:=hot.at_;rw[htl] at hot ⊢;have hst:=hbt.size;clear hv t0;go_wp2_with fail;refine(l4L_any _).mono ?_;rintro e w6 ⟨v6,rfl,O6,B6⟩;obtain⟨g6,c6,rfl,hg6,hg6',A6⟩:=O6.at_;have A46:=A4.below B6;have O46:Own w6 w5.heap.size (.slice (some ⟨g4,0,none⟩) 32 c4) ts:=hot.grow2r B6;have HO46:Hid (Own w6 w5.heap.size (.slice (some ⟨g4,0,none⟩) 32 c4) ts):=O46;clear O46 O6 hot A4;go_wp2_with fail;refine(less_any _ _ 32 _ _ ts lB _ htl rfl (by decide) A46 A6 htb lB_byte).mono ?_;rintro e w7 ⟨v7,ds,rfl,O7,hdb,hdl,hdv,B7⟩;rw[lB_val] at hdv ⊢;obtain⟨q1,q2⟩:=red_end (V:=val 256 zs) (j:=j) (show val 256 ts=_ by rw[HBJ.out];exact HV.out) hdv;have s6:=B6.size;have s7:=B7.size;have B57:Below w5.heap.size w5 w7:=hbt.trans ((B6.trans (B7.mono B6.size)).mono hst);have HB7:Hid (Below w.heap.size w w7):=hbel.trans (B57.mono hsz);have HOT:Hid (Own w7 w.heap.size (.slice (some ⟨g4,0,none⟩) 32 c4) ts):=(HO46.out.grow2r B7).lower2 hsz;have HOD:Hid (Own w7 w.heap.size v7 ds):=O7.lower2 (by omega);clear HO46 O7 B57 B6 B7 hbt hbel A46 A6;by_cases hL:bigL≤val 256 ts
       ·have hL':decide (bigL≤val 256 ts)=true:=by simpa using hL
        rw[hL'];have HQ:Hid (val 256 ds=restAt (val 256 zs) j):=q1 hL;have HDL:Hid (ds.length=32):=by rw[hdl];exact htl
        clear q1 q2 hdv hL' hL hdl;go_wp2;go_roundw
        case rel=>exact⟨j,ds,by omega,rfl,HDL.out,hdb,HQ.out,HOD.out,HB7.out⟩
        case measure=>first|(simp[intOf];done)|(simp[intOf];omega)
       ·have hL':decide (bigL≤val 256 ts)=false:=by simpa using hL
        rw[hL'];have HQ:Hid (val 256 ts=restAt (val 256 zs) j):=q2 hL;have HDL:Hid (ts.length=32):=htl;clear q1 q2 hdv hL' hL hdl htl;go_wp2;go_roundw
        case rel=>exact⟨j,ts,by omega,rfl,HDL.out,htb,HQ.out,HOT.out,HB7.out⟩
        case measure=>first|(simp[intOf];done)|(simp[intOf];omega)
    ·obtain rfl:j=0:=by omega
     have HV:Hid (val 256 rs=val 256 zs%bigL):=by rw[←restAt_zero];exact hrv
     have HO:Hid (Own wr w.heap.size u3 rs):=hown;have HL:Hid (rs.length=32):=hrl;clear hrv hown hrl;go_wp2
     go_ret
     exact⟨_,rs,rfl,HO.out,hrb,HL.out,HV.out,hbel⟩
set_option maxHeartbeats 400000 in
theorem sred_no (a:Option Addr) (n cap:Nat) (w:World) (hm:64<n) :
  Calls Tryz.prog 24 #[.slice a n cap] w fun e w'=>∃ v,e=.returned v∧Own w' w.heap.size v []∧Below w.heap.size w w':=by
 have hm':(64:Int)<(n:Int):=by omega
 go_enter Tryz.func24,Tryz.ntmps24
 go_wp2
 go_ret
 exact⟨_,rfl,Own.empty _ _ (Nat.le_refl _),(Below.refl _ _).alloc (Nat.le_refl _) _⟩
set_option maxHeartbeats 400000 in
theorem sok_any (a:Option Addr) (n cap:Nat) (zs:List Int) (w:World) (hn:zs.length=n) (ha:At .u8 w a zs) (hz:Byte zs) :
  Calls Tryz.prog 8 #[.slice a n cap] w fun e w'=>e=.returned (.bool (decide (n=32∧val 256 zs<bigL)))∧Below w.heap.size w w':=by
 by_cases h:n=32
 ·subst h;go_enter Tryz.func8,Tryz.ntmps8;go_wp2_with fail;refine(l4L_any _).mono ?_;rintro e w6 ⟨v6,rfl,O6,B6⟩;obtain⟨g6,c6,rfl,hg6,hg6',A6⟩:=O6.at_;have A1:=ha.below B6;clear O6;go_wp2_with fail;refine(less_any _ _ 32 _ _ zs lB _ hn rfl (by decide) A1 A6 hz lB_byte).mono ?_;rintro e w7 ⟨v7,ds,rfl,O7,hdb,hdl,hdv,B7⟩;rw[lB_val] at *;have B:Below w.heap.size w w7:=B6.trans (B7.mono B6.size);have HB:Hid (Below w.heap.size w w7):=B;have e:(!decide (bigL≤val 256 zs))=decide (32=32∧val 256 zs<bigL):=by
   by_cases h:bigL≤val 256 zs
   ·have:¬ val 256 zs<bigL:=by omega
    simp[h,this]
   ·have:val 256 zs<bigL:=by omega
    simp[h,this]
  generalize decide (bigL≤val 256 zs)=q at *;have HE:Hid ((!q)=decide (32=32∧val 256 zs<bigL)):=e;clear e;clear B O7 A1 A6 hdv B6 B7 ha;go_wp2
  go_ret
  refine⟨?_,HB.out⟩;show Ending.returned (.bool (!q))=_
  rw[HE.out]
 ·have e:decide (n=32∧val 256 zs<bigL)=false:=by simp[h]
  rw[e];have h':((n:Int) != 32)=true:=by simp;omega
  go_enter Tryz.func8,Tryz.ntmps8;go_wp2
  go_ret
  exact⟨rfl,Below.refl _ _⟩
end Go.Proofs.YtapejbpgdjbjjaaGreatDoor
