import Derived.Test.YthmeoilbmfdhfaaGreatMSwH
import Derived.Test.YthmeoilbmfdhfaaGreatMDevRd
import Derived.Test.YthmeoilbmfdhfaaGreatMSwB
import Derived.Test.YthmeoilbmfdhfaaGreatMSvEa
import Derived.Deep.Cut
import Derived.Test.YthmeoilbmfdhfaaGreatMReg
import Derived.Test.YthmeoilbmfdhfaaGreatMSvW
namespace Go.Proofs.YthmeoilbmfdhfaaGreat
open Go.ChangeShapes Go.WideShapes Go.ChangeAt Go.RowKit
set_option linter.unusedVariables false
set_option maxHeartbeats 1000000 in
theorem setNo_any (g o:Nat) (t:TypeId) (p:Nat) (v:Int) (zs:List Int) (w:World) (hr:Row w g t zs) (hl:o+64≤zs.length) (hp:p≤60) (hv:U32 v) :
  Calls Tryz.prog 146 #[.pointer (some ⟨g,o,none⟩),.int .i64 p,.int .u32 v] w fun e w'=>e=.returned (.tuple #[])∧Row w' g t (putK zs (o+p) v 4)∧Wr g w w':=by
 obtain⟨hv0,hv1⟩:=hv
 go_enter Tryz.func146,Tryz.ntmps146
 go_wp2
 go_loopw [7] (fun i wr=>∃ k:Nat,k≤4∧i=.int .i64 k∧Row wr g t (putK zs (o+p) v k)∧Wr g w wr) (fun i _=>4-(intOf i).toNat)
 case atStart=>exact⟨0,by omega,rfl,hr,Wr.refl _ _⟩
 case round=>
  obtain⟨k,hk,rfl,hrow,hwr⟩:=hrel;by_cases hlt:k<4
  ·have hlen:=putK_len zs (o+p) v k;have hc:=hrow.cell (o+p+k) (by omega);have hf:=hrow.frozen (o+p+k);have hc':wr.cell? ⟨g,o+(p+k),none⟩=some (.int .u8 ((putK zs (o+p) v k).getD (o+p+k) 0)):=by rw[←Nat.add_assoc];exact hc
   have hf':wr.frozen? ⟨g,o+(p+k),none⟩=false:=by rw[←Nat.add_assoc];exact hf
   have HN:Hid (∀ x,Row (wr.setCell ⟨g,o+(p+k),none⟩ (.int .u8 x)) g t ((putK zs (o+p) v k).set (o+p+k) x)∧Wr g w (wr.setCell ⟨g,o+(p+k),none⟩ (.int .u8 x))):=fun x=>by rw[←Nat.add_assoc];exact⟨hrow.set _ _,hwr.setCell _ _⟩
   clear hc hf;go_wp2
   go_region
   go_wp2;go_roundw
   case rel=>exact⟨k+1,by omega,by go_num,(HN.out _).1.drew,(HN.out _).2.drew⟩
   case measure=>simp[intOf];omega
  ·have hk4:k=4:=by omega
   subst hk4;go_wp2
   go_end0
   exact⟨rfl,hrow,hwr⟩
set_option maxRecDepth 100000 in
set_option maxHeartbeats 2000000 in
theorem snst_any (h:Nat) (aD aU:Option Addr) (nD cD nU cU:Nat) (w:World) (hh:h<w.heap.size) (c2:w.cell? ⟨h,2,none⟩=some (.slice aD nD cD)) (c3:w.cell? ⟨h,3,none⟩=some (.slice aU nU cU)) :
  Calls Tryz.prog 38 #[.pointer (some ⟨h,0,none⟩)] w fun e w'=>e=.returned (.agg #[.slice aD nD cD,.slice aU nU cU,.int .i64 nU,.slice none 0 0])∧Below w.heap.size w w':=by
 have HH:Hid (h<w.heap.size∧w.cell? ⟨h,2,none⟩=some (.slice aD nD cD)∧w.cell? ⟨h,3,none⟩=some (.slice aU nU cU)):=⟨hh,c2,c3⟩
 have HSZ:Hid ((Tryz.prog.info? 34).map (·.size)=some 4):=by show _=_;kernel_rfl
 have HW0:Hid (Below w.heap.size w (w.alloc (.cells #[.slice none 0 0,.slice none 0 0,.int .i64 0,.slice none 0 0] 34)).drew):=by
  have h1:Below w.heap.size w (w.alloc (.cells #[.slice none 0 0,.slice none 0 0,.int .i64 0,.slice none 0 0] 34)):=(Below.refl _ _).alloc (Nat.le_refl _) _;exact⟨h1.os,h1.tape,h1.output,h1.size,h1.block⟩
 have HR0:Hid ((w.alloc (.cells #[.slice none 0 0,.slice none 0 0,.int .i64 0,.slice none 0 0] 34)).drew.heap[w.heap.size]?=some (.cells #[.slice none 0 0,.slice none 0 0,.int .i64 0,.slice none 0 0] 34 (0,0))):=heap_alloc_new w _
 clear hh c2 c3
 go_enter Tryz.func38,Tryz.ntmps38
 go_wp2_with fail
 refine wp_region_any (by kernel_rfl) ?_
 refine wpAny_slotsU (fun i a b=>if i=14 then Wr (w.heap.size) a b else Below a.heap.size a b) (frame:=(fun (a b c:Value)=>fun (t:Nat→Value)=>({ tmps:=List.toArray [a,b,c,t 0,t 1,t 2,t 3,t 4,t 5,t 6,t 7,t 8,t 9,t 10,t 11,t 12,t 13],defers:=[] }:Act)) _ _ _)
  (Ext:=fun L u w'=>ApS w (w.heap.size) 14 34 #[.slice none 0 0,.slice none 0 0,.int .i64 0,.slice none 0 0] (fun _ cs=>cs=#[.slice aD nD cD,.slice aU nU cU,.int .i64 nU,.slice none 0 0]) [] L u w') (Good:=fun i L w' v=>if i=0 then v=.pointer (some ⟨h,0,none⟩) else if i=1 then v=.pointer (some ⟨h,0,none⟩) else if i=2 then v=.pointer (some ⟨h,2,none⟩) else if i=3 then v=.slice aD nD cD else if i=4 then v=.pointer (some ⟨h,0,none⟩) else if i=5 then v=.pointer (some ⟨h,0,none⟩) else if i=6 then v=.pointer (some ⟨h,3,none⟩) else if i=7 then v=.slice aU nU cU else if i=8 then v=.pointer (some ⟨h,0,none⟩) else if i=9 then v=.pointer (some ⟨h,0,none⟩) else if i=10 then v=.pointer (some ⟨h,3,none⟩) else if i=11 then v=.slice aU nU cU else if i=12 then v=.int .i64 nU else if i=13 then v=.agg #[.slice aD nD cD,.slice aU nU cU,.int .i64 nU,.slice none 0 0] else if i=14 then L 14=true else True) ?hstab (by kernel_rfl) ?hop ?hdone _ _ ((fun (x0 x1 x2 x3 x4 x5 x6 x7 x8 x9 x10 x11 x12 x13:Value)=>fun (i:Nat)=>if i=0 then x0 else if i=1 then x1 else if i=2 then x2 else if i=3 then x3 else if i=4 then x4 else if i=5 then x5 else if i=6 then x6 else if i=7 then x7 else if i=8 then x8 else if i=9 then x9 else if i=10 then x10 else if i=11 then x11 else if i=12 then x12 else if i=13 then x13 else undef) _ _ _ _ _ _ _ _ _ _ _ _ _ _) _ (by simp) ?ext ?start (by simp)
 case start=>intro i hi h;exact absurd h (by rw[Array.getD_eq_getD_getElem?,Array.getElem?_replicate];split<;>simp)
 case ext=>exact ApS.start ⟨HW0.out,fun p _ hp=>absurd hp (by rw[Array.getD_eq_getD_getElem?,Array.getElem?_replicate];split<;>simp),fun p _ q _ _ hp=>absurd hp (by rw[Array.getD_eq_getD_getElem?,Array.getElem?_replicate];split<;>simp)⟩ (fun i=>by rw[Array.getD_eq_getD_getElem?,Array.getElem?_replicate];split<;>rfl) HR0.out
 case hstab=>
  intro j L w9 w' i v hM hij hLi h;by_cases hl:j=14
  ·subst hl;simp at h ⊢;unfold updK;simp[h]
  simp only[if_neg hl] at h ⊢;exact h
 case hop=>
  intro i o L t w' ho hLi hx hdep K hK;have hi:i<15:=(Array.getElem?_eq_some_iff.1 ho).1;obtain rfl|rfl|rfl|rfl|rfl|rfl|rfl|rfl|rfl|rfl|rfl|rfl|rfl|rfl|rfl:i=0∨i=1∨i=2∨i=3∨i=4∨i=5∨i=6∨i=7∨i=8∨i=9∨i=10∨i=11∨i=12∨i=13∨i=14:=by omega
  all_goals(simp at ho;subst ho)
  ·clear hdep;have hK':=hK w' (.pointer (some ⟨h,0,none⟩)) (by simp) (hx.step (fun _ _ _ _ h=>h) 0 (by decide) _ (Below.refl _ _) (fun h=>absurd h (by decide))) (by rw[if_neg (by decide)];exact(Below.refl _ _));clear hK;rw[if_pos (by rfl)];go_simp;simpa[upd] using hK'
  ·have d0:t 0=.pointer (some ⟨h,0,none⟩):=by simpa using(hdep ⟨0,.data⟩ (by simp) rfl).2
   clear hdep;have hK':=hK w' (.pointer (some ⟨h,0,none⟩)) (by simp) (hx.step (fun _ _ _ _ h=>h) 1 (by decide) _ (Below.refl _ _) (fun h=>absurd h (by decide))) (by rw[if_neg (by decide)];exact(Below.refl _ _));clear hK;rw[if_pos (by rfl)];go_simp;simpa[upd,d0] using hK'
  ·have d1:t 1=.pointer (some ⟨h,0,none⟩):=by simpa using(hdep ⟨1,.data⟩ (by simp) rfl).2
   clear hdep;have hK':=hK w' (.pointer (some ⟨h,2,none⟩)) (by simp) (hx.step (fun _ _ _ _ h=>h) 2 (by decide) _ (Below.refl _ _) (fun h=>absurd h (by decide))) (by rw[if_neg (by decide)];exact(Below.refl _ _));clear hK;rw[if_pos (by rfl)];go_simp;simpa[upd,d1] using hK'
  ·have d2:t 2=.pointer (some ⟨h,2,none⟩):=by simpa using(hdep ⟨2,.data⟩ (by simp) rfl).2
   clear hdep;have cc:w'.cell? ⟨h,2,none⟩=some (.slice aD nD cD):=by rw[World.cell?_of_block (a:=⟨h,2,none⟩) (w:=w) (hx.ax.below.block _ HH.out.1)];exact HH.out.2.1
   have hK':=hK w' (.slice aD nD cD) (by simp) (hx.step (fun _ _ _ _ h=>h) 3 (by decide) _ (Below.refl _ _) (fun h=>absurd h (by decide))) (by rw[if_neg (by decide)];exact(Below.refl _ _));clear hK;rw[if_pos (by rfl)];go_simp;simpa[upd,d2] using hK'
  ·clear hdep;have hK':=hK w' (.pointer (some ⟨h,0,none⟩)) (by simp) (hx.step (fun _ _ _ _ h=>h) 4 (by decide) _ (Below.refl _ _) (fun h=>absurd h (by decide))) (by rw[if_neg (by decide)];exact(Below.refl _ _));clear hK;rw[if_pos (by rfl)];go_simp;simpa[upd] using hK'
  ·have d4:t 4=.pointer (some ⟨h,0,none⟩):=by simpa using(hdep ⟨4,.data⟩ (by simp) rfl).2
   clear hdep;have hK':=hK w' (.pointer (some ⟨h,0,none⟩)) (by simp) (hx.step (fun _ _ _ _ h=>h) 5 (by decide) _ (Below.refl _ _) (fun h=>absurd h (by decide))) (by rw[if_neg (by decide)];exact(Below.refl _ _));clear hK;rw[if_pos (by rfl)];go_simp;simpa[upd,d4] using hK'
  ·have d5:t 5=.pointer (some ⟨h,0,none⟩):=by simpa using(hdep ⟨5,.data⟩ (by simp) rfl).2
   clear hdep;have hK':=hK w' (.pointer (some ⟨h,3,none⟩)) (by simp) (hx.step (fun _ _ _ _ h=>h) 6 (by decide) _ (Below.refl _ _) (fun h=>absurd h (by decide))) (by rw[if_neg (by decide)];exact(Below.refl _ _));clear hK;rw[if_pos (by rfl)];go_simp;simpa[upd,d5] using hK'
  ·have d6:t 6=.pointer (some ⟨h,3,none⟩):=by simpa using(hdep ⟨6,.data⟩ (by simp) rfl).2
   clear hdep;have cc:w'.cell? ⟨h,3,none⟩=some (.slice aU nU cU):=by rw[World.cell?_of_block (a:=⟨h,3,none⟩) (w:=w) (hx.ax.below.block _ HH.out.1)];exact HH.out.2.2
   have hK':=hK w' (.slice aU nU cU) (by simp) (hx.step (fun _ _ _ _ h=>h) 7 (by decide) _ (Below.refl _ _) (fun h=>absurd h (by decide))) (by rw[if_neg (by decide)];exact(Below.refl _ _));clear hK;rw[if_pos (by rfl)];go_simp;simpa[upd,d6] using hK'
  ·clear hdep;have hK':=hK w' (.pointer (some ⟨h,0,none⟩)) (by simp) (hx.step (fun _ _ _ _ h=>h) 8 (by decide) _ (Below.refl _ _) (fun h=>absurd h (by decide))) (by rw[if_neg (by decide)];exact(Below.refl _ _));clear hK;rw[if_pos (by rfl)];go_simp;simpa[upd] using hK'
  ·have d8:t 8=.pointer (some ⟨h,0,none⟩):=by simpa using(hdep ⟨8,.data⟩ (by simp) rfl).2
   clear hdep;have hK':=hK w' (.pointer (some ⟨h,0,none⟩)) (by simp) (hx.step (fun _ _ _ _ h=>h) 9 (by decide) _ (Below.refl _ _) (fun h=>absurd h (by decide))) (by rw[if_neg (by decide)];exact(Below.refl _ _));clear hK;rw[if_pos (by rfl)];go_simp;simpa[upd,d8] using hK'
  ·have d9:t 9=.pointer (some ⟨h,0,none⟩):=by simpa using(hdep ⟨9,.data⟩ (by simp) rfl).2
   clear hdep;have hK':=hK w' (.pointer (some ⟨h,3,none⟩)) (by simp) (hx.step (fun _ _ _ _ h=>h) 10 (by decide) _ (Below.refl _ _) (fun h=>absurd h (by decide))) (by rw[if_neg (by decide)];exact(Below.refl _ _));clear hK;rw[if_pos (by rfl)];go_simp;simpa[upd,d9] using hK'
  ·have d10:t 10=.pointer (some ⟨h,3,none⟩):=by simpa using(hdep ⟨10,.data⟩ (by simp) rfl).2
   clear hdep;have cc:w'.cell? ⟨h,3,none⟩=some (.slice aU nU cU):=by rw[World.cell?_of_block (a:=⟨h,3,none⟩) (w:=w) (hx.ax.below.block _ HH.out.1)];exact HH.out.2.2
   have hK':=hK w' (.slice aU nU cU) (by simp) (hx.step (fun _ _ _ _ h=>h) 11 (by decide) _ (Below.refl _ _) (fun h=>absurd h (by decide))) (by rw[if_neg (by decide)];exact(Below.refl _ _));clear hK;rw[if_pos (by rfl)];go_simp;simpa[upd,d10] using hK'
  ·have d11:t 11=.slice aU nU cU:=by simpa using(hdep ⟨11,.data⟩ (by simp) rfl).2
   clear hdep;have hK':=hK w' (.int .i64 nU) (by simp) (hx.step (fun _ _ _ _ h=>h) 12 (by decide) _ (Below.refl _ _) (fun h=>absurd h (by decide))) (by rw[if_neg (by decide)];exact(Below.refl _ _));clear hK;rw[if_pos (by rfl)];go_simp;simpa[upd,d11] using hK'
  ·have d3:t 3=.slice aD nD cD:=by simpa using(hdep ⟨3,.data⟩ (by simp) rfl).2
   have d7:t 7=.slice aU nU cU:=by simpa using(hdep ⟨7,.data⟩ (by simp) rfl).2
   have d12:t 12=.int .i64 nU:=by simpa using(hdep ⟨12,.data⟩ (by simp) rfl).2
   clear hdep;have hK':=hK w' (.agg #[.slice aD nD cD,.slice aU nU cU,.int .i64 nU,.slice none 0 0]) (by simp) (hx.step (fun _ _ _ _ h=>h) 13 (by decide) _ (Below.refl _ _) (fun h=>absurd h (by decide))) (by rw[if_neg (by decide)];exact(Below.refl _ _));clear hK;rw[if_pos (by rfl)];go_simp;simpa[upd,d3,d7,d12] using hK'
  ·have d13:t 13=.agg #[.slice aD nD cD,.slice aU nU cU,.int .i64 nU,.slice none 0 0]:=by simpa using(hdep ⟨13,.data⟩ (by simp) rfl).2
   clear hdep;have hrs:=hx.pre hLi;have hK':∀ ww,Wr w.heap.size w' ww→ww.heap[w.heap.size]?=some (.cells #[.slice aD nD cD,.slice aU nU cU,.int .i64 nU,.slice none 0 0] 34 (0,0))→K _ ww:=fun ww hw hr=>hK ww undef (by simp[updK]) (hx.put (Nat.le_refl _) (by decide) _ hw hr rfl) (by rw[if_pos rfl];exact hw)
   clear hK;rw[if_pos (by rfl)];refine wp_store_row 34 (.tmp 2) (.tmp 16) rfl w.heap.size _ rfl d13 34 _ hrs HSZ.out rfl (by simp[Value.oneCell']) ?_;have hK2:=hK' _ (Wr.setRow _ _ _) (setRow_heap _ _ _ _ _ _ hrs);clear hK';simpa[upd,Act.put] using hK2
 case hdone=>
  intro L t w' hx hg;have l14:L 14=true:=by simpa using hg 14 (by decide)
  clear hg;obtain⟨cs,hr,rfl⟩:=hx.fin l14;have HR9:Hid (w'.heap[w.heap.size]?=some (.cells #[.slice aD nD cD,.slice aU nU cU,.int .i64 nU,.slice none 0 0] 34 (0,0))):=hr;have HF:Hid (Below w.heap.size w w'):=hx.ax.below;clear hx hr;go_wp2_with fail;exact bodyPost_ret (v:=.agg #[.slice aD nD cD,.slice aU nU cU,.int .i64 nU,.slice none 0 0]) (results_cell_row rfl _ _ w.heap.size 34 _ (0,0) _ rfl HR9.out Tryz.underlying34 rfl HSZ.out) rfl ⟨rfl,HF.out⟩
def SnP (gn tl:Int) (D U:List Int):Prop:=gn≤4000000000∧1≤tl∧tl≤4000000000∧SerP D∧D.length≤16∧SerP U
open Classical in
noncomputable def snB (gn tl:Int) (D U:List Int):Bool:=decide (SnP gn tl D U)
theorem snB_no {gn tl:Int} {D U:List Int} (h:¬ SnP gn tl D U):snB gn tl D U=false:=by unfold snB;simp[h]
theorem snB_yes {gn tl:Int} {D U:List Int} (h:SnP gn tl D U):snB gn tl D U=true:=by unfold snB;simp[h]
theorem stB_sn {gn tl:Int} {D U:List Int} {nU:Nat} (hU:U.length=nU) (h1:gn≤4000000000) (h2:1≤tl) (h3:tl≤4000000000):stB D U nU [] 0=snB gn tl D U:=by
 by_cases h:StP D U nU [] 0
 ·rw[stB_yes h,snB_yes ⟨h1,h2,h3,h.1,h.2.1,h.2.2.1⟩]
 ·rw[stB_no h,snB_no (fun q=>h ⟨q.2.2.2.1,q.2.2.2.2.1,q.2.2.2.2.2,by omega,by rw[hU];omega,fun i hi=>by omega⟩)]
set_option maxRecDepth 100000 in
set_option maxHeartbeats 2000000 in
theorem snv_any (h:Nat) (gn tl:Int) (aD aU:Option Addr) (nD cD nU cU:Nat) (D U:List Int) (w:World) (hh:h<w.heap.size) (c0:w.cell? ⟨h,0,none⟩=some (.int .u32 gn)) (c1:w.cell? ⟨h,1,none⟩=some (.int .u32 tl)) (c2:w.cell? ⟨h,2,none⟩=some (.slice aD nD cD)) (c3:w.cell? ⟨h,3,none⟩=some (.slice aU nU cU))
  (hD:D.length=nD) (hU:U.length=nU) (mD:nD≤1048576) (mU:nU≤1048576) (haD:At .i64 w aD D) (haU:At .i64 w aU U) :
  Calls Tryz.prog 130 #[.pointer (some ⟨h,0,none⟩)] w fun e w'=>e=.returned (.bool (snB gn tl D U))∧Below w.heap.size w w':=by
 by_cases h1:gn≤4000000000
 ·by_cases h2:1≤tl
  ·by_cases h3:tl≤4000000000
   ·have HE:Hid (stB D U nU [] 0=snB gn tl D U):=stB_sn hU h1 h2 h3;have HC1:=snst_any h aD aU nD cD nU cU w hh c2 c3;have HC2:Hid (∀ w',Below w.heap.size w w'→Calls Tryz.prog 156 #[.agg #[.slice aD nD cD,.slice aU nU cU,.int .i64 nU,.slice none 0 0]] w' fun e w''=>e=.returned (.bool (stB D U nU [] 0))∧Below w'.heap.size w' w''):=fun w' b=>ivs_any aD aU none nD cD nU cU 0 0 D U nU [] w' hD hU rfl mD mU (by omega) (haD.below b) (haU.below b) (.inl rfl) (fun _=>⟨rfl,rfl⟩) (by omega) (by omega)
    have h2':tl≥1:=h2;clear haD haU hD hU;go_enter Tryz.func130,Tryz.ntmps130;go_wp2_with fail;refine HC1.mono ?_;rintro e w1 ⟨rfl,hb1⟩;have HC:=HC2.out w1 hb1;have HB1:Hid (Below w.heap.size w w1):=hb1;clear HC1 HC2 hb1;go_wp2_with fail;refine HC.mono ?_;rintro e w2 ⟨rfl,hb2⟩;have HF:Hid (Below w.heap.size w w2):=HB1.out.trans (hb2.mono HB1.out.size);rw[HE.out];clear HC HB1 hb2;generalize hq:snB gn tl D U=q at *;have HQ:Hid (snB gn tl D U=q):=hq;clear hq;go_wp2
    go_ret
    exact⟨by rw[HQ.out];rfl,HF.out⟩
   ·have HE:Hid (snB gn tl D U=false):=snB_no (fun q=>h3 q.2.2.1);have h2':tl≥1:=h2;clear haD haU hD hU;go_enter Tryz.func130,Tryz.ntmps130;go_wp2
    go_ret
    exact⟨by rw[HE.out];rfl,Below.refl _ _⟩
  ·have HE:Hid (snB gn tl D U=false):=snB_no (fun q=>h2 q.2.1);have h2':¬ (tl≥1):=h2;clear haD haU hD hU;go_enter Tryz.func130,Tryz.ntmps130;go_wp2
   go_ret
   exact⟨by rw[HE.out];rfl,Below.refl _ _⟩
 ·have HE:Hid (snB gn tl D U=false):=snB_no (fun q=>h1 q.1);clear haD haU hD hU;go_enter Tryz.func130,Tryz.ntmps130;go_wp2
  go_ret
  exact⟨by rw[HE.out];rfl,Below.refl _ _⟩
theorem hid_ofV {p:Prop} (h:p):Hid p:=h
theorem belD {B:Nat} {a w:World} (h:Below B a w) (n:Nat):Below B a (w.drewN n):=h.trans ⟨rfl,rfl,rfl,Nat.le_refl _,fun _ _=>rfl⟩
structure BE (w:World) (t:TypeId) (sa sb:Array Value) (wr:World):Prop where
 below:Below w.heap.size w wr
 b0:wr.heap[w.heap.size]?=some (.cells sa t (0,0))
 b1:wr.heap[w.heap.size+1]?=some (.cells sb t (0,0))
theorem BE.start (w:World) (t:TypeId) (sa sb:Array Value):BE w t sa sb ((w.alloc (.cells sa t)).alloc (.cells sb t)):=by
 refine⟨((Below.refl _ _).alloc (Nat.le_refl _) _).alloc (by simp) _,?_,?_⟩
 ·rw[Below.heap_alloc _ _ w.heap.size (by simp)];exact heap_alloc_new w _
 ·have:=heap_alloc_new (w.alloc (.cells sa t)) (.cells sb t)
  rwa [show(w.alloc (.cells sa t)).heap.size=w.heap.size+1 by simp] at this
theorem BE.call {w wr w':World} {t:TypeId} {sa sb:Array Value} (h:BE w t sa sb wr) (b:Below wr.heap.size wr w'):BE w t sa sb w':=by
 have:=(Array.getElem?_eq_some_iff.1 h.b1).1
 exact⟨h.below.trans (b.mono h.below.size),by rw[b.block _ (by omega)];exact h.b0,by rw[b.block _ (by omega)];exact h.b1⟩
structure OE (w:World) (t:TypeId) (sa:Array Value) (wr:World):Prop where
 below:Below w.heap.size w wr
 b0:wr.heap[w.heap.size]?=some (.cells sa t (0,0))
theorem OE.start (w:World) (t:TypeId) (sa:Array Value):OE w t sa (w.alloc (.cells sa t)):=⟨(Below.refl _ _).alloc (Nat.le_refl _) _,heap_alloc_new w _⟩
theorem OE.lt {w wr:World} {t:TypeId} {sa:Array Value} (h:OE w t sa wr):w.heap.size<wr.heap.size:=(Array.getElem?_eq_some_iff.1 h.b0).1
theorem OE.call {w wr w':World} {t:TypeId} {sa:Array Value} (h:OE w t sa wr) (b:Below wr.heap.size wr w'):OE w t sa w':=by
 have:=(Array.getElem?_eq_some_iff.1 h.b0).1
 exact⟨h.below.trans (b.mono h.below.size),by rw[b.block _ (by omega)];exact h.b0⟩
theorem flat_snoc (zss:List (List Int)) (k:Nat) (h:k<zss.length):(zss.take (k+1)).flatten=(zss.take k).flatten++zss.getD k []:=by
 rw[List.take_succ_eq_append_getElem h,List.flatten_append]
 simp[h]
theorem flat_le (zss:List (List Int)) (k:Nat):(zss.take k).flatten.length≤zss.flatten.length:=by
 conv=>rhs;rw[←List.take_append_drop k zss]
 rw[List.flatten_append,List.length_append];omega
set_option maxHeartbeats 400000 in
theorem cat_any (p m cap:Nat) (vs:List Value) (zss:List (List Int)) (w:World) (hm:zss.length=m) (hp:p<w.heap.size) (hc:∀ i,i<m→w.cell? ⟨p,i,none⟩=some (vs.getD i undef))
  (hz:∀ i,i<m→Part w (vs.getD i undef) (zss.getD i [])) (ht:zss.flatten.length≤2097152) (hm':m≤1048576) :
  Calls Tryz.prog 70 #[.slice (some ⟨p,0,none⟩) m cap] w fun e w'=>∃ v,e=.returned v∧Own w' w.heap.size v zss.flatten∧Below w.heap.size w w':=by
 go_enter Tryz.func70,Tryz.ntmps70
 go_wp2
 go_loopw [3,4] (fun v i wr=>∃ k:Nat,k≤m∧i=.int .i64 k∧Own wr w.heap.size v (zss.take k).flatten∧Below w.heap.size w wr) (fun _ i _=>m-(intOf i).toNat)
 case atStart=>exact⟨0,Nat.zero_le _,rfl,Own.empty _ _ (Nat.le_refl _),(Below.refl _ _).alloc (Nat.le_refl _) _⟩
 case round=>
  obtain⟨k,hk,rfl,hown,hbel⟩:=hrel;by_cases hlt:k<m
  ·have hsz:=hbel.size;obtain⟨b,o,c,hv,hb,hcell⟩:=hz k hlt;have hck:wr.cell? ⟨p,k,none⟩=some (.slice (some ⟨b,o,none⟩) (zss.getD k []).length c):=by rw[hbel.cell (p:=⟨p,k,none⟩) hp,hc k hlt,hv]
   have hnews:∀ j,j<(zss.getD k []).length→wr.cell? ((⟨b,o,none⟩:Addr).add j)=some (.int .u8 ((zss.getD k []).getD j 0)):=by
    intro j hj;rw[Addr.add_lit,hbel.cell (p:=⟨b,o+j,none⟩) hb];exact hcell j hj
   have hfl:=flat_snoc zss k (by omega);have hle:=flat_le zss (k+1);have hle2:(zss.take k).flatten.length+(zss.getD k []).length≤2097152:=by rw[hfl,List.length_append] at hle;omega
   have HF:Hid _:=hfl;clear hfl hle hv hcell hc hz;generalize zss.getD k []=z at *;generalize (zss.take k).flatten=y at *;generalize hzl:z.length=zl at *;have HL:Hid _:=hzl;clear hzl;have HN:Hid _:=hnews;clear hnews;go_wp2_with (at_builtin;refine wpList_app _ rfl _ _ rfl w.heap.size _ _ rfl hown ⟨b,o,none⟩ _ _ z rfl HL.out HN.out ?c2 ?c3 ?_)
   case c2=>omega
   case c3=>omega
   intro v' w1 hown' hbel' _;have HO:Hid (Own w1 w.heap.size v' (zss.take (k+1)).flatten):=by rw[HF.out];exact hown'
   have HB:Hid (Below w.heap.size w w1):=hbel.trans hbel';clear hown hown' hbel hbel';go_wp2;go_roundw
   case rel=>exact⟨k+1,by omega,by go_num,HO.out,HB.out⟩
   case measure=>simp[intOf];omega
  ·have hkn:zss.take k=zss:=List.take_of_length_le (by omega);rw[hkn] at hown;have HO:Hid _:=hown;clear hown hkn;go_wp2
   go_ret
   exact⟨_,rfl,HO.out,hbel⟩
def four (x:Int):List Int:=[x%256,x/256%256,x/65536%256,x/16777216]
set_option maxHeartbeats 400000 in
theorem four_any (x:Int) (w:World) (hx:U32 x) :
  Calls Tryz.prog 97 #[.int .u32 x] w fun e w'=>e=.returned (.slice (some ⟨w.heap.size,0,none⟩) 4 4)∧
   w'=w.alloc (.cells #[.int .u8 (x%256),.int .u8 (x/256%256),.int .u8 (x/65536%256),.int .u8 (x/16777216)] 5):=by
 obtain⟨h0,h1⟩:=hx
 go_enter Tryz.func97,Tryz.ntmps97
 go_wp2
 go_ret
 exact⟨rfl,rfl⟩
set_option maxRecDepth 100000 in
set_option maxHeartbeats 2000000 in
theorem gsn_any (gn tl:Int) (aD aU:Option Addr) (nD cD nU cU:Nat) (D U:List Int) (w:World) (hD:D.length=nD) (hU:U.length=nU) (mD:nD≤1048576) (mU:nU≤1048576) (haD:At .i64 w aD D) (haU:At .i64 w aU U) :
  Calls Tryz.prog 96 #[.agg #[.int .u32 gn,.int .u32 tl,.slice aD nD cD,.slice aU nU cU]] w fun e w'=>e=.returned (.bool (snB gn tl D U))∧Below w.heap.size w w':=by
 have b0:Below w.heap.size w (w.alloc (.cells #[.int .u32 gn,.int .u32 tl,.slice aD nD cD,.slice aU nU cU] 30)):=(Below.refl _ _).alloc (Nat.le_refl _) _
 have HB:Hid (∀ q,Below w.heap.size w ((w.alloc (.cells #[.int .u32 gn,.int .u32 tl,.slice aD nD cD,.slice aU nU cU] 30)).drewN q)):=fun q=>below_dq b0 q
 have HB0:Hid (Below w.heap.size w (w.alloc (.cells #[.int .u32 gn,.int .u32 tl,.slice aD nD cD,.slice aU nU cU] 30))):=b0
 have HA:Hid (∀ wz,Below w.heap.size w wz→At .i64 wz aD D∧At .i64 wz aU U):=fun wz b=>⟨haD.below b,haU.below b⟩
 have HL:Hid (D.length=nD∧U.length=nU):=⟨hD,hU⟩
 clear haD haU hD hU b0
 by_cases h1:gn≤4000000000
 ·by_cases h2:1≤tl
  ·have h2':tl≥1:=h2;by_cases h3:tl≤4000000000
   ·by_cases h4:SerP D
    ·have HS1:Hid (serB D=true):=serB_yes h4;by_cases h5:nD≤16
     ·have h5':(nD:Int)≤16:=by omega
      have HE:Hid (snB gn tl D U=serB U):=by
       show _=_
       by_cases h6:SerP U
       ·rw[serB_yes h6,snB_yes ⟨h1,h2,h3,h4,by rw[HL.out.1];exact h5,h6⟩]
       ·rw[serB_no h6,snB_no (fun q=>h6 q.2.2.2.2.2)]
      clear h4;go_enter Tryz.func96,Tryz.ntmps96;go_wp2_with fail;refine(serials_any _ _ _ D _ HL.out.1 mD (HA.out _ HB0.out).1).mono ?_;rintro e w1 ⟨rfl,q1,rfl⟩;rw[HS1.out];go_wp2_with fail;refine(serials_any _ _ _ U _ HL.out.2 mU (HA.out _ (HB.out q1)).2).mono ?_;rintro e w2 ⟨rfl,q2,rfl⟩;rw[dN];have HF:=HB.out (q1+q2);have HFF:Hid _:=HF;clear HF HB HB0 HA;generalize hq:serB U=q at *;have HQ:Hid (serB U=q):=hq;clear hq;go_wp2
      go_ret
      exact⟨by rw[HE.out];rfl,HFF.out⟩
     ·have h5':¬ ((nD:Int)≤16):=by omega
      have HE:Hid (snB gn tl D U=false):=snB_no (fun q=>h5 (by rw[←HL.out.1];exact q.2.2.2.2.1));clear h4;go_enter Tryz.func96,Tryz.ntmps96;go_wp2_with fail;refine(serials_any _ _ _ D _ HL.out.1 mD (HA.out _ HB0.out).1).mono ?_;rintro e w1 ⟨rfl,q1,rfl⟩;rw[HS1.out];have HFF:=HB.out q1;have HF:Hid _:=HFF;clear HFF HB HB0 HA;go_wp2
      go_ret
      exact⟨by rw[HE.out];rfl,HF.out⟩
    ·have HS1:Hid (serB D=false):=serB_no h4;have HE:Hid (snB gn tl D U=false):=snB_no (fun q=>h4 q.2.2.2.1);clear h4;go_enter Tryz.func96,Tryz.ntmps96;go_wp2_with fail;refine(serials_any _ _ _ D _ HL.out.1 mD (HA.out _ HB0.out).1).mono ?_;rintro e w1 ⟨rfl,q1,rfl⟩;rw[HS1.out];have HFF:=HB.out q1;have HF:Hid _:=HFF;clear HFF HB HB0 HA;go_wp2
     go_ret
     exact⟨by rw[HE.out];rfl,HF.out⟩
   ·have HE:Hid (snB gn tl D U=false):=snB_no (fun q=>h3 q.2.2.1);clear HB HA;go_enter Tryz.func96,Tryz.ntmps96;go_wp2
    go_ret
    exact⟨by rw[HE.out];rfl,HB0.out⟩
  ·have HE:Hid (snB gn tl D U=false):=snB_no (fun q=>h2 q.2.1);have h2':¬ (tl≥1):=h2;clear HB HA;go_enter Tryz.func96,Tryz.ntmps96;go_wp2
   go_ret
   exact⟨by rw[HE.out];rfl,HB0.out⟩
 ·have HE:Hid (snB gn tl D U=false):=snB_no (fun q=>h1 q.1);clear HB HA;go_enter Tryz.func96,Tryz.ntmps96;go_wp2
  go_ret
  exact⟨by rw[HE.out];rfl,HB0.out⟩
set_option maxHeartbeats 400000 in
theorem two_any (x:Int) (w:World) (h0:0≤x) (h1:x<256) :
  Calls Tryz.prog 145 #[.int .i64 x] w fun e w'=>e=.returned (.slice (some ⟨w.heap.size,0,none⟩) 2 2)∧w'=w.alloc (.cells #[.int .u8 x,.int .u8 0] 5):=by
 have e1:x.tmod 256=x:=by rw[Int.tmod_eq_emod_of_nonneg h0];exact Int.emod_eq_of_lt h0 h1
 have e2:x.tdiv 256=0:=by rw[Int.tdiv_eq_ediv_of_nonneg h0];exact Int.ediv_eq_zero_of_lt h0 h1
 have e3:x%256=x:=Int.emod_eq_of_lt h0 h1
 have e4:x/256=0:=Int.ediv_eq_zero_of_lt h0 h1
 go_enter Tryz.func145,Tryz.ntmps145
 go_wp2
 go_ret
 exact⟨rfl,rfl⟩
def den2 (xs:List Int) (i:Nat):List Int:=if i<xs.length then [xs.getD i 0,0] else [0,0]
def denL (xs:List Int) (f k:Nat):List Int:=((List.range k).map (fun j=>den2 xs (f+j))).flatten
theorem denL_succ (xs:List Int) (f k:Nat):denL xs f (k+1)=denL xs f k++den2 xs (f+k):=by
 unfold denL;rw[List.range_succ,List.map_append,List.flatten_append];simp
theorem den2_len (xs:List Int) (i:Nat):(den2 xs i).length=2:=by unfold den2;split<;>rfl
theorem denL_len (xs:List Int) (f k:Nat):(denL xs f k).length=2*k:=by
 induction k with
 |zero=>rfl
 |succ k ih=>rw[denL_succ,List.length_append,ih,den2_len];omega
set_option maxRecDepth 100000 in
set_option maxHeartbeats 2000000 in
theorem den_any (a:Option Addr) (n cap:Nat) (xs:List Int) (f m:Nat) (w:World) (hn:xs.length=n) (hm:n≤1048576) (ha:At .i64 w a xs) (hx:∀ z∈xs,0≤z∧z<256) (hf:f+m≤1048576) :
  Calls Tryz.prog 99 #[.slice a n cap,.int .i64 f,.int .i64 ((f:Int)+m)] w fun e w'=>∃ v,e=.returned v∧Own w' w.heap.size v (denL xs f m)∧Below w.heap.size w w':=by
 have HA:Hid (At .i64 w a xs):=ha
 have HN:Hid (xs.length=n):=hn
 have HX:Hid (∀ z∈xs,0≤z∧z<256):=hx
 have H0:Hid (Own (w.alloc (.cells #[] 5)) w.heap.size (.slice (some ⟨w.heap.size,0,none⟩) 0 0) (denL xs f 0)∧Below w.heap.size w (w.alloc (.cells #[] 5))):=⟨Own.empty _ _ (Nat.le_refl _),(Below.refl _ _).alloc (Nat.le_refl _) _⟩
 clear ha hn hx
 go_enter Tryz.func99,Tryz.ntmps99
 go_wp2_with fail
 go_loopw [7,8] (fun v i wr=>∃(j:Nat) (l:Value),j≤m∧i=.int .i64 ((f:Int)+j)∧l=v∧Own wr w.heap.size l (denL xs f j)∧Below w.heap.size w wr) (fun _ i _=>f+m-(intOf i).toNat)
 case atStart=>exact⟨0,_,Nat.zero_le _,by simp,rfl,H0.out.1,H0.out.2⟩
 case round=>
  clear H0;obtain⟨j,l,hj,rfl,rfl,hown,hbel⟩:=hrel;by_cases hlt:j<m
  ·have hlt':(f:Int)+j<(f:Int)+m:=by omega
   have hsz:=hbel.size;have HOW:Hid (Own wr w.heap.size l (denL xs f j)):=hown;have HBE:Hid (Below w.heap.size w wr):=hbel;have HSU:Hid (denL xs f (j+1)=denL xs f j++den2 xs (f+j)):=denL_succ xs f j;have HLE:Hid ((denL xs f j).length+2≤1099511627776):=by show _≤_;rw[denL_len];omega
   by_cases hin:f+j<n
   ·have hin':(f:Int)+j<(n:Int):=by omega
    obtain⟨b,off,ea,hb,hc⟩:=(HA.out.below hbel).get (by have:=HN.out;omega);have hck:=hc (f+j) (by have:=HN.out;omega);have htn:((f:Int)+j).toNat=f+j:=by omega
    have hr:=HX.out (xs.getD (f+j) 0) (getD_mem (by have:=HN.out;omega));have HD2:Hid (den2 xs (f+j)=[xs.getD (f+j) 0,0]):=by show _=_;unfold den2;rw[if_pos (by have:=HN.out;omega)]
    subst ea;clear hc hb hown hbel;generalize xs.getD (f+j) 0=z at *;have HOA:Hid (Own (wr.alloc (.cells #[.int .u8 z,.int .u8 0] 5)) w.heap.size l (denL xs f j)):=HOW.out.alloc _;have HSZ:Hid (w.heap.size≤(wr.alloc (.cells #[.int .u8 z,.int .u8 0] 5)).heap.size):=by show _≤_;simp;omega
    have HNW:Hid (∀ i,i<2→(wr.alloc (.cells #[.int .u8 z,.int .u8 0] 5)).cell? ((⟨wr.heap.size,0,none⟩:Addr).add i)=some (.int .u8 ([z,0].getD i 0))):=by
     intro i hi;rw[Addr.add_lit,Nat.zero_add,cell_of_row _ _ _ _ _ _ (heap_alloc_new wr _)];have:i=0∨i=1:=by omega
     rcases this with rfl|rfl<;>rfl
    go_wp2_with fail;refine(two_any z wr hr.1 hr.2).mono ?_;rintro e w2 ⟨rfl,rfl⟩;go_wp2_with (first
     |(at_builtin;refine wpList_app _ rfl (.tmp 20) (.tmp 25) rfl w.heap.size _ _ rfl HOA.out ⟨wr.heap.size,0,none⟩ 2 2 [z,0] rfl rfl HNW.out HLE.out HSZ.out ?_)
     |fail)
    intro v' w3 hown' hbel' _;have HO2:Hid (Own w3 w.heap.size v' (denL xs f (j+1))):=by show Own _ _ _ _;rw[HSU.out,HD2.out];exact hown'
    have HB2:Hid (Below w.heap.size w w3):=(HBE.out.alloc hsz _).trans hbel';clear hown' hbel' HOW HBE HOA HNW HSZ HLE HD2 HSU hck;go_wp2;go_roundw
    case rel=>exact⟨j+1,_,by omega,by go_num,rfl,HO2.out,HB2.out⟩
    case measure=>simp[intOf];omega
   ·have hin':¬ ((f:Int)+j<(n:Int)):=by omega
    have HD2:Hid (den2 xs (f+j)=[0,0]):=by show _=_;unfold den2;rw[if_neg (by have:=HN.out;omega)]
    clear hown hbel;have HOA:Hid (Own (wr.alloc (.cells #[.int .u8 0,.int .u8 0] 5)) w.heap.size l (denL xs f j)):=HOW.out.alloc _;have HSZ:Hid (w.heap.size≤(wr.alloc (.cells #[.int .u8 0,.int .u8 0] 5)).heap.size):=by show _≤_;simp;omega
    have HNW:Hid (∀ i,i<2→(wr.alloc (.cells #[.int .u8 0,.int .u8 0] 5)).cell? ((⟨wr.heap.size,0,none⟩:Addr).add i)=some (.int .u8 ([0,0].getD i 0))):=by
     intro i hi;rw[Addr.add_lit,Nat.zero_add,cell_of_row _ _ _ _ _ _ (heap_alloc_new wr _)];have:i=0∨i=1:=by omega
     rcases this with rfl|rfl<;>rfl
    go_wp2_with (first
     |(at_builtin;refine wpList_app _ rfl (.tmp 27) (.tmp 28) rfl w.heap.size _ _ rfl HOA.out ⟨wr.heap.size,0,none⟩ 2 2 [0,0] rfl rfl HNW.out HLE.out HSZ.out ?_)
     |fail)
    intro v' w3 hown' hbel' _;have HO2:Hid (Own w3 w.heap.size v' (denL xs f (j+1))):=by show Own _ _ _ _;rw[HSU.out,HD2.out];exact hown'
    have HB2:Hid (Below w.heap.size w w3):=(HBE.out.alloc hsz _).trans hbel';clear hown' hbel' HOW HBE HOA HNW HSZ HLE HD2 HSU;go_wp2;go_roundw
    case rel=>exact⟨j+1,_,by omega,by go_num,rfl,HO2.out,HB2.out⟩
    case measure=>simp[intOf];omega
  ·have hjm:j=m:=by omega
   subst hjm;have hlt':¬ ((f:Int)+j<(f:Int)+j):=by omega
   have HO2:Hid (Own wr w.heap.size l (denL xs f j)):=hown;clear hown;go_wp2
   go_ret
   exact⟨_,rfl,HO2.out,hbel⟩
end Go.Proofs.YthmeoilbmfdhfaaGreat
