import Derived.Test.YtfkmfmnfnenbjaaGreatSnA
namespace Go.Proofs.YtfkmfmnfnenbjaaGreat
open Go.ChangeShapes Go.WideShapes Go.ChangeAt Go.RowKit
set_option linter.unusedVariables false
set_option maxRecDepth 100000 in
set_option maxHeartbeats 2000000 in
theorem snst1_any (h:Nat) (aD aU:Option Addr) (nD cD nU cU:Nat) (w:World) (hh:h<w.heap.size) (c2:w.cell? ⟨h,3,none⟩=some (.slice aD nD cD)) (c3:w.cell? ⟨h,4,none⟩=some (.slice aU nU cU)) :
  Calls Tryz.prog 27 #[.pointer (some ⟨h,1,none⟩)] w fun e w'=>e=.returned (.agg #[.slice aD nD cD,.slice aU nU cU,.int .i64 nU,.slice none 0 0])∧Below w.heap.size w w':=by
 have HH:Hid (h<w.heap.size∧w.cell? ⟨h,3,none⟩=some (.slice aD nD cD)∧w.cell? ⟨h,4,none⟩=some (.slice aU nU cU)):=⟨hh,c2,c3⟩
 have HSZ:Hid ((Tryz.prog.info? 34).map (·.size)=some 4):=by show _=_;kernel_rfl
 have HW0:Hid (Below w.heap.size w (w.alloc (.cells #[.slice none 0 0,.slice none 0 0,.int .i64 0,.slice none 0 0] 34)).drew):=by
  have h1:Below w.heap.size w (w.alloc (.cells #[.slice none 0 0,.slice none 0 0,.int .i64 0,.slice none 0 0] 34)):=(Below.refl _ _).alloc (Nat.le_refl _) _;exact⟨h1.os,h1.tape,h1.output,h1.size,h1.block⟩
 have HR0:Hid ((w.alloc (.cells #[.slice none 0 0,.slice none 0 0,.int .i64 0,.slice none 0 0] 34)).drew.heap[w.heap.size]?=some (.cells #[.slice none 0 0,.slice none 0 0,.int .i64 0,.slice none 0 0] 34 (0,0))):=heap_alloc_new w _
 clear hh c2 c3
 go_enter Tryz.func27,Tryz.ntmps27
 go_wp2_with fail
 refine wp_region_any (by kernel_rfl) ?_
 refine wpAny_slotsU (fun i a b=>if i=14 then Wr (w.heap.size) a b else Below a.heap.size a b) (frame:=(fun (a b c:Value)=>fun (t:Nat→Value)=>({ tmps:=List.toArray [a,b,c,t 0,t 1,t 2,t 3,t 4,t 5,t 6,t 7,t 8,t 9,t 10,t 11,t 12,t 13],defers:=[] }:Act)) _ _ _)
  (Ext:=fun L u w'=>ApS w (w.heap.size) 14 34 #[.slice none 0 0,.slice none 0 0,.int .i64 0,.slice none 0 0] (fun _ cs=>cs=#[.slice aD nD cD,.slice aU nU cU,.int .i64 nU,.slice none 0 0]) [] L u w') (Good:=fun i L w' v=>if i=0 then v=.pointer (some ⟨h,1,none⟩) else if i=1 then v=.pointer (some ⟨h,1,none⟩) else if i=2 then v=.pointer (some ⟨h,3,none⟩) else if i=3 then v=.slice aD nD cD else if i=4 then v=.pointer (some ⟨h,1,none⟩) else if i=5 then v=.pointer (some ⟨h,1,none⟩) else if i=6 then v=.pointer (some ⟨h,4,none⟩) else if i=7 then v=.slice aU nU cU else if i=8 then v=.pointer (some ⟨h,1,none⟩) else if i=9 then v=.pointer (some ⟨h,1,none⟩) else if i=10 then v=.pointer (some ⟨h,4,none⟩) else if i=11 then v=.slice aU nU cU else if i=12 then v=.int .i64 nU else if i=13 then v=.agg #[.slice aD nD cD,.slice aU nU cU,.int .i64 nU,.slice none 0 0] else if i=14 then L 14=true else True) ?hstab (by kernel_rfl) ?hop ?hdone _ _ ((fun (x0 x1 x2 x3 x4 x5 x6 x7 x8 x9 x10 x11 x12 x13:Value)=>fun (i:Nat)=>if i=0 then x0 else if i=1 then x1 else if i=2 then x2 else if i=3 then x3 else if i=4 then x4 else if i=5 then x5 else if i=6 then x6 else if i=7 then x7 else if i=8 then x8 else if i=9 then x9 else if i=10 then x10 else if i=11 then x11 else if i=12 then x12 else if i=13 then x13 else undef) _ _ _ _ _ _ _ _ _ _ _ _ _ _) _ (by simp) ?ext ?start (by simp)
 case start=>intro i hi h;exact absurd h (by rw[Array.getD_eq_getD_getElem?,Array.getElem?_replicate];split<;>simp)
 case ext=>exact ApS.start ⟨HW0.out,fun p _ hp=>absurd hp (by rw[Array.getD_eq_getD_getElem?,Array.getElem?_replicate];split<;>simp),fun p _ q _ _ hp=>absurd hp (by rw[Array.getD_eq_getD_getElem?,Array.getElem?_replicate];split<;>simp)⟩ (fun i=>by rw[Array.getD_eq_getD_getElem?,Array.getElem?_replicate];split<;>rfl) HR0.out
 case hstab=>
  intro j L w9 w' i v hM hij hLi h;by_cases hl:j=14
  ·subst hl;simp at h ⊢;unfold updK;simp[h]
  simp only[if_neg hl] at h ⊢;exact h
 case hop=>
  intro i o L t w' ho hLi hx hdep K hK;have hi:i<15:=(Array.getElem?_eq_some_iff.1 ho).1;obtain rfl|rfl|rfl|rfl|rfl|rfl|rfl|rfl|rfl|rfl|rfl|rfl|rfl|rfl|rfl:i=0∨i=1∨i=2∨i=3∨i=4∨i=5∨i=6∨i=7∨i=8∨i=9∨i=10∨i=11∨i=12∨i=13∨i=14:=by omega
  all_goals(simp at ho;subst ho)
  ·clear hdep;have hK':=hK w' (.pointer (some ⟨h,1,none⟩)) (by simp) (hx.step (fun _ _ _ _ h=>h) 0 (by decide) _ (Below.refl _ _) (fun h=>absurd h (by decide))) (by rw[if_neg (by decide)];exact(Below.refl _ _));clear hK;rw[if_pos (by rfl)];go_simp;simpa[upd] using hK'
  ·have d0:t 0=.pointer (some ⟨h,1,none⟩):=by simpa using(hdep ⟨0,.data⟩ (by simp) rfl).2
   clear hdep;have hK':=hK w' (.pointer (some ⟨h,1,none⟩)) (by simp) (hx.step (fun _ _ _ _ h=>h) 1 (by decide) _ (Below.refl _ _) (fun h=>absurd h (by decide))) (by rw[if_neg (by decide)];exact(Below.refl _ _));clear hK;rw[if_pos (by rfl)];go_simp;simpa[upd,d0] using hK'
  ·have d1:t 1=.pointer (some ⟨h,1,none⟩):=by simpa using(hdep ⟨1,.data⟩ (by simp) rfl).2
   clear hdep;have hK':=hK w' (.pointer (some ⟨h,3,none⟩)) (by simp) (hx.step (fun _ _ _ _ h=>h) 2 (by decide) _ (Below.refl _ _) (fun h=>absurd h (by decide))) (by rw[if_neg (by decide)];exact(Below.refl _ _));clear hK;rw[if_pos (by rfl)];go_simp;simpa[upd,d1] using hK'
  ·have d2:t 2=.pointer (some ⟨h,3,none⟩):=by simpa using(hdep ⟨2,.data⟩ (by simp) rfl).2
   clear hdep;have cc:w'.cell? ⟨h,3,none⟩=some (.slice aD nD cD):=by rw[World.cell?_of_block (a:=⟨h,3,none⟩) (w:=w) (hx.ax.below.block _ HH.out.1)];exact HH.out.2.1
   have hK':=hK w' (.slice aD nD cD) (by simp) (hx.step (fun _ _ _ _ h=>h) 3 (by decide) _ (Below.refl _ _) (fun h=>absurd h (by decide))) (by rw[if_neg (by decide)];exact(Below.refl _ _));clear hK;rw[if_pos (by rfl)];go_simp;simpa[upd,d2] using hK'
  ·clear hdep;have hK':=hK w' (.pointer (some ⟨h,1,none⟩)) (by simp) (hx.step (fun _ _ _ _ h=>h) 4 (by decide) _ (Below.refl _ _) (fun h=>absurd h (by decide))) (by rw[if_neg (by decide)];exact(Below.refl _ _));clear hK;rw[if_pos (by rfl)];go_simp;simpa[upd] using hK'
  ·have d4:t 4=.pointer (some ⟨h,1,none⟩):=by simpa using(hdep ⟨4,.data⟩ (by simp) rfl).2
   clear hdep;have hK':=hK w' (.pointer (some ⟨h,1,none⟩)) (by simp) (hx.step (fun _ _ _ _ h=>h) 5 (by decide) _ (Below.refl _ _) (fun h=>absurd h (by decide))) (by rw[if_neg (by decide)];exact(Below.refl _ _));clear hK;rw[if_pos (by rfl)];go_simp;simpa[upd,d4] using hK'
  ·have d5:t 5=.pointer (some ⟨h,1,none⟩):=by simpa using(hdep ⟨5,.data⟩ (by simp) rfl).2
   clear hdep;have hK':=hK w' (.pointer (some ⟨h,4,none⟩)) (by simp) (hx.step (fun _ _ _ _ h=>h) 6 (by decide) _ (Below.refl _ _) (fun h=>absurd h (by decide))) (by rw[if_neg (by decide)];exact(Below.refl _ _));clear hK;rw[if_pos (by rfl)];go_simp;simpa[upd,d5] using hK'
  ·have d6:t 6=.pointer (some ⟨h,4,none⟩):=by simpa using(hdep ⟨6,.data⟩ (by simp) rfl).2
   clear hdep;have cc:w'.cell? ⟨h,4,none⟩=some (.slice aU nU cU):=by rw[World.cell?_of_block (a:=⟨h,4,none⟩) (w:=w) (hx.ax.below.block _ HH.out.1)];exact HH.out.2.2
   have hK':=hK w' (.slice aU nU cU) (by simp) (hx.step (fun _ _ _ _ h=>h) 7 (by decide) _ (Below.refl _ _) (fun h=>absurd h (by decide))) (by rw[if_neg (by decide)];exact(Below.refl _ _));clear hK;rw[if_pos (by rfl)];go_simp;simpa[upd,d6] using hK'
  ·clear hdep;have hK':=hK w' (.pointer (some ⟨h,1,none⟩)) (by simp) (hx.step (fun _ _ _ _ h=>h) 8 (by decide) _ (Below.refl _ _) (fun h=>absurd h (by decide))) (by rw[if_neg (by decide)];exact(Below.refl _ _));clear hK;rw[if_pos (by rfl)];go_simp;simpa[upd] using hK'
  ·have d8:t 8=.pointer (some ⟨h,1,none⟩):=by simpa using(hdep ⟨8,.data⟩ (by simp) rfl).2
   clear hdep;have hK':=hK w' (.pointer (some ⟨h,1,none⟩)) (by simp) (hx.step (fun _ _ _ _ h=>h) 9 (by decide) _ (Below.refl _ _) (fun h=>absurd h (by decide))) (by rw[if_neg (by decide)];exact(Below.refl _ _));clear hK;rw[if_pos (by rfl)];go_simp;simpa[upd,d8] using hK'
  ·have d9:t 9=.pointer (some ⟨h,1,none⟩):=by simpa using(hdep ⟨9,.data⟩ (by simp) rfl).2
   clear hdep;have hK':=hK w' (.pointer (some ⟨h,4,none⟩)) (by simp) (hx.step (fun _ _ _ _ h=>h) 10 (by decide) _ (Below.refl _ _) (fun h=>absurd h (by decide))) (by rw[if_neg (by decide)];exact(Below.refl _ _));clear hK;rw[if_pos (by rfl)];go_simp;simpa[upd,d9] using hK'
  ·have d10:t 10=.pointer (some ⟨h,4,none⟩):=by simpa using(hdep ⟨10,.data⟩ (by simp) rfl).2
   clear hdep;have cc:w'.cell? ⟨h,4,none⟩=some (.slice aU nU cU):=by rw[World.cell?_of_block (a:=⟨h,4,none⟩) (w:=w) (hx.ax.below.block _ HH.out.1)];exact HH.out.2.2
   have hK':=hK w' (.slice aU nU cU) (by simp) (hx.step (fun _ _ _ _ h=>h) 11 (by decide) _ (Below.refl _ _) (fun h=>absurd h (by decide))) (by rw[if_neg (by decide)];exact(Below.refl _ _));clear hK;rw[if_pos (by rfl)];go_simp;simpa[upd,d10] using hK'
  ·have d11:t 11=.slice aU nU cU:=by simpa using(hdep ⟨11,.data⟩ (by simp) rfl).2
   clear hdep;have hK':=hK w' (.int .i64 nU) (by simp) (hx.step (fun _ _ _ _ h=>h) 12 (by decide) _ (Below.refl _ _) (fun h=>absurd h (by decide))) (by rw[if_neg (by decide)];exact(Below.refl _ _));clear hK;rw[if_pos (by rfl)];go_simp;simpa[upd,d11] using hK'
  ·have d3:t 3=.slice aD nD cD:=by simpa using(hdep ⟨3,.data⟩ (by simp) rfl).2
   have d7:t 7=.slice aU nU cU:=by simpa using(hdep ⟨7,.data⟩ (by simp) rfl).2
   have d12:t 12=.int .i64 nU:=by simpa using(hdep ⟨12,.data⟩ (by simp) rfl).2
   clear hdep;have hK':=hK w' (.agg #[.slice aD nD cD,.slice aU nU cU,.int .i64 nU,.slice none 0 0]) (by simp) (hx.step (fun _ _ _ _ h=>h) 13 (by decide) _ (Below.refl _ _) (fun h=>absurd h (by decide))) (by rw[if_neg (by decide)];exact(Below.refl _ _));clear hK;rw[if_pos (by rfl)];go_simp;simpa[upd,d3,d7,d12] using hK'
  ·have d13:t 13=.agg #[.slice aD nD cD,.slice aU nU cU,.int .i64 nU,.slice none 0 0]:=by simpa using(hdep ⟨13,.data⟩ (by simp) rfl).2
   clear hdep;have hrs:=hx.pre hLi;have hK':∀ ww,Wr w.heap.size w' ww→ww.heap[w.heap.size]?=some (.cells #[.slice aD nD cD,.slice aU nU cU,.int .i64 nU,.slice none 0 0] 34 (0,0))→K _ ww:=fun ww hw hr=>hK ww undef (by simp[updK]) (hx.put (Nat.le_refl _) (by decide) _ hw hr rfl) (by rw[if_pos rfl];exact hw)
   clear hK;rw[if_pos (by rfl)];refine wp_store_row 34 (.tmp 2) (.tmp 16) rfl w.heap.size _ rfl d13 34 _ hrs HSZ.out rfl (by simp[Value.oneCell']) ?_;have hK2:=hK' _ (Wr.setRow _ _ _) (setRow_heap _ _ _ _ _ _ hrs);clear hK';simpa[upd,Act.put] using hK2
 case hdone=>
  intro L t w' hx hg;have l14:L 14=true:=by simpa using hg 14 (by decide)
  clear hg;obtain⟨cs,hr,rfl⟩:=hx.fin l14;have HR9:Hid (w'.heap[w.heap.size]?=some (.cells #[.slice aD nD cD,.slice aU nU cU,.int .i64 nU,.slice none 0 0] 34 (0,0))):=hr;have HF:Hid (Below w.heap.size w w'):=hx.ax.below;clear hx hr;go_wp2_with fail;exact bodyPost_ret (v:=.agg #[.slice aD nD cD,.slice aU nU cU,.int .i64 nU,.slice none 0 0]) (results_cell_row rfl _ _ w.heap.size 34 _ (0,0) _ rfl HR9.out Tryz.underlying34 rfl HSZ.out) rfl ⟨rfl,HF.out⟩
end Go.Proofs.YtfkmfmnfnenbjaaGreat
