import Derived.Test.YtilpkdnoaldfmaaGreatDoorMRows8a
import Derived.Test.YtilpkdnoaldfmaaGreatDoorMCnC
import Derived.Test.YtilpkdnoaldfmaaGreatDoorMCatC
import Derived.Test.YtilpkdnoaldfmaaGreatDoorMSvS
import Derived.Test.YtilpkdnoaldfmaaGreatDoorMMkB
namespace Go.Proofs.YtilpkdnoaldfmaaGreatDoor
open Go.ChangeShapes Go.WideShapes Go.ChangeAt Go.RowKit
set_option linter.unusedVariables false
def OwnL (lo:Nat) (w:World) (v:Value) (zs:List Int):Prop:=∃ B,lo≤B∧Own w B v zs
theorem Own.keepB {B:Nat} {w w':World} {v:Value} {zs:List Int} (h:Own w B v zs) (b:Below w.heap.size w w'):Own w' B v zs:=by
 refine⟨⟨h.1.1,?_⟩,h.2⟩;rcases h.1.2 with h'|⟨g,c,cur,h1,h2,h3,h4⟩
 ·exact .inl h'
 ·exact .inr ⟨g,c,cur,h1,h2,by rw[b.block g (Array.getElem?_eq_some_iff.1 h3).1];exact h3,h4⟩
theorem OwnL.below {lo:Nat} {w w':World} {v:Value} {zs:List Int} (h:OwnL lo w v zs) (b:Below w.heap.size w w'):OwnL lo w' v zs:=by
 obtain⟨B,hB,h⟩:=h;exact⟨B,hB,h.keepB b⟩
def TwoP (lo g:Nat) (w:World) (v:Value):Prop:=∃ q,v=.slice (some ⟨q,0,none⟩) 2 2∧lo≤q∧w.heap[q]?=some (.cells #[.slice (some ⟨g,0,none⟩) 64 64,.slice (some ⟨g,64,none⟩) 64 64] 22 (0,0))
theorem TwoP.below {lo g:Nat} {w w':World} {v:Value} (h:TwoP lo g w v) (b:Below w.heap.size w w'):TwoP lo g w' v:=by
 obtain⟨q,e,h1,h2⟩:=h;exact⟨q,e,h1,by rw[b.block q (Array.getElem?_eq_some_iff.1 h2).1];exact h2⟩
theorem Row.part0 {w:World} {g:Nat} {t:TypeId} {zs:List Int} (h:Row w g t zs) (hl:zs.length=128):Part w (.slice (some ⟨g,0,none⟩) 64 64) (zs.take 64):=
 ⟨g,0,64,by rw[List.length_take,hl];rfl,h.lt,fun i hi=>by
  rw[List.length_take] at hi;rw[Nat.zero_add,h.cell i (by omega)];simp[List.getD,show i<64 by omega]⟩
theorem Row.part1 {w:World} {g:Nat} {t:TypeId} {zs:List Int} (h:Row w g t zs) (hl:zs.length=128):Part w (.slice (some ⟨g,64,none⟩) 64 64) (zs.drop 64):=
 ⟨g,64,64,by rw[List.length_drop,hl],h.lt,fun i hi=>by
  rw[List.length_drop] at hi;rw[h.cell (64+i) (by omega)];simp[List.getD]⟩
set_option maxRecDepth 100000 in
set_option maxHeartbeats 2000000 in
theorem text_any (g:Nat) (zs:List Int) (w:World) (hr:Row w g 73 zs) (hl:zs.length=128) :
  Calls Tryz.prog 70 #[.pointer (some ⟨g,0,none⟩)] w fun e w'=>∃ v,e=.returned v∧OwnL w.heap.size w' v zs∧Below w.heap.size w w':=by
 have HRW:Hid (g<w.heap.size∧w.heap[g]?=some (.cells (zs.map (Value.int .u8)).toArray 73 (0,0))):=⟨hr.lt,hr⟩
 have HLZ:Hid (zs.length=128):=hl;have HFL:Hid ([zs.take 64,zs.drop 64].flatten=zs):=by show _=_;simp
 clear hr hl;go_enter Tryz.func70,Tryz.ntmps70;go_wp2_with fail;refine wp_region_any (by kernel_rfl) ?_;refine wpAny_slotsU (fun _ a b=>Below a.heap.size a b) (frame:=(fun (a b:Value)=>fun (t:Nat→Value)=>({ tmps:=List.toArray [a,b,t 10,t 0,t 1,t 2,t 3,t 4,t 5,t 6,t 7,t 8,t 9],defers:=[] }:Act)) _ _)
  (Ext:=fun L u w'=>ApX w [] L u w') (Good:=fun i L w' v=>if i=0 then v=.pointer (some ⟨g,0,none⟩) else if i=1 then v=.pointer (some ⟨g,0,none⟩) else if i=2 then v=.pointer (some ⟨g,0,none⟩) else if i=3 then v=.slice (some ⟨g,0,none⟩) 64 64 else if i=4 then v=.pointer (some ⟨g,0,none⟩) else if i=5 then v=.pointer (some ⟨g,0,none⟩) else if i=6 then v=.pointer (some ⟨g,64,none⟩) else if i=7 then v=.slice (some ⟨g,64,none⟩) 64 64 else if i=8 then TwoP w.heap.size g w' v else if i=9 then OwnL w.heap.size w' v zs else if i=10 then OwnL w.heap.size w' v zs else True) ?hstab (by kernel_rfl) ?hop ?hdone _ _ ((fun (x0 x1 x2 x3 x4 x5 x6 x7 x8 x9 x10:Value)=>fun (i:Nat)=>if i=0 then x0 else if i=1 then x1 else if i=2 then x2 else if i=3 then x3 else if i=4 then x4 else if i=5 then x5 else if i=6 then x6 else if i=7 then x7 else if i=8 then x8 else if i=9 then x9 else if i=10 then x10 else undef) _ _ _ _ _ _ _ _ _ _ _) _ (by simp) ?ext ?start (by simp)
 case start=>intro i hi h;exact absurd h (by rw[Array.getD_eq_getD_getElem?,Array.getElem?_replicate];split<;>simp)
 case ext=>exact(ApX.start w [] _ _ (fun i=>by rw[Array.getD_eq_getD_getElem?,Array.getElem?_replicate];split<;>rfl)).drew
 case hstab=>
  intro j L w9 w' i v hM _ _ h;by_cases h8:j=8
  ·subst h8;simp at h ⊢;exact h.below hM
  by_cases h9:j=9
  ·subst h9;simp at h ⊢;exact h.below hM
  by_cases h10:j=10
  ·subst h10;simp at h ⊢;exact h.below hM
  simp only[if_neg h8,if_neg h9,if_neg h10] at h ⊢;exact h
 case hop=>
  intro i o L t w' ho hLi hx hdep K hK;have hi:i<11:=(Array.getElem?_eq_some_iff.1 ho).1;obtain rfl|rfl|rfl|rfl|rfl|rfl|rfl|rfl|rfl|rfl|rfl:i=0∨i=1∨i=2∨i=3∨i=4∨i=5∨i=6∨i=7∨i=8∨i=9∨i=10:=by omega
  all_goals(simp at ho;subst ho)
  ·clear hdep;have hK':=hK w' (.pointer (some ⟨g,0,none⟩)) (by simp) (hx.step 0 _ (Below.refl _ _) (fun h=>absurd h (by decide))) (Below.refl _ _);clear hK;rw[if_pos (by rfl)];go_simp;simpa[upd] using hK'
  ·have d0:t 0=.pointer (some ⟨g,0,none⟩):=by simpa using(hdep ⟨0,.data⟩ (by simp) rfl).2
   clear hdep;have hK':=hK w' (.pointer (some ⟨g,0,none⟩)) (by simp) (hx.step 1 _ (Below.refl _ _) (fun h=>absurd h (by decide))) (Below.refl _ _);clear hK;rw[if_pos (by rfl)];go_simp;simpa[upd,d0] using hK'
  ·have d1:t 1=.pointer (some ⟨g,0,none⟩):=by simpa using(hdep ⟨1,.data⟩ (by simp) rfl).2
   clear hdep;have hK':=hK w' (.pointer (some ⟨g,0,none⟩)) (by simp) (hx.step 2 _ (Below.refl _ _) (fun h=>absurd h (by decide))) (Below.refl _ _);clear hK;rw[if_pos (by rfl)];go_simp;simpa[upd,d1] using hK'
  ·have d2:t 2=.pointer (some ⟨g,0,none⟩):=by simpa using(hdep ⟨2,.data⟩ (by simp) rfl).2
   clear hdep;have hK':=hK w' (.slice (some ⟨g,0,none⟩) 64 64) (by simp) (hx.step 3 _ (Below.refl _ _) (fun h=>absurd h (by decide))) (Below.refl _ _);clear hK;rw[if_pos (by rfl)];go_simp;simpa[upd,d2] using hK'
  ·clear hdep;have hK':=hK w' (.pointer (some ⟨g,0,none⟩)) (by simp) (hx.step 4 _ (Below.refl _ _) (fun h=>absurd h (by decide))) (Below.refl _ _);clear hK;rw[if_pos (by rfl)];go_simp;simpa[upd] using hK'
  ·have d4:t 4=.pointer (some ⟨g,0,none⟩):=by simpa using(hdep ⟨4,.data⟩ (by simp) rfl).2
   clear hdep;have hK':=hK w' (.pointer (some ⟨g,0,none⟩)) (by simp) (hx.step 5 _ (Below.refl _ _) (fun h=>absurd h (by decide))) (Below.refl _ _);clear hK;rw[if_pos (by rfl)];go_simp;simpa[upd,d4] using hK'
  ·have d5:t 5=.pointer (some ⟨g,0,none⟩):=by simpa using(hdep ⟨5,.data⟩ (by simp) rfl).2
   clear hdep;have hK':=hK w' (.pointer (some ⟨g,64,none⟩)) (by simp) (hx.step 6 _ (Below.refl _ _) (fun h=>absurd h (by decide))) (Below.refl _ _);clear hK;rw[if_pos (by rfl)];go_simp;simpa[upd,d5] using hK'
  ·have d6:t 6=.pointer (some ⟨g,64,none⟩):=by simpa using(hdep ⟨6,.data⟩ (by simp) rfl).2
   clear hdep;have hK':=hK w' (.slice (some ⟨g,64,none⟩) 64 64) (by simp) (hx.step 7 _ (Below.refl _ _) (fun h=>absurd h (by decide))) (Below.refl _ _);clear hK;rw[if_pos (by rfl)];go_simp;simpa[upd,d6] using hK'
  ·have d3:t 3=.slice (some ⟨g,0,none⟩) 64 64:=by simpa using(hdep ⟨3,.data⟩ (by simp) rfl).2
   have d7:t 7=.slice (some ⟨g,64,none⟩) 64 64:=by simpa using(hdep ⟨7,.data⟩ (by simp) rfl).2
   clear hdep;have hsz:w.heap.size≤w'.heap.size:=hx.below.size;have bb:Below w'.heap.size w' (w'.alloc (.cells #[.slice (some ⟨g,0,none⟩) 64 64,.slice (some ⟨g,64,none⟩) 64 64] 22)):=(Below.refl _ _).alloc (Nat.le_refl _) _;have hK':=hK (w'.alloc (.cells #[.slice (some ⟨g,0,none⟩) 64 64,.slice (some ⟨g,64,none⟩) 64 64] 22)) (.slice (some ⟨w'.heap.size,0,none⟩) 2 2) (by simpa using⟨w'.heap.size,rfl,hsz,heap_alloc_new w' _⟩) (hx.step 8 _ bb (fun h=>absurd h (by decide))) bb;clear hK bb;rw[if_pos (by rfl)];go_simp;simpa[upd,d3,d7] using hK'
  ·have f8:TwoP w.heap.size g w' (t 8):=by simpa using(hdep ⟨8,.data⟩ (by simp) rfl).2
   clear hdep;obtain⟨q,d8,hq,hrow⟩:=f8;have hrg:Row w' g 73 zs:=by unfold Row;rw[hx.below.block _ HRW.out.1];exact HRW.out.2
   have hsz:w.heap.size≤w'.heap.size:=hx.below.size;have A:=conc_any q 2 2 [.slice (some ⟨g,0,none⟩) 64 64,.slice (some ⟨g,64,none⟩) 64 64] [zs.take 64,zs.drop 64] w' rfl (Array.getElem?_eq_some_iff.1 hrow).1 (fun i hi=>by
    rw[cell_of_row w' q i _ _ _ hrow];have:i=0∨i=1:=by omega
    rcases this with rfl|rfl<;>rfl) (fun i hi=>by
    have:i=0∨i=1:=by omega
    rcases this with rfl|rfl
    ·exact hrg.part0 HLZ.out
    ·exact hrg.part1 HLZ.out) (by rw[HFL.out,HLZ.out];decide) (by rw[HFL.out,HLZ.out];decide) (by decide)
   rw[HFL.out] at A;have hK':∀ ww v,OwnL w.heap.size ww v zs→Below w'.heap.size w' ww→K _ ww:=fun ww v hv hb=>hK ww v (by simpa using hv) (hx.step 9 v hb (fun h=>absurd h (by decide))) hb
   clear hK hrg hrow;rw[if_pos (by rfl)];go_simp;try simp only[d8]
   refine A.mono ?_;rintro e w9 ⟨v9,rfl,hv9,hb9⟩;have hK2:=hK' w9 v9 ⟨w'.heap.size,hsz,hv9⟩ hb9;clear hK' A hv9 hb9;go_simp;simpa[upd,d8] using hK2
  ·have f9:OwnL w.heap.size w' (t 9) zs:=by simpa using(hdep ⟨9,.data⟩ (by simp) rfl).2
   clear hdep;have hK':=hK w' (t 9) (by simpa using f9) (hx.step 10 _ (Below.refl _ _) (fun h=>absurd h (by decide))) (Below.refl _ _);clear hK;rw[if_pos (by rfl)];go_simp;simpa[upd] using hK'
 case hdone=>
  intro L t w' hx hg;have f10:OwnL w.heap.size w' (t 10) zs:=by simpa using hg 10 (by decide)
  clear hg;have HF:Hid (OwnL w.heap.size w' (t 10) zs∧Below w.heap.size w w'):=⟨f10,hx.below⟩
  clear f10 hx;go_wp2
  go_ret
  exact⟨t 10,rfl,HF.out.1,HF.out.2⟩
set_option maxRecDepth 100000 in
set_option maxHeartbeats 2000000 in
theorem ssum_any (g:Nat) (zs:List Int) (w:World) (hr:Row w g 73 zs) (hl:zs.length=128) (hb:Byte zs) :
  Calls Tryz.prog 47 #[.pointer (some ⟨g,0,none⟩)] w fun e w'=>e=.returned (.int .u32 (crc (zs.take 120)))∧Below w.heap.size w w':=by
 have HT:=text_any g zs w hr hl;have HLZ:Hid (zs.length=128∧Byte zs):=⟨hl,hb⟩
 clear hr hl hb;go_enter Tryz.func47,Tryz.ntmps47;go_wp2_with fail;refine HT.mono ?_;rintro e w1 ⟨v1,rfl,⟨B,hB,ho⟩,hb1⟩;obtain⟨q,c,e1,hq,hql,hqc⟩:=ho.base;have hc128:128≤c:=by have:=HLZ.out.1;omega
 rw[HLZ.out.1] at e1;subst e1;have HA:Hid (At .u8 w1 (some ⟨q,0,none⟩) (zs.take 120)):=.inr ⟨q,0,rfl,hql,fun i hi=>by
  obtain⟨b,o,c',e2,hb',hcell⟩:=ho.part;injection e2 with e3
  injection e3 with e3
  injection e3 with e4 e5
  subst e4 e5;rw[List.length_take] at hi;rw[hcell i (by omega)];simp[List.getD,show i<120 by omega]⟩
 have HB1:Hid (Below w.heap.size w w1):=hb1;have HC:Hid (∀ cap,Calls Tryz.prog 69 #[.slice (some ⟨q,0,none⟩) 120 cap] w1 fun e w'=>e=.returned (.int .u32 (crc (zs.take 120)))∧w'=w1):=fun cap=>crcI_any _ 120 cap (zs.take 120) w1 (by rw[List.length_take,HLZ.out.1];rfl) (by decide) HA.out (fun z hz=>HLZ.out.2 z (List.mem_of_mem_take hz))
 clear ho hb1 HT hB hq hql hqc;go_wp2_with fail;refine(HC.out _).mono ?_;rintro e w2 ⟨rfl,rfl⟩;clear HC HA;generalize hz:crc (zs.take 120)=z at *;have HZ:Hid (crc (zs.take 120)=z):=hz;clear hz;go_wp2
 go_ret
 exact⟨ret_int HZ.out.symm,HB1.out⟩
set_option maxRecDepth 100000 in
set_option maxHeartbeats 1000000 in
theorem denyP_any (g i:Nat) (w:World) (hi:i<16) :
  Calls Tryz.prog 46 #[.pointer (some ⟨g,0,none⟩),.int .i64 i] w fun e w'=>∃ c,e=.returned (.slice (some ⟨g,if i<8 then 44+2*i else 56+2*i,none⟩) 2 c)∧w'=w:=by
 obtain rfl|rfl|rfl|rfl|rfl|rfl|rfl|rfl|rfl|rfl|rfl|rfl|rfl|rfl|rfl|rfl:i=0∨i=1∨i=2∨i=3∨i=4∨i=5∨i=6∨i=7∨i=8∨i=9∨i=10∨i=11∨i=12∨i=13∨i=14∨i=15:=by omega
 all_goals
  go_enter Tryz.func46,Tryz.ntmps46;go_wp2
  go_ret
  first|exact⟨_,rfl,rfl⟩|exact⟨⟨_,rfl⟩,rfl⟩
section
variable {w W w' w'':World} {sc:Array Value}
end
theorem BODY_len {gn tl:Int} {D U:List Int} {nD:Nat}:(([([four gn,[83,49],[(nD:Int),0],four tl,bitsL U 32,denL D 0 8,four gn]).flatten,([four gn,[83,50],[0,0],denL D 8 8,List.replicate 32 0]:List (List Int)).flatten]:List (List Int)).flatten).length=120:=by simp[four,bitsL_len,denL_len]
theorem bits_byte (xs:List Int):Byte (bitsL xs 32):=fun z hz=>by
 unfold bitsL at hz;obtain⟨i,_,rfl⟩:=List.mem_map.1 hz;have:=bv_bd xs i 8;exact⟨this.1,by have:=this.2;omega⟩
theorem den_byte (xs:List Int) (f k:Nat) (h:∀ z∈xs,0≤z∧z<256):Byte (denL xs f k):=fun z hz=>by
 unfold denL at hz;obtain⟨l,hl,hz⟩:=List.mem_flatten.1 hz;obtain⟨i,_,rfl⟩:=List.mem_map.1 hl;unfold den2 at hz;split at hz
 ·rename_i hi
  simp only[List.mem_cons,List.not_mem_nil,or_false] at hz;rcases hz with rfl|rfl
  ·exact h _ (getD_mem hi)
  ·omega
 ·simp at hz;omega
theorem Byte.app {xs ys:List Int} (h1:Byte xs) (h2:Byte ys):Byte (xs++ys):=fun z hz=>by
 rcases List.mem_append.1 hz with h|h
 ·exact h1 z h
 ·exact h2 z h
theorem Byte.nil:Byte []:=fun z hz=>by simp at hz
theorem byte2 {x y:Int} (h1:0≤x∧x<256) (h2:0≤y∧y<256):Byte [x,y]:=fun z hz=>by
 simp at hz;rcases hz with rfl|rfl
 ·exact h1
 ·exact h2
theorem BODY_byte {gn tl:Int} {D U:List Int} {nD:Nat} (ug:U32 gn) (ut:U32 tl) (h:∀ z∈D,0≤z∧z<256) (hn:nD≤16):Byte (([([four gn,[83,49],[(nD:Int),0],four tl,bitsL U 32,denL D 0 8,four gn]).flatten,([four gn,[83,50],[0,0],denL D 8 8,List.replicate 32 0]:List (List Int)).flatten]:List (List Int)).flatten):=by
 have hz:Byte (List.replicate 32 0):=fun z hz=>by simp at hz;omega
 simp only[List.flatten_cons,List.flatten_nil,List.append_nil];exact((four_byte gn ug).app ((byte2 (by decide) (by decide)).app ((byte2 (by omega) (by decide)).app ((four_byte tl ut).app ((bits_byte U).app ((den_byte D 0 8 h).app (four_byte gn ug))))))).app ((four_byte gn ug).app ((byte2 (by decide) (by decide)).app ((byte2 (by decide) (by decide)).app ((den_byte D 8 8 h).app hz))))
theorem END_len {gn tl cr:Int} {D U:List Int} {nD:Nat}:(([([([four gn,[83,49],[(nD:Int),0],four tl,bitsL U 32,denL D 0 8,four gn]).flatten,([four gn,[83,50],[0,0],denL D 8 8,List.replicate 32 0]:List (List Int)).flatten]:List (List Int)).flatten,four cr,four gn]:List (List Int)).flatten).length=128:=by simp[four,bitsL_len,denL_len]
theorem hid_of {p:Prop} (h:p):Hid p:=h
noncomputable def snL (gn tl:Int) (D U:List Int):List Int:=([([([four gn,[83,49],[(D.length:Int),0],four tl,bitsL U 32,denL D 0 8,four gn]).flatten,([four gn,[83,50],[0,0],denL D 8 8,List.replicate 32 0]:List (List Int)).flatten]:List (List Int)).flatten,four (crc (([([four gn,[83,49],[(D.length:Int),0],four tl,bitsL U 32,denL D 0 8,four gn]).flatten,([four gn,[83,50],[0,0],denL D 8 8,List.replicate 32 0]:List (List Int)).flatten]:List (List Int)).flatten)),four gn]:List (List Int)).flatten
noncomputable def snE (gn tl:Int) (D U:List Int):List Int:=bif snB gn tl D U then snL gn tl D U else []
theorem bitsn (n:Nat) (x y:Int) (hx:0≤x∧x<2^n) (hy:0≤y∧y<2^n) (h:∀ j:Nat,j<n→(x/2^j%2=1↔y/2^j%2=1)):x=y:=by
 induction n generalizing x y with
 |zero=>simp at hx hy;omega
 |succ n ih=>
  have h0:=h 0 (by omega);simp at h0;rw[Int.pow_succ] at hx hy;have he:=ih (x/2) (y/2) (by omega) (by omega) fun j hj=>by
   have:=h (j+1) (by omega)
   rwa [Int.pow_succ,Int.mul_comm (2^j) 2,←Int.ediv_ediv_of_nonneg (by decide),←Int.ediv_ediv_of_nonneg (by decide)] at this
  omega
theorem memB_mem (v:Int) (xs:List Int):memB v xs=true↔v∈xs:=by unfold memB;simp
theorem bv_bit (xs:List Int) (k n j:Nat) (hj:j<n) (hn:n≤8):bv xs k n/2^j%2=1↔(8*(k:Int)+(7-((n-1-j:Nat):Int)))∈xs:=by
 induction n generalizing j with
 |zero=>omega
 |succ n ih=>
  unfold bv;cases j with
  |zero=>
   rw[show n+1-1-0=n by omega,←memB_mem];by_cases h:memB (8*(k:Int)+(7-(n:Int))) xs=true
   ·simp only[h,if_true];constructor
    ·intro _;trivial
    ·intro _;omega
   ·simp only[h];constructor
    ·intro h';exfalso;simp at h'
    ·intro h';simp at h'
  |succ j=>
   rw[show n+1-1-(j+1)=n-1-j by omega,←ih j (by omega) (by omega)];have hd:(2*bv xs k n+(if memB (8*(k:Int)+(7-(n:Int))) xs=true then 1 else 0))/2^(j+1)=bv xs k n/2^j:=by
    rw[Int.pow_succ,Int.mul_comm (2^j) 2,←Int.ediv_ediv_of_nonneg (by decide)]
    congr 1
    split<;>omega
   rw[hd]
theorem set_bits (bs xs:List Int) (h:SetB bs (fun v=>(v:Int)∈xs)):bs=bitsL xs 32:=by
 obtain⟨hl,hb,hv⟩:=h;refine List.ext_getElem (by rw[hl,bitsL_len]) fun i h1 h2=>?_
 have hi:i<32:=by omega
 have e1:(bitsL xs 32)[i]=bv xs i 8:=by simp[bitsL]
 refine Eq.trans ?_ e1.symm;refine bitsn 8 _ _ (hb _ (List.getElem_mem h1)) (bv_bd xs i 8) fun j hj=>?_
 have:=hv (8*i+j) (by omega);rw[show(8*i+j)/8=i by omega,show(8*i+j)%8=j by omega,show bs.getD i 0=bs[i] by simp[List.getD,h1]] at this;rw[this,bv_bit xs i 8 j hj (Nat.le_refl _)];show((8*i+j:Nat):Int)∈xs↔_
 rw[show((8*i+j:Nat):Int)=8*(i:Int)+(7-((8-1-j:Nat):Int)) by omega]
theorem putK_app (A L:List Int) (p:Nat) (v:Int) (k:Nat) (h:A.length≤p):putK (A++L) p v k=A++putK L (p-A.length) v k:=by
 induction k with
 |zero=>rfl
 |succ k ih=>
  show(putK (A++L) p v k).set (p+k) _=A++(putK L (p-A.length) v k).set (p-A.length+k) _
  rw[ih,List.set_append_right (p+k) _ (by omega),show p+k-A.length=p-A.length+k by omega]
theorem putK_here (X L:List Int) (v:Int) (hX:X.length=4) (hv:U32 v):putK (X++L) 0 v 4=four v++L:=by
 match X,hX with
 |[a,b,c,d],_=>
  obtain⟨h0,h1⟩:=hv;simp[putK,four];omega
def seg (a m c t b d e a' m' c' d' y s e':List Int):List Int:=a++(m++(c++(t++(b++(d++(e++(a'++(m'++(c'++(d'++(y++(s++e'))))))))))))
structure SegL (a m c t b d e a' m' c' d' y s e':List Int):Prop where
 la:a.length=4
 lm:m.length=2
 lc:c.length=2
 lt:t.length=4
 lb:b.length=32
 ld:d.length=16
 le:e.length=4
 la':a'.length=4
 lm':m'.length=2
 lc':c'.length=2
 ld':d'.length=16
 ly:y.length=32
 ls:s.length=4
 le':e'.length=4
section
variable {a m c t b d e a' m' c' d' y s e':List Int}
theorem SegL.len (h:SegL a m c t b d e a' m' c' d' y s e'):(seg a m c t b d e a' m' c' d' y s e').length=128:=by
 obtain⟨h1,h2,h3,h4,h5,h6,h7,h8,h9,h10,h11,h12,h13,h14⟩:=h;simp[seg,h1,h2,h3,h4,h5,h6,h7,h8,h9,h10,h11,h12,h13,h14]
theorem seg_zero:(List.replicate 128 0:List Int)=seg (List.replicate 4 0) [0,0] [0,0] (List.replicate 4 0) (List.replicate 32 0) (List.replicate 16 0) (List.replicate 4 0) (List.replicate 4 0) [0,0] [0,0] (List.replicate 16 0) (List.replicate 32 0) (List.replicate 4 0) (List.replicate 4 0):=by rfl
theorem four_len (v:Int):(four v).length=4:=rfl
theorem SegL.put0 (h:SegL a m c t b d e a' m' c' d' y s e') (v:Int) (hv:U32 v):putK (seg a m c t b d e a' m' c' d' y s e') 0 v 4=seg (four v) m c t b d e a' m' c' d' y s e'∧SegL (four v) m c t b d e a' m' c' d' y s e':=by
 obtain⟨h1,h2,h3,h4,h5,h6,h7,h8,h9,h10,h11,h12,h13,h14⟩:=h;refine⟨?_,⟨four_len v,h2,h3,h4,h5,h6,h7,h8,h9,h10,h11,h12,h13,h14⟩⟩;unfold seg;rw[putK_here _ _ _ h1 hv]
theorem SegL.put8 (h:SegL a m c t b d e a' m' c' d' y s e') (v:Int) (hv:U32 v):putK (seg a m c t b d e a' m' c' d' y s e') 8 v 4=seg a m c (four v) b d e a' m' c' d' y s e'∧SegL a m c (four v) b d e a' m' c' d' y s e':=by
 obtain⟨h1,h2,h3,h4,h5,h6,h7,h8,h9,h10,h11,h12,h13,h14⟩:=h;refine⟨?_,⟨h1,h2,h3,four_len v,h5,h6,h7,h8,h9,h10,h11,h12,h13,h14⟩⟩;unfold seg;rw[putK_app a _ _ _ _ (by omega),h1,putK_app m _ _ _ _ (by omega),h2,putK_app c _ _ _ _ (by omega),h3,putK_here _ _ _ h4 hv]
theorem SegL.put60 (h:SegL a m c t b d e a' m' c' d' y s e') (v:Int) (hv:U32 v):putK (seg a m c t b d e a' m' c' d' y s e') 60 v 4=seg a m c t b d (four v) a' m' c' d' y s e'∧SegL a m c t b d (four v) a' m' c' d' y s e':=by
 obtain⟨h1,h2,h3,h4,h5,h6,h7,h8,h9,h10,h11,h12,h13,h14⟩:=h;refine⟨?_,⟨h1,h2,h3,h4,h5,h6,four_len v,h8,h9,h10,h11,h12,h13,h14⟩⟩;unfold seg;rw[putK_app a _ _ _ _ (by omega),h1,putK_app m _ _ _ _ (by omega),h2,putK_app c _ _ _ _ (by omega),h3,putK_app t _ _ _ _ (by omega),h4,putK_app b _ _ _ _ (by omega),h5,putK_app d _ _ _ _ (by omega),h6,putK_here _ _ _ h7 hv]
theorem SegL.put64 (h:SegL a m c t b d e a' m' c' d' y s e') (v:Int) (hv:U32 v):putK (seg a m c t b d e a' m' c' d' y s e') 64 v 4=seg a m c t b d e (four v) m' c' d' y s e'∧SegL a m c t b d e (four v) m' c' d' y s e':=by
 obtain⟨h1,h2,h3,h4,h5,h6,h7,h8,h9,h10,h11,h12,h13,h14⟩:=h;refine⟨?_,⟨h1,h2,h3,h4,h5,h6,h7,four_len v,h9,h10,h11,h12,h13,h14⟩⟩;unfold seg;rw[putK_app a _ _ _ _ (by omega),h1,putK_app m _ _ _ _ (by omega),h2,putK_app c _ _ _ _ (by omega),h3,putK_app t _ _ _ _ (by omega),h4,putK_app b _ _ _ _ (by omega),h5,putK_app d _ _ _ _ (by omega),h6,putK_app e _ _ _ _ (by omega),h7,putK_here _ _ _ h8 hv]
theorem SegL.put120 (h:SegL a m c t b d e a' m' c' d' y s e') (v:Int) (hv:U32 v):putK (seg a m c t b d e a' m' c' d' y s e') 120 v 4=seg a m c t b d e a' m' c' d' y (four v) e'∧SegL a m c t b d e a' m' c' d' y (four v) e':=by
 obtain⟨h1,h2,h3,h4,h5,h6,h7,h8,h9,h10,h11,h12,h13,h14⟩:=h;refine⟨?_,⟨h1,h2,h3,h4,h5,h6,h7,h8,h9,h10,h11,h12,four_len v,h14⟩⟩;unfold seg;rw[putK_app a _ _ _ _ (by omega),h1,putK_app m _ _ _ _ (by omega),h2,putK_app c _ _ _ _ (by omega),h3,putK_app t _ _ _ _ (by omega),h4,putK_app b _ _ _ _ (by omega),h5,putK_app d _ _ _ _ (by omega),h6,putK_app e _ _ _ _ (by omega),h7,putK_app a' _ _ _ _ (by omega),h8,putK_app m' _ _ _ _ (by omega),h9,putK_app c' _ _ _ _ (by omega),h10,putK_app d' _ _ _ _ (by omega),h11,putK_app y _ _ _ _ (by omega),h12,putK_here _ _ _ h13 hv]
theorem SegL.put124 (h:SegL a m c t b d e a' m' c' d' y s e') (v:Int) (hv:U32 v):putK (seg a m c t b d e a' m' c' d' y s e') 124 v 4=seg a m c t b d e a' m' c' d' y s (four v)∧SegL a m c t b d e a' m' c' d' y s (four v):=by
 obtain⟨h1,h2,h3,h4,h5,h6,h7,h8,h9,h10,h11,h12,h13,h14⟩:=h;refine⟨?_,⟨h1,h2,h3,h4,h5,h6,h7,h8,h9,h10,h11,h12,h13,four_len v⟩⟩;unfold seg;have:=putK_here e' [] v h14 hv;rw[List.append_nil,List.append_nil] at this;rw[putK_app a _ _ _ _ (by omega),h1,putK_app m _ _ _ _ (by omega),h2,putK_app c _ _ _ _ (by omega),h3,putK_app t _ _ _ _ (by omega),h4,putK_app b _ _ _ _ (by omega),h5,putK_app d _ _ _ _ (by omega),h6,putK_app e _ _ _ _ (by omega),h7,putK_app a' _ _ _ _ (by omega),h8,putK_app m' _ _ _ _ (by omega),h9,putK_app c' _ _ _ _ (by omega),h10,putK_app d' _ _ _ _ (by omega),h11,putK_app y _ _ _ _ (by omega),h12,putK_app s _ _ _ _ (by omega),h13,this]
theorem set_skip (A L:List Int) (p:Nat) (x:Int) (h:A.length≤p):(A++L).set p x=A++L.set (p-A.length) x:=List.set_append_right p x h
theorem set_in (A L:List Int) (p:Nat) (x:Int) (h:p<A.length):(A++L).set p x=A.set p x++L:=List.set_append_left p x h
theorem SegL.setM (h:SegL a m c t b d e a' m' c' d' y s e') (j:Nat) (hj:j<2) (x:Int):(seg a m c t b d e a' m' c' d' y s e').set (4+j) x=seg a (m.set j x) c t b d e a' m' c' d' y s e'∧SegL a (m.set j x) c t b d e a' m' c' d' y s e':=by
 obtain⟨h1,h2,h3,h4,h5,h6,h7,h8,h9,h10,h11,h12,h13,h14⟩:=h;refine⟨?_,⟨h1,by simpa using h2,h3,h4,h5,h6,h7,h8,h9,h10,h11,h12,h13,h14⟩⟩;unfold seg;rw[set_skip a _ _ _ (by omega),h1,show 4+j-4=j by omega,set_in _ _ _ _ (by omega)]
theorem SegL.setC (h:SegL a m c t b d e a' m' c' d' y s e') (j:Nat) (hj:j<2) (x:Int):(seg a m c t b d e a' m' c' d' y s e').set (6+j) x=seg a m (c.set j x) t b d e a' m' c' d' y s e'∧SegL a m (c.set j x) t b d e a' m' c' d' y s e':=by
 obtain⟨h1,h2,h3,h4,h5,h6,h7,h8,h9,h10,h11,h12,h13,h14⟩:=h;refine⟨?_,⟨h1,h2,by simpa using h3,h4,h5,h6,h7,h8,h9,h10,h11,h12,h13,h14⟩⟩;unfold seg;rw[set_skip a _ _ _ (by omega),h1,set_skip m _ _ _ (by omega),h2,show 6+j-4-2=j by omega,set_in _ _ _ _ (by omega)]
theorem SegL.setD (h:SegL a m c t b d e a' m' c' d' y s e') (j:Nat) (hj:j<16) (x:Int):(seg a m c t b d e a' m' c' d' y s e').set (44+j) x=seg a m c t b (d.set j x) e a' m' c' d' y s e'∧SegL a m c t b (d.set j x) e a' m' c' d' y s e':=by
 obtain⟨h1,h2,h3,h4,h5,h6,h7,h8,h9,h10,h11,h12,h13,h14⟩:=h;refine⟨?_,⟨h1,h2,h3,h4,h5,by simpa using h6,h7,h8,h9,h10,h11,h12,h13,h14⟩⟩;unfold seg;rw[set_skip a _ _ _ (by omega),h1,set_skip m _ _ _ (by omega),h2,set_skip c _ _ _ (by omega),h3,set_skip t _ _ _ (by omega),h4,set_skip b _ _ _ (by omega),h5,show 44+j-4-2-2-4-32=j by omega,set_in _ _ _ _ (by omega)]
theorem SegL.setM' (h:SegL a m c t b d e a' m' c' d' y s e') (j:Nat) (hj:j<2) (x:Int):(seg a m c t b d e a' m' c' d' y s e').set (68+j) x=seg a m c t b d e a' (m'.set j x) c' d' y s e'∧SegL a m c t b d e a' (m'.set j x) c' d' y s e':=by
 obtain⟨h1,h2,h3,h4,h5,h6,h7,h8,h9,h10,h11,h12,h13,h14⟩:=h;refine⟨?_,⟨h1,h2,h3,h4,h5,h6,h7,h8,by simpa using h9,h10,h11,h12,h13,h14⟩⟩;unfold seg;rw[set_skip a _ _ _ (by omega),h1,set_skip m _ _ _ (by omega),h2,set_skip c _ _ _ (by omega),h3,set_skip t _ _ _ (by omega),h4,set_skip b _ _ _ (by omega),h5,set_skip d _ _ _ (by omega),h6,set_skip e _ _ _ (by omega),h7,set_skip a' _ _ _ (by omega),h8,show 68+j-4-2-2-4-32-16-4-4=j by omega,set_in _ _ _ _ (by omega)]
theorem SegL.setD' (h:SegL a m c t b d e a' m' c' d' y s e') (j:Nat) (hj:j<16) (x:Int):(seg a m c t b d e a' m' c' d' y s e').set (72+j) x=seg a m c t b d e a' m' c' (d'.set j x) y s e'∧SegL a m c t b d e a' m' c' (d'.set j x) y s e':=by
 obtain⟨h1,h2,h3,h4,h5,h6,h7,h8,h9,h10,h11,h12,h13,h14⟩:=h;refine⟨?_,⟨h1,h2,h3,h4,h5,h6,h7,h8,h9,h10,by simpa using h11,h12,h13,h14⟩⟩;unfold seg;rw[set_skip a _ _ _ (by omega),h1,set_skip m _ _ _ (by omega),h2,set_skip c _ _ _ (by omega),h3,set_skip t _ _ _ (by omega),h4,set_skip b _ _ _ (by omega),h5,set_skip d _ _ _ (by omega),h6,set_skip e _ _ _ (by omega),h7,set_skip a' _ _ _ (by omega),h8,set_skip m' _ _ _ (by omega),h9,set_skip c' _ _ _ (by omega),h10,show 72+j-4-2-2-4-32-16-4-4-2-2=j by omega,set_in _ _ _ _ (by omega)]
theorem SegL.putB (h:SegL a m c t b d e a' m' c' d' y s e') (bs:List Int) (hb:bs.length=32):(seg a m c t b d e a' m' c' d' y s e').take 12++(bs++(seg a m c t b d e a' m' c' d' y s e').drop 44)=seg a m c t bs d e a' m' c' d' y s e'∧SegL a m c t bs d e a' m' c' d' y s e':=by
 obtain⟨h1,h2,h3,h4,h5,h6,h7,h8,h9,h10,h11,h12,h13,h14⟩:=h;refine⟨?_,⟨h1,h2,h3,h4,hb,h6,h7,h8,h9,h10,h11,h12,h13,h14⟩⟩;unfold seg;simp[List.take_append,List.drop_append,h1,h2,h3,h4,h5];rw[List.take_of_length_le (by omega:a.length≤12),List.take_of_length_le (by omega:m.length≤8),List.take_of_length_le (by omega:c.length≤6),List.drop_eq_nil_of_le (by omega:a.length≤44),List.drop_eq_nil_of_le (by omega:m.length≤40),List.drop_eq_nil_of_le (by omega:c.length≤38),List.drop_eq_nil_of_le (by omega:t.length≤36)];simp
end
theorem den_put (D:List Int) (f i:Nat) (hi:i<D.length) (hf:f≤i) (hf8:i<f+8) (hd:D.getD i 0%256=D.getD i 0∧D.getD i 0/256%256=0) :
  ((denL (D.take i) f 8).set (2*(i-f)) (D.getD i 0%256)).set (2*(i-f)+1) (D.getD i 0/256%256)=denL (D.take (i+1)) f 8:=by
 rw[hd.1,hd.2];obtain⟨j,rfl⟩:∃ j,i=f+j:=⟨i-f,by omega⟩
 have hg:∀ q,q≤j→j<q+8→True:=fun _ _ _=>trivial
 have hj:j<8:=by omega
 have hx:∀ q,den2 (D.take (f+j+1)) (f+q)=if q=j then [D.getD (f+j) 0,0] else den2 (D.take (f+j)) (f+q):=by
  intro q;unfold den2;by_cases hq:q=j
  ·subst hq;have:f+q<(D.take (f+q+1)).length:=by simp;omega
   simp only[this,if_true];simp[List.getD]
  ·simp only[hq,if_false,List.length_take];by_cases h1:f+q<min (f+j) D.length
   ·have h2:f+q<min (f+j+1) D.length:=by omega
    simp only[h1,h2,if_true];simp[List.getD,show f+q<f+j by omega,show f+q<f+j+1 by omega]
   ·have h2:¬ f+q<min (f+j+1) D.length:=by omega
    simp only[h1,h2,if_false]
 have ho:den2 (D.take (f+j)) (f+j)=[0,0]:=by unfold den2;rw[if_neg (by simp;omega)]
 have hE:denL (D.take (f+j+1)) f 8=((List.range 8).map (fun q=>if q=j then [D.getD (f+j) 0,0] else den2 (D.take (f+j)) (f+q))).flatten:=by
  unfold denL;congr 1;exact List.map_congr_left fun q _=>hx q
 rw[hE,show f+j-f=j by omega];unfold denL;have l2:∀ q,∃ x y,den2 (D.take (f+j)) (f+q)=[x,y]:=fun q=>by unfold den2;split<;>exact⟨_,_,rfl⟩
 obtain⟨x0,y0,e0⟩:=l2 0;obtain⟨x1,y1,e1⟩:=l2 1;obtain⟨x2,y2,e2⟩:=l2 2;obtain⟨x3,y3,e3⟩:=l2 3;obtain⟨x4,y4,e4⟩:=l2 4;obtain⟨x5,y5,e5⟩:=l2 5;obtain⟨x6,y6,e6⟩:=l2 6;obtain⟨x7,y7,e7⟩:=l2 7;simp only[show List.range 8=[0,1,2,3,4,5,6,7] from rfl,List.map_cons,List.map_nil,e0,e1,e2,e3,e4,e5,e6,e7];obtain rfl|rfl|rfl|rfl|rfl|rfl|rfl|rfl:j=0∨j=1∨j=2∨j=3∨j=4∨j=5∨j=6∨j=7:=by omega
 all_goals simp
theorem seg_end (gn tl:Int) (D U:List Int) (s:List Int) :
  (seg (four gn) [83,49] [(D.length:Int),0] (four tl) (bitsL U 32) (denL D 0 8) (four gn) (four gn) [83,50] [0,0] (denL D 8 8) (List.replicate 32 0) (four (crc ((seg (four gn) [83,49] [(D.length:Int),0] (four tl) (bitsL U 32) (denL D 0 8) (four gn) (four gn) [83,50] [0,0] (denL D 8 8) (List.replicate 32 0) s (four gn)).take 120))) (four gn))=snL gn tl D U:=by
 have hb:(seg (four gn) [83,49] [(D.length:Int),0] (four tl) (bitsL U 32) (denL D 0 8) (four gn) (four gn) [83,50] [0,0] (denL D 8 8) (List.replicate 32 0) s (four gn)).take 120=([([four gn,[83,49],[(D.length:Int),0],four tl,bitsL U 32,denL D 0 8,four gn]).flatten,([four gn,[83,50],[0,0],denL D 8 8,List.replicate 32 0]:List (List Int)).flatten]:List (List Int)).flatten:=by
  have hl:=BODY_len (gn:=gn) (tl:=tl) (D:=D) (U:=U) (nD:=D.length);rw[←hl];refine Eq.trans (congrArg (List.take _) (a₂:=(([([four gn,[83,49],[(D.length:Int),0],four tl,bitsL U 32,denL D 0 8,four gn]).flatten,([four gn,[83,50],[0,0],denL D 8 8,List.replicate 32 0]:List (List Int)).flatten]:List (List Int)).flatten++(s++four gn))) ?_) (List.take_left ..);unfold seg;simp only[List.flatten_cons,List.flatten_nil,List.append_nil,List.append_assoc]
 rw[hb];unfold snL seg;simp only[List.flatten_cons,List.flatten_nil,List.append_nil,List.append_assoc]
structure EN (w wr:World) (zs:List Int):Prop where
 below:Below w.heap.size w wr
 rb:wr.heap[w.heap.size]?=some (.cells Tryz.zeroCells73 73 (0,0))
 row:Row wr (w.heap.size+1) 73 zs
theorem EN.low {w wr w':World} {zs:List Int} (h:EN w wr zs) (b:Below wr.heap.size wr w'):EN w w' zs:=
 ⟨h.below.trans (b.mono h.below.size),by rw[b.block _ (Array.getElem?_eq_some_iff.1 h.rb).1];exact h.rb,h.row.low b h.row.lt⟩
theorem EN.wr {w wr w':World} {zs zs':List Int} (h:EN w wr zs) (hw:Wr (w.heap.size+1) wr w') (hr:Row w' (w.heap.size+1) 73 zs'):EN w w' zs':=
 ⟨h.below.trans (hw.below (by omega)),by rw[hw.block _ (by omega)];exact h.rb,hr⟩
theorem EN.drew {w wr:World} {zs:List Int} (h:EN w wr zs):EN w wr.drew zs:=⟨⟨h.below.os,h.below.tape,h.below.output,h.below.size,h.below.block⟩,h.rb,h.row⟩
theorem EN.set {w wr:World} {zs zs':List Int} (h:EN w wr zs) {o:Nat} {x:Int} (e:zs.set o x=zs'):EN w (wr.setCell ⟨w.heap.size+1,o,none⟩ (.int .u8 x)) zs':=
 h.wr ((Wr.refl _ _).setCell _ _) (e ▸ h.row.set o x)
theorem EN.oth {w wr w':World} {zs:List Int} {q:Nat} (h:EN w wr zs) (hw:Wr q wr w') (h1:q≠w.heap.size+1) (h2:q≠w.heap.size) (h3:w.heap.size≤q):EN w w' zs:=
 ⟨h.below.trans (hw.below h3),by rw[hw.block _ (Ne.symm h2)];exact h.rb,hw.row h.row (Ne.symm h1)⟩
theorem denL_nil (f:Nat):denL [] f 8=List.replicate 16 0:=by simp[denL,den2,show List.range 8=[0,1,2,3,4,5,6,7] from rfl]
theorem den_out (D:List Int) (f i:Nat) (h:i<f∨f+8≤i):denL (D.take (i+1)) f 8=denL (D.take i) f 8:=by
 unfold denL;congr 1;refine List.map_congr_left fun q hq=>?_
 have hq8:q<8:=by simpa using hq
 unfold den2;simp only[List.length_take];by_cases h1:f+q<min i D.length
 ·have h2:f+q<min (i+1) D.length:=by omega
  simp only[h1,h2,if_true];simp[List.getD,show f+q<i by omega,show f+q<i+1 by omega]
 ·have h2:¬ f+q<min (i+1) D.length:=by omega
  simp only[h1,h2,if_false]
theorem zcS:Tryz.zeroCells73=((List.replicate 128 (0:Int)).map (Value.int .u8)).toArray:=by kernel_rfl
theorem EN.start (w:World):EN w ((w.alloc (.cells Tryz.zeroCells73 73)).alloc (.cells Tryz.zeroCells73 73)) (seg (List.replicate 4 0) [0,0] [0,0] (List.replicate 4 0) (List.replicate 32 0) (List.replicate 16 0) (List.replicate 4 0) (List.replicate 4 0) [0,0] [0,0] (List.replicate 16 0) (List.replicate 32 0) (List.replicate 4 0) (List.replicate 4 0)):=by
 refine⟨((Below.refl _ _).alloc (Nat.le_refl _) _).alloc (by simp) _,?_,?_⟩
 ·rw[Below.heap_alloc _ _ w.heap.size (by simp)];exact heap_alloc_new w _
 ·have:=heap_alloc_new (w.alloc (.cells Tryz.zeroCells73 73)) (.cells Tryz.zeroCells73 73);rw[show(w.alloc (.cells Tryz.zeroCells73 73)).heap.size=w.heap.size+1 by simp] at this;unfold Row;rw[this,←seg_zero,←zcS]
def encY (gn:Int):Nat→List Int
 |0=>seg (List.replicate 4 0) [0,0] [0,0] (List.replicate 4 0) (List.replicate 32 0) (List.replicate 16 0) (List.replicate 4 0) (List.replicate 4 0) [0,0] [0,0] (List.replicate 16 0) (List.replicate 32 0) (List.replicate 4 0) (List.replicate 4 0)
 |1=>seg (four gn) [83,49] [0,0] (List.replicate 4 0) (List.replicate 32 0) (List.replicate 16 0) (four gn) (List.replicate 4 0) [0,0] [0,0] (List.replicate 16 0) (List.replicate 32 0) (List.replicate 4 0) (List.replicate 4 0)
 |_=>seg (four gn) [83,49] [0,0] (List.replicate 4 0) (List.replicate 32 0) (List.replicate 16 0) (four gn) (four gn) [83,50] [0,0] (List.replicate 16 0) (List.replicate 32 0) (List.replicate 4 0) (four gn)
set_option maxRecDepth 100000 in
set_option maxHeartbeats 8000000 in
theorem encd_any (h:Nat) (gn tl:Int) (aD aU:Option Addr) (nD cD nU cU:Nat) (D U:List Int) (w:World) (hh:h<w.heap.size) (c0:w.cell? ⟨h,0,none⟩=some (.int .u32 gn)) (c1:w.cell? ⟨h,1,none⟩=some (.int .u32 tl)) (c2:w.cell? ⟨h,2,none⟩=some (.slice aD nD cD)) (c3:w.cell? ⟨h,3,none⟩=some (.slice aU nU cU))
  (hD:D.length=nD) (hU:U.length=nU) (mD:nD≤1048576) (mU:nU≤1048576) (haD:At .i64 w aD D) (haU:At .i64 w aU U) (ug:U32 gn) (ut:U32 tl) (hs:SnP gn tl D U) :
  Calls Tryz.prog 25 #[.pointer (some ⟨h,0,none⟩)] w fun e w'=>e=.returned (.agg ((snL gn tl D U).map (Value.int .u8)).toArray)∧Below w.heap.size w w':=by
 have HC:Hid (h<w.heap.size∧w.cell? ⟨h,0,none⟩=some (.int .u32 gn)∧w.cell? ⟨h,1,none⟩=some (.int .u32 tl)∧w.cell? ⟨h,2,none⟩=some (.slice aD nD cD)∧w.cell? ⟨h,3,none⟩=some (.slice aU nU cU)):=⟨hh,c0,c1,c2,c3⟩
 have HA:Hid (At .i64 w aD D∧At .i64 w aU U):=⟨haD,haU⟩
 have HL:Hid (D.length=nD∧U.length=nU):=⟨hD,hU⟩
 have HU:Hid (U32 gn∧U32 tl):=⟨ug,ut⟩
 have HP:Hid (SnP gn tl D U):=hs;have HE0:=hid_of (EN.start w);have hnd:(nD:Int)%256=nD:=by have:=hs.2.2.2.2.1;omega
 clear haD haU hD hU hs ug ut hh c0 c1 c2 c3;go_enter Tryz.func25,Tryz.ntmps25;go_wp2_with fail;generalize ((w.alloc (.cells Tryz.zeroCells73 73)).alloc (.cells Tryz.zeroCells73 73))=w0 at *
 go_loopw [10] (fun i wr=>∃ k:Nat,k≤2∧i=.int .i64 k∧Hid (EN w wr (encY gn k))) (fun i _=>2-(intOf i).toNat)
 case atStart=>exact⟨0,by decide,rfl,HE0.out⟩
 case round=>
  obtain⟨k,hk,rfl,hrel⟩:=hrel;clear HE0;obtain rfl|rfl|rfl:k=0∨k=1∨k=2:=by omega
  ·have HE:Hid (EN w wr (seg (List.replicate 4 0) [0,0] [0,0] (List.replicate 4 0) (List.replicate 32 0) (List.replicate 16 0) (List.replicate 4 0) (List.replicate 4 0) [0,0] [0,0] (List.replicate 16 0) (List.replicate 32 0) (List.replicate 4 0) (List.replicate 4 0))):=hrel;clear hrel;go_wp2_with fail;refine wp_region_any (by kernel_rfl) ?_;refine wpAny_slotsU (fun _ _ _=>True) (frame:=(fun (a b c d e f g h i j k l m n o p q r s u v w x y z A B C D E F G H I J K L M N O P Q R S T U V W X Y Z a0 a1 a2 a3 a4 a5 a6 a7 a8 a9 b0 b1 b2 b3 b4 b5 b6 b7 b8 b9 c0 c1 c2 c3 c4 c5 c6 c7 c8 c9 d0:Value)=>fun (t:Nat→Value)=>({ tmps:=List.toArray [a,b,c,d,e,f,g,h,i,j,k,l,m,t 0,t 1,t 2,t 3,t 4,t 5,t 6,n,o,p,q,r,s,u,v,w,x,y,z,A,B,C,D,E,F,G,H,I,J,K,L,M,N,O,P,Q,R,S,T,U,V,W,X,Y,Z,a0,a1,a2,a3,a4,a5,a6,a7,a8,a9,b0,b1,b2,b3,b4,b5,b6,b7,b8,b9,c0,c1,c2,c3,c4,c5,c6,c7,c8,c9,d0],defers:=[] }:Act)) _ _ _ _ _ _ _ _ _ _ _ _ _ _ _ _ _ _ _ _ _ _ _ _ _ _ _ _ _ _ _ _ _ _ _ _ _ _ _ _ _ _ _ _ _ _ _ _ _ _ _ _ _ _ _ _ _ _ _ _ _ _ _ _ _ _ _ _ _ _ _ _ _ _ _ _ _ _ _ _ _ _)
    (Ext:=fun L u w'=>if L 6=true then EN w w' (seg (four gn) [0,0] [0,0] (List.replicate 4 0) (List.replicate 32 0) (List.replicate 16 0) (List.replicate 4 0) (List.replicate 4 0) [0,0] [0,0] (List.replicate 16 0) (List.replicate 32 0) (List.replicate 4 0) (List.replicate 4 0)) else EN w w' (seg (List.replicate 4 0) [0,0] [0,0] (List.replicate 4 0) (List.replicate 32 0) (List.replicate 16 0) (List.replicate 4 0) (List.replicate 4 0) [0,0] [0,0] (List.replicate 16 0) (List.replicate 32 0) (List.replicate 4 0) (List.replicate 4 0))) (Good:=fun i L w' v=>if i=0 then v=.int .i64 0 else if i=1 then v=.pointer (some ⟨w.heap.size+1,0,none⟩) else if i=2 then v=.pointer (some ⟨h,0,none⟩) else if i=3 then v=.pointer (some ⟨h,0,none⟩) else if i=4 then v=.pointer (some ⟨h,0,none⟩) else if i=5 then v=.int .u32 gn else if i=6 then L 6=true else True) ?hstab (by kernel_rfl) ?hop ?hdone _ _ ((fun (x0 x1 x2 x3 x4 x5 x6:Value)=>fun (i:Nat)=>if i=0 then x0 else if i=1 then x1 else if i=2 then x2 else if i=3 then x3 else if i=4 then x4 else if i=5 then x5 else if i=6 then x6 else undef) _ _ _ _ _ _ _) _ (by simp) ?ext ?start (by simp)
   case start=>intro i hi h;exact absurd h (by rw[Array.getD_eq_getD_getElem?,Array.getElem?_replicate];split<;>simp)
   case ext=>
    rw[if_neg (by show ¬ (Array.getD _ _ _=true);rw[Array.getD_eq_getD_getElem?,Array.getElem?_replicate];split<;>simp)];exact HE.out.drew
   case hstab=>
    intro j L w9 w' i v hM hij hLi h;by_cases hl:j=6
    ·subst hl;simp at h ⊢;unfold updK;simp[h]
    ·simp only[if_neg hl] at h ⊢;exact h
   case hop=>
    intro i o L t w' ho hLi hx hdep K hK;have hi:i<7:=(Array.getElem?_eq_some_iff.1 ho).1;obtain rfl|rfl|rfl|rfl|rfl|rfl|rfl:i=0∨i=1∨i=2∨i=3∨i=4∨i=5∨i=6:=by omega
    all_goals(simp at ho;subst ho)
    ·clear hdep;have hK':=hK w' (.int .i64 0) (by simp) (by simpa[updK] using hx) trivial;clear hK;rw[if_pos (by rfl)];go_simp;simpa[upd] using hK'
    ·have d0:t 0=.int .i64 0:=by simpa using(hdep ⟨0,.data⟩ (by simp) rfl).2
     clear hdep;have hK':=hK w' (.pointer (some ⟨w.heap.size+1,0,none⟩)) (by simp) (by simpa[updK] using hx) trivial;clear hK;rw[if_pos (by rfl)];go_simp;simpa[upd,d0] using hK'
    ·clear hdep;have hK':=hK w' (.pointer (some ⟨h,0,none⟩)) (by simp) (by simpa[updK] using hx) trivial;clear hK;rw[if_pos (by rfl)];go_simp;simpa[upd] using hK'
    ·have d2:t 2=.pointer (some ⟨h,0,none⟩):=by simpa using(hdep ⟨2,.data⟩ (by simp) rfl).2
     clear hdep;have hK':=hK w' (.pointer (some ⟨h,0,none⟩)) (by simp) (by simpa[updK] using hx) trivial;clear hK;rw[if_pos (by rfl)];go_simp;simpa[upd,d2] using hK'
    ·have d3:t 3=.pointer (some ⟨h,0,none⟩):=by simpa using(hdep ⟨3,.data⟩ (by simp) rfl).2
     clear hdep;have hK':=hK w' (.pointer (some ⟨h,0,none⟩)) (by simp) (by simpa[updK] using hx) trivial;clear hK;rw[if_pos (by rfl)];go_simp;simpa[upd,d3] using hK'
    ·have d4:t 4=.pointer (some ⟨h,0,none⟩):=by simpa using(hdep ⟨4,.data⟩ (by simp) rfl).2
     clear hdep;have hbb:Below w.heap.size w w':=by split at hx<;>exact hx.below
     have cc:w'.cell? ⟨h,0,none⟩=some (.int .u32 gn):=(hbb.cell (p:=⟨h,0,none⟩) HC.out.1).trans HC.out.2.1;clear hbb;have hK':=hK w' (.int .u32 gn) (by simp) (by simpa[updK] using hx) trivial;clear hK;rw[if_pos (by rfl)];go_simp;simpa[upd,d4] using hK'
    ·have d1:t 1=.pointer (some ⟨w.heap.size+1,0,none⟩):=by simpa using(hdep ⟨1,.data⟩ (by simp) rfl).2
     have d5:t 5=.int .u32 gn:=by simpa using(hdep ⟨5,.data⟩ (by simp) rfl).2
     clear hdep;rw[hLi,if_neg (by decide)] at hx;have hL:SegL (List.replicate 4 0) [0,0] [0,0] (List.replicate 4 0) (List.replicate 32 0) (List.replicate 16 0) (List.replicate 4 0) (List.replicate 4 0) [0,0] [0,0] (List.replicate 16 0) (List.replicate 32 0) (List.replicate 4 0) (List.replicate 4 0):=by constructor<;>simp
     have A:=setNo_any (w.heap.size+1) 0 73 0 gn _ w' hx.row (by rw[hL.len];decide) (by decide) HU.out.1;rw[show 0+0=0 from rfl,(hL.put0 gn HU.out.1).1] at A;have hK':∀ ww,Row ww (w.heap.size+1) 73 (seg (four gn) [0,0] [0,0] (List.replicate 4 0) (List.replicate 32 0) (List.replicate 16 0) (List.replicate 4 0) (List.replicate 4 0) [0,0] [0,0] (List.replicate 16 0) (List.replicate 32 0) (List.replicate 4 0) (List.replicate 4 0))→Wr (w.heap.size+1) w' ww→K _ ww:=fun ww h1 h2=>hK ww (.tuple #[]) (by simp[updK]) (by rw[if_pos (by simp[updK])];exact hx.wr h2 h1) trivial
     clear hK hx hL;rw[if_pos (by rfl)];go_simp;try simp only[d1,d5]
     refine A.mono ?_;rintro e w9 ⟨rfl,hr9,hw9⟩;have hK2:=hK' w9 hr9 hw9;clear hK' A hr9 hw9;go_simp;simpa[upd,d1,d5] using hK2
   case hdone=>
    intro L t w2 hx hg;have hlast:L 6=true:=by simpa using hg 6 (by decide)
    rw[if_pos hlast] at hx;clear hg hlast;have HE2:Hid (EN w w2 (seg (four gn) [0,0] [0,0] (List.replicate 4 0) (List.replicate 32 0) (List.replicate 16 0) (List.replicate 4 0) (List.replicate 4 0) [0,0] [0,0] (List.replicate 16 0) (List.replicate 32 0) (List.replicate 4 0) (List.replicate 4 0))):=hx;clear hx;have hL1:SegL (four gn) [0,0] [0,0] (List.replicate 4 0) (List.replicate 32 0) (List.replicate 16 0) (List.replicate 4 0) (List.replicate 4 0) [0,0] [0,0] (List.replicate 16 0) (List.replicate 32 0) (List.replicate 4 0) (List.replicate 4 0):=by constructor<;>simp[four]
    have hL2:SegL (four gn) [83,0] [0,0] (List.replicate 4 0) (List.replicate 32 0) (List.replicate 16 0) (List.replicate 4 0) (List.replicate 4 0) [0,0] [0,0] (List.replicate 16 0) (List.replicate 32 0) (List.replicate 4 0) (List.replicate 4 0):=by constructor<;>simp[four]
    have cc4:=HE2.out.row.cell 4 (by rw[hL1.len];decide);have cf4:=HE2.out.row.frozen 4;have HE3:Hid (EN w (w2.setCell ⟨w.heap.size+1,4,none⟩ (.int .u8 83)) (seg (four gn) [83,0] [0,0] (List.replicate 4 0) (List.replicate 32 0) (List.replicate 16 0) (List.replicate 4 0) (List.replicate 4 0) [0,0] [0,0] (List.replicate 16 0) (List.replicate 32 0) (List.replicate 4 0) (List.replicate 4 0))):=HE2.out.set (hL1.setM 0 (by decide) 83).1;have cc5:=HE3.out.row.cell 5 (by rw[hL2.len];decide);have cf5:=HE3.out.row.frozen 5;have HE5:Hid (EN w ((w2.setCell ⟨w.heap.size+1,4,none⟩ (.int .u8 83)).setCell ⟨w.heap.size+1,5,none⟩ (.int .u8 49)) (seg (four gn) [83,49] [0,0] (List.replicate 4 0) (List.replicate 32 0) (List.replicate 16 0) (List.replicate 4 0) (List.replicate 4 0) [0,0] [0,0] (List.replicate 16 0) (List.replicate 32 0) (List.replicate 4 0) (List.replicate 4 0))):=HE3.out.set (hL2.setM 1 (by decide) 49).1;clear hL1 hL2;go_wp2_with fail;clear cc4 cf4 cc5 cf5 HE2 HE3;generalize ((w2.setCell ⟨w.heap.size+1,4,none⟩ (.int .u8 83)).setCell ⟨w.heap.size+1,5,none⟩ (.int .u8 49))=w5 at *;refine wp_region_any (by kernel_rfl) ?_;refine wpAny_slotsU (fun _ _ _=>True) (frame:=(fun (a b c d e f g h i j k l m n o p q r s u v w x y z A B C D E F G H I J K L M N O P Q R S T U V W X Y Z a0 a1 a2 a3 a4 a5 a6 a7 a8 a9 b0 b1 b2 b3 b4 b5 b6 b7 b8 b9 c0 c1 c2 c3 c4 c5 c6 c7 c8 c9 d0:Value)=>fun (t:Nat→Value)=>({ tmps:=List.toArray [a,b,c,d,e,f,g,h,i,j,k,l,m,n,o,p,q,r,s,u,v,w,x,y,z,A,B,C,D,t 0,t 1,t 2,t 3,t 4,t 5,t 6,E,F,G,H,I,J,K,L,M,N,O,P,Q,R,S,T,U,V,W,X,Y,Z,a0,a1,a2,a3,a4,a5,a6,a7,a8,a9,b0,b1,b2,b3,b4,b5,b6,b7,b8,b9,c0,c1,c2,c3,c4,c5,c6,c7,c8,c9,d0],defers:=[] }:Act)) _ _ _ _ _ _ _ _ _ _ _ _ _ _ _ _ _ _ _ _ _ _ _ _ _ _ _ _ _ _ _ _ _ _ _ _ _ _ _ _ _ _ _ _ _ _ _ _ _ _ _ _ _ _ _ _ _ _ _ _ _ _ _ _ _ _ _ _ _ _ _ _ _ _ _ _ _ _ _ _ _ _)
     (Ext:=fun L u w'=>if L 6=true then EN w w' (seg (four gn) [83,49] [0,0] (List.replicate 4 0) (List.replicate 32 0) (List.replicate 16 0) (four gn) (List.replicate 4 0) [0,0] [0,0] (List.replicate 16 0) (List.replicate 32 0) (List.replicate 4 0) (List.replicate 4 0)) else EN w w' (seg (four gn) [83,49] [0,0] (List.replicate 4 0) (List.replicate 32 0) (List.replicate 16 0) (List.replicate 4 0) (List.replicate 4 0) [0,0] [0,0] (List.replicate 16 0) (List.replicate 32 0) (List.replicate 4 0) (List.replicate 4 0))) (Good:=fun i L w' v=>if i=0 then v=.int .i64 0 else if i=1 then v=.pointer (some ⟨w.heap.size+1,0,none⟩) else if i=2 then v=.pointer (some ⟨h,0,none⟩) else if i=3 then v=.pointer (some ⟨h,0,none⟩) else if i=4 then v=.pointer (some ⟨h,0,none⟩) else if i=5 then v=.int .u32 gn else if i=6 then L 6=true else True) ?hstab (by kernel_rfl) ?hop ?hdone _ _ ((fun (x0 x1 x2 x3 x4 x5 x6:Value)=>fun (i:Nat)=>if i=0 then x0 else if i=1 then x1 else if i=2 then x2 else if i=3 then x3 else if i=4 then x4 else if i=5 then x5 else if i=6 then x6 else undef) _ _ _ _ _ _ _) _ (by simp) ?ext ?start (by simp)
    case start=>intro i hi h;exact absurd h (by rw[Array.getD_eq_getD_getElem?,Array.getElem?_replicate];split<;>simp)
    case ext=>
     rw[if_neg (by show ¬ (Array.getD _ _ _=true);rw[Array.getD_eq_getD_getElem?,Array.getElem?_replicate];split<;>simp)];exact HE5.out.drew
    case hstab=>
     intro j L w9 w' i v hM hij hLi h;by_cases hl:j=6
     ·subst hl;simp at h ⊢;unfold updK;simp[h]
     ·simp only[if_neg hl] at h ⊢;exact h
    case hop=>
     intro i o L t w' ho hLi hx hdep K hK;have hi:i<7:=(Array.getElem?_eq_some_iff.1 ho).1;obtain rfl|rfl|rfl|rfl|rfl|rfl|rfl:i=0∨i=1∨i=2∨i=3∨i=4∨i=5∨i=6:=by omega
     all_goals(simp at ho;subst ho)
     ·clear hdep;have hK':=hK w' (.int .i64 0) (by simp) (by simpa[updK] using hx) trivial;clear hK;rw[if_pos (by rfl)];go_simp;simpa[upd] using hK'
     ·have d0:t 0=.int .i64 0:=by simpa using(hdep ⟨0,.data⟩ (by simp) rfl).2
      clear hdep;have hK':=hK w' (.pointer (some ⟨w.heap.size+1,0,none⟩)) (by simp) (by simpa[updK] using hx) trivial;clear hK;rw[if_pos (by rfl)];go_simp;simpa[upd,d0] using hK'
     ·clear hdep;have hK':=hK w' (.pointer (some ⟨h,0,none⟩)) (by simp) (by simpa[updK] using hx) trivial;clear hK;rw[if_pos (by rfl)];go_simp;simpa[upd] using hK'
     ·have d2:t 2=.pointer (some ⟨h,0,none⟩):=by simpa using(hdep ⟨2,.data⟩ (by simp) rfl).2
      clear hdep;have hK':=hK w' (.pointer (some ⟨h,0,none⟩)) (by simp) (by simpa[updK] using hx) trivial;clear hK;rw[if_pos (by rfl)];go_simp;simpa[upd,d2] using hK'
     ·have d3:t 3=.pointer (some ⟨h,0,none⟩):=by simpa using(hdep ⟨3,.data⟩ (by simp) rfl).2
      clear hdep;have hK':=hK w' (.pointer (some ⟨h,0,none⟩)) (by simp) (by simpa[updK] using hx) trivial;clear hK;rw[if_pos (by rfl)];go_simp;simpa[upd,d3] using hK'
     ·have d4:t 4=.pointer (some ⟨h,0,none⟩):=by simpa using(hdep ⟨4,.data⟩ (by simp) rfl).2
      clear hdep;have hbb:Below w.heap.size w w':=by split at hx<;>exact hx.below
      have cc:w'.cell? ⟨h,0,none⟩=some (.int .u32 gn):=(hbb.cell (p:=⟨h,0,none⟩) HC.out.1).trans HC.out.2.1;clear hbb;have hK':=hK w' (.int .u32 gn) (by simp) (by simpa[updK] using hx) trivial;clear hK;rw[if_pos (by rfl)];go_simp;simpa[upd,d4] using hK'
     ·have d1:t 1=.pointer (some ⟨w.heap.size+1,0,none⟩):=by simpa using(hdep ⟨1,.data⟩ (by simp) rfl).2
      have d5:t 5=.int .u32 gn:=by simpa using(hdep ⟨5,.data⟩ (by simp) rfl).2
      clear hdep;rw[hLi,if_neg (by decide)] at hx;have hL:SegL (four gn) [83,49] [0,0] (List.replicate 4 0) (List.replicate 32 0) (List.replicate 16 0) (List.replicate 4 0) (List.replicate 4 0) [0,0] [0,0] (List.replicate 16 0) (List.replicate 32 0) (List.replicate 4 0) (List.replicate 4 0):=by constructor<;>simp[four]
      have A:=setNo_any (w.heap.size+1) 0 73 60 gn _ w' hx.row (by rw[hL.len];decide) (by decide) HU.out.1;rw[show 0+60=60 from rfl,(hL.put60 gn HU.out.1).1] at A;have hK':∀ ww,Row ww (w.heap.size+1) 73 (seg (four gn) [83,49] [0,0] (List.replicate 4 0) (List.replicate 32 0) (List.replicate 16 0) (four gn) (List.replicate 4 0) [0,0] [0,0] (List.replicate 16 0) (List.replicate 32 0) (List.replicate 4 0) (List.replicate 4 0))→Wr (w.heap.size+1) w' ww→K _ ww:=fun ww h1 h2=>hK ww (.tuple #[]) (by simp[updK]) (by rw[if_pos (by simp[updK])];exact hx.wr h2 h1) trivial
      clear hK hx hL;rw[if_pos (by rfl)];go_simp;try simp only[d1,d5]
      refine A.mono ?_;rintro e w9 ⟨rfl,hr9,hw9⟩;have hK2:=hK' w9 hr9 hw9;clear hK' A hr9 hw9;go_simp;simpa[upd,d1,d5] using hK2
    case hdone=>
     intro L t w4 hx hg;have hlast:L 6=true:=by simpa using hg 6 (by decide)
     rw[if_pos hlast] at hx;clear hg hlast;have HE4:=hid_of hx;clear hx;go_wp2_with fail;go_roundw
     case rel=>exact⟨1,by decide,by go_num,HE4.out⟩
     case measure=>simp[intOf]
  ·have HE:Hid (EN w wr (seg (four gn) [83,49] [0,0] (List.replicate 4 0) (List.replicate 32 0) (List.replicate 16 0) (four gn) (List.replicate 4 0) [0,0] [0,0] (List.replicate 16 0) (List.replicate 32 0) (List.replicate 4 0) (List.replicate 4 0))):=hrel;clear hrel;go_wp2_with fail;refine wp_region_any (by kernel_rfl) ?_;refine wpAny_slotsU (fun _ _ _=>True) (frame:=(fun (a b c d e f g h i j k l m n o p q r s u v w x y z A B C D E F G H I J K L M N O P Q R S T U V W X Y Z a0 a1 a2 a3 a4 a5 a6 a7 a8 a9 b0 b1 b2 b3 b4 b5 b6 b7 b8 b9 c0 c1 c2 c3 c4 c5 c6 c7 c8 c9 d0:Value)=>fun (t:Nat→Value)=>({ tmps:=List.toArray [a,b,c,d,e,f,g,h,i,j,k,l,m,t 0,t 1,t 2,t 3,t 4,t 5,t 6,n,o,p,q,r,s,u,v,w,x,y,z,A,B,C,D,E,F,G,H,I,J,K,L,M,N,O,P,Q,R,S,T,U,V,W,X,Y,Z,a0,a1,a2,a3,a4,a5,a6,a7,a8,a9,b0,b1,b2,b3,b4,b5,b6,b7,b8,b9,c0,c1,c2,c3,c4,c5,c6,c7,c8,c9,d0],defers:=[] }:Act)) _ _ _ _ _ _ _ _ _ _ _ _ _ _ _ _ _ _ _ _ _ _ _ _ _ _ _ _ _ _ _ _ _ _ _ _ _ _ _ _ _ _ _ _ _ _ _ _ _ _ _ _ _ _ _ _ _ _ _ _ _ _ _ _ _ _ _ _ _ _ _ _ _ _ _ _ _ _ _ _ _ _)
    (Ext:=fun L u w'=>if L 6=true then EN w w' (seg (four gn) [83,49] [0,0] (List.replicate 4 0) (List.replicate 32 0) (List.replicate 16 0) (four gn) (four gn) [0,0] [0,0] (List.replicate 16 0) (List.replicate 32 0) (List.replicate 4 0) (List.replicate 4 0)) else EN w w' (seg (four gn) [83,49] [0,0] (List.replicate 4 0) (List.replicate 32 0) (List.replicate 16 0) (four gn) (List.replicate 4 0) [0,0] [0,0] (List.replicate 16 0) (List.replicate 32 0) (List.replicate 4 0) (List.replicate 4 0))) (Good:=fun i L w' v=>if i=0 then v=.int .i64 1 else if i=1 then v=.pointer (some ⟨w.heap.size+1,64,none⟩) else if i=2 then v=.pointer (some ⟨h,0,none⟩) else if i=3 then v=.pointer (some ⟨h,0,none⟩) else if i=4 then v=.pointer (some ⟨h,0,none⟩) else if i=5 then v=.int .u32 gn else if i=6 then L 6=true else True) ?hstab (by kernel_rfl) ?hop ?hdone _ _ ((fun (x0 x1 x2 x3 x4 x5 x6:Value)=>fun (i:Nat)=>if i=0 then x0 else if i=1 then x1 else if i=2 then x2 else if i=3 then x3 else if i=4 then x4 else if i=5 then x5 else if i=6 then x6 else undef) _ _ _ _ _ _ _) _ (by simp) ?ext ?start (by simp)
   case start=>intro i hi h;exact absurd h (by rw[Array.getD_eq_getD_getElem?,Array.getElem?_replicate];split<;>simp)
   case ext=>
    rw[if_neg (by show ¬ (Array.getD _ _ _=true);rw[Array.getD_eq_getD_getElem?,Array.getElem?_replicate];split<;>simp)];exact HE.out.drew
   case hstab=>
    intro j L w9 w' i v hM hij hLi h;by_cases hl:j=6
    ·subst hl;simp at h ⊢;unfold updK;simp[h]
    ·simp only[if_neg hl] at h ⊢;exact h
   case hop=>
    intro i o L t w' ho hLi hx hdep K hK;have hi:i<7:=(Array.getElem?_eq_some_iff.1 ho).1;obtain rfl|rfl|rfl|rfl|rfl|rfl|rfl:i=0∨i=1∨i=2∨i=3∨i=4∨i=5∨i=6:=by omega
    all_goals(simp at ho;subst ho)
    ·clear hdep;have hK':=hK w' (.int .i64 1) (by simp) (by simpa[updK] using hx) trivial;clear hK;rw[if_pos (by rfl)];go_simp;simpa[upd] using hK'
    ·have d0:t 0=.int .i64 1:=by simpa using(hdep ⟨0,.data⟩ (by simp) rfl).2
     clear hdep;have hK':=hK w' (.pointer (some ⟨w.heap.size+1,64,none⟩)) (by simp) (by simpa[updK] using hx) trivial;clear hK;rw[if_pos (by rfl)];go_simp;simpa[upd,d0] using hK'
    ·clear hdep;have hK':=hK w' (.pointer (some ⟨h,0,none⟩)) (by simp) (by simpa[updK] using hx) trivial;clear hK;rw[if_pos (by rfl)];go_simp;simpa[upd] using hK'
    ·have d2:t 2=.pointer (some ⟨h,0,none⟩):=by simpa using(hdep ⟨2,.data⟩ (by simp) rfl).2
     clear hdep;have hK':=hK w' (.pointer (some ⟨h,0,none⟩)) (by simp) (by simpa[updK] using hx) trivial;clear hK;rw[if_pos (by rfl)];go_simp;simpa[upd,d2] using hK'
    ·have d3:t 3=.pointer (some ⟨h,0,none⟩):=by simpa using(hdep ⟨3,.data⟩ (by simp) rfl).2
     clear hdep;have hK':=hK w' (.pointer (some ⟨h,0,none⟩)) (by simp) (by simpa[updK] using hx) trivial;clear hK;rw[if_pos (by rfl)];go_simp;simpa[upd,d3] using hK'
    ·have d4:t 4=.pointer (some ⟨h,0,none⟩):=by simpa using(hdep ⟨4,.data⟩ (by simp) rfl).2
     clear hdep;have hbb:Below w.heap.size w w':=by split at hx<;>exact hx.below
     have cc:w'.cell? ⟨h,0,none⟩=some (.int .u32 gn):=(hbb.cell (p:=⟨h,0,none⟩) HC.out.1).trans HC.out.2.1;clear hbb;have hK':=hK w' (.int .u32 gn) (by simp) (by simpa[updK] using hx) trivial;clear hK;rw[if_pos (by rfl)];go_simp;simpa[upd,d4] using hK'
    ·have d1:t 1=.pointer (some ⟨w.heap.size+1,64,none⟩):=by simpa using(hdep ⟨1,.data⟩ (by simp) rfl).2
     have d5:t 5=.int .u32 gn:=by simpa using(hdep ⟨5,.data⟩ (by simp) rfl).2
     clear hdep;rw[hLi,if_neg (by decide)] at hx;have hL:SegL (four gn) [83,49] [0,0] (List.replicate 4 0) (List.replicate 32 0) (List.replicate 16 0) (four gn) (List.replicate 4 0) [0,0] [0,0] (List.replicate 16 0) (List.replicate 32 0) (List.replicate 4 0) (List.replicate 4 0):=by constructor<;>simp[four]
     have A:=setNo_any (w.heap.size+1) 64 73 0 gn _ w' hx.row (by rw[hL.len];decide) (by decide) HU.out.1;rw[show 64+0=64 from rfl,(hL.put64 gn HU.out.1).1] at A;have hK':∀ ww,Row ww (w.heap.size+1) 73 (seg (four gn) [83,49] [0,0] (List.replicate 4 0) (List.replicate 32 0) (List.replicate 16 0) (four gn) (four gn) [0,0] [0,0] (List.replicate 16 0) (List.replicate 32 0) (List.replicate 4 0) (List.replicate 4 0))→Wr (w.heap.size+1) w' ww→K _ ww:=fun ww h1 h2=>hK ww (.tuple #[]) (by simp[updK]) (by rw[if_pos (by simp[updK])];exact hx.wr h2 h1) trivial
     clear hK hx hL;rw[if_pos (by rfl)];go_simp;try simp only[d1,d5]
     refine A.mono ?_;rintro e w9 ⟨rfl,hr9,hw9⟩;have hK2:=hK' w9 hr9 hw9;clear hK' A hr9 hw9;go_simp;simpa[upd,d1,d5] using hK2
   case hdone=>
    intro L t w2 hx hg;have hlast:L 6=true:=by simpa using hg 6 (by decide)
    rw[if_pos hlast] at hx;clear hg hlast;have HE2:Hid (EN w w2 (seg (four gn) [83,49] [0,0] (List.replicate 4 0) (List.replicate 32 0) (List.replicate 16 0) (four gn) (four gn) [0,0] [0,0] (List.replicate 16 0) (List.replicate 32 0) (List.replicate 4 0) (List.replicate 4 0))):=hx;clear hx;have hL1:SegL (four gn) [83,49] [0,0] (List.replicate 4 0) (List.replicate 32 0) (List.replicate 16 0) (four gn) (four gn) [0,0] [0,0] (List.replicate 16 0) (List.replicate 32 0) (List.replicate 4 0) (List.replicate 4 0):=by constructor<;>simp[four]
    have hL2:SegL (four gn) [83,49] [0,0] (List.replicate 4 0) (List.replicate 32 0) (List.replicate 16 0) (four gn) (four gn) [83,0] [0,0] (List.replicate 16 0) (List.replicate 32 0) (List.replicate 4 0) (List.replicate 4 0):=by constructor<;>simp[four]
    have cc4:=HE2.out.row.cell 68 (by rw[hL1.len];decide);have cf4:=HE2.out.row.frozen 68;have HE3:Hid (EN w (w2.setCell ⟨w.heap.size+1,68,none⟩ (.int .u8 83)) (seg (four gn) [83,49] [0,0] (List.replicate 4 0) (List.replicate 32 0) (List.replicate 16 0) (four gn) (four gn) [83,0] [0,0] (List.replicate 16 0) (List.replicate 32 0) (List.replicate 4 0) (List.replicate 4 0))):=HE2.out.set (hL1.setM' 0 (by decide) 83).1;have cc5:=HE3.out.row.cell 69 (by rw[hL2.len];decide);have cf5:=HE3.out.row.frozen 69;have HE5:Hid (EN w ((w2.setCell ⟨w.heap.size+1,68,none⟩ (.int .u8 83)).setCell ⟨w.heap.size+1,69,none⟩ (.int .u8 50)) (seg (four gn) [83,49] [0,0] (List.replicate 4 0) (List.replicate 32 0) (List.replicate 16 0) (four gn) (four gn) [83,50] [0,0] (List.replicate 16 0) (List.replicate 32 0) (List.replicate 4 0) (List.replicate 4 0))):=HE3.out.set (hL2.setM' 1 (by decide) 50).1;clear hL1 hL2;go_wp2_with fail;clear cc4 cf4 cc5 cf5 HE2 HE3;generalize ((w2.setCell ⟨w.heap.size+1,68,none⟩ (.int .u8 83)).setCell ⟨w.heap.size+1,69,none⟩ (.int .u8 50))=w5 at *;refine wp_region_any (by kernel_rfl) ?_;refine wpAny_slotsU (fun _ _ _=>True) (frame:=(fun (a b c d e f g h i j k l m n o p q r s u v w x y z A B C D E F G H I J K L M N O P Q R S T U V W X Y Z a0 a1 a2 a3 a4 a5 a6 a7 a8 a9 b0 b1 b2 b3 b4 b5 b6 b7 b8 b9 c0 c1 c2 c3 c4 c5 c6 c7 c8 c9 d0:Value)=>fun (t:Nat→Value)=>({ tmps:=List.toArray [a,b,c,d,e,f,g,h,i,j,k,l,m,n,o,p,q,r,s,u,v,w,x,y,z,A,B,C,D,t 0,t 1,t 2,t 3,t 4,t 5,t 6,E,F,G,H,I,J,K,L,M,N,O,P,Q,R,S,T,U,V,W,X,Y,Z,a0,a1,a2,a3,a4,a5,a6,a7,a8,a9,b0,b1,b2,b3,b4,b5,b6,b7,b8,b9,c0,c1,c2,c3,c4,c5,c6,c7,c8,c9,d0],defers:=[] }:Act)) _ _ _ _ _ _ _ _ _ _ _ _ _ _ _ _ _ _ _ _ _ _ _ _ _ _ _ _ _ _ _ _ _ _ _ _ _ _ _ _ _ _ _ _ _ _ _ _ _ _ _ _ _ _ _ _ _ _ _ _ _ _ _ _ _ _ _ _ _ _ _ _ _ _ _ _ _ _ _ _ _ _)
     (Ext:=fun L u w'=>if L 6=true then EN w w' (seg (four gn) [83,49] [0,0] (List.replicate 4 0) (List.replicate 32 0) (List.replicate 16 0) (four gn) (four gn) [83,50] [0,0] (List.replicate 16 0) (List.replicate 32 0) (List.replicate 4 0) (four gn)) else EN w w' (seg (four gn) [83,49] [0,0] (List.replicate 4 0) (List.replicate 32 0) (List.replicate 16 0) (four gn) (four gn) [83,50] [0,0] (List.replicate 16 0) (List.replicate 32 0) (List.replicate 4 0) (List.replicate 4 0))) (Good:=fun i L w' v=>if i=0 then v=.int .i64 1 else if i=1 then v=.pointer (some ⟨w.heap.size+1,64,none⟩) else if i=2 then v=.pointer (some ⟨h,0,none⟩) else if i=3 then v=.pointer (some ⟨h,0,none⟩) else if i=4 then v=.pointer (some ⟨h,0,none⟩) else if i=5 then v=.int .u32 gn else if i=6 then L 6=true else True) ?hstab (by kernel_rfl) ?hop ?hdone _ _ ((fun (x0 x1 x2 x3 x4 x5 x6:Value)=>fun (i:Nat)=>if i=0 then x0 else if i=1 then x1 else if i=2 then x2 else if i=3 then x3 else if i=4 then x4 else if i=5 then x5 else if i=6 then x6 else undef) _ _ _ _ _ _ _) _ (by simp) ?ext ?start (by simp)
    case start=>intro i hi h;exact absurd h (by rw[Array.getD_eq_getD_getElem?,Array.getElem?_replicate];split<;>simp)
    case ext=>
     rw[if_neg (by show ¬ (Array.getD _ _ _=true);rw[Array.getD_eq_getD_getElem?,Array.getElem?_replicate];split<;>simp)];exact HE5.out.drew
    case hstab=>
     intro j L w9 w' i v hM hij hLi h;by_cases hl:j=6
     ·subst hl;simp at h ⊢;unfold updK;simp[h]
     ·simp only[if_neg hl] at h ⊢;exact h
    case hop=>
     intro i o L t w' ho hLi hx hdep K hK;have hi:i<7:=(Array.getElem?_eq_some_iff.1 ho).1;obtain rfl|rfl|rfl|rfl|rfl|rfl|rfl:i=0∨i=1∨i=2∨i=3∨i=4∨i=5∨i=6:=by omega
     all_goals(simp at ho;subst ho)
     ·clear hdep;have hK':=hK w' (.int .i64 1) (by simp) (by simpa[updK] using hx) trivial;clear hK;rw[if_pos (by rfl)];go_simp;simpa[upd] using hK'
     ·have d0:t 0=.int .i64 1:=by simpa using(hdep ⟨0,.data⟩ (by simp) rfl).2
      clear hdep;have hK':=hK w' (.pointer (some ⟨w.heap.size+1,64,none⟩)) (by simp) (by simpa[updK] using hx) trivial;clear hK;rw[if_pos (by rfl)];go_simp;simpa[upd,d0] using hK'
     ·clear hdep;have hK':=hK w' (.pointer (some ⟨h,0,none⟩)) (by simp) (by simpa[updK] using hx) trivial;clear hK;rw[if_pos (by rfl)];go_simp;simpa[upd] using hK'
     ·have d2:t 2=.pointer (some ⟨h,0,none⟩):=by simpa using(hdep ⟨2,.data⟩ (by simp) rfl).2
      clear hdep;have hK':=hK w' (.pointer (some ⟨h,0,none⟩)) (by simp) (by simpa[updK] using hx) trivial;clear hK;rw[if_pos (by rfl)];go_simp;simpa[upd,d2] using hK'
     ·have d3:t 3=.pointer (some ⟨h,0,none⟩):=by simpa using(hdep ⟨3,.data⟩ (by simp) rfl).2
      clear hdep;have hK':=hK w' (.pointer (some ⟨h,0,none⟩)) (by simp) (by simpa[updK] using hx) trivial;clear hK;rw[if_pos (by rfl)];go_simp;simpa[upd,d3] using hK'
     ·have d4:t 4=.pointer (some ⟨h,0,none⟩):=by simpa using(hdep ⟨4,.data⟩ (by simp) rfl).2
      clear hdep;have hbb:Below w.heap.size w w':=by split at hx<;>exact hx.below
      have cc:w'.cell? ⟨h,0,none⟩=some (.int .u32 gn):=(hbb.cell (p:=⟨h,0,none⟩) HC.out.1).trans HC.out.2.1;clear hbb;have hK':=hK w' (.int .u32 gn) (by simp) (by simpa[updK] using hx) trivial;clear hK;rw[if_pos (by rfl)];go_simp;simpa[upd,d4] using hK'
     ·have d1:t 1=.pointer (some ⟨w.heap.size+1,64,none⟩):=by simpa using(hdep ⟨1,.data⟩ (by simp) rfl).2
      have d5:t 5=.int .u32 gn:=by simpa using(hdep ⟨5,.data⟩ (by simp) rfl).2
      clear hdep;rw[hLi,if_neg (by decide)] at hx;have hL:SegL (four gn) [83,49] [0,0] (List.replicate 4 0) (List.replicate 32 0) (List.replicate 16 0) (four gn) (four gn) [83,50] [0,0] (List.replicate 16 0) (List.replicate 32 0) (List.replicate 4 0) (List.replicate 4 0):=by constructor<;>simp[four]
      have A:=setNo_any (w.heap.size+1) 64 73 60 gn _ w' hx.row (by rw[hL.len];decide) (by decide) HU.out.1;rw[show 64+60=124 from rfl,(hL.put124 gn HU.out.1).1] at A;have hK':∀ ww,Row ww (w.heap.size+1) 73 (seg (four gn) [83,49] [0,0] (List.replicate 4 0) (List.replicate 32 0) (List.replicate 16 0) (four gn) (four gn) [83,50] [0,0] (List.replicate 16 0) (List.replicate 32 0) (List.replicate 4 0) (four gn))→Wr (w.heap.size+1) w' ww→K _ ww:=fun ww h1 h2=>hK ww (.tuple #[]) (by simp[updK]) (by rw[if_pos (by simp[updK])];exact hx.wr h2 h1) trivial
      clear hK hx hL;rw[if_pos (by rfl)];go_simp;try simp only[d1,d5]
      refine A.mono ?_;rintro e w9 ⟨rfl,hr9,hw9⟩;have hK2:=hK' w9 hr9 hw9;clear hK' A hr9 hw9;go_simp;simpa[upd,d1,d5] using hK2
    case hdone=>
     intro L t w4 hx hg;have hlast:L 6=true:=by simpa using hg 6 (by decide)
     rw[if_pos hlast] at hx;clear hg hlast;have HE4:=hid_of hx;clear hx;go_wp2_with fail;go_roundw
     case rel=>exact⟨2,by decide,by go_num,HE4.out⟩
     case measure=>simp[intOf]
  ·have HE:Hid (EN w wr (seg (four gn) [83,49] [0,0] (List.replicate 4 0) (List.replicate 32 0) (List.replicate 16 0) (four gn) (four gn) [83,50] [0,0] (List.replicate 16 0) (List.replicate 32 0) (List.replicate 4 0) (four gn))):=hrel;clear hrel;have hL2:SegL (four gn) [83,49] [0,0] (List.replicate 4 0) (List.replicate 32 0) (List.replicate 16 0) (four gn) (four gn) [83,50] [0,0] (List.replicate 16 0) (List.replicate 32 0) (List.replicate 4 0) (four gn):=by constructor<;>simp[four]
   have k2:wr.cell? ⟨h,2,none⟩=some (.slice aD nD cD):=(HE.out.below.cell (p:=⟨h,2,none⟩) HC.out.1).trans HC.out.2.2.2.1;have cc6:=HE.out.row.cell 6 (by rw[hL2.len];decide);have cf6:=HE.out.row.frozen 6;have HE6:Hid (EN w (wr.setCell ⟨w.heap.size+1,6,none⟩ (.int .u8 (nD:Int))) (seg (four gn) [83,49] [(nD:Int),0] (List.replicate 4 0) (List.replicate 32 0) (List.replicate 16 0) (four gn) (four gn) [83,50] [0,0] (List.replicate 16 0) (List.replicate 32 0) (List.replicate 4 0) (four gn))):=HE.out.set (hL2.setC 0 (by decide) (nD:Int)).1;clear hL2;have k1:(wr.setCell ⟨w.heap.size+1,6,none⟩ (.int .u8 (nD:Int))).cell? ⟨h,1,none⟩=some (.int .u32 tl):=(HE6.out.below.cell (p:=⟨h,1,none⟩) HC.out.1).trans HC.out.2.2.1;go_wp2_with fail;clear cc6 cf6 k2 k1 HE;generalize (wr.setCell ⟨w.heap.size+1,6,none⟩ (.int .u8 (nD:Int)))=w6 at *;have hL3:SegL (four gn) [83,49] [(nD:Int),0] (List.replicate 4 0) (List.replicate 32 0) (List.replicate 16 0) (four gn) (four gn) [83,50] [0,0] (List.replicate 16 0) (List.replicate 32 0) (List.replicate 4 0) (four gn):=by constructor<;>simp[four]
   have A:=setNo_any (w.heap.size+1) 0 73 8 tl _ w6 HE6.out.row (by rw[hL3.len];decide) (by decide) HU.out.2;rw[show 0+8=8 from rfl,(hL3.put8 tl HU.out.2).1] at A;refine A.mono ?_;rintro e w7 ⟨rfl,hr7,hw7⟩;have HE7:Hid (EN w w7 (seg (four gn) [83,49] [(nD:Int),0] (four tl) (List.replicate 32 0) (List.replicate 16 0) (four gn) (four gn) [83,50] [0,0] (List.replicate 16 0) (List.replicate 32 0) (List.replicate 4 0) (four gn))):=HE6.out.wr hw7 hr7;clear A hr7 hw7 HE6 hL3;have k3:w7.cell? ⟨h,3,none⟩=some (.slice aU nU cU):=(HE7.out.below.cell (p:=⟨h,3,none⟩) HC.out.1).trans HC.out.2.2.2.2;go_wp2_with fail;clear k3;refine(setOf_any aU nU cU U w7 HL.out.2 mU (HA.out.2.below HE7.out.below)).mono ?_;rintro e w8 ⟨bs,rfl,hbl,hbb,hset,hb8⟩;obtain rfl:=set_bits bs U (hset HP.out.2.2.2.2.2);have HE8:Hid (EN w w8 (seg (four gn) [83,49] [(nD:Int),0] (four tl) (List.replicate 32 0) (List.replicate 16 0) (four gn) (four gn) [83,50] [0,0] (List.replicate 16 0) (List.replicate 32 0) (List.replicate 4 0) (four gn))):=HE7.out.low hb8;clear hset hb8 HE7;have HN:Hid ((w8.alloc (.cells #[.int .u8 0,.int .u8 0,.int .u8 0,.int .u8 0,.int .u8 0,.int .u8 0,.int .u8 0,.int .u8 0,.int .u8 0,.int .u8 0,.int .u8 0,.int .u8 0,.int .u8 0,.int .u8 0,.int .u8 0,.int .u8 0,.int .u8 0,.int .u8 0,.int .u8 0,.int .u8 0,.int .u8 0,.int .u8 0,.int .u8 0,.int .u8 0,.int .u8 0,.int .u8 0,.int .u8 0,.int .u8 0,.int .u8 0,.int .u8 0,.int .u8 0,.int .u8 0] 100)).heap[w8.heap.size]?=some (.cells #[.int .u8 0,.int .u8 0,.int .u8 0,.int .u8 0,.int .u8 0,.int .u8 0,.int .u8 0,.int .u8 0,.int .u8 0,.int .u8 0,.int .u8 0,.int .u8 0,.int .u8 0,.int .u8 0,.int .u8 0,.int .u8 0,.int .u8 0,.int .u8 0,.int .u8 0,.int .u8 0,.int .u8 0,.int .u8 0,.int .u8 0,.int .u8 0,.int .u8 0,.int .u8 0,.int .u8 0,.int .u8 0,.int .u8 0,.int .u8 0,.int .u8 0,.int .u8 0] 100 (0,0))):=heap_alloc_new w8 _;have HB:Hid ((bitsL U 32).length=32∧Byte (bitsL U 32)):=⟨hbl,hbb⟩
   clear hbl hbb;generalize hbq:bitsL U 32=bq at HB;have HBQ:=hid_of hbq;clear hbq;have HSZ:Hid ((Tryz.prog.info? 100).map (·.size)=some (bq.map (Value.int .u8)).toArray.size):=by show _=_;rw[List.size_toArray,List.length_map,HB.out.1];kernel_rfl
   have HEQ:Hid ((#[.int .u8 0,.int .u8 0,.int .u8 0,.int .u8 0,.int .u8 0,.int .u8 0,.int .u8 0,.int .u8 0,.int .u8 0,.int .u8 0,.int .u8 0,.int .u8 0,.int .u8 0,.int .u8 0,.int .u8 0,.int .u8 0,.int .u8 0,.int .u8 0,.int .u8 0,.int .u8 0,.int .u8 0,.int .u8 0,.int .u8 0,.int .u8 0,.int .u8 0,.int .u8 0,.int .u8 0,.int .u8 0,.int .u8 0,.int .u8 0,.int .u8 0,.int .u8 0]:Array Value).size=(bq.map (Value.int .u8)).toArray.size):=by show _=_;rw[show(bq.map (Value.int .u8)).toArray.size=32 by rw[List.size_toArray,List.length_map];exact HB.out.1];rfl
   have HOK:Hid ((bq.map (Value.int .u8)).toArray.all (fun x=>x.oneCell')=true):=by show _=_;simp[Value.oneCell']
   go_upto_region 13 with (first
    |(refine wpList_store_row rfl 100 (.tmp 5) (.tmp 57) rfl w8.heap.size (bq.map (Value.int .u8)).toArray rfl rfl 100 _ HN.out HSZ.out HEQ.out HOK.out ?_)
    |fail)
   have HX9:Hid (EN w ((w8.alloc (.cells #[.int .u8 0,.int .u8 0,.int .u8 0,.int .u8 0,.int .u8 0,.int .u8 0,.int .u8 0,.int .u8 0,.int .u8 0,.int .u8 0,.int .u8 0,.int .u8 0,.int .u8 0,.int .u8 0,.int .u8 0,.int .u8 0,.int .u8 0,.int .u8 0,.int .u8 0,.int .u8 0,.int .u8 0,.int .u8 0,.int .u8 0,.int .u8 0,.int .u8 0,.int .u8 0,.int .u8 0,.int .u8 0,.int .u8 0,.int .u8 0,.int .u8 0,.int .u8 0] 100)).setRow w8.heap.size (bq.map (Value.int .u8)).toArray) (seg (four gn) [83,49] [(nD:Int),0] (four tl) (List.replicate 32 0) (List.replicate 16 0) (four gn) (four gn) [83,50] [0,0] (List.replicate 16 0) (List.replicate 32 0) (List.replicate 4 0) (four gn))∧Row ((w8.alloc (.cells #[.int .u8 0,.int .u8 0,.int .u8 0,.int .u8 0,.int .u8 0,.int .u8 0,.int .u8 0,.int .u8 0,.int .u8 0,.int .u8 0,.int .u8 0,.int .u8 0,.int .u8 0,.int .u8 0,.int .u8 0,.int .u8 0,.int .u8 0,.int .u8 0,.int .u8 0,.int .u8 0,.int .u8 0,.int .u8 0,.int .u8 0,.int .u8 0,.int .u8 0,.int .u8 0,.int .u8 0,.int .u8 0,.int .u8 0,.int .u8 0,.int .u8 0,.int .u8 0] 100)).setRow w8.heap.size (bq.map (Value.int .u8)).toArray) w8.heap.size 100 bq):=⟨(HE8.out.low (below_new w8 _)).oth (Wr.setRow _ _ _) (Nat.ne_of_gt HE8.out.row.lt) (by have:=HE8.out.row.lt;omega) (by have:=HE8.out.row.lt;omega),setRow_heap _ _ _ _ _ _ HN.out⟩
   clear HN HSZ HEQ HOK HE8;generalize ((w8.alloc (.cells #[.int .u8 0,.int .u8 0,.int .u8 0,.int .u8 0,.int .u8 0,.int .u8 0,.int .u8 0,.int .u8 0,.int .u8 0,.int .u8 0,.int .u8 0,.int .u8 0,.int .u8 0,.int .u8 0,.int .u8 0,.int .u8 0,.int .u8 0,.int .u8 0,.int .u8 0,.int .u8 0,.int .u8 0,.int .u8 0,.int .u8 0,.int .u8 0,.int .u8 0,.int .u8 0,.int .u8 0,.int .u8 0,.int .u8 0,.int .u8 0,.int .u8 0,.int .u8 0] 100)).setRow w8.heap.size (bq.map (Value.int .u8)).toArray)=w10 at *;generalize w8.heap.size=q at *;refine wp_region_any (by kernel_rfl) ?_;refine wpAny_slotsU (fun _ _ _=>True) (frame:=(fun (a b c d e f g h i j k l m n o p q r s u v w x y z A B C D E F G H I J K L M N O P Q R S T U V W X Y Z a0 a1 a2 a3 a4 a5 a6 a7 a8 a9 b0 b1 b2 b3 b4 b5 b6 b7 b8 b9 c0 c1 c2 c3 c4 c5 c6 c7 c8 c9 d0 d1 d2 d3:Value)=>fun (t:Nat→Value)=>({ tmps:=List.toArray [a,b,c,d,e,f,g,h,i,j,k,l,m,n,o,p,q,r,s,u,v,w,x,y,z,A,B,C,D,E,F,G,H,I,J,K,L,M,N,O,P,Q,R,S,T,U,V,W,X,Y,Z,a0,a1,a2,a3,a4,a5,a6,a7,t 0,t 1,t 2,t 3,a8,a9,b0,b1,b2,b3,b4,b5,b6,b7,b8,b9,c0,c1,c2,c3,c4,c5,c6,c7,c8,c9,d0,d1,d2,d3],defers:=[] }:Act)) _ _ _ _ _ _ _ _ _ _ _ _ _ _ _ _ _ _ _ _ _ _ _ _ _ _ _ _ _ _ _ _ _ _ _ _ _ _ _ _ _ _ _ _ _ _ _ _ _ _ _ _ _ _ _ _ _ _ _ _ _ _ _ _ _ _ _ _ _ _ _ _ _ _ _ _ _ _ _ _ _ _ _ _ _)
    (Ext:=fun L u w'=>if L 3=true then EN w w' (seg (four gn) [83,49] [(nD:Int),0] (four tl) bq (List.replicate 16 0) (four gn) (four gn) [83,50] [0,0] (List.replicate 16 0) (List.replicate 32 0) (List.replicate 4 0) (four gn)) else EN w w' (seg (four gn) [83,49] [(nD:Int),0] (four tl) (List.replicate 32 0) (List.replicate 16 0) (four gn) (four gn) [83,50] [0,0] (List.replicate 16 0) (List.replicate 32 0) (List.replicate 4 0) (four gn))∧Row w' q 100 bq) (Good:=fun i L w' v=>if i=0 then v=.pointer (some ⟨w.heap.size+1,0,none⟩) else if i=1 then v=.slice (some ⟨w.heap.size+1,12,none⟩) 52 52 else if i=2 then v=.slice (some ⟨q,0,none⟩) 32 32 else if i=3 then L 3=true else True) ?hstab (by kernel_rfl) ?hop ?hdone _ _ ((fun (x0 x1 x2 x3:Value)=>fun (i:Nat)=>if i=0 then x0 else if i=1 then x1 else if i=2 then x2 else if i=3 then x3 else undef) _ _ _ _) _ (by simp) ?ext ?start (by simp)
   case start=>intro i hi h;exact absurd h (by rw[Array.getD_eq_getD_getElem?,Array.getElem?_replicate];split<;>simp)
   case ext=>
    rw[if_neg (by show ¬ (Array.getD _ _ _=true);rw[Array.getD_eq_getD_getElem?,Array.getElem?_replicate];split<;>simp)];exact⟨HX9.out.1.drew,HX9.out.2⟩
   case hstab=>
    intro j L w9 w' i v hM hij hLi h;by_cases hl:j=3
    ·subst hl;simp at h ⊢;unfold updK;simp[h]
    ·simp only[if_neg hl] at h ⊢;exact h
   case hop=>
    intro i o L t w' ho hLi hx hdep K hK;have hi:i<4:=(Array.getElem?_eq_some_iff.1 ho).1;obtain rfl|rfl|rfl|rfl:i=0∨i=1∨i=2∨i=3:=by omega
    all_goals(simp at ho;subst ho)
    ·clear hdep;have hK':=hK w' (.pointer (some ⟨w.heap.size+1,0,none⟩)) (by simp) (by simpa[updK] using hx) trivial;clear hK;rw[if_pos (by rfl)];go_simp;simpa[upd] using hK'
    ·have d0:t 0=.pointer (some ⟨w.heap.size+1,0,none⟩):=by simpa using(hdep ⟨0,.data⟩ (by simp) rfl).2
     clear hdep;have hK':=hK w' (.slice (some ⟨w.heap.size+1,12,none⟩) 52 52) (by simp) (by simpa[updK] using hx) trivial;clear hK;rw[if_pos (by rfl)];go_simp;simpa[upd,d0] using hK'
    ·clear hdep;have hK':=hK w' (.slice (some ⟨q,0,none⟩) 32 32) (by simp) (by simpa[updK] using hx) trivial;clear hK;rw[if_pos (by rfl)];go_simp;simpa[upd] using hK'
    ·have d1:t 1=.slice (some ⟨w.heap.size+1,12,none⟩) 52 52:=by simpa using(hdep ⟨1,.data⟩ (by simp) rfl).2
     have d2:t 2=.slice (some ⟨q,0,none⟩) 32 32:=by simpa using(hdep ⟨2,.data⟩ (by simp) rfl).2
     clear hdep;rw[hLi,if_neg (by decide)] at hx;have hL:SegL (four gn) [83,49] [(nD:Int),0] (four tl) (List.replicate 32 0) (List.replicate 16 0) (four gn) (four gn) [83,50] [0,0] (List.replicate 16 0) (List.replicate 32 0) (List.replicate 4 0) (four gn):=by constructor<;>simp[four]
     rw[if_pos (by rfl)];refine wp_copyG (.tmp 60) (.tmp 61) rfl (some ⟨w.heap.size+1,12,none⟩) (some ⟨q,0,none⟩) (w.heap.size+1) 12 52 52 32 32 d1 d2 _ 73 hx.1.row bq (by rw[HB.out.1];rfl) (fun _=>⟨rfl,_,rfl,fun j hj=>?_⟩) (by rw[HB.out.1,List.size_toArray,List.length_map,hL.len];decide) ?_
     ·rw[Addr.add_lit,Nat.zero_add,Row.cell hx.2 j hj]
     ·intro w2 h2 hw2;have hrow:Row w2 (w.heap.size+1) 73 (seg (four gn) [83,49] [(nD:Int),0] (four tl) bq (List.replicate 16 0) (four gn) (four gn) [83,50] [0,0] (List.replicate 16 0) (List.replicate 32 0) (List.replicate 4 0) (four gn)):=by
       unfold Row;rw[h2,HB.out.1,←(hL.putB bq HB.out.1).1];simp[List.map_take,List.map_drop]
      exact hK w2 _ (by simp[updK]) (by rw[if_pos (by simp[updK])];exact hx.1.wr hw2 hrow) trivial
   case hdone=>
    intro L t w13 hx hg;have hlast:L 3=true:=by simpa using hg 3 (by decide)
    rw[if_pos hlast] at hx;clear hg hlast;have HE13:=hid_of hx;clear hx HX9;have hdn:Hid (EN w w13 (seg (four gn) [83,49] [(nD:Int),0] (four tl) bq (denL (D.take 0) 0 8) (four gn) (four gn) [83,50] [0,0] (denL (D.take 0) 8 8) (List.replicate 32 0) (List.replicate 4 0) (four gn))):=by show EN _ _ _;rw[List.take_zero,denL_nil,denL_nil];exact HE13.out
    have k2:w13.cell? ⟨h,2,none⟩=some (.slice aD nD cD):=(HE13.out.below.cell (p:=⟨h,2,none⟩) HC.out.1).trans HC.out.2.2.2.1;clear HE13;go_wp2_with fail;clear k2
    go_loopw [68] (fun i wz=>∃ k:Nat,k≤nD∧i=.int .i64 k∧Hid (EN w wz (seg (four gn) [83,49] [(nD:Int),0] (four tl) bq (denL (D.take k) 0 8) (four gn) (four gn) [83,50] [0,0] (denL (D.take k) 8 8) (List.replicate 32 0) (List.replicate 4 0) (four gn)))) (fun i _=>nD-(intOf i).toNat)
    case atStart=>exact⟨0,Nat.zero_le _,rfl,hdn⟩
    case round=>
     obtain⟨k,hk,rfl,HK⟩:=hrel;clear hdn;by_cases hlt:k<nD
     ·obtain h0|⟨b,off,rfl,hbl,hcl⟩:=HA.out.1.below HK.out.below
      ·exfalso;have:=HL.out.1;rw[h0] at this;simp at this;omega
      have hck:=hcl k (by rw[HL.out.1];exact hlt);clear hcl hbl;obtain⟨x,hxd⟩:∃ x,x=D.getD k 0:=⟨_,rfl⟩
      rw[←hxd] at hck;have HXD:Hid (x=D.getD k 0∧(D.getD k 0%256=D.getD k 0∧D.getD k 0/256%256=0)):=by
       have h1:=HP.out.2.2.2.1 k (by rw[HL.out.1];exact hlt);unfold okI at h1;exact⟨hxd,by omega,by omega⟩
      clear hxd;have hk16:k<16:=by have:=HP.out.2.2.2.2.1;have:=HL.out.1;omega
      go_wp2_with fail;clear hck;refine(denyP_any (w.heap.size+1) k _ hk16).mono ?_;rintro e w9 ⟨c,rfl,hw9⟩;subst w9;have hL:SegL (four gn) [83,49] [(nD:Int),0] (four tl) bq (denL (D.take k) 0 8) (four gn) (four gn) [83,50] [0,0] (denL (D.take k) 8 8) (List.replicate 32 0) (List.replicate 4 0) (four gn):=by constructor<;>simp[four,HB.out.1,denL_len]
      by_cases h8:k<8
      ·rw[if_pos h8];have cc0:=HK.out.row.cell (44+2*k) (by rw[hL.len];omega);have cf0:=HK.out.row.frozen (44+2*k);have H1:=hL.setD (2*k) (by omega) (x%256);have HE1:=HK.out.set H1.1;have cc1:=HE1.row.cell (44+2*k+1) (by rw[H1.2.len];omega);have cf1:=HE1.row.frozen (44+2*k+1);have H2:=H1.2.setD (2*k+1) (by omega) (x/256%256);have HE2:=hid_of (HE1.set (o:=44+2*k+1) H2.1);have hdp:=den_put D 0 k (by rw[HL.out.1];exact hlt) (Nat.zero_le _) (by omega) HXD.out.2;rw[Nat.sub_zero,←HXD.out.1] at hdp;rw[hdp,←den_out D 8 k (by omega)] at HE2;clear hdp H1 H2 HE1 hL HXD HK;go_wp2_with fail;clear cc0 cf0 cc1 cf1;go_roundw
       case rel=>exact⟨k+1,by omega,by go_num,HE2.out⟩
       case measure=>simp[intOf];omega
      ·rw[if_neg h8];have hpe:56+2*k=72+2*(k-8):=by omega
       have cc0:=HK.out.row.cell (56+2*k) (by rw[hL.len];omega);have cf0:=HK.out.row.frozen (56+2*k);have H1:=hL.setD' (2*(k-8)) (by omega) (x%256);rw[←hpe] at H1;have HE1:=HK.out.set H1.1;have cc1:=HE1.row.cell (56+2*k+1) (by rw[H1.2.len];omega);have cf1:=HE1.row.frozen (56+2*k+1);have H2:=H1.2.setD' (2*(k-8)+1) (by omega) (x/256%256);rw[←Nat.add_assoc,←hpe] at H2;have HE2:=hid_of (HE1.set (o:=56+2*k+1) H2.1);have hdp:=den_put D 8 k (by rw[HL.out.1];exact hlt) (by omega) (by omega) HXD.out.2;rw[←HXD.out.1] at hdp;rw[hdp,←den_out D 0 k (by omega)] at HE2;clear hdp H1 H2 HE1 hL HXD HK hpe;go_wp2_with fail;clear cc0 cf0 cc1 cf1;go_roundw
       case rel=>exact⟨k+1,by omega,by go_num,HE2.out⟩
       case measure=>simp[intOf];omega
     ·have hke:k=nD:=by omega
      subst hke;have HZ:Hid (EN w wr (seg (four gn) [83,49] [(k:Int),0] (four tl) bq (denL D 0 8) (four gn) (four gn) [83,50] [0,0] (denL D 8 8) (List.replicate 32 0) (List.replicate 4 0) (four gn))):=by
       have:=HK.out;rw[show D.take k=D from List.take_of_length_le (by rw[HL.out.1];omega)] at this;exact this
      clear HK;have hL:SegL (four gn) [83,49] [(k:Int),0] (four tl) bq (denL D 0 8) (four gn) (four gn) [83,50] [0,0] (denL D 8 8) (List.replicate 32 0) (List.replicate 4 0) (four gn):=by constructor<;>simp[four,HB.out.1,denL_len]
      have hdr:∀ z∈D,0≤z∧z<256:=fun z hz=>by
       obtain⟨i,hi,rfl⟩:=List.getElem_of_mem hz;have:=HP.out.2.2.2.1 i hi;unfold okI at this;rw[show D.getD i 0=D[i] by simp[List.getD,hi]] at this;exact⟨this.1,this.2.1⟩
      have hz32:Byte (List.replicate 32 0):=fun z hz=>by simp at hz;omega
      have hz4:Byte (List.replicate 4 0):=fun z hz=>by simp at hz;omega
      have hk16:k≤16:=by have:=HP.out.2.2.2.2.1;have:=HL.out.1;omega
      have HBY:Hid (Byte (seg (four gn) [83,49] [(k:Int),0] (four tl) bq (denL D 0 8) (four gn) (four gn) [83,50] [0,0] (denL D 8 8) (List.replicate 32 0) (List.replicate 4 0) (four gn))):=(four_byte gn HU.out.1).app ((byte2 (by decide) (by decide)).app ((byte2 (by omega) (by decide)).app ((four_byte tl HU.out.2).app (HB.out.2.app ((den_byte D 0 8 hdr).app ((four_byte gn HU.out.1).app ((four_byte gn HU.out.1).app ((byte2 (by decide) (by decide)).app ((byte2 (by decide) (by decide)).app ((den_byte D 8 8 hdr).app (hz32.app (hz4.app (four_byte gn HU.out.1)))))))))))));clear hdr hz32 hz4 hk16;have A:=hid_of (ssum_any (w.heap.size+1) _ wr HZ.out.row hL.len HBY.out);obtain⟨cr,hcr⟩:∃ cr,cr=crc ((seg (four gn) [83,49] [(k:Int),0] (four tl) bq (denL D 0 8) (four gn) (four gn) [83,50] [0,0] (denL D 8 8) (List.replicate 32 0) (List.replicate 4 0) (four gn)).take 120):=⟨_,rfl⟩
      have HS:Hid (seg (four gn) [83,49] [(k:Int),0] (four tl) bq (denL D 0 8) (four gn) (four gn) [83,50] [0,0] (denL D 8 8) (List.replicate 32 0) (four cr) (four gn)=snL gn tl D U):=by
       show _=_
       rw[hcr,←HBQ.out,←HL.out.1];exact seg_end gn tl D U _
      have HU2:Hid (U32 cr):=by show U32 cr;rw[hcr];exact crc_bd _
      rw[←hcr] at A;have HL6:=hid_of hL;clear hcr hL HBY HBQ;go_wp2_with fail;refine A.out.mono ?_;rintro e w20 ⟨rfl,hb20⟩;have HE20:Hid (EN w w20 (seg (four gn) [83,49] [(k:Int),0] (four tl) bq (denL D 0 8) (four gn) (four gn) [83,50] [0,0] (denL D 8 8) (List.replicate 32 0) (List.replicate 4 0) (four gn))):=HZ.out.low hb20;clear A HZ hb20;go_wp2_with fail;have A:=setNo_any (w.heap.size+1) 64 73 56 cr _ w20 HE20.out.row (by rw[HL6.out.len];decide) (by decide) HU2.out;rw[show 64+56=120 from rfl,(HL6.out.put120 cr HU2.out).1] at A;refine A.mono ?_;rintro e w21 ⟨rfl,hr21,hw21⟩;have HE21:Hid (EN w w21 (seg (four gn) [83,49] [(k:Int),0] (four tl) bq (denL D 0 8) (four gn) (four gn) [83,50] [0,0] (denL D 8 8) (List.replicate 32 0) (four cr) (four gn))∧(seg (four gn) [83,49] [(k:Int),0] (four tl) bq (denL D 0 8) (four gn) (four gn) [83,50] [0,0] (denL D 8 8) (List.replicate 32 0) (four cr) (four gn)).length=128):=⟨HE20.out.wr hw21 hr21,(HL6.out.put120 cr HU2.out).2.len⟩
      clear A hr21 hw21 HE20 HL6 HU2;generalize hzz:seg (four gn) [83,49] [(k:Int),0] (four tl) bq (denL D 0 8) (four gn) (four gn) [83,50] [0,0] (denL D 8 8) (List.replicate 32 0) (four cr) (four gn)=zz at HE21 HS;clear hzz;have HRW:Hid (w21.heap[w.heap.size+1]?=some (.cells (zz.map (Value.int .u8)).toArray 73 (0,0))):=HE21.out.1.row;have HRB:Hid (w21.heap[w.heap.size]?=some (.cells Tryz.zeroCells73 73 (0,0))):=HE21.out.1.rb;have hsz:(zz.map (Value.int .u8)).toArray.size=128:=by rw[List.size_toArray,List.length_map];exact HE21.out.2
      have HSZ:Hid ((Tryz.prog.info? 73).map (·.size)=some (zz.map (Value.int .u8)).toArray.size):=by show _=_;rw[hsz];kernel_rfl
      have HEQ:Hid ((Tryz.zeroCells73).size=(zz.map (Value.int .u8)).toArray.size):=by show _=_;rw[hsz];kernel_rfl
      have HOK:Hid ((zz.map (Value.int .u8)).toArray.all (fun x=>x.oneCell')=true):=by show _=_;simp[Value.oneCell']
      have HF:Hid (Below w.heap.size w (w21.setRow w.heap.size (zz.map (Value.int .u8)).toArray)):=HE21.out.1.below.trans ((Wr.setRow _ _ _).below (Nat.le_refl _));clear hsz HE21;go_wp2_with (first
       |(refine wpList_load_row rfl 73 (.tmp 3) rfl (w.heap.size+1) rfl 73 _ (0,0) _ HRW.out Tryz.underlying73 rfl HSZ.out ?_)
       |(refine wpList_store_row rfl 73 (.tmp 2) (.tmp 88) rfl w.heap.size (zz.map (Value.int .u8)).toArray rfl rfl 73 _ HRB.out HSZ.out HEQ.out HOK.out ?_)
       |fail)
      exact bodyPost_ret (v:=.agg (zz.map (Value.int .u8)).toArray) (results_cell_row rfl _ _ w.heap.size 73 _ (0,0) _ rfl (setRow_heap _ _ _ _ _ _ HRB.out) Tryz.underlying73 rfl HSZ.out) rfl ⟨by rw[HS.out],HF.out⟩
end Go.Proofs.YtilpkdnoaldfmaaGreatDoor
