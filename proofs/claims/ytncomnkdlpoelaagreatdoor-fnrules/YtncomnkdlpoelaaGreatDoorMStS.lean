import Derived.Test.YtncomnkdlpoelaaGreatDoorMEso
import Derived.Test.YtncomnkdlpoelaaGreatDoorMEpm
import Derived.Test.YtncomnkdlpoelaaGreatDoorMMuM
import Derived.Test.YtncomnkdlpoelaaGreatDoorMCat
import Derived.Deep.Cut
namespace Go.Proofs.YtncomnkdlpoelaaGreatDoor
open Go.ChangeShapes Go.WideShapes Go.ChangeAt Go.RowKit
set_option linter.unusedVariables false
set_option maxRecDepth 100000 in
set_option maxHeartbeats 8000000 in
theorem adm_any {H B g:Nat} {w:World} {d u:List Int} {v:Value} {D U:List Int} {k:Int} {T:List Int} {n:Nat} (h:BkV H B g w d u v D U k T n) (bp op cp:Nat) (ks:List Int) (ta:Option Addr) (tn tc:Nat) (tk:List Int) (kind now N:Int)
  (hk:ks.length=32) (hp:PtA w bp op ks) (zk:Byte ks) (ht:tk.length=tn) (mt:tn≤1048576) (hct:tn≤tc) (hat:At .u8 w ta tk) (zt:Byte tk) (hT:TabIn w) (hV:1<w.heap.size) :
  Calls Tryz.prog 74 #[.pointer (some ⟨g,0,none⟩),.slice (some ⟨bp,op,none⟩) 32 cp,.agg #[.int .i64 kind,.slice ta tn tc,.int .i64 now,.int .i64 N]] w fun e w'=>∃ x y,e=.returned (.tuple #[x,y])∧Below w.heap.size w w'∧((tapC D U ks tk now=1∧x=.int .i64 (tkS tk)∧y=.nilIface)∨(¬ tapC D U ks tk now=1∧y=.iface 128 (.int .i64 (tapC D U ks tk now)))):=by
 have HKw0:=hid_ofS h;have HA:Hid (∀ wz,Below w.heap.size w wz→At .u8 wz ta tk∧PtA wz bp op ks∧TabIn wz):=fun wz h=>⟨hat.below h,hp.below h,tab_keepV hT hV h⟩
 have HL:Hid (tk.length=tn∧ks.length=32∧Byte ks∧Byte tk):=⟨ht,hk,zk,zt⟩
 have HV1:=hdI <| hV
 have HTB:Hid (tkB tk=true→tk.length=72):=fun h=>by
  unfold tkB at h;simp at h;exact h.1
 have HNN:=hdI <| tkS_nn zt
 have HSZ:Hid ((Tryz.prog.info? 86).map (·.size)=some 3):=by show _=_;kernel_rfl
 have HCB:Hid (now<0∨4294967295<now→tapC D U ks tk now=10):=tapC_bad;have HCI:Hid (0≤now→now≤4294967295→tapC D U ks tk now=if tkB tk=false then 2 else if 256≤tkS tk then 3 else if tkE tk<now then 4 else if memB (tkS tk) D=true then 5 else if memB (tkS tk) U=true then 6 else if vsR ks (tk.take 8) (tk.drop 8)=true then 1 else 7):=tapC_in;have HBA:Hid (Below w.heap.size w (w.alloc (.cells #[.int .i64 kind,.slice ta tn tc,.int .i64 now,.int .i64 N] 28))):=(Below.refl _ _).alloc (Nat.le_refl _) _;have HR0:Hid ((w.alloc (.cells #[.int .i64 kind,.slice ta tn tc,.int .i64 now,.int .i64 N] 28)).heap[w.heap.size]?=some (.cells #[.int .i64 kind,.slice ta tn tc,.int .i64 now,.int .i64 N] 28 (0,0))):=heap_alloc_new w _;clear h hk hp zk ht hat zt hT hV;go_enter Tryz.func74,Tryz.ntmps74
 go_upto_region 1 with fail
 generalize w.alloc (.cells #[.int .i64 kind,.slice ta tn tc,.int .i64 now,.int .i64 N] 28)=w0 at *;have o1:w0.cell? ⟨w.heap.size,1,none⟩=some (.slice ta tn tc):=by rw[cell_of_row w0 _ 1 _ _ _ HR0.out];rfl
 have o2:w0.cell? ⟨w.heap.size,2,none⟩=some (.int .i64 now):=by rw[cell_of_row w0 _ 2 _ _ _ HR0.out];rfl
 go_wp2_with fail;refine(isNow_any _ _).mono ?_;rintro e w9 ⟨rfl,e9⟩;obtain rfl:w0=w9:=e9.symm;by_cases hn:0≤now∧now≤4294967295
 case neg=>
  have HNO:Hid (nowOk now=false):=decide_eq_false hn;have HF:Hid (tapC D U ks tk now=10):=HCB.out (by omega);rw[HNO.out];clear HCB HCI HTB HKw0 o1 o2;go_wp2
  go_ret2
  exact⟨_,_,rfl,HBA.out,.inr ⟨by rw[HF.out];decide,by rw[HF.out];rfl⟩⟩
 have HNO:Hid (nowOk now=true):=decide_eq_true hn;rw[HNO.out];have HC:=hid_ofS (HCI.out hn.1 hn.2);clear HCB HCI hn HNO;go_wp2_with fail;refine(ptI_any ta tn tc tk _ HL.out.1 mt hct (HA.out _ HBA.out).1 HL.out.2.2.2).mono ?_;rintro e w1 ⟨rfl,hb1⟩;have HR1:Hid (w1.heap[w.heap.size]?=some (.cells #[.int .i64 kind,.slice ta tn tc,.int .i64 now,.int .i64 N] 28 (0,0))):=by show _=_;rw[hb1.block _ (Array.getElem?_eq_some_iff.1 HR0.out).1];exact HR0.out
 have HB1:=hdI <| HBA.out.trans (hb1.mono HBA.out.size)
 clear hb1 HR0 HBA o1 o2;generalize hq:tkB tk=q at *;have HQ:=hdI <| hq
 clear hq;obtain⟨s,x,HV⟩:∃ s x,Hid (tkV tk=.agg #[.bool q,.int .i64 s,.int .i64 x]∧(q=true→tkS tk=s∧tkE tk=x)):=by
  cases q with
  |false=>exact⟨0,0,tkV_no HQ.out,fun h=>by cases h⟩
  |true=>exact⟨_,_,tkV_yes HQ.out,fun _=>⟨rfl,rfl⟩⟩
 have HN:Hid ((w1.alloc (.cells #[.bool false,.int .i64 0,.int .i64 0] 86)).heap[w1.heap.size]?=some (.cells #[.bool false,.int .i64 0,.int .i64 0] 86 (0,0))):=heap_alloc_new w1 _;have HBX:Hid (Below w1.heap.size w1 ((w1.alloc (.cells #[.bool false,.int .i64 0,.int .i64 0] 86)).setRow w1.heap.size #[.bool q,.int .i64 s,.int .i64 x])):=((Below.refl _ _).alloc (Nat.le_refl _) _).trans ((Wr.setRow _ _ _).below (Nat.le_refl _));have HR2:Hid (((w1.alloc (.cells #[.bool false,.int .i64 0,.int .i64 0] 86)).setRow w1.heap.size #[.bool q,.int .i64 s,.int .i64 x]).heap[w1.heap.size]?=some (.cells #[.bool q,.int .i64 s,.int .i64 x] 86 (0,0))):=setRow_heap _ _ _ _ _ _ HN.out;rw[HV.out.1]
 go_upto_region 4 with (first
  |(refine wpList_store_row rfl 86 (.tmp 8) (.tmp 16) rfl w1.heap.size #[.bool q,.int .i64 s,.int .i64 x] rfl rfl 86 _ HN.out HSZ.out rfl (by simp[Value.oneCell']) ?_)
  |fail)
 clear HN HSZ;generalize (w1.alloc (.cells #[.bool false,.int .i64 0,.int .i64 0] 86)).setRow w1.heap.size #[.bool q,.int .i64 s,.int .i64 x]=w2 at *;have HB2:=hdI <| HB1.out.trans (HBX.out.mono HB1.out.size)
 have HKw2:=hdI <| HKw0.out.below HB2.out
 have HRO:Hid (w2.heap[w.heap.size]?=some (.cells #[.int .i64 kind,.slice ta tn tc,.int .i64 now,.int .i64 N] 28 (0,0))):=by show _=_;rw[HBX.out.block _ (Array.getElem?_eq_some_iff.1 HR1.out).1];exact HR1.out
 have c0:w2.cell? ⟨w1.heap.size,0,none⟩=some (.bool q):=by rw[cell_of_row w2 _ 0 _ _ _ HR2.out];rfl
 have c1:w2.cell? ⟨w1.heap.size,1,none⟩=some (.int .i64 s):=by rw[cell_of_row w2 _ 1 _ _ _ HR2.out];rfl
 have c2:w2.cell? ⟨w1.heap.size,2,none⟩=some (.int .i64 x):=by rw[cell_of_row w2 _ 2 _ _ _ HR2.out];rfl
 have o1:w2.cell? ⟨w.heap.size,1,none⟩=some (.slice ta tn tc):=by rw[cell_of_row w2 _ 1 _ _ _ HRO.out];rfl
 have o2:w2.cell? ⟨w.heap.size,2,none⟩=some (.int .i64 now):=by rw[cell_of_row w2 _ 2 _ _ _ HRO.out];rfl
 clear HR2 HBX HR1 HRO HKw0 HB1;cases q with
 |false=>
  have HF:Hid (tapC D U ks tk now=2):=by show _=_;rw[HC.out,if_pos rfl]
  clear HC HV HTB HKw2 c1 c2 o1 o2;go_wp2
  go_ret2
  exact⟨_,_,rfl,HB2.out,.inr ⟨by rw[HF.out];decide,by rw[HF.out];rfl⟩⟩
 |true=>
 have HSV:=hdI <| (HV.out.2 rfl).1
 have HCX:=HC.out;rw[if_neg (fun h=>by cases h),(HV.out.2 rfl).1,(HV.out.2 rfl).2] at HCX;have HC2:=hid_ofS HCX;have HT72:=hdI <| HTB.out rfl
 have HS1:Hid (0≤s):=by show _≤_;rw[←HSV.out];exact HNN.out
 clear HC HV HTB HQ HCX
 go_upto_region 6 with fail
 clear c0;go_wp2_with fail;refine(isSerial_any _ _).mono ?_;rintro e w9 ⟨rfl,e9⟩;obtain rfl:w2=w9:=e9.symm;by_cases hs:256≤s
 ·have HF:Hid (tapC D U ks tk now=3):=by show _=_;rw[HC2.out,if_pos hs]
  have HSO:Hid (serOk s=false):=decide_eq_false (by omega);rw[HSO.out];clear HC2 c1 c2 o1 o2 HKw2;go_wp2
  go_ret2
  exact⟨_,_,rfl,HB2.out,.inr ⟨by rw[HF.out];decide,by rw[HF.out];rfl⟩⟩
 have HSO:Hid (serOk s=true):=decide_eq_true ⟨HS1.out,by omega⟩;have HS0:Hid (0≤s∧s<256):=⟨HS1.out,by omega⟩
 rw[HSO.out];by_cases hx:x<now
 ·have HF:Hid (tapC D U ks tk now=4):=by show _=_;rw[HC2.out,if_neg hs,if_pos hx]
  clear HC2 HKw2 c1 o1;go_wp2
  go_ret2
  exact⟨_,_,rfl,HB2.out,.inr ⟨by rw[HF.out];decide,by rw[HF.out];rfl⟩⟩
 have HCX:=HC2.out;rw[if_neg hs,if_neg hx] at HCX;have HC3:=hid_ofS HCX;clear HC2 HCX hs HSO HS1
 go_upto_region 10 with fail
 clear hx c2 o2;have HAS:Hid (∀ wz,Below w2.heap.size w2 wz→Calls Tryz.prog 71 #[.pointer (some ⟨g,0,none⟩),.int .i64 s] wz fun e w'=>e=.returned (.bool (memB s D))∧Below wz.heap.size wz w'):=fun wz h=>by
  have hk:=HKw2.out.below h;refine(hasS_any g 0 s _ _ (memB s D) wz hk.bk.batd hk.sd ?_).mono ?_
  ·have e:=Int.toNat_of_nonneg HS0.out.1;rw[e];exact⟨fun h=>⟨HS0.out.1,HS0.out.2,memB_of h⟩,fun h=>memB_yes h.2.2⟩
  ·rintro e w' ⟨rfl,rfl⟩;exact⟨rfl,Below.refl _ _⟩
 have HCS:=hdI <| c1
 have HLT1:=hdI <| block_lt_of_cell c1
 have HO1:=hdI <| o1
 have HLT:=hdI <| block_lt_of_cell o1
 obtain⟨m,hm⟩:∃ m,m=memB s D:=⟨_,rfl⟩
 have HM:=hdI <| hm.symm
 rw[←hm] at HAS;clear hm c1 o1;go_wp2_with fail;refine wp_region_any (by kernel_rfl) ?_;refine wpAny_slotsU (fun _ a b=>Below a.heap.size a b) (frame:=(fun (a b c d e f g h i j k l m n o p q r s u v w x y z A B C D E F G H I J K L M N O P Q R S T U V W X Y Z a0 a1 a2 a3 a4 a5:Value)=>fun (t:Nat→Value)=>({ tmps:=List.toArray [a,b,c,d,e,f,g,h,i,j,k,l,m,n,o,p,q,r,s,u,v,w,x,y,z,A,B,C,D,E,F,G,H,I,J,t 6,t 0,t 1,t 2,t 3,t 4,t 5,K,L,M,N,O,P,Q,R,S,T,U,V,W,X,Y,Z,a0,a1,a2,a3,a4,a5],defers:=[] }:Act)) _ _ _ _ _ _ _ _ _ _ _ _ _ _ _ _ _ _ _ _ _ _ _ _ _ _ _ _ _ _ _ _ _ _ _ _ _ _ _ _ _ _ _ _ _ _ _ _ _ _ _ _ _ _ _ _ _)
  (Ext:=fun L u w'=>ApX w2 [] L u w') (Good:=fun i L w' v=>if i=0 then v=.pointer (some ⟨g,0,none⟩) else if i=1 then v=.pointer (some ⟨g,0,none⟩) else if i=2 then v=.pointer (some ⟨g,0,none⟩) else if i=3 then v=.pointer (some ⟨w1.heap.size,1,none⟩) else if i=4 then v=.int .i64 s else if i=5 then v=.bool m else if i=6 then v=.bool m else True) ?hstab (by kernel_rfl) ?hop ?hdone _ _ ((fun (x0 x1 x2 x3 x4 x5 x6:Value)=>fun (i:Nat)=>if i=0 then x0 else if i=1 then x1 else if i=2 then x2 else if i=3 then x3 else if i=4 then x4 else if i=5 then x5 else if i=6 then x6 else undef) _ _ _ _ _ _ _) _ (by simp) ?ext ?start (by simp)
 case start=>intro i hi h;exact absurd h (by rw[Array.getD_eq_getD_getElem?,Array.getElem?_replicate];split<;>simp)
 case ext=>exact(ApX.start w2 [] _ _ (fun i=>by rw[Array.getD_eq_getD_getElem?,Array.getElem?_replicate];split<;>rfl)).drew
 case hstab=>
  intro j L w9 w' i v hM _ _ h;exact h
 case hop=>
  intro i o L t w' ho hLi hx hdep K hK;have hi:i<7:=(Array.getElem?_eq_some_iff.1 ho).1;obtain rfl|rfl|rfl|rfl|rfl|rfl|rfl:i=0∨i=1∨i=2∨i=3∨i=4∨i=5∨i=6:=by omega
  all_goals(simp at ho;subst ho)
  ·clear hdep;have hK':=hK w' (.pointer (some ⟨g,0,none⟩)) (by simp) (hx.step 0 _ (Below.refl _ _) (fun h=>absurd h (by decide))) (Below.refl _ _);clear hK;rw[if_pos (by rfl)];go_simp;simpa[upd] using hK'
  ·have d0:t 0=.pointer (some ⟨g,0,none⟩):=by simpa using(hdep ⟨0,.data⟩ (by simp) rfl).2
   clear hdep;have hK':=hK w' (.pointer (some ⟨g,0,none⟩)) (by simp) (hx.step 1 _ (Below.refl _ _) (fun h=>absurd h (by decide))) (Below.refl _ _);clear hK;rw[if_pos (by rfl)];go_simp;simpa[upd,d0] using hK'
  ·have d1:t 1=.pointer (some ⟨g,0,none⟩):=by simpa using(hdep ⟨1,.data⟩ (by simp) rfl).2
   clear hdep;have hK':=hK w' (.pointer (some ⟨g,0,none⟩)) (by simp) (hx.step 2 _ (Below.refl _ _) (fun h=>absurd h (by decide))) (Below.refl _ _);clear hK;rw[if_pos (by rfl)];go_simp;simpa[upd,d1] using hK'
  ·clear hdep;have hK':=hK w' (.pointer (some ⟨w1.heap.size,1,none⟩)) (by simp) (hx.step 3 _ (Below.refl _ _) (fun h=>absurd h (by decide))) (Below.refl _ _);clear hK;rw[if_pos (by rfl)];go_simp;simpa[upd] using hK'
  ·have d3:t 3=.pointer (some ⟨w1.heap.size,1,none⟩):=by simpa using(hdep ⟨3,.data⟩ (by simp) rfl).2
   clear hdep;have cc:w'.cell? ⟨w1.heap.size,1,none⟩=some (.int .i64 s):=by rw[hx.below.cell (p:=⟨w1.heap.size,1,none⟩) HLT1.out];exact HCS.out
   have hK':=hK w' (.int .i64 s) (by simp) (hx.step 4 _ (Below.refl _ _) (fun h=>absurd h (by decide))) (Below.refl _ _);clear hK;rw[if_pos (by rfl)];go_simp;simpa[upd,d3] using hK'
  ·have d2:t 2=.pointer (some ⟨g,0,none⟩):=by simpa using(hdep ⟨2,.data⟩ (by simp) rfl).2
   have d4:t 4=.int .i64 s:=by simpa using(hdep ⟨4,.data⟩ (by simp) rfl).2
   clear hdep;have A:=HAS.out w' hx.below;have hK':∀ ww,Below w'.heap.size w' ww→K _ ww:=fun ww hb=>hK ww (.bool m) (by simp) (hx.step 5 _ hb (fun h=>absurd h (by decide))) hb
   clear hK;rw[if_pos (by rfl)];go_simp;try simp only[d2,d4]
   refine A.mono ?_;rintro e w9 ⟨rfl,hb9⟩;have hK2:=hK' w9 hb9;clear hK' A hb9;go_simp;simpa[upd,d2,d4] using hK2
  ·have d5:t 5=.bool m:=by simpa using(hdep ⟨5,.data⟩ (by simp) rfl).2
   clear hdep;have hK':=hK w' (.bool m) (by simp) (hx.step 6 _ (Below.refl _ _) (fun h=>absurd h (by decide))) (Below.refl _ _);clear hK;rw[if_pos (by rfl)];go_simp;simpa[upd,d5] using hK'
 case hdone=>
  intro L t w3 hx hg;have e6:t 6=.bool m:=by simpa using hg 6 (by decide)
  have HB3:=hdI <| HB2.out.trans (hx.below.mono HB2.out.size)
  have c1':w3.cell? ⟨w1.heap.size,1,none⟩=some (.int .i64 s):=by rw[hx.below.cell (p:=⟨w1.heap.size,1,none⟩) HLT1.out];exact HCS.out
  have o1':w3.cell? ⟨w.heap.size,1,none⟩=some (.slice ta tn tc):=by rw[hx.below.cell (p:=⟨w.heap.size,1,none⟩) HLT.out];exact HO1.out
  have HKw3:=hdI <| HKw2.out.below hx.below
  clear hg hx HAS HCS HO1 HLT HLT1 HKw2;have c1:=c1';have o1:=o1';clear c1' o1';simp only[e6];clear e6;cases m with
  |true=>
   have HF:Hid (tapC D U ks tk now=5):=by show _=_;rw[HC3.out,if_pos HM.out]
   clear HC3 HM c1 o1;go_wp2
   go_ret2
   exact⟨_,_,rfl,HB3.out,.inr ⟨by rw[HF.out];decide,by rw[HF.out];rfl⟩⟩
  |false=>
   have HC4:=HC3.out;rw[if_neg (by rw[HM.out];decide)] at HC4;have HY:=hid_ofS HC4;clear HC4 HC3 HM;have HC4:=HY;clear HY;have HAS:Hid (∀ wz,Below w3.heap.size w3 wz→Calls Tryz.prog 71 #[.pointer (some ⟨g,32,none⟩),.int .i64 s] wz fun e w'=>e=.returned (.bool (memB s U))∧Below wz.heap.size wz w'):=fun wz h=>by
    have hk:=HKw3.out.below h;refine(hasS_any g 32 s _ _ (memB s U) wz hk.bk.batu hk.su ?_).mono ?_
    ·have e:=Int.toNat_of_nonneg HS0.out.1;rw[e];exact⟨fun h=>⟨HS0.out.1,HS0.out.2,memB_of h⟩,fun h=>memB_yes h.2.2⟩
    ·rintro e w' ⟨rfl,rfl⟩;exact⟨rfl,Below.refl _ _⟩
   have HCS:=hdI <| c1
   have HLT1:=hdI <| block_lt_of_cell c1
   have HO1:=hdI <| o1
   have HLT:=hdI <| block_lt_of_cell o1
   obtain⟨m,hm⟩:∃ m,m=memB s U:=⟨_,rfl⟩
   have HM:=hdI <| hm.symm
   rw[←hm] at HAS;clear hm c1 o1;go_wp2_with fail;refine wp_region_any (by kernel_rfl) ?_;refine wpAny_slotsU (fun _ a b=>Below a.heap.size a b) (frame:=(fun (a b c d e f g h i j k l m n o p q r s u v w x y z A B C D E F G H I J K L M N O P Q R S T U V W X Y Z a0 a1 a2 a3 a4 a5:Value)=>fun (t:Nat→Value)=>({ tmps:=List.toArray [a,b,c,d,e,f,g,h,i,j,k,l,m,n,o,p,q,r,s,u,v,w,x,y,z,A,B,C,D,E,F,G,H,I,J,K,L,M,N,O,P,Q,R,t 6,t 0,t 1,t 2,t 3,t 4,t 5,S,T,U,V,W,X,Y,Z,a0,a1,a2,a3,a4,a5],defers:=[] }:Act)) _ _ _ _ _ _ _ _ _ _ _ _ _ _ _ _ _ _ _ _ _ _ _ _ _ _ _ _ _ _ _ _ _ _ _ _ _ _ _ _ _ _ _ _ _ _ _ _ _ _ _ _ _ _ _ _ _)
    (Ext:=fun L u w'=>ApX w3 [] L u w') (Good:=fun i L w' v=>if i=0 then v=.pointer (some ⟨g,0,none⟩) else if i=1 then v=.pointer (some ⟨g,0,none⟩) else if i=2 then v=.pointer (some ⟨g,32,none⟩) else if i=3 then v=.pointer (some ⟨w1.heap.size,1,none⟩) else if i=4 then v=.int .i64 s else if i=5 then v=.bool m else if i=6 then v=.bool m else True) ?hstab (by kernel_rfl) ?hop ?hdone _ _ ((fun (x0 x1 x2 x3 x4 x5 x6:Value)=>fun (i:Nat)=>if i=0 then x0 else if i=1 then x1 else if i=2 then x2 else if i=3 then x3 else if i=4 then x4 else if i=5 then x5 else if i=6 then x6 else undef) _ _ _ _ _ _ _) _ (by simp) ?ext ?start (by simp)
   case start=>intro i hi h;exact absurd h (by rw[Array.getD_eq_getD_getElem?,Array.getElem?_replicate];split<;>simp)
   case ext=>exact(ApX.start w3 [] _ _ (fun i=>by rw[Array.getD_eq_getD_getElem?,Array.getElem?_replicate];split<;>rfl)).drew
   case hstab=>
    intro j L w9 w' i v hM _ _ h;exact h
   case hop=>
    intro i o L t w' ho hLi hx hdep K hK;have hi:i<7:=(Array.getElem?_eq_some_iff.1 ho).1;obtain rfl|rfl|rfl|rfl|rfl|rfl|rfl:i=0∨i=1∨i=2∨i=3∨i=4∨i=5∨i=6:=by omega
    all_goals(simp at ho;subst ho)
    ·clear hdep;have hK':=hK w' (.pointer (some ⟨g,0,none⟩)) (by simp) (hx.step 0 _ (Below.refl _ _) (fun h=>absurd h (by decide))) (Below.refl _ _);clear hK;rw[if_pos (by rfl)];go_simp;simpa[upd] using hK'
    ·have d0:t 0=.pointer (some ⟨g,0,none⟩):=by simpa using(hdep ⟨0,.data⟩ (by simp) rfl).2
     clear hdep;have hK':=hK w' (.pointer (some ⟨g,0,none⟩)) (by simp) (hx.step 1 _ (Below.refl _ _) (fun h=>absurd h (by decide))) (Below.refl _ _);clear hK;rw[if_pos (by rfl)];go_simp;simpa[upd,d0] using hK'
    ·have d1:t 1=.pointer (some ⟨g,0,none⟩):=by simpa using(hdep ⟨1,.data⟩ (by simp) rfl).2
     clear hdep;have hK':=hK w' (.pointer (some ⟨g,32,none⟩)) (by simp) (hx.step 2 _ (Below.refl _ _) (fun h=>absurd h (by decide))) (Below.refl _ _);clear hK;rw[if_pos (by rfl)];go_simp;simpa[upd,d1] using hK'
    ·clear hdep;have hK':=hK w' (.pointer (some ⟨w1.heap.size,1,none⟩)) (by simp) (hx.step 3 _ (Below.refl _ _) (fun h=>absurd h (by decide))) (Below.refl _ _);clear hK;rw[if_pos (by rfl)];go_simp;simpa[upd] using hK'
    ·have d3:t 3=.pointer (some ⟨w1.heap.size,1,none⟩):=by simpa using(hdep ⟨3,.data⟩ (by simp) rfl).2
     clear hdep;have cc:w'.cell? ⟨w1.heap.size,1,none⟩=some (.int .i64 s):=by rw[hx.below.cell (p:=⟨w1.heap.size,1,none⟩) HLT1.out];exact HCS.out
     have hK':=hK w' (.int .i64 s) (by simp) (hx.step 4 _ (Below.refl _ _) (fun h=>absurd h (by decide))) (Below.refl _ _);clear hK;rw[if_pos (by rfl)];go_simp;simpa[upd,d3] using hK'
    ·have d2:t 2=.pointer (some ⟨g,32,none⟩):=by simpa using(hdep ⟨2,.data⟩ (by simp) rfl).2
     have d4:t 4=.int .i64 s:=by simpa using(hdep ⟨4,.data⟩ (by simp) rfl).2
     clear hdep;have A:=HAS.out w' hx.below;have hK':∀ ww,Below w'.heap.size w' ww→K _ ww:=fun ww hb=>hK ww (.bool m) (by simp) (hx.step 5 _ hb (fun h=>absurd h (by decide))) hb
     clear hK;rw[if_pos (by rfl)];go_simp;try simp only[d2,d4]
     refine A.mono ?_;rintro e w9 ⟨rfl,hb9⟩;have hK2:=hK' w9 hb9;clear hK' A hb9;go_simp;simpa[upd,d2,d4] using hK2
    ·have d5:t 5=.bool m:=by simpa using(hdep ⟨5,.data⟩ (by simp) rfl).2
     clear hdep;have hK':=hK w' (.bool m) (by simp) (hx.step 6 _ (Below.refl _ _) (fun h=>absurd h (by decide))) (Below.refl _ _);clear hK;rw[if_pos (by rfl)];go_simp;simpa[upd,d5] using hK'
   case hdone=>
    intro L t w4 hx hg;have e6:t 6=.bool m:=by simpa using hg 6 (by decide)
    have HB4:=hdI <| HB3.out.trans (hx.below.mono HB3.out.size)
    have c1':w4.cell? ⟨w1.heap.size,1,none⟩=some (.int .i64 s):=by rw[hx.below.cell (p:=⟨w1.heap.size,1,none⟩) HLT1.out];exact HCS.out
    have o1':w4.cell? ⟨w.heap.size,1,none⟩=some (.slice ta tn tc):=by rw[hx.below.cell (p:=⟨w.heap.size,1,none⟩) HLT.out];exact HO1.out
    have HKw4:=hdI <| HKw3.out.below hx.below
    clear hg hx HAS HCS HO1 HLT HLT1 HKw3;have c1:=c1';have o1:=o1';clear c1' o1';simp only[e6];clear e6;cases m with
    |true=>
     have HF:Hid (tapC D U ks tk now=6):=by show _=_;rw[HC4.out,if_pos HM.out]
     clear HC4 HM c1 o1;go_wp2
     go_ret2
     exact⟨_,_,rfl,HB4.out,.inr ⟨by rw[HF.out];decide,by rw[HF.out];rfl⟩⟩
    |false=>
     have HC5:=HC4.out;rw[if_neg (by rw[HM.out];decide)] at HC5;have HTV:=hid_ofS HC5;clear HC4 HC5 HM;have h72:=HT72.out.symm.trans HL.out.1;subst h72;obtain⟨bt,ot,rfl,-,-⟩:=(HA.out _ HB4.out).1.get (by rw[HT72.out];decide);have HPT:Hid (∀ wz,Below w.heap.size w wz→PtA wz bt ot tk):=fun wz h=>by
      obtain⟨b',o',e',hl',hc'⟩:=(HA.out _ h).1.get (by rw[HT72.out];decide);cases e';exact⟨hl',hc'⟩
     have HT8:Hid ((8:Int)≤tc∧(72:Int)≤tc∧¬ (tc=8)):=⟨by omega,by omega,by omega⟩
     have HVS:Hid (∀ wz,Below w.heap.size w wz→Calls Tryz.prog 92 #[.slice (some ⟨bp,op,none⟩) 32 cp,.slice (some ⟨bt,ot,none⟩) 8 tc,.slice (some ⟨bt,ot+8,none⟩) 64 (tc-8:Nat)] wz fun e w'=>e=.returned (.bool (vsR ks (tk.take 8) (tk.drop 8)))∧Below wz.heap.size wz w'):=fun wz h=>
      vsI_any bp op cp bt ot tc bt (ot+8) (tc-8) 32 8 64 ks (tk.take 8) (tk.drop 8) wz HL.out.2.1 (by rw[List.length_take,HT72.out];rfl) (by rw[List.length_drop,HT72.out]) (HA.out wz h).2.1 ((HPT.out wz h).take 8) ((HPT.out wz h).drop 8) HL.out.2.2.1 (fun z hz=>HL.out.2.2.2 z (List.mem_of_mem_take hz)) (fun z hz=>HL.out.2.2.2 z (List.mem_of_mem_drop hz)) (by omega) (by decide) (by decide) (by decide) (HA.out wz h).2.2 (Nat.lt_of_lt_of_le HV1.out h.size)
     have HCS:=hdI <| c1
     have HLT1:=hdI <| block_lt_of_cell c1
     have HC1:=hdI <| o1
     have HLT:=hdI <| block_lt_of_cell o1
     generalize vsR ks (tk.take 8) (tk.drop 8)=V at *;clear HPT HT72 HA HL c1 o1 mt hct;go_wp2_with fail;refine wp_region_any (by kernel_rfl) ?_;refine wpAny_slotsU (fun _ a b=>Below a.heap.size a b) (frame:=(fun (a b c d e f g h i j k l m n o p q r s u v w x y z A B C D E F G H I J K L M N O P Q R S T U V W X Y Z a0 a1 a2:Value)=>fun (t:Nat→Value)=>({ tmps:=List.toArray [a,b,c,d,e,f,g,h,i,j,k,l,m,n,o,p,q,r,s,u,v,w,x,y,z,A,B,C,D,E,F,G,H,I,J,K,L,M,N,O,P,Q,R,S,T,U,V,W,X,Y,Z,t 9,t 0,t 1,t 2,t 3,t 4,t 5,t 6,t 7,t 8,a0,a1,a2],defers:=[] }:Act)) _ _ _ _ _ _ _ _ _ _ _ _ _ _ _ _ _ _ _ _ _ _ _ _ _ _ _ _ _ _ _ _ _ _ _ _ _ _ _ _ _ _ _ _ _ _ _ _ _ _ _ _ _ _)
      (Ext:=fun L u w'=>ApX w4 [] L u w') (Good:=fun i L w' v=>if i=0 then v=.slice (some ⟨bp,op,none⟩) 32 cp else if i=1 then v=.pointer (some ⟨w.heap.size,1,none⟩) else if i=2 then v=.slice (some ⟨bt,ot,none⟩) 72 tc else if i=3 then v=.slice (some ⟨bt,ot,none⟩) 8 tc else if i=4 then v=.pointer (some ⟨w.heap.size,1,none⟩) else if i=5 then v=.slice (some ⟨bt,ot,none⟩) 72 tc else if i=6 then v=.slice (some ⟨bt,ot+8,none⟩) 64 (tc-8:Nat) else if i=7 then v=.bool V else if i=8 then v=.bool (!V) else if i=9 then v=.bool (!V) else True) ?hstab (by kernel_rfl) ?hop ?hdone _ _ ((fun (x0 x1 x2 x3 x4 x5 x6 x7 x8 x9:Value)=>fun (i:Nat)=>if i=0 then x0 else if i=1 then x1 else if i=2 then x2 else if i=3 then x3 else if i=4 then x4 else if i=5 then x5 else if i=6 then x6 else if i=7 then x7 else if i=8 then x8 else if i=9 then x9 else undef) _ _ _ _ _ _ _ _ _ _) _ (by simp) ?ext ?start (by simp)
     case start=>intro i hi h;exact absurd h (by rw[Array.getD_eq_getD_getElem?,Array.getElem?_replicate];split<;>simp)
     case ext=>exact(ApX.start w4 [] _ _ (fun i=>by rw[Array.getD_eq_getD_getElem?,Array.getElem?_replicate];split<;>rfl)).drew
     case hstab=>
      intro j L w9 w' i v hM _ _ h;exact h
     case hop=>
      intro i o L t w' ho hLi hx hdep K hK;have hi:i<10:=(Array.getElem?_eq_some_iff.1 ho).1;obtain rfl|rfl|rfl|rfl|rfl|rfl|rfl|rfl|rfl|rfl:i=0∨i=1∨i=2∨i=3∨i=4∨i=5∨i=6∨i=7∨i=8∨i=9:=by omega
      all_goals(simp at ho;subst ho)
      ·clear hdep;have hK':=hK w' (.slice (some ⟨bp,op,none⟩) 32 cp) (by simp) (hx.step 0 _ (Below.refl _ _) (fun h=>absurd h (by decide))) (Below.refl _ _);clear hK;rw[if_pos (by rfl)];go_simp;simpa[upd] using hK'
      ·clear hdep;have hK':=hK w' (.pointer (some ⟨w.heap.size,1,none⟩)) (by simp) (hx.step 1 _ (Below.refl _ _) (fun h=>absurd h (by decide))) (Below.refl _ _);clear hK;rw[if_pos (by rfl)];go_simp;simpa[upd] using hK'
      ·have d1:t 1=.pointer (some ⟨w.heap.size,1,none⟩):=by simpa using(hdep ⟨1,.data⟩ (by simp) rfl).2
       clear hdep;have cc:w'.cell? ⟨w.heap.size,1,none⟩=some (.slice (some ⟨bt,ot,none⟩) 72 tc):=by rw[hx.below.cell (p:=⟨w.heap.size,1,none⟩) HLT.out];exact HC1.out
       have hK':=hK w' (.slice (some ⟨bt,ot,none⟩) 72 tc) (by simp) (hx.step 2 _ (Below.refl _ _) (fun h=>absurd h (by decide))) (Below.refl _ _);clear hK;rw[if_pos (by rfl)];go_simp;simpa[upd,d1] using hK'
      ·have d2:t 2=.slice (some ⟨bt,ot,none⟩) 72 tc:=by simpa using(hdep ⟨2,.data⟩ (by simp) rfl).2
       clear hdep;have h8:(8:Int)≤tc:=HT8.out.1;have hK':=hK w' (.slice (some ⟨bt,ot,none⟩) 8 tc) (by simp) (hx.step 3 _ (Below.refl _ _) (fun h=>absurd h (by decide))) (Below.refl _ _);clear hK;rw[if_pos (by rfl)];go_simp;simpa[upd,d2] using hK'
      ·clear hdep;have hK':=hK w' (.pointer (some ⟨w.heap.size,1,none⟩)) (by simp) (hx.step 4 _ (Below.refl _ _) (fun h=>absurd h (by decide))) (Below.refl _ _);clear hK;rw[if_pos (by rfl)];go_simp;simpa[upd] using hK'
      ·have d4:t 4=.pointer (some ⟨w.heap.size,1,none⟩):=by simpa using(hdep ⟨4,.data⟩ (by simp) rfl).2
       clear hdep;have cc:w'.cell? ⟨w.heap.size,1,none⟩=some (.slice (some ⟨bt,ot,none⟩) 72 tc):=by rw[hx.below.cell (p:=⟨w.heap.size,1,none⟩) HLT.out];exact HC1.out
       have hK':=hK w' (.slice (some ⟨bt,ot,none⟩) 72 tc) (by simp) (hx.step 5 _ (Below.refl _ _) (fun h=>absurd h (by decide))) (Below.refl _ _);clear hK;rw[if_pos (by rfl)];go_simp;simpa[upd,d4] using hK'
      ·have d5:t 5=.slice (some ⟨bt,ot,none⟩) 72 tc:=by simpa using(hdep ⟨5,.data⟩ (by simp) rfl).2
       clear hdep;have h8:(8:Int)≤tc:=HT8.out.1;have h72:(72:Int)≤tc:=HT8.out.2.1;have hne:¬ (tc=8):=HT8.out.2.2;have hK':=hK w' (.slice (some ⟨bt,ot+8,none⟩) 64 (tc-8:Nat)) (by simp) (hx.step 6 _ (Below.refl _ _) (fun h=>absurd h (by decide))) (Below.refl _ _);clear hK;rw[if_pos (by rfl)];go_simp;simpa[upd,d5] using hK'
      ·have d0:t 0=.slice (some ⟨bp,op,none⟩) 32 cp:=by simpa using(hdep ⟨0,.data⟩ (by simp) rfl).2
       have d3:t 3=.slice (some ⟨bt,ot,none⟩) 8 tc:=by simpa using(hdep ⟨3,.data⟩ (by simp) rfl).2
       have d6:t 6=.slice (some ⟨bt,ot+8,none⟩) 64 (tc-8:Nat):=by simpa using(hdep ⟨6,.data⟩ (by simp) rfl).2
       clear hdep;have A:=HVS.out w' (HB4.out.trans (hx.below.mono HB4.out.size));have hK':∀ ww,Below w'.heap.size w' ww→K _ ww:=fun ww hb=>hK ww (.bool V) (by simp) (hx.step 7 _ hb (fun h=>absurd h (by decide))) hb
       clear hK;rw[if_pos (by rfl)];go_simp;try simp only[d0,d3,d6]
       refine A.mono ?_;rintro e w9 ⟨rfl,hb9⟩;have hK2:=hK' w9 hb9;clear hK' A hb9;go_simp;simpa[upd,d0,d3,d6] using hK2
      ·have d7:t 7=.bool V:=by simpa using(hdep ⟨7,.data⟩ (by simp) rfl).2
       clear hdep;have hK':=hK w' (.bool (!V)) (by simp) (hx.step 8 _ (Below.refl _ _) (fun h=>absurd h (by decide))) (Below.refl _ _);clear hK;rw[if_pos (by rfl)];go_simp;simpa[upd,d7] using hK'
      ·have d8:t 8=.bool (!V):=by simpa using(hdep ⟨8,.data⟩ (by simp) rfl).2
       clear hdep;have hK':=hK w' (.bool (!V)) (by simp) (hx.step 9 _ (Below.refl _ _) (fun h=>absurd h (by decide))) (Below.refl _ _);clear hK;rw[if_pos (by rfl)];go_simp;simpa[upd,d8] using hK'
     case hdone=>
      intro L t w5 hx hg;have e9:t 9=.bool (!V):=by simpa using hg 9 (by decide)
      have HB5:Hid (Below w.heap.size w w5):=HB4.out.trans (hx.below.mono HB4.out.size);have cs5:w5.cell? ⟨w1.heap.size,1,none⟩=some (.int .i64 s):=by rw[hx.below.cell (p:=⟨w1.heap.size,1,none⟩) HLT1.out];exact HCS.out
      clear hg hx;simp only[e9];clear e9;cases V with
      |true=>
       have HF:Hid (tapC D U ks tk now=1):=HTV.out;clear HTV;go_wp2
       go_ret2
       exact⟨_,_,rfl,HB5.out,.inl ⟨HF.out,by rw[HSV.out];rfl,rfl⟩⟩
      |false=>
       have HF:Hid (tapC D U ks tk now=7):=HTV.out;clear HTV cs5;go_wp2
       go_ret2
       exact⟨_,_,rfl,HB5.out,.inr ⟨by rw[HF.out];decide,by rw[HF.out];rfl⟩⟩
end Go.Proofs.YtncomnkdlpoelaaGreatDoor
namespace Go.Proofs.YtncomnkdlpoelaaGreatDoor
open Go.ChangeShapes Go.WideShapes Go.ChangeAt Go.RowKit
set_option linter.unusedVariables false
variable {w w':World} {g:Nat} {d u:List Int} {k:Int} {v:Value} {D U:Nat→Prop} {T:List Int} {n H B:Nat}
set_option maxRecDepth 100000 in
set_option maxHeartbeats 1000000 in
theorem denyAdd_any (s:Nat) (hs:s<256) (hnot:¬ D s) (hfull:¬ popS d 32=16) (hb:Bk w g d u k v) (hd:SetB d D) (hu:SetB u U) (hv:TapV B w v T n) (hH:H≤g) (hgB:NeG g v) :
  Calls Tryz.prog 53 #[.pointer (some ⟨g,0,none⟩),.int .i64 s,.int .u32 1] w (ApP H B g w true (fun x=>D x∨x=s) U k T n):=by
 have HQ:Hid (¬ (s<256∧D s)):=fun h=>hnot h.2
 have HP:=hdI <| decide_eq_false hfull
 have HSO:=hdI <| ser_yes hs
 have HB:=hdI <| hb
 have HSD:Hid (SetB d D):=hd;have HF:∀ q,Hid (ApP H B g w true (fun x=>D x∨x=s) U k T n (.returned (.bool true)) ((w.setCell ⟨g,0+s/8,none⟩ (.int .u8 ((addB d s).getD (s/8) 0))).drewN q)):=fun q=>by
  have hw:Wr g w ((w.setCell ⟨g,0+s/8,none⟩ (.int .u8 ((addB d s).getD (s/8) 0))).drewN q):=((Wr.refl _ _).setCell _ _).drewN _;exact⟨rfl,hw.below hH,fun _=>⟨_,_,_,(hb.addD s hs).drew q,hd.add s hs,hu,hv.wr hw hgB,hgB⟩⟩
 clear hb hd hu hv hnot hfull;go_enter Tryz.func53,Tryz.ntmps53;go_wp2_with fail;refine(isSerial_any _ _).mono ?_;rintro e w1 ⟨rfl,rfl⟩;rw[HSO.out];go_wp2_with fail;refine(hasNo_any s HB.out.batd HSD.out HQ.out).mono ?_;rintro e w2 ⟨rfl,rfl⟩;go_wp2_with fail;refine(full_any HB.out).mono ?_;rintro e w3 ⟨rfl,rfl⟩;rw[HP.out];go_wp2_with fail;refine(addS_any g 0 s d _ hs HB.out.batd).mono ?_;rintro e w4 ⟨rfl,q,rfl⟩;have H2:=HF q;clear HF HB HSD HQ HP HSO;generalize (w3.setCell ⟨g,0+s/8,none⟩ (.int .u8 ((addB d s).getD (s/8) 0))).drewN q=w4 at *;go_wp2
 go_ret
 exact H2.out
set_option maxRecDepth 100000 in
set_option maxHeartbeats 1000000 in
theorem denyRem_any (s:Nat) (hs:s<256) (hin:D s) (hb:Bk w g d u k v) (hd:SetB d D) (hu:SetB u U) (hv:TapV B w v T n) (hH:H≤g) (hgB:NeG g v) :
  Calls Tryz.prog 53 #[.pointer (some ⟨g,0,none⟩),.int .i64 s,.int .u32 0] w (ApP H B g w true (fun x=>D x∧x≠s) U k T n):=by
 have HQ:Hid (s<256∧D s):=⟨hs,hin⟩
 have HB:=hdI <| hb
 have HSD:Hid (SetB d D):=hd;have HF:∀ q,Hid (ApP H B g w true (fun x=>D x∧x≠s) U k T n (.returned (.bool true)) ((w.setCell ⟨g,0+s/8,none⟩ (.int .u8 ((remB d s).getD (s/8) 0))).drewN q)):=fun q=>by
  have hw:Wr g w ((w.setCell ⟨g,0+s/8,none⟩ (.int .u8 ((remB d s).getD (s/8) 0))).drewN q):=((Wr.refl _ _).setCell _ _).drewN _;exact⟨rfl,hw.below hH,fun _=>⟨_,_,_,(hb.remD s hs).drew q,hd.rem s hs,hu,hv.wr hw hgB,hgB⟩⟩
 clear hb hd hu hv hin;go_enter Tryz.func53,Tryz.ntmps53;go_wp2_with fail;refine(hasYes_any s HB.out.batd HSD.out HQ.out).mono ?_;rintro e w2 ⟨rfl,rfl⟩;go_wp2_with fail;refine(remS_any g 0 s d _ hs HB.out.batd).mono ?_;rintro e w4 ⟨rfl,q,rfl⟩;have H2:=HF q;clear HF HB HSD HQ;generalize (w2.setCell ⟨g,0+s/8,none⟩ (.int .u8 ((remB d s).getD (s/8) 0))).drewN q=w4 at *;go_wp2
 go_ret
 exact H2.out
set_option maxRecDepth 100000 in
set_option maxHeartbeats 1000000 in
theorem denyNo_any (s b:Nat) (hno1:¬ (b=1∧s<256∧¬ D s∧¬ popS d 32=16)) (hno0:¬ (b=0∧s<256∧D s)) (hbb:b<4294967296) (hb:Bk w g d u k v) (hd:SetB d D) :
  Calls Tryz.prog 53 #[.pointer (some ⟨g,0,none⟩),.int .i64 s,.int .u32 b] w fun e w'=>e=.returned (.bool false)∧w'=w:=by
 have HB:=hdI <| hb
 have HSD:=hdI <| hd
 clear hb hd;by_cases h1:b=1
 ·subst h1;by_cases hs:s<256
  ·have HSO:=hdI <| ser_yes hs
   by_cases hin:D s
   ·have HQ:Hid (s<256∧D s):=⟨hs,hin⟩
    clear hno1 hno0 hin;go_enter Tryz.func53,Tryz.ntmps53;go_wp2_with fail;refine(isSerial_any _ _).mono ?_;rintro e w1 ⟨rfl,rfl⟩;rw[HSO.out];go_wp2_with fail;refine(hasYes_any s HB.out.batd HSD.out HQ.out).mono ?_;rintro e w2 ⟨rfl,rfl⟩;clear HB HSD HQ HSO;go_wp2
    go_ret
    exact⟨rfl,rfl⟩
   ·have HP:=hdI <| decide_eq_true (Classical.byContradiction fun h=>hno1 ⟨rfl,hs,hin,h⟩)
    have HQ:Hid (¬ (s<256∧D s)):=fun h=>hin h.2
    clear hno1 hno0 hin;go_enter Tryz.func53,Tryz.ntmps53;go_wp2_with fail;refine(isSerial_any _ _).mono ?_;rintro e w1 ⟨rfl,rfl⟩;rw[HSO.out];go_wp2_with fail;refine(hasNo_any s HB.out.batd HSD.out HQ.out).mono ?_;rintro e w2 ⟨rfl,rfl⟩;go_wp2_with fail;refine(full_any HB.out).mono ?_;rintro e w3 ⟨rfl,rfl⟩;rw[HP.out];clear HB HSD HQ HSO HP;go_wp2
    go_ret
    exact⟨rfl,rfl⟩
  ·have HSO:=hdI <| ser_no hs
   clear hno1 hno0 hs;go_enter Tryz.func53,Tryz.ntmps53;go_wp2_with fail;refine(isSerial_any _ _).mono ?_;rintro e w1 ⟨rfl,rfl⟩;rw[HSO.out];clear HB HSD HSO;go_wp2
   go_ret
   exact⟨rfl,rfl⟩
 ·by_cases h0:b=0
  ·subst h0;have HQ:Hid (¬ (s<256∧D s)):=fun h=>hno0 ⟨rfl,h⟩
   clear hno1 hno0 h1;go_enter Tryz.func53,Tryz.ntmps53;go_wp2_with fail;refine(hasNo_any s HB.out.batd HSD.out HQ.out).mono ?_;rintro e w2 ⟨rfl,rfl⟩;clear HB HSD HQ;go_wp2
   go_ret
   exact⟨rfl,rfl⟩
  ·have h1':¬ ((b:Int)=1):=by omega
   have h0':¬ ((b:Int)=0):=by omega
   clear hno1 hno0 h1 HB HSD;go_enter Tryz.func53,Tryz.ntmps53;go_wp2
   go_ret
   exact⟨rfl,rfl⟩
end Go.Proofs.YtncomnkdlpoelaaGreatDoor
namespace Go.Proofs.YtncomnkdlpoelaaGreatDoor
open Go.ChangeShapes Go.WideShapes Go.ChangeAt Go.RowKit
set_option linter.unusedVariables false
variable {w w':World} {g:Nat} {d u:List Int} {k:Int} {v:Value} {D U:Nat→Prop} {T:List Int} {n H B:Nat}
set_option maxRecDepth 100000 in
set_option maxHeartbeats 1000000 in
theorem tapYes_any (s:Nat) (nw:Int) (hs:s<256) (hnu:¬ U s) (hnd:¬ D s) (hb:Bk w g d u k v) (hd:SetB d D) (hu:SetB u U) (hv:TapV B w v T n) (hn:n≤1048576) (hH:H≤g) (hHB:H≤B) (hgB:NeG g v) (hBw:B≤w.heap.size) :
  Calls Tryz.prog 52 #[.pointer (some ⟨g,0,none⟩),.int .i64 s,.int .i64 nw] w (ApP H B g w true D (fun x=>U x∨x=s) k (T++[(s:Int),nw]) (n+1)):=by
 have HSO:=hdI <| ser_yes hs
 have HB:=hdI <| hb
 have HSD:=hdI <| hd
 have HSU:=hdI <| hu
 have HNU:Hid (¬ (s<256∧U s)):=fun h=>hnu h.2
 have HND:Hid (¬ (s<256∧D s)):=fun h=>hnd h.2
 have CA:=admit_any s nw hs hb hd hu hv hn hH hHB hgB hBw;clear hb hd hu hv hnu hnd hBw;go_enter Tryz.func52,Tryz.ntmps52;go_wp2_with fail;refine(isSerial_any _ _).mono ?_;rintro e w1 ⟨rfl,rfl⟩;rw[HSO.out];go_wp2_with fail;refine(hasNo_any s HB.out.batu HSU.out HNU.out).mono ?_;rintro e w2 ⟨rfl,rfl⟩;go_wp2_with fail;refine(hasNo_any s HB.out.batd HSD.out HND.out).mono ?_;rintro e w3 ⟨rfl,rfl⟩;go_wp2_with fail;refine CA.mono ?_;rintro e w4 ⟨rfl,hb4,u',v',r1,r2,r3,r4⟩;have HF:Hid (ApP H B g w3 true D (fun x=>U x∨x=s) k (T++[(s:Int),nw]) (n+1) (.returned (.bool true)) w4):=⟨rfl,hb4,fun _=>⟨_,_,_,r1,HSD.out,r2,r3,r4⟩⟩
 clear hb4 r1 r2 r3 CA HB HSD HSU HNU HND HSO;go_wp2
 go_ret
 exact HF.out
set_option maxRecDepth 100000 in
set_option maxHeartbeats 1000000 in
theorem tapNo_any (s:Nat) (nw:Int) (hno:¬ (s<256∧¬ U s∧¬ D s)) (hb:Bk w g d u k v) (hd:SetB d D) (hu:SetB u U) :
  Calls Tryz.prog 52 #[.pointer (some ⟨g,0,none⟩),.int .i64 s,.int .i64 nw] w fun e w'=>e=.returned (.bool false)∧w'=w:=by
 have HB:=hdI <| hb
 have HSD:=hdI <| hd
 have HSU:=hdI <| hu
 clear hb hd hu;by_cases hs:s<256
 ·have HSO:=hdI <| ser_yes hs
  by_cases hin:U s
  ·have HQ:Hid (s<256∧U s):=⟨hs,hin⟩
   clear hno hin;go_enter Tryz.func52,Tryz.ntmps52;go_wp2_with fail;refine(isSerial_any _ _).mono ?_;rintro e w1 ⟨rfl,rfl⟩;rw[HSO.out];go_wp2_with fail;refine(hasYes_any s HB.out.batu HSU.out HQ.out).mono ?_;rintro e w2 ⟨rfl,rfl⟩;clear HB HSD HSU HQ HSO;go_wp2
   go_ret
   exact⟨rfl,rfl⟩
  ·have HQ:Hid (¬ (s<256∧U s)):=fun h=>hin h.2
   have HY:Hid (s<256∧D s):=⟨hs,Classical.byContradiction fun h=>hno ⟨hs,hin,h⟩⟩
   clear hno hin;go_enter Tryz.func52,Tryz.ntmps52;go_wp2_with fail;refine(isSerial_any _ _).mono ?_;rintro e w1 ⟨rfl,rfl⟩;rw[HSO.out];go_wp2_with fail;refine(hasNo_any s HB.out.batu HSU.out HQ.out).mono ?_;rintro e w2 ⟨rfl,rfl⟩;go_wp2_with fail;refine(hasYes_any s HB.out.batd HSD.out HY.out).mono ?_;rintro e w3 ⟨rfl,rfl⟩;clear HB HSD HSU HQ HSO HY;go_wp2
   go_ret
   exact⟨rfl,rfl⟩
 ·have HSO:=hdI <| ser_no hs
  clear hno hs;go_enter Tryz.func52,Tryz.ntmps52;go_wp2_with fail;refine(isSerial_any _ _).mono ?_;rintro e w1 ⟨rfl,rfl⟩;rw[HSO.out];clear HB HSD HSU HSO;go_wp2
  go_ret
  exact⟨rfl,rfl⟩
end Go.Proofs.YtncomnkdlpoelaaGreatDoor
namespace Go.Proofs.YtncomnkdlpoelaaGreatDoor
open Go.ChangeShapes Go.WideShapes Go.ChangeAt Go.RowKit
set_option linter.unusedVariables false
set_option maxRecDepth 100000 in
set_option maxHeartbeats 2000000 in
theorem apply_any (seq kind:Int) (a b:Nat) (ha:a<4294967296) (hbb:b<4294967296) {w:World} {g H B n:Nat} {d u D U:List Int} {k:Int} {v:Value} {T:List Int} (hb:Bk w g d u k v) (hd:SetB d (fun x=>(x:Int)∈D)) (hu:SetB u (fun x=>(x:Int)∈U)) (hv:TapV B w v T n)
  (hSD:SerP D) (h0:0≤k) (h1:k≤1048576) (hn:n≤1048576) (hH:H≤g) (hHB:H≤B) (hgB:NeG g v) (hBw:B≤w.heap.size) :
  Calls Tryz.prog 31 #[.pointer (some ⟨g,0,none⟩),.agg #[.int .u32 seq,.int .i64 kind,.int .u32 a,.int .u32 b]] w (apPost H B g w (apR D U k T n kind a b)):=by
 have hgl:=hb.lt;have bw:Below w.heap.size w (w.alloc (.cells #[.int .u32 seq,.int .i64 kind,.int .u32 a,.int .u32 b] 38)):=(Below.refl _ _).alloc (Nat.le_refl _) _;have HB:Hid (Bk (w.alloc (.cells #[.int .u32 seq,.int .i64 kind,.int .u32 a,.int .u32 b] 38)) g d u k v):=hb.below bw hgl;have HV:Hid (TapV B (w.alloc (.cells #[.int .u32 seq,.int .i64 kind,.int .u32 a,.int .u32 b] 38)) v T n):=hv.alloc _;have HW:Hid (Below H w (w.alloc (.cells #[.int .u32 seq,.int .i64 kind,.int .u32 a,.int .u32 b] 38))):=bw.mono (by omega);have HZ:Hid (B≤(w.alloc (.cells #[.int .u32 seq,.int .i64 kind,.int .u32 a,.int .u32 b] 38)).heap.size):=by
  show _≤_
  simp;omega
 have HSD:Hid (SetB d (fun x=>(x:Int)∈D)):=hd;have HSU:Hid (SetB u (fun x=>(x:Int)∈U)):=hu;have HPL:Hid (popS d 32=D.length):=pop_len hd hSD;have HSER:Hid (SerP D):=hSD;clear hb hd hu hv hSD bw hBw;by_cases k1:kind=1
 ·subst k1;by_cases hc:a<256∧¬ (a:Int)∈U∧¬ (a:Int)∈D
  ·have HR:Hid (apR D U k T n 1 a b=⟨true,D,withS U a,k,T++[(a:Int),(b:Int)],n+1⟩):=by show _=_;unfold apR;rw[if_pos rfl,if_pos hc]
   go_enter Tryz.func31,Tryz.ntmps31;go_wp2_with fail;refine(tapYes_any (H:=H) (B:=B) (T:=T) (n:=n) a b hc.1 hc.2.1 hc.2.2 HB.out HSD.out HSU.out HV.out hn hH hHB hgB HZ.out).mono ?_;intro e w2 h;have HF:Hid (apPost H B g w (apR D U k T n 1 a b) e w2):=by
    show apPost _ _ _ _ _ _ _
    rw[HR.out];exact ApP.to h HW.out (fun v _=>Iff.rfl) (fun v hv=>withS_mem hv)
   obtain⟨rfl,h⟩:=h;clear h HB HV HW HZ HSD HSU HPL HSER HR;go_wp2
   go_ret
   exact HF.out
  ·have HR:Hid (apR D U k T n 1 a b=apNo):=by show _=_;unfold apR;rw[if_pos rfl,if_neg hc]
   go_enter Tryz.func31,Tryz.ntmps31;go_wp2_with fail;refine(tapNo_any a b hc HB.out HSD.out HSU.out).mono ?_;intro e w2 h;have HF:Hid (apPost H B g w (apR D U k T n 1 a b) e w2):=by
    show apPost _ _ _ _ _ _ _
    rw[HR.out];exact⟨h.1,(show w2=_ from h.2) ▸ HW.out,fun h'=>by cases h'⟩
   obtain⟨rfl,h⟩:=h;clear h HB HV HW HZ HSD HSU HPL HSER HR;go_wp2
   go_ret
   exact HF.out
 by_cases k2:kind=2
 ·subst k2;clear k1;by_cases hc:b=1∧a<256∧¬ (a:Int)∈D∧¬ D.length=16
  ·have HR:Hid (apR D U k T n 2 a b=⟨true,withS D a,U,k,T,n⟩):=by show _=_;unfold apR;rw[if_neg (by decide),if_pos rfl,if_pos hc]
   have HC:Hid (a<256∧¬ (a:Int)∈D∧¬ popS d 32=16):=⟨hc.2.1,hc.2.2.1,by rw[HPL.out];exact hc.2.2.2⟩
   obtain⟨rfl,_⟩:=hc;go_enter Tryz.func31,Tryz.ntmps31;go_wp2_with fail;refine(denyAdd_any (H:=H) (B:=B) (T:=T) (n:=n) a HC.out.1 HC.out.2.1 HC.out.2.2 HB.out HSD.out HSU.out HV.out hH hgB).mono ?_;intro e w2 h;have HF:Hid (apPost H B g w (apR D U k T n 2 a 1) e w2):=by
    show apPost _ _ _ _ _ _ _
    rw[HR.out];exact ApP.to h HW.out (fun v hv=>withS_mem hv) (fun v _=>Iff.rfl)
   obtain⟨rfl,h⟩:=h;clear h HB HV HW HZ HSD HSU HPL HSER HR;go_wp2
   go_ret
   exact HF.out
  by_cases hc0:b=0∧a<256∧(a:Int)∈D
  ·have HR:Hid (apR D U k T n 2 a b=⟨true,lessS D a,U,k,T,n⟩):=by show _=_;unfold apR;rw[if_neg (by decide),if_pos rfl,if_neg hc,if_pos hc0]
   have HC:Hid (a<256∧(a:Int)∈D):=hc0.2;clear hc;obtain⟨rfl,_⟩:=hc0;go_enter Tryz.func31,Tryz.ntmps31;go_wp2_with fail;refine(denyRem_any (H:=H) (B:=B) (T:=T) (n:=n) a HC.out.1 HC.out.2 HB.out HSD.out HSU.out HV.out hH hgB).mono ?_;intro e w2 h;have HF:Hid (apPost H B g w (apR D U k T n 2 a 0) e w2):=by
    show apPost _ _ _ _ _ _ _
    rw[HR.out];exact ApP.to h HW.out (fun v hv=>lessS_mem) (fun v _=>Iff.rfl)
   obtain⟨rfl,h⟩:=h;clear h HB HV HW HZ HSD HSU HPL HSER HR;go_wp2
   go_ret
   exact HF.out
  ·have HR:Hid (apR D U k T n 2 a b=apNo):=by show _=_;unfold apR;rw[if_neg (by decide),if_pos rfl,if_neg hc,if_neg hc0]
   rw[←HPL.out] at hc;have HC:Hid (¬ (b=1∧a<256∧¬ (a:Int)∈D∧¬ popS d 32=16)):=hc;have HC0:Hid (¬ (b=0∧a<256∧(a:Int)∈D)):=hc0;clear hc hc0;go_enter Tryz.func31,Tryz.ntmps31;go_wp2_with fail;refine(denyNo_any a b HC.out HC0.out hbb HB.out HSD.out).mono ?_;intro e w2 h;have HF:Hid (apPost H B g w (apR D U k T n 2 a b) e w2):=by
    show apPost _ _ _ _ _ _ _
    rw[HR.out];exact⟨h.1,(show w2=_ from h.2) ▸ HW.out,fun h'=>by cases h'⟩
   obtain⟨rfl,h⟩:=h;clear h HB HV HW HZ HSD HSU HPL HSER HR;go_wp2
   go_ret
   exact HF.out
 by_cases k3:kind=3
 ·subst k3;clear k1 k2;by_cases hb0:b=0
  ·subst hb0;by_cases hc:(a:Int)≤k+n
   ·have HR:Hid (apR D U k T n 3 a 0=⟨true,D,U,max a k,T.drop (ackM k a*2),n-ackM k a⟩):=by show _=_;unfold apR;rw[if_neg (by decide),if_neg (by decide),if_pos rfl,if_pos ⟨rfl,hc⟩]
    have HD:Hid (decide ((a:Int)≤k+n)=true):=decide_eq_true hc;clear hc;go_enter Tryz.func31,Tryz.ntmps31;go_wp2_with fail;refine(applyAck_any (H:=H) (B:=B) (T:=T) (n:=n) a (by omega) (by omega) HB.out HSD.out HSU.out HV.out h0 h1 hn hH hgB).mono ?_;intro e w2 h;have HF:Hid (apPost H B g w (apR D U k T n 3 a 0) e w2):=by
     show apPost _ _ _ _ _ _ _
     rw[HR.out];exact ApP.to (by rw[HD.out] at h;exact h) HW.out (fun v _=>Iff.rfl) (fun v _=>Iff.rfl)
    rw[HD.out] at h;obtain⟨rfl,h⟩:=h;clear h HB HV HW HZ HSD HSU HPL HSER HR;go_wp2
    go_ret
    exact HF.out
   ·have HR:Hid (apR D U k T n 3 a 0=apNo):=by show _=_;unfold apR;rw[if_neg (by decide),if_neg (by decide),if_pos rfl,if_neg (fun h=>hc h.2)]
    have HD:Hid (decide ((a:Int)≤k+n)=false):=decide_eq_false hc;clear hc;go_enter Tryz.func31,Tryz.ntmps31;go_wp2_with fail;refine(applyAck_any (H:=H) (B:=B) (T:=T) (n:=n) a (by omega) (by omega) HB.out HSD.out HSU.out HV.out h0 h1 hn hH hgB).mono ?_;intro e w2 h;have HF:Hid (apPost H B g w (apR D U k T n 3 a 0) e w2):=by
     show apPost _ _ _ _ _ _ _
     rw[HR.out];exact(by rw[HD.out] at h;exact⟨h.1,HW.out.trans h.2.1,fun h'=>by cases h'⟩)
    rw[HD.out] at h;obtain⟨rfl,h⟩:=h;clear h HB HV HW HZ HSD HSU HPL HSER HR;go_wp2
    go_ret
    exact HF.out
  ·have hb0':¬ ((b:Int)=0):=by omega
   have HF:Hid (apPost H B g w (apR D U k T n 3 a b) (.returned (.bool false)) (w.alloc (.cells #[.int .u32 seq,.int .i64 3,.int .u32 a,.int .u32 b] 38))):=by
    show apPost _ _ _ _ _ _ _
    have:apR D U k T n 3 a b=apNo:=by unfold apR;rw[if_neg (by decide),if_neg (by decide),if_pos rfl,if_neg (fun h=>hb0 h.1)]
    rw[this];exact⟨rfl,HW.out,fun h'=>by cases h'⟩
   clear HB HV HW HZ HSD HSU HPL HSER;go_enter Tryz.func31,Tryz.ntmps31;go_wp2
   go_ret
   exact HF.out
 ·have HF:Hid (apPost H B g w (apR D U k T n kind a b) (.returned (.bool false)) (w.alloc (.cells #[.int .u32 seq,.int .i64 kind,.int .u32 a,.int .u32 b] 38))):=by
   show apPost _ _ _ _ _ _ _
   have:apR D U k T n kind a b=apNo:=by unfold apR;rw[if_neg k1,if_neg k2,if_neg k3]
   rw[this];exact⟨rfl,HW.out,fun h'=>by cases h'⟩
  clear HB HV HW HZ HSD HSU HPL HSER;go_enter Tryz.func31,Tryz.ntmps31;go_wp2
  go_ret
  exact HF.out
set_option maxRecDepth 100000 in
set_option maxHeartbeats 4000000 in
theorem iap_any (aD aU aT:Option Addr) (nD cD nU cU nT cT:Nat) (D U:List Int) (k:Int) (T:List Int) (seq kind:Int) (a b:Nat) (w:World) (hD:D.length=nD) (hU:U.length=nU) (hT:T.length=nT*2) (mD:nD≤1048576) (mU:nU≤1048576) (mT:nT≤1048576)
  (haD:At .i64 w aD D) (haU:At .i64 w aU U) (haT:At .i64 w aT T) (hnil:aT=none→nT=0∧cT=0) (hk0:-9223372036854775808≤k) (hk1:k<9223372036854775808) (ha:a<4294967296) (hbb:b<4294967296) :
  Calls Tryz.prog 10 #[.agg #[.slice aD nD cD,.slice aU nU cU,.int .i64 k,.slice aT nT cT],.agg #[.int .u32 seq,.int .i64 kind,.int .u32 a,.int .u32 b]] w fun e w'=>∃ v,e=.returned v∧APV w.heap.size w' v (apF D U k T nT kind a b)∧Below w.heap.size w w':=by
 have HX0:Hid (IX w #[.int .u32 seq,.int .i64 kind,.int .u32 a,.int .u32 b] (((w.alloc (.cells #[.slice aD nD cD,.slice aU nU cU,.int .i64 k,.slice aT nT cT] 26)).alloc (.cells #[.int .u32 seq,.int .i64 kind,.int .u32 a,.int .u32 b] 38)).alloc (.cells #[.bool false,.slice none 0 0,.slice none 0 0,.int .i64 0,.slice none 0 0] 42))):=IX.start _ _ _;have HZ0:Hid ((((w.alloc (.cells #[.slice aD nD cD,.slice aU nU cU,.int .i64 k,.slice aT nT cT] 26)).alloc (.cells #[.int .u32 seq,.int .i64 kind,.int .u32 a,.int .u32 b] 38)).alloc (.cells #[.bool false,.slice none 0 0,.slice none 0 0,.int .i64 0,.slice none 0 0] 42)).heap.size=w.heap.size+3):=by show _=_;simp
 have HC:=openBook_any aD aU aT nD cD nU cU nT cT D U k T _ hD hU hT mD mU mT (haD.below HX0.out.below) (haU.below HX0.out.below) (haT.below HX0.out.below) hnil hk0 hk1;have HLU:=hdI <| hU
 have HRZ:Hid ((Tryz.prog.info? 42).map (·.size)=some 5):=by show _=_;kernel_rfl
 clear haD haU haT hnil hk0 hk1 hD hU hT;go_enter Tryz.func10,Tryz.ntmps10;go_wp2_with fail;generalize (((w.alloc (.cells #[.slice aD nD cD,.slice aU nU cU,.int .i64 k,.slice aT nT cT] 26)).alloc (.cells #[.int .u32 seq,.int .i64 kind,.int .u32 a,.int .u32 b] 38)).alloc (.cells #[.bool false,.slice none 0 0,.slice none 0 0,.int .i64 0,.slice none 0 0] 42))=w0 at *;refine HC.mono ?_;rintro e w1 ⟨bk,rfl,hs,ho,hb,hbk⟩;have HX1:=hdI <| HX0.out.call hb (by rw[HZ0.out];omega)
 have HB1:Hid (w.heap.size+3≤w1.heap.size):=by show _≤_;have:=hb.size;rw[HZ0.out] at this;exact this
 have HN:Hid ((w1.alloc (.cells Tryz.zeroCells61 61)).heap[w1.heap.size]?=some (.cells Tryz.zeroCells61 61 (0,0))):=heap_alloc_new w1 _;have HSZ:Hid ((Tryz.prog.info? 61).map (·.size)=some bk.size):=by show _=_;rw[hs];exact Tryz.sizeBook
 have HEQ:Hid ((Tryz.zeroCells61).size=bk.size):=by show _=_;rw[hs];exact zc_size
 have HOK:=hdI <| ho
 have b2:∀ cs,Below w1.heap.size w1 ((w1.alloc (.cells Tryz.zeroCells61 61)).setRow w1.heap.size cs):=fun cs=>((Below.refl _ _).alloc (Nat.le_refl _) _).trans ((Wr.setRow _ _ _).below (Nat.le_refl _))
 have HB2:=hdI <| b2 bk
 have HR2:Hid (((w1.alloc (.cells Tryz.zeroCells61 61)).setRow w1.heap.size bk).heap[w1.heap.size]?=some (.cells bk 61 (0,0))):=setRow_heap _ _ _ _ _ _ HN.out;have HBK:Hid (stB D U k T nT=true→∃ db ub v,bk=bkC db ub k v∧SetB db (fun v=>(v:Int)∈D)∧SetB ub (fun v=>(v:Int)∈U)∧TapO (w.heap.size+3) w1 v T nT):=by
  intro h;obtain⟨db,ub,v,h1,h2,h3,h4⟩:=hbk h;rw[HZ0.out] at h4;exact⟨db,ub,v,h1,h2,h3,h4⟩
 have HX2:=hdI <| HX1.out.call (b2 bk) HB1.out
 have HAF:Hid (apF D U k T nT kind a b=if stB D U k T nT=true then apR D U k T nT kind a b else apNo):=rfl;have HST:Hid (stB D U k T nT=true→StP D U k T nT):=stP_of;clear hs ho hb HC HX0 HZ0 hbk b2 HX1;generalize hq:stB D U k T nT=q at *;have HQ:=hdI <| hq
 clear hq
 go_upto_region 2 with (first
  |(refine wpList_store_row rfl 61 (.tmp 5) (.tmp 10) rfl w1.heap.size bk rfl rfl 61 _ HN.out HSZ.out HEQ.out HOK.out ?_)
  |fail)
 clear HN HSZ HEQ HOK;generalize (w1.alloc (.cells Tryz.zeroCells61 61)).setRow w1.heap.size bk=w2 at *;cases q with
 |false=>
  have HF2:Hid (apF D U k T nT kind a b=apNo):=by show _=_;rw[HAF.out];rfl
  go_upto_region 3 with fail
  have HRB:=hdI <| HX2.out.rb
  have HF:Hid (APV w.heap.size (w2.setRow (w.heap.size+2) #[.bool false,.slice none 0 0,.slice none 0 0,.int .i64 0,.slice none 0 0]) (.agg #[.bool false,.slice none 0 0,.slice none 0 0,.int .i64 0,.slice none 0 0]) (apF D U k T nT kind a b)∧Below w.heap.size w (w2.setRow (w.heap.size+2) #[.bool false,.slice none 0 0,.slice none 0 0,.int .i64 0,.slice none 0 0])):=
   ⟨by rw[HF2.out];exact APV.no _ _,HX2.out.below.trans ((Wr.setRow _ _ _).below (by omega))⟩
  go_wp2_with (first
   |(refine wpList_store_row rfl 42 (.tmp 4) (.tmp 19) rfl (w.heap.size+2) #[.bool false,.slice none 0 0,.slice none 0 0,.int .i64 0,.slice none 0 0] rfl rfl 42 _ HRB.out HRZ.out rfl (by simp[Value.oneCell']) ?_)
   |fail)
  exact bodyPost_ret (v:=.agg #[.bool false,.slice none 0 0,.slice none 0 0,.int .i64 0,.slice none 0 0]) (results_cell_row rfl _ _ (w.heap.size+2) 42 _ (0,0) _ rfl (setRow_heap _ _ _ _ _ _ HRB.out) Tryz.underlying42 rfl HRZ.out) rfl ⟨_,rfl,HF.out.1,HF.out.2⟩
 |true=>
  have HF2:Hid (apF D U k T nT kind a b=apR D U k T nT kind a b):=by show _=_;rw[HAF.out];rfl
  obtain⟨db,ub,v9,rfl,hsd,hsu,hto⟩:=HBK.out rfl;have hst:=HST.out rfl;have hbk:Bk w2 w1.heap.size db ub k v9:=⟨HR2.out,hsd.1,hsu.1,hsd.2.1,hsu.2.1⟩
  have hne:NeG w1.heap.size v9:=fun t ht e=>by
   rcases hto.2 with⟨h',_⟩|⟨g,c,cur,h',hb,hh,_⟩
   ·rw[h'] at ht;simp[Value.ownBlock] at ht
   ·rw[h'] at ht;simp[Value.ownBlock] at ht;have:=(Array.getElem?_eq_some_iff.1 hh).1;omega
  have hto2:TapO (w.heap.size+3) w2 v9 T nT:=by
   refine⟨hto.1,?_⟩;rcases hto.2 with h'|⟨g,c,cur,h1,h2,h3,h4⟩
   ·exact .inl h'
   ·exact .inr ⟨g,c,cur,h1,h2,by rw[HB2.out.block g (Array.getElem?_eq_some_iff.1 h3).1];exact h3,h4⟩
  have hkn:k+nT=(nU:Int):=by have:=hst.2.2.2.2.1;rw[HLU.out] at this;exact this
  have HC:=apply_any seq kind a b ha hbb (H:=w.heap.size+3) (B:=w.heap.size+3) hbk hsd hsu hto2.tapV hst.1 hst.2.2.2.1 (by omega) mT HB1.out (Nat.le_refl _) hne (by have:=HB2.out.size;have:=HB1.out;omega);have HSR:=apR_ser (k:=k) (T:=T) (n:=nT) (kind:=kind) (a:=a) (b:=b) hst.1 hst.2.2.1;have HNO:Hid ((apR D U k T nT kind a b).ok=false→apR D U k T nT kind a b=apNo):=apR_no;have HSER:=hdI <| HSR
  have HG:=hdI <| hbk.lt
  have f0:w2.cell? ⟨w.heap.size+1,0,none⟩=some (.int .u32 seq):=by rw[cell_of_row w2 _ 0 _ _ _ HX2.out.fb];rfl
  have f1:w2.cell? ⟨w.heap.size+1,1,none⟩=some (.int .i64 kind):=by rw[cell_of_row w2 _ 1 _ _ _ HX2.out.fb];rfl
  have f2:w2.cell? ⟨w.heap.size+1,2,none⟩=some (.int .u32 a):=by rw[cell_of_row w2 _ 2 _ _ _ HX2.out.fb];rfl
  have f3:w2.cell? ⟨w.heap.size+1,3,none⟩=some (.int .u32 b):=by rw[cell_of_row w2 _ 3 _ _ _ HX2.out.fb];rfl
  clear hsd hsu hto hst hbk hto2 hkn HSR HBK HST hne HR2 HB2 HAF;generalize apR D U k T nT kind a b=r at *;go_wp2_with fail;refine HC.mono ?_;rintro e w3 ⟨rfl,hb3,hp⟩;have HX3:=hdI <| HX2.out.call hb3 (Nat.le_refl _)
  have HRB:=hdI <| HX3.out.rb
  clear f0 f1 f2 f3 HC HX2;cases hr:r.ok with
  |false=>
   have HF3:Hid (apF D U k T nT kind a b=apNo):=by show _=_;rw[HF2.out,HNO.out hr]
   have HF:Hid (APV w.heap.size (w3.setRow (w.heap.size+2) #[.bool false,.slice none 0 0,.slice none 0 0,.int .i64 0,.slice none 0 0]) (.agg #[.bool false,.slice none 0 0,.slice none 0 0,.int .i64 0,.slice none 0 0]) (apF D U k T nT kind a b)∧Below w.heap.size w (w3.setRow (w.heap.size+2) #[.bool false,.slice none 0 0,.slice none 0 0,.int .i64 0,.slice none 0 0])):=
    ⟨by rw[HF3.out];exact APV.no _ _,HX3.out.below.trans ((Wr.setRow _ _ _).below (by omega))⟩
   clear hp hb3 HNO HSER hr
   go_upto_region 3 with fail
   go_wp2_with (first
    |(refine wpList_store_row rfl 42 (.tmp 4) (.tmp 19) rfl (w.heap.size+2) #[.bool false,.slice none 0 0,.slice none 0 0,.int .i64 0,.slice none 0 0] rfl rfl 42 _ HRB.out HRZ.out rfl (by simp[Value.oneCell']) ?_)
    |fail)
   exact bodyPost_ret (v:=.agg #[.bool false,.slice none 0 0,.slice none 0 0,.int .i64 0,.slice none 0 0]) (results_cell_row rfl _ _ (w.heap.size+2) 42 _ (0,0) _ rfl (setRow_heap _ _ _ _ _ _ HRB.out) Tryz.underlying42 rfl HRZ.out) rfl ⟨_,rfl,HF.out.1,HF.out.2⟩
  |true=>
   obtain⟨d',u',v',r1,r2,r3,r4,r5⟩:=hp hr;obtain⟨aT',cT',rfl⟩:=r4.slice;have HS:=state_any aT' r.n cT' (fun v=>decide ((v:Int)∈r.D)) (fun v=>decide ((v:Int)∈r.U)) r1 (r2.congr (fun v _=>by simp)) (r3.congr (fun v _=>by simp));rw[HSER.out.1.eq_upTo _ (fun v _=>by simp),HSER.out.2.eq_upTo _ (fun v _=>by simp)] at HS;have HTV:=hdI <| r4
   have HRK:=hdI <| hr
   clear r1 r2 r3 r4 r5 hp HSER HNO hb3 hr;go_wp2_with fail;refine HS.mono ?_;rintro e w4 ⟨aD',nD',cD',aU',nU',cU',rfl,g1,g2,g3,hb4⟩;have HRB4:Hid (w4.heap[w.heap.size+2]?=some (.cells #[.bool false,.slice none 0 0,.slice none 0 0,.int .i64 0,.slice none 0 0] 42 (0,0))):=by show _=_;rw[hb4.block _ (Array.getElem?_eq_some_iff.1 HRB.out).1];exact HRB.out
   have hw5:Wr (w.heap.size+2) w4 (w4.setRow (w.heap.size+2) #[.bool true,.slice aD' nD' cD',.slice aU' nU' cU',.int .i64 r.k,.slice aT' r.n cT']):=Wr.setRow _ _ _;have HF:Hid (APV w.heap.size (w4.setRow (w.heap.size+2) #[.bool true,.slice aD' nD' cD',.slice aU' nU' cU',.int .i64 r.k,.slice aT' r.n cT']) (.agg #[.bool true,.slice aD' nD' cD',.slice aU' nU' cU',.int .i64 r.k,.slice aT' r.n cT']) (apF D U k T nT kind a b)∧Below w.heap.size w (w4.setRow (w.heap.size+2) #[.bool true,.slice aD' nD' cD',.slice aU' nU' cU',.int .i64 r.k,.slice aT' r.n cT'])):=by
    have hlt:=(Array.getElem?_eq_some_iff.1 HRB.out).1;obtain⟨s1,s2,s3⟩:=g1.sat;obtain⟨t1,t2,t3⟩:=g2.sat;obtain⟨q1,q2,q3⟩:=HTV.out.sat;have q4:SAt w4 aT' r.T:=q1.below hb4;have q5:Lies (w.heap.size+3) w4 aT':=q3.mono (Nat.le_refl _) hb4.size;refine⟨⟨aD',nD',cD',aU',nU',cU',aT',r.n,cT',by rw[HF2.out,HRK.out],?_⟩,(HX3.out.below.trans (hb4.mono HX3.out.below.size)).trans (hw5.below (by omega))⟩;rw[HF2.out];have z:(w4.setRow (w.heap.size+2) #[.bool true,.slice aD' nD' cD',.slice aU' nU' cU',.int .i64 r.k,.slice aT' r.n cT']).heap.size=w4.heap.size:=hw5.size;refine⟨s1.keep (by rw[z];exact Nat.le_refl _) (fun ad e _=>hw5.block _ (by have:=(s3 ad e).1;omega)),t1.keep (by rw[z];exact Nat.le_refl _) (fun ad e _=>hw5.block _ (by have:=(t3 ad e).1;omega)),q4.keep (by rw[z];exact Nat.le_refl _) (fun ad e _=>hw5.block _ (by have:=(q5 ad e).1;omega)),s2,t2,q2,?_,?_,?_,?_,?_,?_⟩
    ·exact s3.mono (by omega) (by rw[z];exact Nat.le_refl _)
    ·exact t3.mono (by omega) (by rw[z];exact Nat.le_refl _)
    ·exact q5.mono (by omega) (by rw[z];exact Nat.le_refl _)
    ·exact fun x y hx hy e=>g3 x.block (by rw[hx];rfl) (by rw[hy,e];rfl)
    ·exact fun x y hx hy e=>by have:=(s3 x hx).1;have:=(q3 y hy).2;omega
    ·exact fun x y hx hy e=>by have:=(t3 x hx).1;have:=(q3 y hy).2;omega
   clear g1 g2 g3 hb4 hw5 HS HTV;go_wp2_with (first
    |(refine wpList_store_row rfl 42 (.tmp 4) (.tmp 21) rfl (w.heap.size+2) #[.bool true,.slice aD' nD' cD',.slice aU' nU' cU',.int .i64 r.k,.slice aT' r.n cT'] rfl rfl 42 _ HRB4.out HRZ.out rfl (by simp[Value.oneCell']) ?_)
    |fail)
   exact bodyPost_ret (v:=.agg #[.bool true,.slice aD' nD' cD',.slice aU' nU' cU',.int .i64 r.k,.slice aT' r.n cT']) (results_cell_row rfl _ _ (w.heap.size+2) 42 _ (0,0) _ rfl (setRow_heap _ _ _ _ _ _ HRB4.out) Tryz.underlying42 rfl HRZ.out) rfl ⟨_,rfl,HF.out.1,HF.out.2⟩
end Go.Proofs.YtncomnkdlpoelaaGreatDoor
