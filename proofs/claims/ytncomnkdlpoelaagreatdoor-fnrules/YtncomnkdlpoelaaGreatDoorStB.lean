import Derived.Test.YtncomnkdlpoelaaGreatDoorMShQ
import Derived.Test.YtncomnkdlpoelaaGreatDoorMBase
import Derived.Test.YtncomnkdlpoelaaGreatDoorMU8i
namespace Go.Proofs.YtncomnkdlpoelaaGreatDoor
open Go.ChangeShapes Go.WideShapes Go.ChangeAt Go.RowKit
set_option linter.unusedVariables false
structure DU where
 c:Int
 fk:Int
 a:Nat
 b:Nat
noncomputable def duR (D U:List Int) (k:Int) (n:Nat) (ks:List Int) (kind:Int) (tk:List Int) (now N:Int):DU:=
 if kind=1 then(if tapC D U ks tk now=1 then ⟨1,1,(tkS tk).toNat,now.toNat⟩ else ⟨tapC D U ks tk now,0,0,0⟩)
 else if kind=2 then(if 0≤N∧N<256 then(if memB N D=true then ⟨9,0,0,0⟩ else if D.length=16 then ⟨10,0,0,0⟩ else ⟨9,2,N.toNat,1⟩) else ⟨10,0,0,0⟩)
 else if kind=3 then(if 0≤N∧N<256 then(if memB N D=true then ⟨9,2,N.toNat,0⟩ else ⟨9,0,0,0⟩) else ⟨10,0,0,0⟩)
 else if kind=4 then(if N<k then ⟨10,0,0,0⟩ else if k+(n:Int)<N then ⟨10,0,0,0⟩ else if N=k then ⟨9,0,0,0⟩ else ⟨9,3,N.toNat,0⟩)
 else ⟨9,0,0,0⟩
def duV (r:DU):Value:=.tuple #[.int .i64 r.c,.agg #[.int .u32 0,.int .i64 r.fk,.int .u32 (r.a:Int),.int .u32 (r.b:Int)]]
theorem wr32 {x:Nat} (h:x≤4294967295):IntKind.u32.wrap (x:Int)=x:=by
 rw[IntKind.wrap_u32];omega
theorem tkS_nn {tk:List Int} (h:Byte tk):0≤tkS tk:=by
 unfold tkS;have a:∀ i,0≤tk.getD i 0:=fun i=>by
  by_cases hi:i<tk.length
  ·have:=h (tk.getD i 0) (by simp[List.getD,hi]);omega
  ·simp[List.getD,hi]
 have:=a 2;have:=a 3;omega
theorem tapC_one {D U ks tk:List Int} {now:Int} (hz:Byte tk) (h:tapC D U ks tk now=1):∃ s m:Nat,tkS tk=s∧now=m∧s<256∧m≤4294967295∧tkB tk=true:=by
 have hs:=tkS_nn hz;unfold tapC at h;by_cases h0:now<0
 ·rw[if_pos h0] at h;omega
 rw[if_neg h0] at h;by_cases h1:4294967295<now
 ·rw[if_pos h1] at h;omega
 rw[if_neg h1] at h;by_cases h2:tkB tk=false
 ·rw[if_pos h2] at h;omega
 rw[if_neg h2] at h;by_cases h3:256≤tkS tk
 ·rw[if_pos h3] at h;omega
 exact⟨(tkS tk).toNat,now.toNat,by omega,by omega,by omega,by omega,by simpa using h2⟩
theorem duR_4 {D U:List Int} {k:Int} {n:Nat} {ks tk:List Int} {now N:Int}:duR D U k n ks 4 tk now N=if N<k then ⟨10,0,0,0⟩ else if k+(n:Int)<N then ⟨10,0,0,0⟩ else if N=k then ⟨9,0,0,0⟩ else ⟨9,3,N.toNat,0⟩:=by
 unfold duR;rw[if_neg (by decide),if_neg (by decide),if_neg (by decide),if_pos rfl]
theorem run_tk1 (w:World) (o:Bool) (s x:Int):(Instr.field 86 (.agg #[.bool o,.int .i64 s,.int .i64 x]) 1).run Tryz.prog w=.ok (.int .i64 s) w:=by kernel_rfl
theorem results_fr {fn:Func} {p u:Tmp} (h:fn.results=#[.tmp u,.cell p 38]) (tmps:Array Value) (w:World) (g:Nat) (cs:Array Value) (v:Value) (hv:tmps.getD u undef=v)
  (hp:tmps.getD p undef=.pointer (some ⟨g,0,none⟩)) (hr:w.heap[g]?=some (.cells cs 38 (0,0))) (hs:(Tryz.prog.info? 38).map (·.size)=some cs.size) :
  (results fn tmps).run Tryz.prog w=.ok (.tuple #[v,.agg cs]) w:=by
 have hp':tmps[p]?.getD undef=.pointer (some ⟨g,0,none⟩):=by simpa using hp
 have hv':tmps[u]?.getD undef=v:=by simpa using hv
 have hl:=run_loadVar_row (P:=Tryz.prog) w g 38 38 cs (0,0) _ hr Tryz.underlying38 rfl hs;simp[results,h,hp',hv',asAddr,hl]
set_option maxRecDepth 100000 in
set_option maxHeartbeats 4000000 in
theorem due_any (aD aU aT:Option Addr) (nD cD nU cU nT cT:Nat) (D U:List Int) (k:Int) (bp op cp:Nat) (ks:List Int) (ta:Option Addr) (tn tc:Nat) (tk:List Int) (kind now N:Int) (w:World) (hD:D.length=nD) (hU:U.length=nU) (mD:nD≤1048576) (mU:nU≤1048576) (mT:nT≤1048576)
  (haD:At .i64 w aD D) (haU:At .i64 w aU U) (h0:0≤k) (h1:k≤1048576) (hk:ks.length=32) (hp:PtA w bp op ks) (zk:Byte ks) (ht:tk.length=tn) (mt:tn≤1048576) (hct:tn≤tc) (hat:At .u8 w ta tk) (zt:Byte tk) :
  Calls Tryz.prog 22 #[.agg #[.slice aD nD cD,.slice aU nU cU,.int .i64 k,.slice aT nT cT],.slice (some ⟨bp,op,none⟩) 32 cp,.agg #[.int .i64 kind,.slice ta tn tc,.int .i64 now,.int .i64 N]] w fun e w'=>e=.returned (duV (duR D U k nT ks kind tk now N))∧Below w.heap.size w w':=by
 have HXQ:Hid (BX2 w 26 28 #[.slice aD nD cD,.slice aU nU cU,.int .i64 k,.slice aT nT cT] #[.int .i64 kind,.slice ta tn tc,.int .i64 now,.int .i64 N] ((w.alloc (.cells #[.slice aD nD cD,.slice aU nU cU,.int .i64 k,.slice aT nT cT] 26)).alloc (.cells #[.int .i64 kind,.slice ta tn tc,.int .i64 now,.int .i64 N] 28))):=BX2.start _ _ _ _ _;have HQZ:Hid (((w.alloc (.cells #[.slice aD nD cD,.slice aU nU cU,.int .i64 k,.slice aT nT cT] 26)).alloc (.cells #[.int .i64 kind,.slice ta tn tc,.int .i64 now,.int .i64 N] 28)).heap.size=w.heap.size+2):=by show _=_;simp
 have HA:Hid (∀ wz,Below w.heap.size w wz→At .i64 wz aD D∧At .i64 wz aU U∧At .u8 wz ta tk∧PtA wz bp op ks):=fun wz h=>⟨haD.below h,haU.below h,hat.below h,hp.below h⟩
 have HL:Hid (D.length=nD∧U.length=nU∧tk.length=tn∧ks.length=32∧Byte ks∧Byte tk):=⟨hD,hU,ht,hk,zk,zt⟩
 have HFZ:Hid ((Tryz.prog.info? 38).map (·.size)=some 4):=by show _=_;kernel_rfl
 have HSZ:Hid ((Tryz.prog.info? 26).map (·.size)=some 4):=by show _=_;kernel_rfl
 have HOZ:Hid ((Tryz.prog.info? 28).map (·.size)=some 4):=by show _=_;kernel_rfl
 clear hD hU haD haU hk hp zk ht hat zt;go_enter Tryz.func22,Tryz.ntmps22
 go_upto_region 1 with fail
 generalize ((w.alloc (.cells #[.slice aD nD cD,.slice aU nU cU,.int .i64 k,.slice aT nT cT] 26)).alloc (.cells #[.int .i64 kind,.slice ta tn tc,.int .i64 now,.int .i64 N] 28))=wq at *;have HRB:Hid ((wq.alloc (.cells #[.int .u32 0,.int .i64 0,.int .u32 0,.int .u32 0] 38)).heap[w.heap.size+2]?=some (.cells #[.int .u32 0,.int .i64 0,.int .u32 0,.int .u32 0] 38 (0,0))):=by show _=_;rw[←HQZ.out];exact heap_alloc_new wq _
 have HBQ:Hid (Below wq.heap.size wq (wq.alloc (.cells #[.int .u32 0,.int .i64 0,.int .u32 0,.int .u32 0] 38))):=(Below.refl _ _).alloc (Nat.le_refl _) _;have HX0:=hdI <| HXQ.out.call HBQ.out
 generalize wq.alloc (.cells #[.int .u32 0,.int .i64 0,.int .u32 0,.int .u32 0] 38)=w0 at *;have HB:=hdI <| HX0.out.below
 have o0:w0.cell? ⟨w.heap.size+1,0,none⟩=some (.int .i64 kind):=by rw[cell_of_row w0 _ 0 _ _ _ HX0.out.b1];rfl
 have o3:w0.cell? ⟨w.heap.size+1,3,none⟩=some (.int .i64 N):=by rw[cell_of_row w0 _ 3 _ _ _ HX0.out.b1];rfl
 have s0:w0.cell? ⟨w.heap.size,0,none⟩=some (.slice aD nD cD):=by rw[cell_of_row w0 _ 0 _ _ _ HX0.out.b0];rfl
 have s2:w0.cell? ⟨w.heap.size,2,none⟩=some (.int .i64 k):=by rw[cell_of_row w0 _ 2 _ _ _ HX0.out.b0];rfl
 have s3:w0.cell? ⟨w.heap.size,3,none⟩=some (.slice aT nT cT):=by rw[cell_of_row w0 _ 3 _ _ _ HX0.out.b0];rfl
 by_cases hk1:kind=1
 ·subst hk1;have hser:(decide (0≤N)=true∧decide (N<256)=true)∨(decide (0≤N)=true∧decide (N<256)=false)∨decide (0≤N)=false:=by
   cases decide (0≤N)<;>cases decide (N<256)<;>simp
  rcases hser with⟨hn0',hn1'⟩|⟨hn0',hn1'⟩|hn0'
  all_goals
   have HLT:=hdI <| HXQ.out.lt
   go_wp2_with (first
    |(refine wpList_load_row rfl 26 (.tmp 3) rfl w.heap.size rfl 26 _ (0,0) _ HX0.out.b0 Tryz.underlying26 rfl HSZ.out ?_)
    |(refine wpList_load_row rfl 28 (.tmp 5) rfl (w.heap.size+1) rfl 28 _ (0,0) _ HX0.out.b1 Tryz.underlying28 rfl HOZ.out ?_)
    |fail)
   refine(stp_any aD aU aT nD cD nU cU nT cT D U k bp op cp ks ta tn tc tk 1 now N w0 HL.out.1 HL.out.2.1 mD mU (HA.out _ HB.out).1 (HA.out _ HB.out).2.1 HL.out.2.2.2.1 (HA.out _ HB.out).2.2.2 HL.out.2.2.2.2.1 HL.out.2.2.1 mt hct (HA.out _ HB.out).2.2.1 HL.out.2.2.2.2.2).mono ?_;rintro e w1 ⟨rfl,hb1⟩;have HR0:Hid (w1.heap[w.heap.size+2]?=some (.cells #[.int .u32 0,.int .i64 0,.int .u32 0,.int .u32 0] 38 (0,0))):=by show _=_;rw[hb1.block _ (Array.getElem?_eq_some_iff.1 HRB.out).1];exact HRB.out
   have HW0:=hdI <| below_drewQ (HBQ.out.trans (hb1.mono HBQ.out.size)) 1
   have HB1:=hdI <| HB.out.trans (hb1.mono HB.out.size)
   have HT1:Hid (tapC D U ks tk now=1→∃ s m:Nat,tkS tk=s∧now=m∧s<256∧m≤4294967295∧tkB tk=true):=tapC_one HL.out.2.2.2.2.2;have HDU:Hid (duV (duR D U k nT ks 1 tk now N)=if tapC D U ks tk now=1 then .tuple #[.int .i64 1,.agg #[.int .u32 0,.int .i64 1,.int .u32 ((tkS tk).toNat:Nat),.int .u32 (now.toNat:Nat)]] else .tuple #[.int .i64 (tapC D U ks tk now),.agg #[.int .u32 0,.int .i64 0,.int .u32 0,.int .u32 0]]):=by
    show _=_
    unfold duR;by_cases h:tapC D U ks tk now=1<;>simp[h,duV]
   clear hb1 o0 o3 s0 s2 s3 HRB HB HBQ HX0;generalize hc:tapC D U ks tk now=c at *;have HC:=hdI <| hc
   clear hc;by_cases hc1:c=1
   ·subst hc1;obtain⟨s,m,hs,hm,hs2,hm2,htb⟩:=HT1.out rfl;have HF:Hid (duV (duR D U k nT ks 1 tk now N)=.tuple #[.int .i64 1,.agg #[.int .u32 0,.int .i64 1,.int .u32 s,.int .u32 m]]):=by show _=_;rw[HDU.out,if_pos rfl,hs,hm];rfl
    have HPT:Hid (∀ wz,Below wq.heap.size wq wz→Calls Tryz.prog 42 #[.slice ta tn tc] wz fun e w'=>e=.returned (.agg #[.bool true,.int .i64 s,.int .i64 (tkE tk)])∧Below wz.heap.size wz w'):=fun wz h=>by
     have:=ptS_any ta tn tc tk wz HL.out.2.2.1 mt hct (HA.out wz (HXQ.out.below.trans (h.mono HXQ.out.below.size))).2.2.1 HL.out.2.2.2.2.2;rw[tkV_yes htb,hs] at this;exact this
    have HW1:Hid (IntKind.u32.wrap (s:Int)=s):=wr32 (by omega);have HW2:Hid (IntKind.u32.wrap (m:Int)=m):=wr32 (by omega);subst hm;generalize tkE tk=x at *;clear HDU HT1 HC hs htb HA HL hs2 hm2;go_wp2_with fail;refine wp_region_any (by kernel_rfl) ?_;refine wpAny_slotsV (fun i a b=>if i=11 then Wr (w.heap.size+2) a b else Below a.heap.size a b) (frame:=(fun (a b c d e f g h i j k l m n o p q r s u v w x y z A B C D E F G H I J K L M N O P Q R S T U V W X Y Z a0 a1 a2 a3 a4 a5 a6 a7 a8 a9 b0 b1 b2 b3 b4 b5 b6 b7 b8 b9 c0 c1 c2 c3 c4 c5 c6 c7 c8 c9 d0 d1 d2 d3 d4 d5 d6 d7 d8 d9 e0 e1 e2 e3 e4:Value)=>fun (t:Nat→Value)=>({ tmps:=List.toArray [a,b,c,d,e,f,t 10,g,h,i,j,k,l,m,n,o,p,q,r,s,u,v,w,x,y,z,A,B,C,D,E,t 0,t 1,t 2,t 3,t 4,t 5,t 6,t 7,t 8,t 9,F,G,H,I,J,K,L,M,N,O,P,Q,R,S,T,U,V,W,X,Y,Z,a0,a1,a2,a3,a4,a5,a6,a7,a8,a9,b0,b1,b2,b3,b4,b5,b6,b7,b8,b9,c0,c1,c2,c3,c4,c5,c6,c7,c8,c9,d0,d1,d2,d3,d4,d5,d6,d7,d8,d9,e0,e1,e2,e3,e4],defers:=[] }:Act)) _ _ _ _ _ _ _ _ _ _ _ _ _ _ _ _ _ _ _ _ _ _ _ _ _ _ _ _ _ _ _ _ _ _ _ _ _ _ _ _ _ _ _ _ _ _ _ _ _ _ _ _ _ _ _ _ _ _ _ _ _ _ _ _ _ _ _ _ _ _ _ _ _ _ _ _ _ _ _ _ _ _ _ _ _ _ _ _ _ _ _ _ _ _ _ _)
     (Ext:=fun L u w'=>ApS wq (w.heap.size+2) 11 38 #[.int .u32 0,.int .i64 0,.int .u32 0,.int .u32 0] (fun _ cs=>cs=#[.int .u32 0,.int .i64 1,.int .u32 s,.int .u32 m]) [] L u w') (Good:=fun i L w' v=>if i=0 then v=.int .i64 1 else if i=1 then v=.pointer (some ⟨w.heap.size+1,1,none⟩) else if i=2 then v=.slice ta tn tc else if i=3 then v=.agg #[.bool true,.int .i64 s,.int .i64 x] else if i=4 then v=.int .i64 s else if i=5 then v=.int .u32 s else if i=6 then v=.pointer (some ⟨w.heap.size+1,2,none⟩) else if i=7 then v=.int .i64 m else if i=8 then v=.int .u32 m else if i=9 then v=.agg #[.int .u32 0,.int .i64 1,.int .u32 s,.int .u32 m] else if i=10 then v=.int .i64 1 else if i=11 then L 11=true else True) ?hstab (by kernel_rfl) ?hop ?hdone _ _ ((fun (x0 x1 x2 x3 x4 x5 x6 x7 x8 x9 x10:Value)=>fun (i:Nat)=>if i=0 then x0 else if i=1 then x1 else if i=2 then x2 else if i=3 then x3 else if i=4 then x4 else if i=5 then x5 else if i=6 then x6 else if i=7 then x7 else if i=8 then x8 else if i=9 then x9 else if i=10 then x10 else undef) _ _ _ _ _ _ _ _ _ _ _) _ (by simp) ?ext ?start (by simp)
    case start=>intro i hi h;exact absurd h (by rw[Array.getD_eq_getD_getElem?,Array.getElem?_replicate];split<;>simp)
    case ext=>exact ApS.start ⟨HW0.out,fun p _ hp=>absurd hp (by rw[Array.getD_eq_getD_getElem?,Array.getElem?_replicate];split<;>simp),fun p _ q _ _ hp=>absurd hp (by rw[Array.getD_eq_getD_getElem?,Array.getElem?_replicate];split<;>simp)⟩ (fun i=>by rw[Array.getD_eq_getD_getElem?,Array.getElem?_replicate];split<;>rfl) HR0.out
    case hstab=>
     intro j L w9 w' i v hM hij hLi h;by_cases hl:j=11
     ·subst hl;simp at h ⊢;unfold updK;simp[h]
     simp only[if_neg hl] at h ⊢;exact h
    case hop=>
     intro i o L t w' ho hLi hx hdep K hK;have hi:i<12:=(Array.getElem?_eq_some_iff.1 ho).1;obtain rfl|rfl|rfl|rfl|rfl|rfl|rfl|rfl|rfl|rfl|rfl|rfl:i=0∨i=1∨i=2∨i=3∨i=4∨i=5∨i=6∨i=7∨i=8∨i=9∨i=10∨i=11:=by omega
     all_goals(simp at ho;subst ho)
     ·clear hdep;have hK':=hK w' (.int .i64 1) (by simp) (hx.step (fun _ _ _ _ h=>h) 0 (by decide) _ (Below.refl _ _) (fun h=>absurd h (by decide))) (by rw[if_neg (by decide)];exact(Below.refl _ _));clear hK;rw[if_pos (by rfl)];go_simp;simpa[upd] using hK'
     ·clear hdep;have hK':=hK w' (.pointer (some ⟨w.heap.size+1,1,none⟩)) (by simp) (hx.step (fun _ _ _ _ h=>h) 1 (by decide) _ (Below.refl _ _) (fun h=>absurd h (by decide))) (by rw[if_neg (by decide)];exact(Below.refl _ _));clear hK;rw[if_pos (by rfl)];go_simp;simpa[upd] using hK'
     ·have d1:t 1=.pointer (some ⟨w.heap.size+1,1,none⟩):=by simpa using(hdep ⟨1,.data⟩ (by simp) rfl).2
      clear hdep;have cc:w'.cell? ⟨w.heap.size+1,1,none⟩=some (.slice ta tn tc):=by rw[World.cell?_of_block (a:=⟨w.heap.size+1,1,none⟩) (w:=wq) (hx.ax.below.block _ HLT.out),cell_of_row wq _ 1 _ _ _ HXQ.out.b1];rfl
      have hK':=hK w' (.slice ta tn tc) (by simp) (hx.step (fun _ _ _ _ h=>h) 2 (by decide) _ (Below.refl _ _) (fun h=>absurd h (by decide))) (by rw[if_neg (by decide)];exact(Below.refl _ _));clear hK;rw[if_pos (by rfl)];go_simp;simpa[upd,d1] using hK'
     ·have d2:t 2=.slice ta tn tc:=by simpa using(hdep ⟨2,.data⟩ (by simp) rfl).2
      clear hdep;have A:=HPT.out w' hx.ax.below;have hK':∀ ww,Below w'.heap.size w' ww→K _ ww:=fun ww hb=>hK ww (.agg #[.bool true,.int .i64 s,.int .i64 x]) (by simp) (hx.step (fun _ _ _ _ h=>h) 3 (by decide) _ hb (fun h=>absurd h (by decide))) (by rw[if_neg (by decide)];exact hb)
      clear hK;rw[if_pos (by rfl)];go_simp;try simp only[d2]
      refine A.mono ?_;rintro e w9 ⟨rfl,hb9⟩;have hK2:=hK' w9 hb9;clear hK' A hb9;go_simp;simpa[upd,d2] using hK2
     ·have d3:t 3=.agg #[.bool true,.int .i64 s,.int .i64 x]:=by simpa using(hdep ⟨3,.data⟩ (by simp) rfl).2
      clear hdep;have hK':=hK w' (.int .i64 s) (by simp) (hx.step (fun _ _ _ _ h=>h) 4 (by decide) _ (Below.refl _ _) (fun h=>absurd h (by decide))) (by rw[if_neg (by decide)];exact(Below.refl _ _));clear hK;rw[if_pos (by rfl)];go_simp;try simp only[d3]
      rw[run_tk1];go_simp;simpa[upd,d3] using hK'
     ·have d4:t 4=.int .i64 s:=by simpa using(hdep ⟨4,.data⟩ (by simp) rfl).2
      clear hdep;have hw:=HW1.out;have hK':=hK w' (.int .u32 s) (by simp) (hx.step (fun _ _ _ _ h=>h) 5 (by decide) _ (Below.refl _ _) (fun h=>absurd h (by decide))) (by rw[if_neg (by decide)];exact(Below.refl _ _));clear hK;rw[if_pos (by rfl)];go_simp;simpa[upd,d4] using hK'
     ·clear hdep;have hK':=hK w' (.pointer (some ⟨w.heap.size+1,2,none⟩)) (by simp) (hx.step (fun _ _ _ _ h=>h) 6 (by decide) _ (Below.refl _ _) (fun h=>absurd h (by decide))) (by rw[if_neg (by decide)];exact(Below.refl _ _));clear hK;rw[if_pos (by rfl)];go_simp;simpa[upd] using hK'
     ·have d6:t 6=.pointer (some ⟨w.heap.size+1,2,none⟩):=by simpa using(hdep ⟨6,.data⟩ (by simp) rfl).2
      clear hdep;have cc:w'.cell? ⟨w.heap.size+1,2,none⟩=some (.int .i64 m):=by rw[World.cell?_of_block (a:=⟨w.heap.size+1,2,none⟩) (w:=wq) (hx.ax.below.block _ HLT.out),cell_of_row wq _ 2 _ _ _ HXQ.out.b1];rfl
      have hK':=hK w' (.int .i64 m) (by simp) (hx.step (fun _ _ _ _ h=>h) 7 (by decide) _ (Below.refl _ _) (fun h=>absurd h (by decide))) (by rw[if_neg (by decide)];exact(Below.refl _ _));clear hK;rw[if_pos (by rfl)];go_simp;simpa[upd,d6] using hK'
     ·have d7:t 7=.int .i64 m:=by simpa using(hdep ⟨7,.data⟩ (by simp) rfl).2
      clear hdep;have hw:=HW2.out;have hK':=hK w' (.int .u32 m) (by simp) (hx.step (fun _ _ _ _ h=>h) 8 (by decide) _ (Below.refl _ _) (fun h=>absurd h (by decide))) (by rw[if_neg (by decide)];exact(Below.refl _ _));clear hK;rw[if_pos (by rfl)];go_simp;simpa[upd,d7] using hK'
     ·have d5:t 5=.int .u32 s:=by simpa using(hdep ⟨5,.data⟩ (by simp) rfl).2
      have d8:t 8=.int .u32 m:=by simpa using(hdep ⟨8,.data⟩ (by simp) rfl).2
      clear hdep;have hK':=hK w' (.agg #[.int .u32 0,.int .i64 1,.int .u32 s,.int .u32 m]) (by simp) (hx.step (fun _ _ _ _ h=>h) 9 (by decide) _ (Below.refl _ _) (fun h=>absurd h (by decide))) (by rw[if_neg (by decide)];exact(Below.refl _ _));clear hK;rw[if_pos (by rfl)];go_simp;simpa[upd,d5,d8] using hK'
     ·have d0:t 0=.int .i64 1:=by simpa using(hdep ⟨0,.data⟩ (by simp) rfl).2
      clear hdep;have hK':=hK w' (.int .i64 1) (by simp) (hx.step (fun _ _ _ _ h=>h) 10 (by decide) _ (Below.refl _ _) (fun h=>absurd h (by decide))) (by rw[if_neg (by decide)];exact(Below.refl _ _));clear hK;rw[if_pos (by rfl)];go_simp;simpa[upd,d0] using hK'
     ·have d9:t 9=.agg #[.int .u32 0,.int .i64 1,.int .u32 s,.int .u32 m]:=by simpa using(hdep ⟨9,.data⟩ (by simp) rfl).2
      clear hdep;have hrs:=hx.pre hLi;have hK':∀ ww,Wr (w.heap.size+2) w' ww→ww.heap[w.heap.size+2]?=some (.cells #[.int .u32 0,.int .i64 1,.int .u32 s,.int .u32 m] 38 (0,0))→K _ ww:=fun ww hw hr=>hK ww undef (by simp[updK]) (hx.put (Nat.le_of_eq HQZ.out) (by decide) _ hw hr rfl) (by rw[if_pos rfl];exact hw)
      clear hK;rw[if_pos (by rfl)];refine wp_store_row 38 (.tmp 7) (.tmp 40) rfl (w.heap.size+2) _ rfl d9 38 _ hrs HFZ.out rfl (by simp[Value.oneCell']) ?_;have hK2:=hK' _ (Wr.setRow _ _ _) (setRow_heap _ _ _ _ _ _ hrs);clear hK';simpa[upd,Act.put] using hK2
    case hdone=>
     intro L t w' hx hg;have l11:L 11=true:=by simpa using hg 11 (by decide)
     have e10:t 10=.int .i64 1:=by simpa using hg 10 (by decide)
     clear hg;obtain⟨cs,hr,rfl⟩:=hx.fin l11;have HR9:=hdI <| hr
     have HFF:=hdI <| HXQ.out.below.trans (hx.ax.below.mono HXQ.out.below.size)
     clear hx hr;simp only[e10];clear e10;go_wp2_with fail;exact bodyPost_ret (v:=.tuple #[.int .i64 1,.agg #[.int .u32 0,.int .i64 1,.int .u32 s,.int .u32 m]]) (results_fr rfl _ _ (w.heap.size+2) _ _ rfl rfl HR9.out HFZ.out) rfl ⟨by rw[HF.out],HFF.out⟩
   ·have HF:Hid (duV (duR D U k nT ks 1 tk now N)=.tuple #[.int .i64 c,.agg #[.int .u32 0,.int .i64 0,.int .u32 0,.int .u32 0]]):=by show _=_;rw[HDU.out,if_neg hc1]
    have hc1':=decide_eq_false hc1;have HB:=HB1;have HRB:=HR0;clear HDU HT1 HC;have HFN:Hid (Below w.heap.size w (w1.setRow (w.heap.size+2) #[.int .u32 0,.int .i64 0,.int .u32 0,.int .u32 0])):=HB.out.trans ((Wr.setRow _ _ _).below (by omega))
    go_upto_region 7 with fail
    go_wp2_with (first
     |(refine wpList_store_row rfl 38 (.tmp 7) (.tmp 30) rfl (w.heap.size+2) #[.int .u32 0,.int .i64 0,.int .u32 0,.int .u32 0] rfl rfl 38 _ HRB.out HFZ.out rfl (by simp[Value.oneCell']) ?_)
     |fail)
    all_goals exact bodyPost_ret (v:=.tuple #[.int .i64 c,.agg #[.int .u32 0,.int .i64 0,.int .u32 0,.int .u32 0]]) (results_fr rfl _ _ (w.heap.size+2) _ _ rfl rfl (setRow_heap _ _ _ _ _ _ HRB.out) HFZ.out) rfl ⟨by rw[HF.out],HFN.out⟩
 by_cases hk2:kind=2
 ·subst hk2;clear hk1;by_cases hn0:0≤N
  ·by_cases hn1:N<256
   ·obtain⟨m,rfl⟩:∃ m:Nat,N=m:=⟨N.toNat,by omega⟩
    have hn0':=decide_eq_true hn0;have hn1':=decide_eq_true hn1;have hwr:IntKind.u32.wrap (m:Int)=m:=wr32 (by omega);clear hn0;go_wp2_with fail;refine(holds_any aD nD cD D m _ HL.out.1 mD (HA.out _ HB.out).1).mono ?_;rintro e w4 ⟨rfl,e4⟩;obtain rfl:w0=w4:=e4.symm;cases hm:memB (m:Int) D with
    |true=>
     have HMT:=hdI <| hm
     have HF:Hid (duV (duR D U k nT ks 2 tk now m)=.tuple #[.int .i64 9,.agg #[.int .u32 0,.int .i64 0,.int .u32 0,.int .u32 0]]):=by show _=_;unfold duR;simp[hn1,hm,duV]
     clear hm hn1;go_wp2_with fail;refine(holds_any aD nD cD D m _ HL.out.1 mD (HA.out _ HB.out).1).mono ?_;rintro e w4 ⟨rfl,e4⟩;obtain rfl:w0=w4:=e4.symm;rw[HMT.out];have HFN:Hid (Below w.heap.size w (w0.setRow (w.heap.size+2) #[.int .u32 0,.int .i64 0,.int .u32 0,.int .u32 0])):=HB.out.trans ((Wr.setRow _ _ _).below (by omega))
     go_upto_region 13 with fail
     go_wp2_with (first
      |(refine wpList_store_row rfl 38 (.tmp 7) (.tmp 63) rfl (w.heap.size+2) #[.int .u32 0,.int .i64 0,.int .u32 0,.int .u32 0] rfl rfl 38 _ HRB.out HFZ.out rfl (by simp[Value.oneCell']) ?_)
      |fail)
     all_goals exact bodyPost_ret (v:=.tuple #[.int .i64 9,.agg #[.int .u32 0,.int .i64 0,.int .u32 0,.int .u32 0]]) (results_fr rfl _ _ (w.heap.size+2) _ _ rfl rfl (setRow_heap _ _ _ _ _ _ HRB.out) HFZ.out) rfl ⟨by rw[HF.out],HFN.out⟩
    |false=>
     by_cases h16:nD=16
     ·have HF:Hid (duV (duR D U k nT ks 2 tk now m)=.tuple #[.int .i64 10,.agg #[.int .u32 0,.int .i64 0,.int .u32 0,.int .u32 0]]):=by show _=_;unfold duR;simp[hn1,hm,duV,HL.out.1,h16]
      subst h16;clear hm hn1;have HFN:Hid (Below w.heap.size w (w0.setRow (w.heap.size+2) #[.int .u32 0,.int .i64 0,.int .u32 0,.int .u32 0])):=HB.out.trans ((Wr.setRow _ _ _).below (by omega))
      go_upto_region 11 with fail
      go_wp2_with (first
       |(refine wpList_store_row rfl 38 (.tmp 7) (.tmp 58) rfl (w.heap.size+2) #[.int .u32 0,.int .i64 0,.int .u32 0,.int .u32 0] rfl rfl 38 _ HRB.out HFZ.out rfl (by simp[Value.oneCell']) ?_)
       |fail)
      all_goals exact bodyPost_ret (v:=.tuple #[.int .i64 10,.agg #[.int .u32 0,.int .i64 0,.int .u32 0,.int .u32 0]]) (results_fr rfl _ _ (w.heap.size+2) _ _ rfl rfl (setRow_heap _ _ _ _ _ _ HRB.out) HFZ.out) rfl ⟨by rw[HF.out],HFN.out⟩
     ·have HF:Hid (duV (duR D U k nT ks 2 tk now m)=.tuple #[.int .i64 9,.agg #[.int .u32 0,.int .i64 2,.int .u32 m,.int .u32 1]]):=by show _=_;unfold duR;simp[hn1,hm,duV,HL.out.1,h16]
      have h16':¬ ((nD:Int)=16):=by omega
      have HM:=hdI <| hm
      clear hm hn1 h16;go_wp2_with fail;refine(holds_any aD nD cD D m _ HL.out.1 mD (HA.out _ HB.out).1).mono ?_;rintro e w4 ⟨rfl,e4⟩;obtain rfl:w0=w4:=e4.symm;rw[HM.out];have HFN:Hid (Below w.heap.size w (w0.setRow (w.heap.size+2) #[.int .u32 0,.int .i64 2,.int .u32 m,.int .u32 1])):=HB.out.trans ((Wr.setRow _ _ _).below (by omega))
      go_upto_region 14 with fail
      go_wp2_with (first
       |(refine wpList_store_row rfl 38 (.tmp 7) (.tmp 66) rfl (w.heap.size+2) #[.int .u32 0,.int .i64 2,.int .u32 m,.int .u32 1] rfl rfl 38 _ HRB.out HFZ.out rfl (by simp[Value.oneCell']) ?_)
       |fail)
      all_goals exact bodyPost_ret (v:=.tuple #[.int .i64 9,.agg #[.int .u32 0,.int .i64 2,.int .u32 m,.int .u32 1]]) (results_fr rfl _ _ (w.heap.size+2) _ _ rfl rfl (setRow_heap _ _ _ _ _ _ HRB.out) HFZ.out) rfl ⟨by rw[HF.out],HFN.out⟩
   ·have HF:Hid (duV (duR D U k nT ks 2 tk now N)=.tuple #[.int .i64 10,.agg #[.int .u32 0,.int .i64 0,.int .u32 0,.int .u32 0]]):=by show _=_;unfold duR;simp[hn1,duV]
    have hn0':=decide_eq_true hn0;have hn1':=decide_eq_false hn1;clear hn0 hn1;have HFN:Hid (Below w.heap.size w (w0.setRow (w.heap.size+2) #[.int .u32 0,.int .i64 0,.int .u32 0,.int .u32 0])):=HB.out.trans ((Wr.setRow _ _ _).below (by omega))
    go_upto_region 11 with fail
    go_wp2_with (first
     |(refine wpList_store_row rfl 38 (.tmp 7) (.tmp 58) rfl (w.heap.size+2) #[.int .u32 0,.int .i64 0,.int .u32 0,.int .u32 0] rfl rfl 38 _ HRB.out HFZ.out rfl (by simp[Value.oneCell']) ?_)
     |fail)
    all_goals exact bodyPost_ret (v:=.tuple #[.int .i64 10,.agg #[.int .u32 0,.int .i64 0,.int .u32 0,.int .u32 0]]) (results_fr rfl _ _ (w.heap.size+2) _ _ rfl rfl (setRow_heap _ _ _ _ _ _ HRB.out) HFZ.out) rfl ⟨by rw[HF.out],HFN.out⟩
  ·have HF:Hid (duV (duR D U k nT ks 2 tk now N)=.tuple #[.int .i64 10,.agg #[.int .u32 0,.int .i64 0,.int .u32 0,.int .u32 0]]):=by show _=_;unfold duR;simp[hn0,duV]
   have hn0':=decide_eq_false hn0;clear hn0;have HFN:Hid (Below w.heap.size w (w0.setRow (w.heap.size+2) #[.int .u32 0,.int .i64 0,.int .u32 0,.int .u32 0])):=HB.out.trans ((Wr.setRow _ _ _).below (by omega))
   go_upto_region 11 with fail
   go_wp2_with (first
    |(refine wpList_store_row rfl 38 (.tmp 7) (.tmp 58) rfl (w.heap.size+2) #[.int .u32 0,.int .i64 0,.int .u32 0,.int .u32 0] rfl rfl 38 _ HRB.out HFZ.out rfl (by simp[Value.oneCell']) ?_)
    |fail)
   all_goals exact bodyPost_ret (v:=.tuple #[.int .i64 10,.agg #[.int .u32 0,.int .i64 0,.int .u32 0,.int .u32 0]]) (results_fr rfl _ _ (w.heap.size+2) _ _ rfl rfl (setRow_heap _ _ _ _ _ _ HRB.out) HFZ.out) rfl ⟨by rw[HF.out],HFN.out⟩
 by_cases hk3:kind=3
 ·subst hk3;clear hk1 hk2;by_cases hn0:0≤N
  ·by_cases hn1:N<256
   ·obtain⟨m,rfl⟩:∃ m:Nat,N=m:=⟨N.toNat,by omega⟩
    have hn0':=decide_eq_true hn0;have hn1':=decide_eq_true hn1;have hwr:IntKind.u32.wrap (m:Int)=m:=wr32 (by omega);clear hn0;go_wp2_with fail;refine(holds_any aD nD cD D m _ HL.out.1 mD (HA.out _ HB.out).1).mono ?_;rintro e w4 ⟨rfl,e4⟩;obtain rfl:w0=w4:=e4.symm;cases hm:memB (m:Int) D with
    |true=>
     have HF:Hid (duV (duR D U k nT ks 3 tk now m)=.tuple #[.int .i64 9,.agg #[.int .u32 0,.int .i64 2,.int .u32 m,.int .u32 0]]):=by show _=_;unfold duR;simp[hn1,hm,duV]
     clear hm hn1;have HFN:Hid (Below w.heap.size w (w0.setRow (w.heap.size+2) #[.int .u32 0,.int .i64 2,.int .u32 m,.int .u32 0])):=HB.out.trans ((Wr.setRow _ _ _).below (by omega))
     go_upto_region 20 with fail
     go_wp2_with (first
      |(refine wpList_store_row rfl 38 (.tmp 7) (.tmp 80) rfl (w.heap.size+2) #[.int .u32 0,.int .i64 2,.int .u32 m,.int .u32 0] rfl rfl 38 _ HRB.out HFZ.out rfl (by simp[Value.oneCell']) ?_)
      |fail)
     all_goals exact bodyPost_ret (v:=.tuple #[.int .i64 9,.agg #[.int .u32 0,.int .i64 2,.int .u32 m,.int .u32 0]]) (results_fr rfl _ _ (w.heap.size+2) _ _ rfl rfl (setRow_heap _ _ _ _ _ _ HRB.out) HFZ.out) rfl ⟨by rw[HF.out],HFN.out⟩
    |false=>
     have HF:Hid (duV (duR D U k nT ks 3 tk now m)=.tuple #[.int .i64 9,.agg #[.int .u32 0,.int .i64 0,.int .u32 0,.int .u32 0]]):=by show _=_;unfold duR;simp[hn1,hm,duV]
     clear hm hn1;have HFN:Hid (Below w.heap.size w (w0.setRow (w.heap.size+2) #[.int .u32 0,.int .i64 0,.int .u32 0,.int .u32 0])):=HB.out.trans ((Wr.setRow _ _ _).below (by omega))
     go_upto_region 19 with fail
     go_wp2_with (first
      |(refine wpList_store_row rfl 38 (.tmp 7) (.tmp 77) rfl (w.heap.size+2) #[.int .u32 0,.int .i64 0,.int .u32 0,.int .u32 0] rfl rfl 38 _ HRB.out HFZ.out rfl (by simp[Value.oneCell']) ?_)
      |fail)
     all_goals exact bodyPost_ret (v:=.tuple #[.int .i64 9,.agg #[.int .u32 0,.int .i64 0,.int .u32 0,.int .u32 0]]) (results_fr rfl _ _ (w.heap.size+2) _ _ rfl rfl (setRow_heap _ _ _ _ _ _ HRB.out) HFZ.out) rfl ⟨by rw[HF.out],HFN.out⟩
   ·have HF:Hid (duV (duR D U k nT ks 3 tk now N)=.tuple #[.int .i64 10,.agg #[.int .u32 0,.int .i64 0,.int .u32 0,.int .u32 0]]):=by show _=_;unfold duR;simp[hn1,duV]
    have hn0':=decide_eq_true hn0;have hn1':=decide_eq_false hn1;clear hn0 hn1;have HFN:Hid (Below w.heap.size w (w0.setRow (w.heap.size+2) #[.int .u32 0,.int .i64 0,.int .u32 0,.int .u32 0])):=HB.out.trans ((Wr.setRow _ _ _).below (by omega))
    go_upto_region 17 with fail
    go_wp2_with (first
     |(refine wpList_store_row rfl 38 (.tmp 7) (.tmp 71) rfl (w.heap.size+2) #[.int .u32 0,.int .i64 0,.int .u32 0,.int .u32 0] rfl rfl 38 _ HRB.out HFZ.out rfl (by simp[Value.oneCell']) ?_)
     |fail)
    all_goals exact bodyPost_ret (v:=.tuple #[.int .i64 10,.agg #[.int .u32 0,.int .i64 0,.int .u32 0,.int .u32 0]]) (results_fr rfl _ _ (w.heap.size+2) _ _ rfl rfl (setRow_heap _ _ _ _ _ _ HRB.out) HFZ.out) rfl ⟨by rw[HF.out],HFN.out⟩
  ·have HF:Hid (duV (duR D U k nT ks 3 tk now N)=.tuple #[.int .i64 10,.agg #[.int .u32 0,.int .i64 0,.int .u32 0,.int .u32 0]]):=by show _=_;unfold duR;simp[hn0,duV]
   have hn0':=decide_eq_false hn0;clear hn0;have HFN:Hid (Below w.heap.size w (w0.setRow (w.heap.size+2) #[.int .u32 0,.int .i64 0,.int .u32 0,.int .u32 0])):=HB.out.trans ((Wr.setRow _ _ _).below (by omega))
   go_upto_region 17 with fail
   go_wp2_with (first
    |(refine wpList_store_row rfl 38 (.tmp 7) (.tmp 71) rfl (w.heap.size+2) #[.int .u32 0,.int .i64 0,.int .u32 0,.int .u32 0] rfl rfl 38 _ HRB.out HFZ.out rfl (by simp[Value.oneCell']) ?_)
    |fail)
   all_goals exact bodyPost_ret (v:=.tuple #[.int .i64 10,.agg #[.int .u32 0,.int .i64 0,.int .u32 0,.int .u32 0]]) (results_fr rfl _ _ (w.heap.size+2) _ _ rfl rfl (setRow_heap _ _ _ _ _ _ HRB.out) HFZ.out) rfl ⟨by rw[HF.out],HFN.out⟩
 by_cases hk4:kind=4
 ·subst hk4;clear hk1 hk2 hk3;have hser:(decide (0≤N)=true∧decide (N<256)=true)∨(decide (0≤N)=true∧decide (N<256)=false)∨decide (0≤N)=false:=by
   cases decide (0≤N)<;>cases decide (N<256)<;>simp
  rcases hser with⟨hn0',hn1'⟩|⟨hn0',hn1'⟩|hn0'
  all_goals
   by_cases hlo:N<k
   ·have HF:Hid (duV (duR D U k nT ks 4 tk now N)=.tuple #[.int .i64 10,.agg #[.int .u32 0,.int .i64 0,.int .u32 0,.int .u32 0]]):=by show _=_;rw[duR_4,if_pos hlo];rfl
    have hlo':=decide_eq_true hlo;clear hlo;have HFN:Hid (Below w.heap.size w (w0.setRow (w.heap.size+2) #[.int .u32 0,.int .i64 0,.int .u32 0,.int .u32 0])):=HB.out.trans ((Wr.setRow _ _ _).below (by omega))
    go_upto_region 23 with fail
    go_wp2_with (first
     |(refine wpList_store_row rfl 38 (.tmp 7) (.tmp 97) rfl (w.heap.size+2) #[.int .u32 0,.int .i64 0,.int .u32 0,.int .u32 0] rfl rfl 38 _ HRB.out HFZ.out rfl (by simp[Value.oneCell']) ?_)
     |fail)
    all_goals exact bodyPost_ret (v:=.tuple #[.int .i64 10,.agg #[.int .u32 0,.int .i64 0,.int .u32 0,.int .u32 0]]) (results_fr rfl _ _ (w.heap.size+2) _ _ rfl rfl (setRow_heap _ _ _ _ _ _ HRB.out) HFZ.out) rfl ⟨by rw[HF.out],HFN.out⟩
   have hlo':=decide_eq_false hlo;by_cases hhi:k+(nT:Int)<N
   ·have HF:Hid (duV (duR D U k nT ks 4 tk now N)=.tuple #[.int .i64 10,.agg #[.int .u32 0,.int .i64 0,.int .u32 0,.int .u32 0]]):=by show _=_;rw[duR_4,if_neg hlo,if_pos hhi];rfl
    have hhi':=decide_eq_true hhi;clear hlo hhi;have HFN:Hid (Below w.heap.size w (w0.setRow (w.heap.size+2) #[.int .u32 0,.int .i64 0,.int .u32 0,.int .u32 0])):=HB.out.trans ((Wr.setRow _ _ _).below (by omega))
    go_upto_region 23 with fail
    go_wp2_with (first
     |(refine wpList_store_row rfl 38 (.tmp 7) (.tmp 97) rfl (w.heap.size+2) #[.int .u32 0,.int .i64 0,.int .u32 0,.int .u32 0] rfl rfl 38 _ HRB.out HFZ.out rfl (by simp[Value.oneCell']) ?_)
     |fail)
    all_goals exact bodyPost_ret (v:=.tuple #[.int .i64 10,.agg #[.int .u32 0,.int .i64 0,.int .u32 0,.int .u32 0]]) (results_fr rfl _ _ (w.heap.size+2) _ _ rfl rfl (setRow_heap _ _ _ _ _ _ HRB.out) HFZ.out) rfl ⟨by rw[HF.out],HFN.out⟩
   have hhi':decide (k+(nT:Int)<N)=false:=decide_eq_false hhi;by_cases hne:N=k
   ·have HF:Hid (duV (duR D U k nT ks 4 tk now N)=.tuple #[.int .i64 9,.agg #[.int .u32 0,.int .i64 0,.int .u32 0,.int .u32 0]]):=by show _=_;rw[duR_4,if_neg hlo,if_neg hhi,if_pos hne];rfl
    subst hne;clear hlo hhi;have HFN:Hid (Below w.heap.size w (w0.setRow (w.heap.size+2) #[.int .u32 0,.int .i64 0,.int .u32 0,.int .u32 0])):=HB.out.trans ((Wr.setRow _ _ _).below (by omega))
    go_upto_region 25 with fail
    go_wp2_with (first
     |(refine wpList_store_row rfl 38 (.tmp 7) (.tmp 102) rfl (w.heap.size+2) #[.int .u32 0,.int .i64 0,.int .u32 0,.int .u32 0] rfl rfl 38 _ HRB.out HFZ.out rfl (by simp[Value.oneCell']) ?_)
     |fail)
    all_goals exact bodyPost_ret (v:=.tuple #[.int .i64 9,.agg #[.int .u32 0,.int .i64 0,.int .u32 0,.int .u32 0]]) (results_fr rfl _ _ (w.heap.size+2) _ _ rfl rfl (setRow_heap _ _ _ _ _ _ HRB.out) HFZ.out) rfl ⟨by rw[HF.out],HFN.out⟩
   obtain⟨m,rfl⟩:∃ m:Nat,N=m:=⟨N.toNat,by omega⟩
   have HF:Hid (duV (duR D U k nT ks 4 tk now m)=.tuple #[.int .i64 9,.agg #[.int .u32 0,.int .i64 3,.int .u32 m,.int .u32 0]]):=by show _=_;rw[duR_4,if_neg hlo,if_neg hhi,if_neg hne];rfl
   have hwr:IntKind.u32.wrap (m:Int)=m:=wr32 (by omega);clear hlo hhi;have HFN:Hid (Below w.heap.size w (w0.setRow (w.heap.size+2) #[.int .u32 0,.int .i64 3,.int .u32 m,.int .u32 0])):=HB.out.trans ((Wr.setRow _ _ _).below (by omega))
   go_upto_region 26 with fail
   go_wp2_with (first
    |(refine wpList_store_row rfl 38 (.tmp 7) (.tmp 105) rfl (w.heap.size+2) #[.int .u32 0,.int .i64 3,.int .u32 m,.int .u32 0] rfl rfl 38 _ HRB.out HFZ.out rfl (by simp[Value.oneCell']) ?_)
    |fail)
   all_goals exact bodyPost_ret (v:=.tuple #[.int .i64 9,.agg #[.int .u32 0,.int .i64 3,.int .u32 m,.int .u32 0]]) (results_fr rfl _ _ (w.heap.size+2) _ _ rfl rfl (setRow_heap _ _ _ _ _ _ HRB.out) HFZ.out) rfl ⟨by rw[HF.out],HFN.out⟩
 have hser:(decide (0≤N)=true∧decide (N<256)=true)∨(decide (0≤N)=true∧decide (N<256)=false)∨decide (0≤N)=false:=by
  cases decide (0≤N)<;>cases decide (N<256)<;>simp
 rcases hser with⟨hn0',hn1'⟩|⟨hn0',hn1'⟩|hn0'
 all_goals
  have HF:Hid (duV (duR D U k nT ks kind tk now N)=.tuple #[.int .i64 9,.agg #[.int .u32 0,.int .i64 0,.int .u32 0,.int .u32 0]]):=by show _=_;unfold duR;simp[hk1,hk2,hk3,hk4,duV]
  have HFN:Hid (Below w.heap.size w (w0.setRow (w.heap.size+2) #[.int .u32 0,.int .i64 0,.int .u32 0,.int .u32 0])):=HB.out.trans ((Wr.setRow _ _ _).below (by omega))
  go_upto_region 27 with fail
  go_wp2_with (first
   |(refine wpList_store_row rfl 38 (.tmp 7) (.tmp 106) rfl (w.heap.size+2) #[.int .u32 0,.int .i64 0,.int .u32 0,.int .u32 0] rfl rfl 38 _ HRB.out HFZ.out rfl (by simp[Value.oneCell']) ?_)
   |fail)
  all_goals exact bodyPost_ret (v:=.tuple #[.int .i64 9,.agg #[.int .u32 0,.int .i64 0,.int .u32 0,.int .u32 0]]) (results_fr rfl _ _ (w.heap.size+2) _ _ rfl rfl (setRow_heap _ _ _ _ _ _ HRB.out) HFZ.out) rfl ⟨by rw[HF.out],HFN.out⟩
end Go.Proofs.YtncomnkdlpoelaaGreatDoor
