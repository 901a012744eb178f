import Derived.Test.YthmeoilbmfdhfaaGreatMCgB
import Derived.Test.YthmeoilbmfdhfaaGreatMISy
import Derived.Test.YthmeoilbmfdhfaaGreatMDevRd
import Derived.Test.YthmeoilbmfdhfaaGreatFmG
namespace Go.Proofs.YthmeoilbmfdhfaaGreat
open Go.ChangeShapes Go.WideShapes Go.ChangeAt Go.RowKit
set_option linter.unusedVariables false
structure WR (D:Nat) (r:Option Nat) (w w':World):Prop where
 os:w'.os=w.os
 tape:w'.tape=w.tape
 output:w'.output=w.output
 size:w.heap.size≤w'.heap.size
 block:∀ k,k<w.heap.size→k≠D→some k≠r→w'.heap[k]?=w.heap[k]?
theorem WR.trans {D:Nat} {r:Option Nat} {a b c:World} (h:WR D r a b) (k:WR D r b c):WR D r a c:=
 ⟨k.os.trans h.os,k.tape.trans h.tape,k.output.trans h.output,Nat.le_trans h.size k.size,fun i hi h1 h2=>(k.block i (by have:=h.size;omega) h1 h2).trans (h.block i hi h1 h2)⟩
theorem WR.of_wr {D:Nat} {r:Option Nat} {a b:World} (h:Wr D a b):WR D r a b:=⟨h.os,h.tape,h.output,by rw[h.size];exact Nat.le_refl _,fun k _ h1 _=>h.block k h1⟩
theorem WR.of_below {D:Nat} {r:Option Nat} {a b:World} (h:Below a.heap.size a b):WR D r a b:=⟨h.os,h.tape,h.output,h.size,fun k hk _ _=>h.block k hk⟩
theorem WR.of_grown {D:Nat} {r:Option Nat} {a b:World} (h:a.grownBy b r):WR D r a b:=⟨h.os,h.tape,h.output,h.size,fun k hk _ hr=>h.block k hk hr⟩
theorem QOk.ty {w:World} {B:Nat} {q:Q1} (h:QOk w B q):∀ k,q.v.ownBlock=some k→∃ cur t,w.heap[k]?=some (.cells cur t (0,0))∧(t=5∨t=122):=by
 intro k e;rcases h with h|⟨k',hv,hb,hl,hr⟩
 ·obtain⟨h1,h2,cur,h3⟩:=h.lt k e;exact⟨cur,_,h3,.inl rfl⟩
 ·rw[hv] at e;cases e;exact⟨_,_,hr,.inr rfl⟩
theorem POwn.keepD {T:TypeId} {w w':World} {B:Nat} {v:Value} {qs:List Q1} (h:POwn w B v qs) (hk:∀(k:Nat) (cur:Array Value) (t:TypeId),w.heap[k]?=some (Obj.cells cur t (0,0))→t≠T→w'.heap[k]?=w.heap[k]?) (hT:T=40∨T=48):POwn w' B v qs:=by
 refine⟨ownsRow_keep h.row (fun k e=>?_),fun i q hi=>(h.each i q hi).keep (fun k e=>?_),h.ord⟩
 ·obtain⟨_,_,cur,h2⟩:=ownsRow_lt h.row k e;exact hk k cur _ h2 (by rcases hT with rfl|rfl<;>decide)
 ·obtain⟨cur,t,h2,h3⟩:=(h.each i q hi).ty k e;exact hk k cur t h2 (by rcases hT with rfl|rfl<;>rcases h3 with rfl|rfl<;>decide)
set_option maxHeartbeats 400000 in
set_option maxRecDepth 100000 in
theorem write_no (D:Nat) (a b:Value) (s:Int) (z:List Int) (w:World) {X:List Value} {T:TypeId} (h:w.heap[D]?=some (.cells (DC a b 0 false X) T (0,0))) :
  Calls Tryz.prog 107 #[.pointer (some ⟨D,0,none⟩),.int .i64 s,secV z] w fun e w'=>e=.panicked [{ v:=lossV,recovered:=false }]∧w'.heap[D]?=some (.cells (DC a b 0 true X) T (0,0))∧WR D none w w':=by
 unfold secV;have hb:=(Below.refl w.heap.size w).alloc (Nat.le_refl _) (.cells (z.map (Value.int .u8)).toArray 122);have hD:=(Array.getElem?_eq_some_iff.1 h).1;have HB:Hid _:=burn_no D a b false (w.alloc (.cells (z.map (Value.int .u8)).toArray 122)) (by rw[hb.block _ hD];exact h);have HBB:Hid (Below w.heap.size w (w.alloc (.cells (z.map (Value.int .u8)).toArray 122))):=hb;clear hb h;go_enter Tryz.func107,Tryz.ntmps107;go_wp2_with fail;refine(show Calls _ _ _ _ _ from HB.out).mono ?_;rintro e w1 ⟨rfl,h1,h2⟩;exact⟨rfl,rfl,h1,(WR.of_below HBB.out).trans (WR.of_wr h2)⟩
def GV (D S E bx:Nat) (cv:Value) (qs:List Q1) (s:Int) (z:List Int):Nat→(Nat→Bool)→World→Value→Prop
 |0,_,_,v=>v=.pointer (some ⟨D,0,none⟩)
 |1,_,_,v=>v=.pointer (some ⟨D,0,none⟩)
 |2,_,_,v=>v=.pointer (some ⟨D,0,none⟩)
 |3,_,_,v=>v=.pointer (some ⟨D,1,none⟩)
 |4,_,_,v=>v=cv
 |5,_,_,v=>v=.int .i64 s
 |6,_,_,v=>v=.slice (some ⟨bx,0,none⟩) 64 64
 |7,_,_,v=>v=.agg #[.int .i64 s,.slice (some ⟨bx,0,none⟩) 64 64]
 |8,_,w,v=>∃ K,v=.slice (some ⟨K,0,none⟩) 1 1∧S≤K∧w.heap[K]?=some (.cells #[.int .i64 s,.slice (some ⟨bx,0,none⟩) 64 64] 106 (0,0))
 |9,_,w,v=>∃ q:Q1,q.s=s∧q.z=z∧POwn w E v (qs++[q])
 |10,_,_,v=>v=.pointer (some ⟨D,0,none⟩)
 |_,_,_,v=>v=.pointer (some ⟨D,1,none⟩)
theorem GV_stab (D S E bx:Nat) (cv:Value) (qs:List Q1) (s:Int) (z:List Int) (hr:∀ k,cv.ownBlock=some k→k<S) (j:Nat) (L:Nat→Bool) (w w':World) (i:Nat) (v:Value)
  (hM:(i≠9→Below w.heap.size w w')∧w.grownBy w' cv.ownBlock) (hij:i≠j) (hL:L i=false) (h:GV D S E bx cv qs s z j L w v):GV D S E bx cv qs s z j (updK L i) w' v:=by
 have hg:=hM.2;unfold GV at *;split at h;all_goals first
  |exact h
  |(obtain⟨K,e,h1,h2⟩:=h;exact⟨K,e,h1,by rw[hg.block _ (Array.getElem?_eq_some_iff.1 h2).1 (fun er=>by have:=hr K er.symm;omega)];exact h2⟩)
  |(obtain⟨q,e1,e2,h⟩:=h;exact⟨q,e1,e2,h.below (hM.1 hij)⟩)
def WrPost (X:List Value) (T:TypeId) (w w':World) (D E:Nat) (dv cv:Value) (qs:List Q1) (f s:Int) (z:List Int):Prop:=
 ∃ cv' q,q.s=s∧q.z=z∧w'.heap[D]?=some (.cells (DC dv cv' (stF f) false X) T (0,0))∧POwn w' E cv' (qs++[q])∧WR D cv.ownBlock w w'
set_option maxHeartbeats 1000000 in
set_option maxRecDepth 100000 in
theorem write_yes (D E:Nat) (dv cv:Value) (qs:List Q1) (f s:Int) (z:List Int) (w:World) {X:List Value} {T:TypeId} (h:w.heap[D]?=some (.cells (DC dv cv f false X) T (0,0))) (hP:POwn w E cv qs) (hE:E≤w.heap.size) (hz:z.length=64) (hf:f=-1∨0<f) (hf2:f≤9223372036854775807) (hql:qs.length≤1048576) (hT:T=40∨T=48:=by decide) :
  Calls Tryz.prog 107 #[.pointer (some ⟨D,0,none⟩),.int .i64 s,secV z] w fun e w'=>e=.returned (.tuple #[])∧WrPost X T w w' D E dv cv qs f s z:=by
 unfold secV;have hb:=(Below.refl w.heap.size w).alloc (Nat.le_refl _) (.cells (z.map (Value.int .u8)).toArray 122);have hD:=(Array.getElem?_eq_some_iff.1 h).1;have HB:Hid _:=burn_yes D dv cv f false (w.alloc (.cells (z.map (Value.int .u8)).toArray 122)) (by rw[hb.block _ hD];exact h) hf hf2;have hrow:Row (w.alloc (.cells (z.map (Value.int .u8)).toArray 122)) w.heap.size 122 z:=heap_alloc_new w _;have HROW:Hid (Row (w.alloc (.cells (z.map (Value.int .u8)).toArray 122)) w.heap.size 122 z):=hrow;have HP1:Hid (POwn (w.alloc (.cells (z.map (Value.int .u8)).toArray 122)) E cv qs):=hP.below hb;have HD1:Hid ((w.alloc (.cells (z.map (Value.int .u8)).toArray 122)).heap[D]?=some (.cells (DC dv cv f false X) T (0,0))):=by unfold Hid;rw[hb.block _ hD];exact h
 have HLT:Hid (∀(i:Nat) (p:Q1) (k:Nat),qs[i]?=some p→p.v.ownBlock=some k→k<w.heap.size):=fun i p k hp e=>((hP.each i p hp).lt k e).2.1
 have hcS:∀ k,cv.ownBlock=some k→k<w.heap.size:=fun k e=>(ownsRow_lt hP.row k e).2.1
 have HCS:Hid _:=hcS;have HBB:Hid (Below w.heap.size w (w.alloc (.cells (z.map (Value.int .u8)).toArray 122))):=hb;have HZ:Hid (z.length=64):=hz;clear hb h hP hz hrow hcS;go_enter Tryz.func107,Tryz.ntmps107;go_wp2_with fail;refine(show Calls _ _ _ _ _ from HB.out).mono ?_;clear HB;rintro e w1 ⟨rfl,hr1,hw1⟩;obtain⟨F,hF⟩:∃ F,stF f=F:=⟨_,rfl⟩
 rw[hF] at hr1;have HF:Hid (stF f=F):=hF;clear hF;have hsz1:w.heap.size<w1.heap.size:=by rw[hw1.size];exact HROW.out.lt
 have HR1:Hid (w1.heap[D]?=some (.cells (DC dv cv F false X) T (0,0))):=hr1;have HROW1:Hid (Row w1 w.heap.size 122 z):=by unfold Hid Row;rw[hw1.block _ (by omega)];exact HROW.out
 have HP2:Hid (POwn w1 E cv qs):=POwn.keepD HP1.out (fun k cur t hh ht=>hw1.block k (fun e=>by rw[e,HD1.out] at hh;simp at hh;exact ht hh.2.symm)) hT;have HW1:Hid (WR D cv.ownBlock w w1):=(WR.of_below HBB.out).trans (WR.of_wr hw1);clear hr1 hw1 HROW HP1 HD1 HBB;have hDc:∀ k,cv.ownBlock=some k→k≠D:=fun k e ek=>by
  obtain⟨_,_,cur,h3⟩:=ownsRow_lt (POwn.row HP2.out) k e;rw[ek,HR1.out] at h3;simp at h3;rcases hT with rfl|rfl<;>exact absurd h3.2 (by decide)
 have HDC:Hid _:=hDc;clear hDc;have hD1:D<w1.heap.size:=by omega
 go_wp2_with fail;refine wp_region_any (by kernel_rfl) ?_;refine wpAny_slotsJ 12 (fun i w w'=>(i≠9→Below w.heap.size w w')∧w.grownBy w' cv.ownBlock) (frame:=(fun (a b c d e f g h:Value)=>fun (t:Nat→Value)=>({ tmps:=List.toArray [a,b,c,d,e,f,g,h,t 0,t 1,t 2,t 3,t 4,t 5,t 6,t 7,t 8,t 9,t 10,t 11],defers:=[] }:Act)) _ _ _ _ _ _ _ _)
  (Ext:=fun Ls w'=>w1.grownBy w' cv.ownBlock∧(Ls 9=false→Below w1.heap.size w1 w')) (Good:=GV D w.heap.size E w.heap.size cv qs s z) (by rfl) (by kernel_rfl) (GV_stab _ _ _ _ _ _ _ _ HCS.out) (by kernel_rfl) (by kernel_rfl) ?hop ?hend _ _ ((fun (x0 x1 x2 x3 x4 x5 x6 x7 x8 x9 x10 x11:Value)=>fun (i:Nat)=>if i=0 then x0 else if i=1 then x1 else if i=2 then x2 else if i=3 then x3 else if i=4 then x4 else if i=5 then x5 else if i=6 then x6 else if i=7 then x7 else if i=8 then x8 else if i=9 then x9 else if i=10 then x10 else if i=11 then x11 else undef) _ _ _ _ _ _ _ _ _ _ _ _) _ (by simp) (by simp) ?ext ?start ?clo (by simp)
 case clo=>intro i o ho h;exact absurd h (by rw[Array.getD_eq_getD_getElem?,Array.getElem?_replicate];split<;>simp)
 case start=>intro i hi h;exact absurd h (by rw[Array.getD_eq_getD_getElem?,Array.getElem?_replicate];split<;>simp)
 case ext=>exact⟨grown_of_below (Below.refl _ _).drew,fun _=>(Below.refl _ _).drew⟩
 case hop=>
  intro i o Ls t w' hil ho hLi hx hdep K hK;obtain⟨hxg,hx9⟩:=hx;have h9:∀(j:Nat) (ww:World),j≠9→Below w'.heap.size w' ww→updK Ls j 9=false→Below w1.heap.size w1 ww:=fun j ww hj hb hL=>by
   have hL':Ls 9=false:=by simpa[updK,Ne.symm hj] using hL
   exact(hx9 hL').trans (hb.mono hxg.size)
  have haf:w'.heap[D]?=some (.cells (DC dv cv F false X) T (0,0)):=by
   rw[hxg.block D hD1 (fun e=>HDC.out D e.symm rfl)];exact HR1.out
  obtain⟨a0,a1,a2,a3⟩:=row4x haf;have REF:Hid (∀ j,j≠9→(w1.grownBy w' cv.ownBlock∧(updK Ls j 9=false→Below w1.heap.size w1 w'))):=fun j hj=>⟨hxg,h9 j w' hj (Below.refl _ _)⟩
  have RM:Hid (∀ j,(j≠9→Below w'.heap.size w' w')∧w'.grownBy w' cv.ownBlock):=fun j=>⟨fun _=>Below.refl _ _,grown_of_below (Below.refl _ _)⟩
  have hs9:=hxg.size;have H9:Hid _:=h9;have HX9:Hid _:=hx9;have HXG:Hid _:=hxg;clear h9 hx9 hxg haf;obtain rfl|rfl|rfl|rfl|rfl|rfl|rfl|rfl|rfl|rfl|rfl|rfl:i=0∨i=1∨i=2∨i=3∨i=4∨i=5∨i=6∨i=7∨i=8∨i=9∨i=10∨i=11:=by omega
  all_goals(simp at ho;subst ho)
  ·clear hdep;go_simp;exact hK w' (.pointer (some ⟨D,0,none⟩)) rfl (REF.out 0 (by decide)) (RM.out 0)
  ·clear hdep;go_simp;exact hK w' (.pointer (some ⟨D,0,none⟩)) rfl (REF.out 1 (by decide)) (RM.out 1)
  ·have d1:t 1=_:=hdep ⟨1,.data⟩ (by simp) rfl;clear hdep;go_simp;simpa[upd,d1] using hK w' (.pointer (some ⟨D,0,none⟩)) rfl (REF.out 2 (by decide)) (RM.out 2)
  ·have d2:t 2=_:=hdep ⟨2,.data⟩ (by simp) rfl;clear hdep;go_simp;simpa[upd,d2] using hK w' (.pointer (some ⟨D,1,none⟩)) rfl (REF.out 3 (by decide)) (RM.out 3)
  ·have d3:t 3=_:=hdep ⟨3,.data⟩ (by simp) rfl;clear hdep;go_simp;simpa[upd,d3] using hK w' (cv) rfl (REF.out 4 (by decide)) (RM.out 4)
  ·clear hdep;go_simp;exact hK w' (.int .i64 s) rfl (REF.out 5 (by decide)) (RM.out 5)
  ·clear hdep;go_simp;exact hK w' (.slice (some ⟨w.heap.size,0,none⟩) 64 64) rfl (REF.out 6 (by decide)) (RM.out 6)
  ·have d5:t 5=_:=hdep ⟨5,.data⟩ (by simp) rfl;have d6:t 6=_:=hdep ⟨6,.data⟩ (by simp) rfl;clear hdep;go_simp;simpa[upd,d5,d6] using hK w' (.agg #[.int .i64 s,.slice (some ⟨w.heap.size,0,none⟩) 64 64]) rfl (REF.out 7 (by decide)) (RM.out 7)
  ·have d7:t 7=_:=hdep ⟨7,.data⟩ (by simp) rfl;clear hdep;have hb9:=(Below.refl w'.heap.size w').alloc (Nat.le_refl _) (.cells #[.int .i64 s,.slice (some ⟨w.heap.size,0,none⟩) 64 64] 106);have hK':=hK (w'.alloc (.cells #[.int .i64 s,.slice (some ⟨w.heap.size,0,none⟩) 64 64] 106)) (.slice (some ⟨w'.heap.size,0,none⟩) 1 1) ⟨w'.heap.size,rfl,by omega,heap_alloc_new w' _⟩ ⟨grown_trans HXG.out (grown_of_below hb9),H9.out 8 _ (by decide) hb9⟩ ⟨fun _=>hb9,grown_of_below hb9⟩;clear hK hb9;go_simp;simpa[upd,d7] using hK'
  ·have d4:t 4=_:=hdep ⟨4,.data⟩ (by simp) rfl;obtain⟨B,e8,hB,hbB⟩:=hdep ⟨8,.data⟩ (by simp) rfl;clear hdep;have hbl:=HX9.out hLi;have hP9:=POwn.below HP2.out hbl;have e64:(Value.slice (some ⟨w.heap.size,0,none⟩) 64 64)=.slice (some ⟨w.heap.size,0,none⟩) z.length 64:=by rw[HZ.out]
   rw[e64] at hbB;have hRw:Row w' w.heap.size 122 z:=by unfold Row;rw[hbl.block _ (by omega)];exact HROW1.out
   refine wp_appP w' (.tmp 12) (.tmp 16) rfl E w.heap.size cv qs ⟨s,some ⟨w.heap.size,0,none⟩,64,z⟩ d4 hP9 HLT.out B e8 hbB (.inr ⟨w.heap.size,by unfold Q1.v;rw[HZ.out],Nat.le_refl _,HZ.out,hRw⟩) hE (by omega) hql ?_;intro v9 w9 hP9' hg9;exact hK w9 v9 ⟨_,rfl,rfl,hP9'⟩ ⟨grown_trans HXG.out hg9,fun h=>by simp[updK] at h⟩ ⟨fun h=>absurd rfl h,hg9⟩
  ·have d0:t 0=_:=hdep ⟨0,.data⟩ (by simp) rfl;clear hdep;go_simp;simpa[upd,d0] using hK w' (.pointer (some ⟨D,0,none⟩)) rfl (REF.out 10 (by decide)) (RM.out 10)
  ·have d10:t 10=_:=hdep ⟨10,.data⟩ (by simp) rfl;clear hdep;go_simp;simpa[upd,d10] using hK w' (.pointer (some ⟨D,1,none⟩)) rfl (REF.out 11 (by decide)) (RM.out 11)
 case hend=>
  intro o Ls t w' ho hx hg K hK;simp at ho;subst ho;obtain⟨hxg,_⟩:=hx;obtain⟨q',hq1,hq2,hP9⟩:=hg 9 (by decide);have h11:t 11=_:=hg 11 (by decide);clear hg;obtain⟨na,nc,e9,_⟩:=hP9.mine;obtain⟨n9,hn9⟩:∃ n9,(qs++[q']).length=n9:=⟨_,rfl⟩
  rw[hn9] at e9;clear hn9;rw[e9] at hP9;have haf:w'.heap[D]?=some (.cells (DC dv cv F false X) T (0,0)):=by
   rw[hxg.block D hD1 (fun e=>HDC.out D e.symm rfl)];exact HR1.out
  obtain⟨a0,a1,a2,a3⟩:=row4x haf;have f1:=frozen_of_row w' D 1 _ _ haf;have hA9:=row_setCell (i:=1) (.slice na n9 nc) haf DC.s1;have hwr:Wr D w' (w'.setCell ⟨D,1,none⟩ (.slice na n9 nc)):=(Wr.refl D w').setCell 1 _;have hPn:POwn (w'.setCell ⟨D,1,none⟩ (.slice na n9 nc)) E (.slice na n9 nc) (qs++[q']):=hP9.keepD (fun k cur t hh ht=>hwr.block k (fun e=>by rw[e,haf] at hh;simp at hh;exact ht hh.2.symm)) hT;have HFIN:Hid (WrPost X T w (w'.setCell ⟨D,1,none⟩ (.slice na n9 nc)) D E dv cv qs f s z):=by
   refine⟨.slice na n9 nc,q',hq1,hq2,by rw[HF.out];exact hA9,hPn,?_⟩;exact((show WR D cv.ownBlock w w1 from HW1.out).trans (WR.of_grown hxg)).trans (WR.of_wr hwr)
  clear hPn hA9 haf hP9 hxg hwr a0 a2 a3 hq1 hq2;go_simp;apply hK;clear e9 h11;go_wp2
  first|go_end0|go_ret
  exact⟨rfl,HFIN.out⟩
structure DB (D g L gc B:Nat) (zs:List Int) (w:World):Prop where
 row:w.heap[D]?=some (.cells #[.slice (some ⟨g,0,none⟩) L gc,.slice none 0 0,.int .i64 (-1),.bool false] 40 (0,0))
 own:Own w B (.slice (some ⟨g,0,none⟩) L gc) zs
theorem rangeOf {w:World} {q:Nat} {t:TypeId} {zz:List Int} (h:Row w q t zz) (o n:Nat) (hl:o+n≤zz.length):w.rangeAt q o (((zz.drop o).take n).map (Value.int .u8)):=by
 intro j v hv;have hj:j<n:=by have:=(List.getElem?_eq_some_iff.1 hv).1;simp at this;omega
 rw[h.cell (o+j) (by omega)];rw[List.getElem?_map,List.getElem?_take_of_lt hj,List.getElem?_drop] at hv;rw[List.getD_eq_getElem?_getD];cases hz:zz[o+j]? with
 |none=>rw[hz] at hv;simp at hv
 |some x=>rw[hz] at hv;simpa using hv
def DbP (D g L gc B H:Nat) (X:List Value) (T:TypeId) (zs:List Int) (ps:List PD) (f:Int) (d:Bool) (w:World):Prop:=
 ∃ E cv qs,g<E∧D<E∧H≤E∧E≤w.heap.size∧w.heap[D]?=some (.cells (DC (.slice (some ⟨g,0,none⟩) L gc) cv f d X) T (0,0))∧Own w B (.slice (some ⟨g,0,none⟩) L gc) zs∧POwn w E cv qs∧qps qs=ps∧(ps=[]→cv=.slice none 0 0)
abbrev lossE:Ending:=.panicked [{ v:=lossV,recovered:=false }]
section
variable {D g L gc B H s:Nat} {X:List Value} {T:TypeId} {zs z:List Int} {ps:List PD} {f:Int} {d:Bool} {w w':World}
theorem DbP.lt (h:DbP D g L gc B H X T zs ps f d w):D<w.heap.size∧g<w.heap.size:=by obtain⟨E,cv,qs,h1,h2,h3,h4,_⟩:=h;omega
theorem DbP.below (h:DbP D g L gc B H X T zs ps f d w) (b:Below w.heap.size w w'):DbP D g L gc B H X T zs ps f d w':=by
 have hl:=h.lt;obtain⟨E,cv,qs,h1,h2,h3,h4,hr,ho,hp,hq,hn⟩:=h;exact⟨E,cv,qs,h1,h2,h3,by have:=b.size;omega,by rw[b.block D hl.1];exact hr,ho.grow b,hp.below b,hq,hn⟩
theorem YR.wr9 (h:WR D (Value.slice none 0 0).ownBlock w w'):YR D g w w':=⟨h.os,h.tape,h.output,h.size,fun k hk h1 _=>h.block k hk h1 (by simp[Value.ownBlock])⟩
theorem dWy (h:DbP D g L gc B H X T zs [] f false w) (hDg:D≠g) (hz:z.length=64) (hf:f=-1∨0<f) (hf2:f≤9223372036854775807) (hT:T=40∨T=48) (si:Int) :
  Calls Tryz.prog 107 #[.pointer (some ⟨D,0,none⟩),.int .i64 si,.agg (z.map (Value.int .u8)).toArray] w fun e w'=>e=.returned (.tuple #[])∧DbP D g L gc B H X T zs [(si,z)] (stF f) false w'∧YR D g w w':=by
 have hl:=h.lt;obtain⟨E,cv,qs,h1,h2,h3,h4,hr,ho,hp,hq,hn⟩:=h;obtain rfl:=hn rfl;refine(write_yes D w.heap.size (.slice (some ⟨g,0,none⟩) L gc) (.slice none 0 0) [] f si z w hr (POwn.nil _ _) (Nat.le_refl _) hz hf hf2 (by simp) hT).mono ?_;rintro e w' ⟨rfl,cv',q,e1,e2,hD,hP,hW⟩;refine⟨rfl,⟨w.heap.size,cv',_,hl.2,hl.1,by omega,hW.size,hD,ho.keep (fun k hk=>?_),hP,by simp[qps,e1,e2],fun h=>(by cases h)⟩,YR.wr9 hW⟩;simp[Value.ownBlock] at hk;subst hk;exact hW.block g hl.2 (fun e=>hDg e.symm) (by simp[Value.ownBlock])
theorem dWn (h:DbP D g L gc B H X T zs [] 0 false w) (hDg:D≠g) (si:Int) :
  Calls Tryz.prog 107 #[.pointer (some ⟨D,0,none⟩),.int .i64 si,.agg (z.map (Value.int .u8)).toArray] w fun e w'=>e=lossE∧DbP D g L gc B H X T zs [] 0 true w'∧YR D g w w':=by
 have hl:=h.lt;obtain⟨E,cv,qs,h1,h2,h3,h4,hr,ho,hp,hq,hn⟩:=h;obtain rfl:=hn rfl;refine(write_no D _ _ si z w hr).mono ?_;rintro e w' ⟨rfl,hD,hW⟩;refine⟨rfl,⟨w.heap.size,_,[],hl.2,hl.1,by omega,hW.size,hD,ho.keep (fun k hk=>?_),POwn.nil _ _,rfl,fun _=>rfl⟩,YR.wr9 hW⟩;simp[Value.ownBlock] at hk;subst hk;exact hW.block g hl.2 (fun e=>hDg e.symm) (by simp)
theorem dSy (h:DbP D g L gc B H X T zs [((s:Int),z)] f false w) (hDg:D≠g) (hL:zs.length=L) (hz:L≤1048576) (v1:L%64=0) (hz64:z.length=64) (hs:s<L/64) (hf:f=-1∨0<f) (hf2:f≤9223372036854775807) (hT:T=40∨T=48) :
  Calls Tryz.prog 108 #[.pointer (some ⟨D,0,none⟩)] w fun e w'=>e=.returned (.tuple #[])∧DbP D g L gc B H X T (overL zs s z) [] (stF f) false w'∧YR D g w w':=by
 have hl:=h.lt;obtain⟨E,cv,qs,h1,h2,h3,h4,hr,ho,hp,hq,hn⟩:=h;obtain⟨ca,cc,rfl,hPM⟩:=hp.mine;have hql:qs.length=1:=by have:=congrArg List.length hq;simpa[qps] using this
 rw[hq] at hPM;rw[hql] at hr;have hok:PsOk L [((s:Int),z)]:=fun i hi=>by
  obtain rfl:i=0:=by simpa using hi
  exact⟨by simp,by show(s:Int)<((L/64:Nat):Int);omega,by simpa using hz64⟩
 refine(sync_yes D g L gc B ca 1 cc f zs [((s:Int),z)] E w.heap.size w hr ho hPM h1 (.inr ⟨h2,Nat.le_refl _⟩) hL rfl hz (by decide) v1 hok hf hf2 (by rcases hT with rfl|rfl<;>decide)).mono ?_;rintro e w' ⟨rfl,hD2,hO2,hY⟩;have hsy:syL zs [((s:Int),z)] 1=overL zs s z:=syL_succ (zs:=zs) (ps:=[((s:Int),z)]) (k:=0) (s:=s) (by simp) rfl hz64;rw[hsy] at hO2;exact⟨rfl,⟨w.heap.size,_,[],hl.2,hl.1,by omega,hY.size,hD2,hO2,POwn.nil _ _,rfl,fun _=>rfl⟩,hY⟩
theorem dSn (h:DbP D g L gc B H X T zs ps 0 false w) (hDg:D≠g) (hT:T=40∨T=48) :
  Calls Tryz.prog 108 #[.pointer (some ⟨D,0,none⟩)] w fun e w'=>e=lossE∧DbP D g L gc B H X T zs ps 0 true w'∧YR D g w w':=by
 obtain⟨E,cv,qs,h1,h2,h3,h4,hr,ho,hp,hq,hn⟩:=h;refine(sync_no D _ _ w hr).mono ?_;rintro e w' ⟨rfl,hD,hW⟩;refine⟨rfl,⟨E,cv,qs,h1,h2,h3,by rw[hW.size];exact h4,hD,ho.keep (fun k hk=>?_),hp.keepD (fun k cur t hh ht=>hW.block k (fun e=>by rw[e,hr] at hh;simp at hh;exact ht hh.2.symm)) hT,hq,hn⟩,YR.of_wr hW⟩;simp[Value.ownBlock] at hk;subst hk;exact hW.block g (fun e=>hDg e.symm)
end
def cmO (zs:List Int) (f:Int) (s:Nat) (z0 z1:List Int):List Int×List PD×Int×Bool:=
 if f=0 then(zs,[],0,true) else if f=1 then(zs,[((s:Int),z0)],0,true) else if f=2 then(overL zs s z0,[],0,true) else if f=3 then(overL zs s z0,[((s:Int)+1,z1)],0,true) else(overL (overL zs s z0) (s+1) z1,[],if f=-1 then -1 else f-4,false)
def cmE (d:Bool):Ending:=if d then lossE else .returned (.tuple #[])
def WsP (D g L gc B H:Nat) (X:List Value) (T:TypeId) (o:List Int×List PD×Int×Bool) (w:World) (e:Ending) (w':World):Prop:=e=cmE o.2.2.2∧DbP D g L gc B H X T o.1 o.2.1 o.2.2.1 o.2.2.2 w'∧YR D g w w'
theorem stF_pos {f:Int} (h:0<f):stF f=f-1:=by unfold stF;rw[if_pos h]
set_option maxRecDepth 100000 in
set_option maxHeartbeats 4000000 in
theorem wsX (D g L gc B H s:Nat) (X:List Value) (T:TypeId) (gn tl:Int) (aD aU:Option Addr) (nD cD nU cU:Nat) (DS US zs:List Int) (f:Int) (w:World) (h:DbP D g L gc B H X T zs [] f false w) (hDg:D≠g) (hL:zs.length=L) (hz:L≤1048576) (v1:L%64=0) (v2:4≤L/64)
  (hT:T=40∨T=48) (hf:-1≤f) (hf2:f≤9223372036854775807) (hD:DS.length=nD) (hU:US.length=nU) (mD:nD≤1048576) (mU:nU≤1048576) (haD:At .i64 w aD DS) (haU:At .i64 w aU US) (ug:U32 gn) (ut:U32 tl) (hs:SnP gn tl DS US) (hsn:gn%2*2=(s:Int)) (z0 z1:List Int) (hz0:(snL gn tl DS US).take 64=z0) (hz1:(snL gn tl DS US).drop 64=z1) :
  Calls Tryz.prog 58 #[.pointer (some ⟨D,0,none⟩),.agg #[.int .u32 gn,.int .u32 tl,.slice aD nD cD,.slice aU nU cU]] w (WsP D g L gc B H X T (cmO zs f s z0 z1) w):=by
 have hs2:s≤2:=by have:=Int.emod_lt_of_pos gn (show(0:Int)<2 by decide);omega
 have HO0:Hid (OE w 30 #[.int .u32 gn,.int .u32 tl,.slice aD nD cD,.slice aU nU cU] (w.alloc (.cells #[.int .u32 gn,.int .u32 tl,.slice aD nD cD,.slice aU nU cU] 30))):=OE.start _ _ _;have HENC:=hid_ofV (fun ww (b:Below w.heap.size w ww) hh c0 c1 c2 c3=>encd_any w.heap.size gn tl aD aU nD cD nU cU DS US ww hh c0 c1 c2 c3 hD hU mD mU (haD.below b) (haU.below b) ug ut hs);have HB:=hid_ofV h;have HT:=hid_ofV hT;have HV:Hid (D≠g∧zs.length=L∧L≤1048576∧L%64=0∧4≤L/64):=⟨hDg,hL,hz,v1,v2⟩
 have HF:Hid (-1≤f∧f≤9223372036854775807):=⟨hf,hf2⟩
 have HQ2:Hid (gn%2*2=(s:Int)∧s≤2):=⟨hsn,hs2⟩
 have HU:Hid (0≤gn∧gn<4294967296):=ug;have HZL:Hid ((snL gn tl DS US).length=128):=END_len;have HZ:=hid_ofV (And.intro hz0 hz1);clear h hDg hL hz v1 v2 hT hD hU mD mU haD haU ug ut hs hsn hf hf2 hs2 hz0 hz1;go_enter Tryz.func58,Tryz.ntmps58;go_wp2_with fail;generalize (w.alloc (.cells #[.int .u32 gn,.int .u32 tl,.slice aD nD cD,.slice aU nU cU] 30))=w1 at *;refine(HENC.out w1 HO0.out.below HO0.out.lt (by rw[cell_of_row _ _ 0 _ _ _ HO0.out.b0];rfl) (by rw[cell_of_row _ _ 1 _ _ _ HO0.out.b0];rfl) (by rw[cell_of_row _ _ 2 _ _ _ HO0.out.b0];rfl) (by rw[cell_of_row _ _ 3 _ _ _ HO0.out.b0];rfl)).mono ?_;rintro e w2 ⟨rfl,hb2⟩;have HO2:Hid (OE w 30 #[.int .u32 gn,.int .u32 tl,.slice aD nD cD,.slice aU nU cU] w2):=HO0.out.call hb2;clear hb2 HO0 HENC;generalize snL gn tl DS US=zz at *;have HN:Hid ((w2.alloc (.cells Tryz.zeroCells124 124)).heap[w2.heap.size]?=some (.cells Tryz.zeroCells124 124 (0,0))):=heap_alloc_new w2 _;have hsz:(zz.map (Value.int .u8)).toArray.size=128:=by rw[List.size_toArray,List.length_map];exact HZL.out
 have HSZ:Hid ((Tryz.prog.info? 124).map (·.size)=some (zz.map (Value.int .u8)).toArray.size):=by show _=_;rw[hsz];kernel_rfl
 have HEQ:Hid ((Tryz.zeroCells124).size=(zz.map (Value.int .u8)).toArray.size):=by show _=_;rw[hsz];kernel_rfl
 have HOK:Hid ((zz.map (Value.int .u8)).toArray.all (fun x=>x.oneCell')=true):=by show _=_;simp[Value.oneCell']
 have HR:Hid (Row ((w2.alloc (.cells Tryz.zeroCells124 124)).setRow w2.heap.size (zz.map (Value.int .u8)).toArray) w2.heap.size 124 zz):=setRow_heap _ _ _ _ _ _ HN.out;have b3:Below w2.heap.size w2 ((w2.alloc (.cells Tryz.zeroCells124 124)).setRow w2.heap.size (zz.map (Value.int .u8)).toArray):=((Below.refl _ _).alloc (Nat.le_refl _) _).trans ((Wr.setRow _ _ _).below (Nat.le_refl _));have HO3:Hid (OE w 30 #[.int .u32 gn,.int .u32 tl,.slice aD nD cD,.slice aU nU cU] ((w2.alloc (.cells Tryz.zeroCells124 124)).setRow w2.heap.size (zz.map (Value.int .u8)).toArray)):=HO2.out.call b3;have HQ:Hid (D<w2.heap.size∧g<w2.heap.size):=⟨Nat.lt_of_lt_of_le HB.out.lt.1 HO2.out.below.size,Nat.lt_of_lt_of_le HB.out.lt.2 HO2.out.below.size⟩
 clear hsz HO2 b3
 go_upto_region 2 with (first
  |(refine wpList_store_row rfl 124 (.tmp 4) (.tmp 6) rfl w2.heap.size (zz.map (Value.int .u8)).toArray rfl rfl 124 _ HN.out HSZ.out HEQ.out HOK.out ?_)
  |fail)
 clear HN HSZ HEQ HOK;generalize ((w2.alloc (.cells Tryz.zeroCells124 124)).setRow w2.heap.size (zz.map (Value.int .u8)).toArray)=w3 at *;generalize w2.heap.size=q at *;have c0:=cell_of_row w3 w.heap.size 0 _ _ _ HO3.out.b0;simp at c0;go_wp2_with fail;refine(slotOf_any gn HU.out.1 HU.out.2 w3).mono ?_;rintro e w9 ⟨rfl,h9⟩;subst h9;clear c0;obtain⟨gm,hgm⟩:∃ gm,gn%2=gm:=⟨_,rfl⟩
 rw[hgm] at HQ2 ⊢;have hw1:IntKind.i64.wrap (gm*2)=(s:Int):=by rw[IntKind.wrap_i64];have:=HQ2.out;omega
 have hw2:IntKind.i64.wrap ((s:Int)+1)=(s:Int)+1:=by rw[IntKind.wrap_i64];have:=HQ2.out;omega
 clear hgm;have HB3:Hid (DbP D g L gc B H X T zs [] f false w9):=HB.out.below (HO3.out.below);have HS64:Hid (∀ cs:List Value,cs.length=64→(Tryz.prog.info? 122).map (·.size)=some cs.length):=fun cs h=>by rw[h];kernel_rfl
 have HT0:Hid (w9.rangeAt q 0 (z0.map (Value.int .u8))∧z0.length=64):=⟨by rw[←HZ.out.1];have:=rangeOf HR.out 0 64 (by rw[HZL.out];decide);simpa using this,by rw[←HZ.out.1];simp[HZL.out]⟩
 have HL3:Hid (q<w9.heap.size∧Below w.heap.size w w9):=⟨HR.out.lt,HO3.out.below⟩
 have HY3:Hid (YR D g w w9):=YR.of_below HO3.out.below;clear HO3 HB
 go_upto_region 3 with fail
 go_wp2_with (first
  |(refine wpList_load_mid rfl 122 (.tmp 13) rfl q 0 rfl (z0.map (Value.int .u8)) _ HT0.out.1 Tryz.underlying122 rfl (HS64.out _ (by rw[List.length_map];exact HT0.out.2)) ?_)
  |fail)
 by_cases hf0:f=0
 ·subst hf0;refine(dWn (z:=z0) HB3.out HV.out.1 (s:Int)).mono ?_;rintro e w4 ⟨rfl,d4,y4⟩;exact⟨rfl,rfl,d4,HY3.out.trans y4⟩
 have hfp:f=-1∨0<f:=by have:=HF.out;omega
 refine(dWy (z:=z0) HB3.out HV.out.1 HT0.out.2 hfp HF.out.2 HT.out (s:Int)).mono ?_;rintro e w4 ⟨rfl,d4,y4⟩;have HB4:=hid_ofV d4;have HY4:=hid_ofV (HY3.out.trans y4);have HR4:Hid (Row w4 q 124 zz):=by show _=_;rw[y4.block q HL3.out.1 (by have:=HQ.out;omega) (by have:=HQ.out;omega)];exact HR.out
 have HL4:Hid (q<w4.heap.size):=Nat.lt_of_lt_of_le HL3.out.1 y4.size;have HF4:Hid ((stF f=-1∧f=-1)∨(stF f=f-1∧0<f)):=by
  rcases hfp with rfl|h
  ·exact .inl ⟨rfl,rfl⟩
  ·exact .inr ⟨stF_pos h,h⟩
 clear d4 y4 HB3 HY3 HR HL3 hfp;go_wp2_with fail;by_cases hf1:f=1
 ·subst hf1;refine(dSn HB4.out HV.out.1 HT.out).mono ?_;rintro e w5 ⟨rfl,d5,y5⟩;exact⟨rfl,rfl,d5,HY4.out.trans y5⟩
 refine(dSy HB4.out HV.out.1 HV.out.2.1 HV.out.2.2.1 HV.out.2.2.2.1 HT0.out.2 (by have:=HV.out;have:=HQ2.out;omega) (by have:=HF4.out;omega) (by have:=HF4.out;have:=HF.out;omega) HT.out).mono ?_;rintro e w5 ⟨rfl,d5,y5⟩;have HB5:=hid_ofV d5;have HY5:=hid_ofV (HY4.out.trans y5);have HR5:Hid (Row w5 q 124 zz):=by show _=_;rw[y5.block q HL4.out (by have:=HQ.out;omega) (by have:=HQ.out;omega)];exact HR4.out
 have HL5:Hid ((overL zs s z0).length=L):=by show _=_;rw[overL_len _ _ _ (by have:=HV.out;have:=HT0.out.2;have:=HQ2.out;omega)];exact HV.out.2.1
 have HT1:Hid (w5.rangeAt q 64 (z1.map (Value.int .u8))∧z1.length=64):=⟨by
  rw[←HZ.out.2];have:=rangeOf HR5.out 64 64 (by rw[HZL.out];decide)
  rwa [List.take_of_length_le (by simp[HZL.out])] at this,by rw[←HZ.out.2];simp[HZL.out]⟩
 have HF5:Hid ((stF (stF f)=-1∧f=-1)∨(stF (stF f)=f-2∧1<f)):=by
  rcases HF4.out with⟨h1,h2⟩|⟨h1,h2⟩
  ·exact .inl ⟨by rw[h1];rfl,h2⟩
  ·exact .inr ⟨by rw[h1,stF_pos (by omega)];omega,by omega⟩
 clear d5 y5 HB4 HY4 HR4 HL4 HF4;go_wp2_with (first
  |(refine wpList_load_mid rfl 122 (.tmp 21) rfl q 64 rfl (z1.map (Value.int .u8)) _ HT1.out.1 Tryz.underlying122 rfl (HS64.out _ (by rw[List.length_map];exact HT1.out.2)) ?_)
  |fail)
 by_cases hf2:f=2
 ·subst hf2;refine(dWn (z:=z1) HB5.out HV.out.1 _).mono ?_;rintro e w6 ⟨rfl,d6,y6⟩;exact⟨rfl,rfl,d6,HY5.out.trans y6⟩
 refine(dWy (z:=z1) HB5.out HV.out.1 HT1.out.2 (by have:=HF5.out;omega) (by have:=HF5.out;have:=HF.out;omega) HT.out _).mono ?_;rintro e w6 ⟨rfl,d6,y6⟩;have HB6:=hid_ofV d6;have HY6:=hid_ofV (HY5.out.trans y6);have HF6:Hid ((stF (stF (stF f))=-1∧f=-1)∨(stF (stF (stF f))=f-3∧2<f)):=by
  rcases HF5.out with⟨h1,h2⟩|⟨h1,h2⟩
  ·exact .inl ⟨by rw[h1];rfl,h2⟩
  ·exact .inr ⟨by rw[h1,stF_pos (by omega)];omega,by omega⟩
 clear d6 y6 HB5 HY5 HR5 HF5;go_wp2_with fail;by_cases hf3:f=3
 ·subst hf3;refine(dSn HB6.out HV.out.1 HT.out).mono ?_;rintro e w7 ⟨rfl,d7,y7⟩;exact⟨rfl,rfl,d7,HY6.out.trans y7⟩
 refine(dSy (s:=s+1) HB6.out HV.out.1 HL5.out HV.out.2.2.1 HV.out.2.2.2.1 HT1.out.2 (by have:=HV.out;have:=HQ2.out;omega) (by have:=HF6.out;omega) (by have:=HF6.out;have:=HF.out;omega) HT.out).mono ?_;rintro e w7 ⟨rfl,d7,y7⟩;have HP:Hid (WsP D g L gc B H X T (cmO zs f s z0 z1) w (.returned (.tuple #[])) w7):=by
  have hc:cmO zs f s z0 z1=(overL (overL zs s z0) (s+1) z1,[],stF (stF (stF (stF f))),false):=by
   unfold cmO;rw[if_neg hf0,if_neg hf1,if_neg hf2,if_neg hf3];rcases HF6.out with⟨h1,h2⟩|⟨h1,h2⟩
   ·rw[h1,if_pos h2];rfl
   ·rw[h1,if_neg (by omega),stF_pos (by omega)];congr 3;omega
  show WsP _ _ _ _ _ _ _ _ _ _ _ _
  rw[hc];exact⟨rfl,d7,HY6.out.trans y7⟩
 clear d7 y7 HB6 HY6;go_wp2_with fail
 first|go_end0|go_ret
 exact HP.out
section
variable {lo lo' hi:Nat} {w w':World} {C X:Array Value} {zs ks:List Int} {ps:List PD} {f c:Int} {d:Bool} {r:ImR}
def GTQ (lo:Nat) (w:World) (C:Array Value) (zs:List Int) (ps:List PD) (ks:List Int) (f:Int) (d:Bool) (r:ImR):Prop:=∃ da dc ca cc ka kc aSD nSD cSD aSU nSU cSU aF mF cF aD nD cD aU nU cU aT cT B1 U,C=#[.slice da zs.length dc,.slice ca ps.length cc,.int .i64 f,.bool d,.slice ka ks.length kc,.bool r.ok,.int .u32 r.g,.int .u32 r.t,.slice aSD nSD cSD,.slice aSU nSU cSU,.slice aF mF cF,.slice aD nD cD,.slice aU nU cU,.int .i64 r.k,.slice aT r.n cT,.int .u32 r.nx]∧(zs.length≤dc∧mF≤cF)∧Mine lo w da zs∧Mine lo w ka ks∧I6L w aSD aSU aF aD aU aT nSD nSU mF nD nU r∧GX lo w r da ka aSD aSU aF aD aU aT nSD nSU mF nD nU∧PMine B1 U w ca ps∧lo≤B1∧U≤w.heap.size∧(ps≠[]→(∀ ad,da=some ad→ad.block<B1)∧(∀ ad,ka=some ad→ad.block<B1)∧∀ j,B1≤j→N6 j aSD aSU aF aD aU aT)
theorem GP.gq (h:GP lo w C zs ks f d r) (hl:lo≤w.heap.size):GTQ lo w C zs [] ks f d r:=by
 obtain⟨da,dc,ca,cc,ka,kc,aSD,nSD,cSD,aSU,nSU,cSU,aF,mF,cF,aD,nD,cD,aU,nU,cU,aT,cT,e,h1,h2,h3,h4,h5⟩:=h;exact⟨da,dc,ca,cc,ka,kc,aSD,nSD,cSD,aSU,nSU,cSU,aF,mF,cF,aD,nD,cD,aU,nU,cU,aT,cT,_,_,e,h1,h2,h3,h4,h5,.inl rfl,hl,Nat.le_refl _,fun h=>absurd rfl h⟩
theorem GTQ.keep (h:GTQ lo w C zs ps ks f d r) (hs:w.heap.size≤w'.heap.size) (hb:∀ k,lo≤k→k<w.heap.size→w'.heap[k]?=w.heap[k]?):GTQ lo w' C zs ps ks f d r:=by
 obtain⟨da,dc,ca,cc,ka,kc,aSD,nSD,cSD,aSU,nSU,cSU,aF,mF,cF,aD,nD,cD,aU,nU,cU,aT,cT,B1,U,e,h1,h2,h3,h4,⟨⟨b1,b2,h5⟩,h6,h7⟩,h8,h9,h10,h11⟩:=h;exact⟨da,dc,ca,cc,ka,kc,aSD,nSD,cSD,aSU,nSU,cSU,aF,mF,cF,aD,nD,cD,aU,nU,cU,aT,cT,B1,U,e,h1,h2.keep hs hb,h3.keep hs hb,h4.keep h5.l6 hs hb,⟨⟨b1,b2,h5.keep hs hb⟩,h6,h7⟩,h8.keep (fun k hk hk'=>hb k (by omega) (by omega)) hs,h9,by omega,h11⟩
theorem GTQ.below (h:GTQ lo w C zs ps ks f d r) (b:Below w.heap.size w w'):GTQ lo w' C zs ps ks f d r:=h.keep b.size (fun k _ hk=>b.block k hk)
theorem GTQ.mono (h:GTQ lo w C zs ps ks f d r) (hl:lo'≤lo):GTQ lo' w C zs ps ks f d r:=by
 obtain⟨da,dc,ca,cc,ka,kc,aSD,nSD,cSD,aSU,nSU,cSU,aF,mF,cF,aD,nD,cD,aU,nU,cU,aT,cT,B1,U,e,h1,h2,h3,h4,⟨⟨b1,b2,h5⟩,h6,h7⟩,h8,h9,h10,h11⟩:=h;exact⟨da,dc,ca,cc,ka,kc,aSD,nSD,cSD,aSU,nSU,cSU,aF,mF,cF,aD,nD,cD,aU,nU,cU,aT,cT,B1,U,e,h1,h2.mono hl,h3.mono hl,h4,⟨⟨b1,b2,h5.low hl⟩,h6,h7⟩,h8,by omega,h10,h11⟩
theorem GTQ.row (h:GTQ lo w C zs ps ks f d r):C.size=16∧C.all (·.oneCell')=true:=by
 obtain⟨da,dc,ca,cc,ka,kc,aSD,nSD,cSD,aSU,nSU,cSU,aF,mF,cF,aD,nD,cD,aU,nU,cU,aT,cT,B1,U,rfl,_⟩:=h;exact⟨rfl,by simp[Value.oneCell']⟩
theorem GTQ.gat (h:GTQ lo w C zs ps ks f d r):GAt w (.agg C) zs ps f d ks r:=by
 obtain⟨da,dc,ca,cc,ka,kc,aSD,nSD,cSD,aSU,nSU,cSU,aF,mF,cF,aD,nD,cD,aU,nU,cU,aT,cT,B1,U,e,h1,h2,h3,h4,h5,h8,_⟩:=h;exact⟨da,dc,ca,cc,ka,kc,aSD,nSD,cSD,aSU,nSU,cSU,aF,mF,cF,aD,nD,cD,aU,nU,cU,aT,cT,congrArg _ e,h2.1,h8.at_,h1.1,h3.1,h4⟩
def RTQ (lo:Nat) (w:World) (X:Array Value) (c:Int) (zs:List Int) (ps:List PD) (ks:List Int) (f:Int) (d:Bool) (r:ImR):Prop:=∃ C,X=#[.int .i64 c]++C∧GTQ lo w C zs ps ks f d r
theorem RTQ.keep (h:RTQ lo w X c zs ps ks f d r) (hs:w.heap.size≤w'.heap.size) (hb:∀ k,lo≤k→k<w.heap.size→w'.heap[k]?=w.heap[k]?):RTQ lo w' X c zs ps ks f d r:=by obtain⟨C,e,h⟩:=h;exact⟨C,e,h.keep hs hb⟩
theorem RTQ.below (h:RTQ lo w X c zs ps ks f d r) (b:Below w.heap.size w w'):RTQ lo w' X c zs ps ks f d r:=h.keep b.size (fun k _ hk=>b.block k hk)
theorem RTQ.mono (h:RTQ lo w X c zs ps ks f d r) (hl:lo'≤lo):RTQ lo' w X c zs ps ks f d r:=by obtain⟨C,e,h⟩:=h;exact⟨C,e,h.mono hl⟩
theorem RTQ.row (h:RTQ lo w X c zs ps ks f d r):X.size=17∧X.all (·.oneCell')=true:=by
 obtain⟨C,rfl,h⟩:=h;refine⟨by rw[Array.size_append,h.row.1];rfl,?_⟩;rw[Array.all_append,h.row.2];simp[Value.oneCell']
theorem GL.n6 {aSD aSU aF aD aU aT:Option Addr} (h:L6 lo w aSD aSU aF aD aU aT):∀ j,w.heap.size≤j→N6 j aSD aSU aF aD aU aT:=fun j hj=>⟨fun ad e=>by have:=h.1 ad e;omega,fun ad e=>by have:=h.2.1 ad e;omega,fun ad e=>by have:=h.2.2.1 ad e;omega,fun ad e=>by have:=h.2.2.2.1 ad e;omega,fun ad e=>by have:=h.2.2.2.2.1 ad e;omega,fun ad e=>by have:=h.2.2.2.2.2 ad e;omega⟩
end
end Go.Proofs.YthmeoilbmfdhfaaGreat
