import Derived.Test.YtilpkdnoaldfmaaGreatDoorMSSy
import Derived.Test.YtilpkdnoaldfmaaGreatDoorMLlA
import Derived.Test.YtilpkdnoaldfmaaGreatDoorMSvO
import Derived.Deep.MidRow
namespace Go.Proofs.YtilpkdnoaldfmaaGreatDoor
open Go.ChangeShapes Go.WideShapes Go.ChangeAt Go.RowKit
set_option linter.unusedVariables false
set_option maxRecDepth 100000 in
set_option maxHeartbeats 1000000 in
theorem clnF_any (a:Option Addr) (n cap:Nat) (xs:List Int) (w:World) (hn:xs.length=n*4) (hm:n≤1048576) (ha:FAt w a xs) :
  Calls Tryz.prog 99 #[.slice a n cap] w fun e w'=>∃ v,e=.returned v∧FO w.heap.size w' v xs n∧Below w.heap.size w w':=by
 have E:=run_nilS 31 92 Tryz.underlying31 w a n cap;cases a with
 |none=>
  have hx:xs=[]:=by rcases ha with h|⟨b,o,e,_⟩;exact h;cases e
  have HP:Hid (FO w.heap.size w (.slice none 0 0) xs n):=by
   subst hx;obtain rfl:n=0:=by simp at hn;omega
   exact⟨rfl,.inl ⟨rfl,rfl⟩⟩
  clear hn ha hm hx;go_enter Tryz.func99,Tryz.ntmps99;go_wp2
  go_ret
  exact⟨_,rfl,HP.out,Below.refl _ _⟩
 |some ad=>
  have bb:Below w.heap.size w (w.alloc (.cells #[] 92)):=(Below.refl _ _).alloc (Nat.le_refl _) _;have HA:Hid (FAt (w.alloc (.cells #[] 92)) (some ad) xs∧EmS w.heap.size 92 (w.alloc (.cells #[] 92)) (.slice (some ⟨w.heap.size,0,none⟩) 0 0)):=⟨ha.below bb,EmS.new _ w (Nat.le_refl _)⟩
  have HB:=hid_ofV bb;have HN:=hid_ofV (And.intro hn hm);clear hn ha hm bb;go_enter Tryz.func99,Tryz.ntmps99;go_wp2_with (first
   |(refine wpList_plain rfl fun K hK=>wp_appFr _ (.tmp 5) (.tmp 6) rfl w.heap.size _ rfl HA.out.2 (some ad) n cap xs rfl HN.out.1 HA.out.1 HN.out.2 (by simp) fun v' w3 ho hb=>hK _ _ ?_)
   |fail)
  have HF:Hid (FO w.heap.size w3 v' xs n∧Below w.heap.size w w3):=⟨by first|exact ho|(unfold FO;rw[HN.out.1];exact ho),HB.out.trans (hb.mono HB.out.size)⟩
  clear ho hb HA HB HN;go_wp2
  go_ret
  exact⟨_,rfl,HF.out.1,HF.out.2⟩
theorem FO.lo {lo lo' n:Nat} {w:World} {v:Value} {xs:List Int} (h:FO lo w v xs n) (hl:lo'≤lo):FO lo' w v xs n:=rowLo h hl
def SNY (lo:Nat) (w:World) (v:Value) (gn tl:Int) (D U:List Int):Prop:=∃ bD mD dD bU mU dU,v=.agg #[.int .u32 gn,.int .u32 tl,.slice bD mD dD,.slice bU mU dU]∧S3 lo w bD bU none mD mU 0 D U []
theorem SNY.below {lo:Nat} {w w':World} {v:Value} {gn tl:Int} {D U:List Int} (h:SNY lo w v gn tl D U) (b:Below w.heap.size w w'):SNY lo w' v gn tl D U:=by
 obtain⟨bD,mD,dD,bU,mU,dU,e,h⟩:=h;exact⟨bD,mD,dD,bU,mU,dU,e,h.below b⟩
set_option maxRecDepth 100000 in
set_option maxHeartbeats 4000000 in
theorem cpSn_any (gn tl:Int) (aD aU:Option Addr) (nD cD nU cU:Nat) (D U:List Int) (w:World) (hD:D.length=nD) (hU:U.length=nU) (mD:nD≤1048576) (mU:nU≤1048576) (haD:At .i64 w aD D) (haU:At .i64 w aU U) :
  Calls Tryz.prog 98 #[.agg #[.int .u32 gn,.int .u32 tl,.slice aD nD cD,.slice aU nU cU]] w fun e w'=>∃ v,e=.returned v∧SNY w.heap.size w' v gn tl D U∧Below w.heap.size w w':=by
 have HCD:=hid_ofV (fun ww (b:Below w.heap.size w ww)=>clnI_any aD nD cD D ww hD mD (haD.below b));have HCU:=hid_ofV (fun ww (b:Below w.heap.size w ww)=>clnI_any aU nU cU U ww hU mU (haU.below b));have HSZ:Hid ((Tryz.prog.info? 30).map (·.size)=some 4):=by show _=_;kernel_rfl
 have HE1:Hid (BE w 30 #[.int .u32 gn,.int .u32 tl,.slice aD nD cD,.slice aU nU cU] #[.int .u32 0,.int .u32 0,.slice none 0 0,.slice none 0 0] ((w.alloc (.cells #[.int .u32 gn,.int .u32 tl,.slice aD nD cD,.slice aU nU cU] 30)).alloc (.cells #[.int .u32 0,.int .u32 0,.slice none 0 0,.slice none 0 0] 30))):=BE.start _ _ _ _;have HL1:Hid (w.heap.size<((w.alloc (.cells #[.int .u32 gn,.int .u32 tl,.slice aD nD cD,.slice aU nU cU] 30)).alloc (.cells #[.int .u32 0,.int .u32 0,.slice none 0 0,.slice none 0 0] 30)).heap.size):=(Array.getElem?_eq_some_iff.1 HE1.out.b0).1;clear hD hU mD mU haD haU;go_enter Tryz.func98,Tryz.ntmps98;go_wp2_with fail;generalize ((w.alloc (.cells #[.int .u32 gn,.int .u32 tl,.slice aD nD cD,.slice aU nU cU] 30)).alloc (.cells #[.int .u32 0,.int .u32 0,.slice none 0 0,.slice none 0 0] 30))=w1 at *;refine wp_region_any (by kernel_rfl) ?_;refine wpAny_slotsF 11 (fun _ a b=>Below a.heap.size a b) (frame:=(fun (a b c:Value)=>fun (t:Nat→Value)=>({ tmps:=List.toArray [a,b,c,t 0,t 1,t 2,t 3,t 4,t 5,t 6,t 7,t 8,t 9,t 10],defers:=[] }:Act)) _ _ _)
  (Ext:=fun L u w'=>ApH w1 [6,9] L u w') (Good:=fun i L w' v=>if i=0 then v=.pointer (some ⟨w.heap.size,0,none⟩) else if i=1 then v=.int .u32 gn else if i=2 then v=.pointer (some ⟨w.heap.size,1,none⟩) else if i=3 then v=.int .u32 tl else if i=4 then v=.pointer (some ⟨w.heap.size,2,none⟩) else if i=5 then v=.slice aD nD cD else if i=6 then Iow w1.heap.size w' v D else if i=7 then v=.pointer (some ⟨w.heap.size,3,none⟩) else if i=8 then v=.slice aU nU cU else if i=9 then Iow w1.heap.size w' v U else if i=10 then SNY w1.heap.size w' v gn tl D U else True) (Fin:=fun _ ww=>∃ bD mD dD bU mU dU,ww.heap[w.heap.size+1]?=some (.cells #[.int .u32 gn,.int .u32 tl,.slice bD mD dD,.slice bU mU dU] 30 (0,0))∧S3 w.heap.size ww bD bU none mD mU 0 D U []∧Below w.heap.size w ww) rfl (by kernel_rfl) ?hstab (by kernel_rfl) ?hop ?hend ?hdone _ _ ((fun (x0 x1 x2 x3 x4 x5 x6 x7 x8 x9 x10:Value)=>fun (i:Nat)=>if i=0 then x0 else if i=1 then x1 else if i=2 then x2 else if i=3 then x3 else if i=4 then x4 else if i=5 then x5 else if i=6 then x6 else if i=7 then x7 else if i=8 then x8 else if i=9 then x9 else if i=10 then x10 else undef) _ _ _ _ _ _ _ _ _ _ _) _ (by simp) ?none ?ext (by simp)
 case none=>intro i;rw[Array.getD_eq_getD_getElem?,Array.getElem?_replicate];split<;>rfl
 case ext=>exact ApH.start w1 [6,9] _ _ (fun i=>by rw[Array.getD_eq_getD_getElem?,Array.getElem?_replicate];split<;>rfl) ⟨rfl,rfl,rfl,Nat.le_refl _,fun _ _=>rfl⟩
 case hstab=>
  intro j L w9 w' i v _ hM _ _ h;by_cases h6:j=6
  ·subst h6;simp at h ⊢;exact h.below hM
  by_cases h9:j=9
  ·subst h9;simp at h ⊢;exact h.below hM
  by_cases h10:j=10
  ·subst h10;simp at h ⊢;exact h.below hM
  simp only[if_neg h6,if_neg h9,if_neg h10] at h ⊢;exact h
 case hop=>
  intro i o L t w' hi ho hLi hx hdep K hK;have cX:∀ q9:Nat,w'.cell? ⟨w.heap.size,q9,none⟩=(#[.int .u32 gn,.int .u32 tl,.slice aD nD cD,.slice aU nU cU]:Array Value)[q9]?:=fun q9=>by rw[World.cell?_of_block (a:=⟨w.heap.size,q9,none⟩) (w:=w1) (hx.below.block _ HL1.out),cell_of_row w1 w.heap.size q9 _ _ _ HE1.out.b0]
  obtain rfl|rfl|rfl|rfl|rfl|rfl|rfl|rfl|rfl|rfl|rfl:i=0∨i=1∨i=2∨i=3∨i=4∨i=5∨i=6∨i=7∨i=8∨i=9∨i=10:=by omega
  all_goals(simp at ho;subst ho)
  all_goals try(have hK':=hK w' _ rfl (hx.step _ _ (Below.refl _ _) (fun h=>absurd h (by decide))) (Below.refl _ _);clear hK;simp[Region.binds] at hdep;rw[if_pos (by rfl)];go_simp;simpa[upd,hdep] using hK')
  ·have d5:t 5=.slice aD nD cD:=by simpa using(hdep ⟨5,.data⟩ (by simp) rfl).2
   clear hdep;have bw:Below w.heap.size w w':=HE1.out.below.trans (hx.below.mono HE1.out.below.size);have hsz:w1.heap.size≤w'.heap.size:=hx.below.size;have A:=HCD.out w' bw;have hK':∀ ww v,Iow w1.heap.size ww v D→FreshH w' ww v→Below w'.heap.size w' ww→K _ ww:=fun ww v hv hf hb=>hK ww v (by simpa using hv) (hx.step 6 v hb (fun _=>hf)) hb
   clear hK;rw[if_pos (by rfl)];go_simp;try simp only[d5]
   refine A.mono ?_;rintro e w9 ⟨v9,rfl,h9,hb9⟩;have hK2:=hK' w9 v9 (h9.lo hsz) (own_fresh h9) hb9;clear hK' A h9 hb9;go_simp;simpa[upd,d5] using hK2
  ·have d8:t 8=.slice aU nU cU:=by simpa using(hdep ⟨8,.data⟩ (by simp) rfl).2
   clear hdep;have bw:Below w.heap.size w w':=HE1.out.below.trans (hx.below.mono HE1.out.below.size);have hsz:w1.heap.size≤w'.heap.size:=hx.below.size;have A:=HCU.out w' bw;have hK':∀ ww v,Iow w1.heap.size ww v U→FreshH w' ww v→Below w'.heap.size w' ww→K _ ww:=fun ww v hv hf hb=>hK ww v (by simpa using hv) (hx.step 9 v hb (fun _=>hf)) hb
   clear hK;rw[if_pos (by rfl)];go_simp;try simp only[d8]
   refine A.mono ?_;rintro e w9 ⟨v9,rfl,h9,hb9⟩;have hK2:=hK' w9 v9 (h9.lo hsz) (own_fresh h9) hb9;clear hK' A h9 hb9;go_simp;simpa[upd,d8] using hK2
  ·have d1:t 1=.int .u32 gn:=by simpa using(hdep ⟨1,.data⟩ (by simp) rfl).2
   have d3:t 3=.int .u32 tl:=by simpa using(hdep ⟨3,.data⟩ (by simp) rfl).2
   have l6:L 6=true:=(hdep ⟨6,.data⟩ (by simp) rfl).1;have f6:Iow w1.heap.size w' (t 6) D:=by simpa using(hdep ⟨6,.data⟩ (by simp) rfl).2
   have l9:L 9=true:=(hdep ⟨9,.data⟩ (by simp) rfl).1;have f9:Iow w1.heap.size w' (t 9) U:=by simpa using(hdep ⟨9,.data⟩ (by simp) rfl).2
   clear hdep;have a1:=hx.ap 6 (by decide) 9 (by decide) (by decide) l6 l9;obtain⟨bD,mD,dD,eD⟩:=f6.form;obtain⟨bU,mU,dU,eU⟩:=f9.form;rw[eD] at f6 a1;rw[eU] at f9 a1;have hsv:SNY w1.heap.size w' (.agg #[.int .u32 gn,.int .u32 tl,.slice bD mD dD,.slice bU mU dU]) gn tl D U:=⟨bD,mD,dD,bU,mU,dU,rfl,S3.of_io f6 f9 (ap_slice a1)⟩
   have hK':=hK w' _ (by simpa using hsv) (hx.step 10 _ (Below.refl _ _) (fun h=>absurd h (by decide))) (Below.refl _ _);clear hK f6 f9 hsv a1;rw[if_pos (by rfl)];go_simp;simpa[upd,d1,d3,eD,eU] using hK'
 case hend=>
  intro o L t w' ho hx hg K hK;simp at ho;subst ho;have f10:SNY w1.heap.size w' (t 10) gn tl D U:=by simpa using(hg 10 (by decide)).2
  clear hg;obtain⟨bD,mD,dD,bU,mU,dU,e10,s10⟩:=f10;have hrs:=(hx.below.block _ (Array.getElem?_eq_some_iff.1 HE1.out.b1).1).trans HE1.out.b1;have hK':∀ ww,Wr (w.heap.size+1) w' ww→ww.heap[w.heap.size+1]?=some (.cells #[.int .u32 gn,.int .u32 tl,.slice bD mD dD,.slice bU mU dU] 30 (0,0))→K _ ww:=fun ww hw hr=>hK ww undef ⟨bD,mD,dD,bU,mU,dU,hr,(s10.keep (Nat.le_of_eq hw.size.symm) (fun k hk _=>hw.block k (by have:=(Array.getElem?_eq_some_iff.1 HE1.out.b1).1;omega))).lo (by have:=HE1.out.below.size;omega),(HE1.out.below.trans (hx.below.mono HE1.out.below.size)).trans (hw.below (by omega))⟩
  clear hK s10;rw[if_pos (by rfl)];refine wp_store_row 30 (.tmp 2) (.tmp 13) rfl (w.heap.size+1) #[.int .u32 gn,.int .u32 tl,.slice bD mD dD,.slice bU mU dU] rfl e10 30 _ hrs HSZ.out rfl (by simp[Value.oneCell']) ?_;have hK2:=hK' _ (Wr.setRow _ _ _) (setRow_heap _ _ _ _ _ _ hrs);clear hK';simpa[upd,Act.put] using hK2
 case hdone=>
  intro t w9 hf;obtain⟨bD,mD,dD,bU,mU,dU,hr,hI,hb9⟩:=hf;have HR9:Hid (w9.heap[w.heap.size+1]?=some (.cells #[.int .u32 gn,.int .u32 tl,.slice bD mD dD,.slice bU mU dU] 30 (0,0))):=hr;have HF:Hid (SNY w.heap.size w9 (.agg #[.int .u32 gn,.int .u32 tl,.slice bD mD dD,.slice bU mU dU]) gn tl D U∧Below w.heap.size w w9):=⟨⟨bD,mD,dD,bU,mU,dU,rfl,hI⟩,hb9⟩
  clear hr hI hb9;go_wp2_with fail;exact bodyPost_ret (v:=.agg #[.int .u32 gn,.int .u32 tl,.slice bD mD dD,.slice bU mU dU]) (results_cell_row rfl _ _ (w.heap.size+1) 30 _ (0,0) _ rfl HR9.out Tryz.underlying30 rfl HSZ.out) rfl ⟨_,rfl,HF.out.1,HF.out.2⟩
theorem mid_row {w:World} {b:Nat} {C:Array Value} {t:TypeId} {fr:Nat×Nat} (h:w.heap[b]?=some (.cells C t fr)) (o:Nat) (cs:List Value) (hc:(C.toList.drop o).take cs.length=cs):w.rangeAt b o cs:=fun j v hj=>by
 rw[cell_of_row w b (o+j) _ _ _ h,←Array.getElem?_toList,←List.getElem?_drop,←List.getElem?_take_of_lt (List.getElem?_eq_some_iff.1 hj).1,hc];exact hj
section
variable {lo lo':Nat} {w w':World} {v vd vk vi:Value} {zs ks D U T:List Int} {f gn tl k:Int} {d:Bool} {r:ImR} {C:Array Value} {nT:Nat}
theorem SNY.dn (h:SNY lo w v gn tl D U) (hl:lo'≤lo):SNY lo' w v gn tl D U:=by obtain⟨bD,mD,dD,bU,mU,dU,e,h⟩:=h;exact⟨bD,mD,dD,bU,mU,dU,e,h.lo hl⟩
theorem STY.dn (h:STY lo w v D U k T nT) (hl:lo'≤lo):STY lo' w v D U k T nT:=by obtain⟨bD,mD,dD,bU,mU,dU,bT,dT,e,h⟩:=h;exact⟨bD,mD,dD,bU,mU,dU,bT,dT,e,h.lo hl⟩
theorem SNY.fresh {w0:World} (h:SNY w0.heap.size w v gn tl D U):FreshH w0 w v:=by
 obtain⟨bD,mD,dD,bU,mU,dU,rfl,h⟩:=h;intro k hk;obtain⟨x,hx,ad,hA,rfl⟩:=has_agg.1 hk;simp at hx;rcases hx with rfl|rfl|rfl|rfl
 ·cases hA
 ·cases hA
 ·exact h.ld ad hA
 ·exact h.lu ad hA
theorem STY.fresh {w0:World} (h:STY w0.heap.size w v D U k T nT):FreshH w0 w v:=by
 obtain⟨bD,mD,dD,bU,mU,dU,bT,dT,rfl,h⟩:=h;intro k hk;obtain⟨x,hx,ad,hA,rfl⟩:=has_agg.1 hk;simp at hx;rcases hx with rfl|rfl|rfl|rfl
 ·exact h.ld ad hA
 ·exact h.lu ad hA
 ·cases hA
 ·exact h.lt ad hA
theorem ImY.dn (h:ImY lo w v r) (hl:lo'≤lo):ImY lo' w v r:=by
 obtain⟨aSD,nSD,cSD,aSU,nSU,cSU,aF,mF,cF,aD,nD,cD,aU,nU,cU,aT,cT,b1,b2,e,g,h,h3⟩:=h;exact⟨aSD,nSD,cSD,aSU,nSU,cSU,aF,mF,cF,aD,nD,cD,aU,nU,cU,aT,cT,b1,b2,e,g.low hl,h,h3⟩
theorem ImY.fresh {w0:World} (h:ImY w0.heap.size w v r):FreshH w0 w v:=by
 obtain⟨aSD,nSD,cSD,aSU,nSU,cSU,aF,mF,cF,aD,nD,cD,aU,nU,cU,aT,cT,b1,b2,rfl,g,h2⟩:=h;obtain⟨l1,l2,l3,l4,l5,l6⟩:=g.l6;intro k hk;obtain⟨x,hx,ad,hA,rfl⟩:=has_agg.1 hk;simp at hx;rcases hx with rfl|rfl|rfl|rfl|rfl|rfl|rfl|rfl|rfl|rfl|rfl
 all_goals first
  |exact l1 ad hA
  |exact l2 ad hA
  |exact l3 ad hA
  |exact l4 ad hA
  |exact l5 ad hA
  |exact l6 ad hA
  |cases hA
theorem imY_of {bSD bSU bF bD bU bT:Option Addr} {mSD dSD mSU dSU mF dF mD dD mU dU dT:Nat} (s1:S3 lo w bSD bSU none mSD mSU 0 r.sD r.sU []) (f1:FO lo w (.slice bF mF dF) r.F mF) (s2:S3 lo w bD bU bT mD mU r.n r.D r.U r.T)
  (a1:ApVH (.agg #[.int .u32 r.g,.int .u32 r.t,.slice bSD mSD dSD,.slice bSU mSU dSU]) (.slice bF mF dF)) (a2:ApVH (.agg #[.int .u32 r.g,.int .u32 r.t,.slice bSD mSD dSD,.slice bSU mSU dSU]) (.agg #[.slice bD mD dD,.slice bU mU dU,.int .i64 r.k,.slice bT r.n dT])) (a3:ApVH (.slice bF mF dF) (.agg #[.slice bD mD dD,.slice bU mU dU,.int .i64 r.k,.slice bT r.n dT])) :
  ImY lo w (.agg #[.bool r.ok,.int .u32 r.g,.int .u32 r.t,.slice bSD mSD dSD,.slice bSU mSU dSU,.slice bF mF dF,.slice bD mD dD,.slice bU mU dU,.int .i64 r.k,.slice bT r.n dT,.int .u32 r.nx]) r:=by
 have fl:=f1.len;obtain⟨aF,cF,e,fA,fc,fL⟩:=f1.form;cases e;refine⟨bSD,mSD,dSD,bSU,mSU,dSU,bF,mF,dF,bD,mD,dD,bU,mU,dU,bT,dT,0,0,rfl,⟨s1.d.open_ s1.nd,s1.u.open_ s1.nu,f1.open_,s2.d.open_ s2.nd,s2.u.open_ s2.nu,s2.t.open_ s2.nt,s1.ld,s1.lu,fL,s2.ld,s2.lu,s2.lt,s1.du,s2.du,s2.dt,s2.ut,fun ad e=>?_,fun ad e=>?_⟩,⟨s1.d.at_,s1.u.at_,fA,s2.d.at_,s2.u.at_,s2.t.at_,s1.nd,s1.nu,fl,s2.nd,s2.nu,s2.nt⟩,fc⟩
 ·have q:Value.has (.agg #[.int .u32 r.g,.int .u32 r.t,.slice bSD mSD dSD,.slice bSU mSU dSU]) ad.block:=by
   rcases e with e|e
   ·exact has_slice 2 rfl e
   ·exact has_slice 3 rfl e
  exact⟨fun x hx h=>a1 _ q (.inl ⟨x,hx,h.symm⟩),fun x hx h=>a2 _ q (by rw[h];exact has_slice 0 rfl hx),fun x hx h=>a2 _ q (by rw[h];exact has_slice 1 rfl hx),fun x hx h=>a2 _ q (by rw[h];exact has_slice 3 rfl hx)⟩
 ·have q:Value.has (.slice bF mF dF) ad.block:=.inl ⟨ad,e,rfl⟩;exact⟨fun x hx h=>a3 _ q (by rw[h];exact has_slice 0 rfl hx),fun x hx h=>a3 _ q (by rw[h];exact has_slice 1 rfl hx),fun x hx h=>a3 _ q (by rw[h];exact has_slice 3 rfl hx)⟩
def DvN (lo:Nat) (w:World) (v:Value) (zs:List Int) (f:Int) (d:Bool):Prop:=∃ dv,v=.agg #[dv,.slice none 0 0,.int .i64 f,.bool d]∧OwnN w lo dv zs
theorem DvN.below (h:DvN lo w v zs f d) (b:Below w.heap.size w w'):DvN lo w' v zs f d:=by obtain⟨dv,e,h⟩:=h;exact⟨dv,e,h.grow b⟩
theorem DvN.dn (h:DvN lo w v zs f d) (hl:lo'≤lo):DvN lo' w v zs f d:=by obtain⟨dv,e,h⟩:=h;exact⟨dv,e,h.mono hl⟩
theorem DvN.dvm (h:DvN lo w v zs f d):DvM lo w v zs f d:=by
 obtain⟨dv,rfl,h⟩:=h;obtain⟨ka,kc,rfl,q⟩:=h.km;refine⟨ka,kc,none,0,rfl,?_,q,fun _ e=>(by cases e)⟩;rcases h with⟨e,rfl⟩|h
 ·cases e;exact Nat.le_refl _
 ·obtain⟨g,c,e,q1,q2,q3,q4,q5⟩:=h.at_;cases e;exact q3
def GPn (lo:Nat) (w:World) (C:Array Value) (zs ks:List Int) (f:Int) (d:Bool) (r:ImR):Prop:=GP lo w C zs ks f d r∧C[1]?=some (.slice none 0 0)∧∃ dv,C[0]?=some dv∧OwnN w lo dv zs
def GPnv (lo:Nat) (w:World) (v:Value) (zs ks:List Int) (f:Int) (d:Bool) (r:ImR):Prop:=∃ C,v=.agg C∧GPn lo w C zs ks f d r
theorem GPn.keep (h:GPn lo w C zs ks f d r) (hs:w.heap.size≤w'.heap.size) (hb:∀ k,lo≤k→k<w.heap.size→w'.heap[k]?=w.heap[k]?):GPn lo w' C zs ks f d r:=by
 obtain⟨h1,h2,dv,h3,h4⟩:=h;exact⟨h1.keep hs hb,h2,dv,h3,h4.keep fun k e=>hb k (h4.lt k e).1 (h4.lt k e).2.1⟩
theorem GPn.below (h:GPn lo w C zs ks f d r) (b:Below w.heap.size w w'):GPn lo w' C zs ks f d r:=h.keep b.size (fun k _ hk=>b.block k hk)
theorem GPn.mono (h:GPn lo w C zs ks f d r) (hl:lo'≤lo):GPn lo' w C zs ks f d r:=by
 obtain⟨h1,h2,dv,h3,h4⟩:=h;exact⟨h1.mono hl,h2,dv,h3,h4.mono hl⟩
theorem GPnv.below (h:GPnv lo w v zs ks f d r) (b:Below w.heap.size w w'):GPnv lo w' v zs ks f d r:=by obtain⟨C,e,h⟩:=h;exact⟨C,e,h.below b⟩
theorem gpn_make (h1:DvN lo w vd zs f d) (h2:KM lo w vk ks) (h3:ImY lo w vi r) (a1:ApVH vd vk) (a2:ApVH vd vi) (a3:ApVH vk vi) :
  ∃ xa xc ya yc bSD mSD dSD bSU mSU dSU bF mG dF bD mD dD bU mU dU bT dT,vd=.agg #[.slice xa zs.length xc,.slice none 0 0,.int .i64 f,.bool d]∧vk=.slice ya ks.length yc∧vi=.agg #[.bool r.ok,.int .u32 r.g,.int .u32 r.t,.slice bSD mSD dSD,.slice bSU mSU dSU,.slice bF mG dF,.slice bD mD dD,.slice bU mU dU,.int .i64 r.k,.slice bT r.n dT,.int .u32 r.nx]∧GPn lo w #[.slice xa zs.length xc,.slice none 0 0,.int .i64 f,.bool d,.slice ya ks.length yc,.bool r.ok,.int .u32 r.g,.int .u32 r.t,.slice bSD mSD dSD,.slice bSU mSU dSU,.slice bF mG dF,.slice bD mD dD,.slice bU mU dU,.int .i64 r.k,.slice bT r.n dT,.int .u32 r.nx] zs ks f d r:=by
 obtain⟨da,dc,ca,cc,ka,kc,aSD,nSD,cSD,aSU,nSU,cSU,aF,mF,cF,aD,nD,cD,aU,nU,cU,aT,cT,e1,e2,e3,g⟩:=gp_make h1.dvm h2 h3 a1 a2 a3;obtain⟨dv,e,o⟩:=h1;rw[e] at e1;injection e1 with e1
 simp at e1;obtain⟨rfl,⟨rfl,rfl⟩⟩:=e1;exact⟨da,dc,ka,kc,aSD,nSD,cSD,aSU,nSU,cSU,aF,mF,cF,aD,nD,cD,aU,nU,cU,aT,cT,e,e2,e3,g,rfl,_,rfl,o⟩
end
set_option maxRecDepth 100000 in
set_option maxHeartbeats 4000000 in
theorem cpIm_any (v:Value) (r:ImR) (w:World) (h:ImW w v r) (hb:ImLe r) :
  Calls Tryz.prog 79 #[v] w fun e w'=>∃ C,e=.returned (.agg C)∧ImY w.heap.size w' (.agg C) r∧Below w.heap.size w w':=by
 obtain⟨aSD,nSD,cSD,aSU,nSU,cSU,aF,mF,cF,aD,nD,cD,aU,nU,cU,aT,cT,rfl,A1,A2,A3,A4,A5,A6,e1,e2,e3,e4,e5,e6⟩:=h;obtain⟨l1,l2,l3,l4,l5,l6⟩:=hb;have HCS:=hid_ofV (fun ww (b:Below w.heap.size w ww)=>cpSn_any r.g r.t aSD aSU nSD cSD nSU cSU r.sD r.sU ww e1 e2 (by omega) (by omega) (A1.below b) (A2.below b));have HCF:=hid_ofV (fun ww (b:Below w.heap.size w ww)=>clnF_any aF mF cF r.F ww e3 (by omega) (A3.below b));have HCT:=hid_ofV (fun ww (b:Below w.heap.size w ww)=>cpSt_any aD aU aT nD cD nU cU r.n cT r.D r.U r.k r.T ww e4 e5 e6 (by omega) (by omega) (by omega) (A4.below b) (A5.below b) (A6.below b));have HSN:Hid ((Tryz.prog.info? 30).map (·.size)=some 4):=by show _=_;kernel_rfl
 have HST:Hid ((Tryz.prog.info? 34).map (·.size)=some 4):=by show _=_;kernel_rfl
 have HSI:Hid ((Tryz.prog.info? 36).map (·.size)=some 11):=by show _=_;kernel_rfl
 have HE1:Hid (BE w 36 #[.bool r.ok,.int .u32 r.g,.int .u32 r.t,.slice aSD nSD cSD,.slice aSU nSU cSU,.slice aF mF cF,.slice aD nD cD,.slice aU nU cU,.int .i64 r.k,.slice aT r.n cT,.int .u32 r.nx] #[.bool false,.int .u32 0,.int .u32 0,.slice none 0 0,.slice none 0 0,.slice none 0 0,.slice none 0 0,.slice none 0 0,.int .i64 0,.slice none 0 0,.int .u32 0] ((w.alloc (.cells #[.bool r.ok,.int .u32 r.g,.int .u32 r.t,.slice aSD nSD cSD,.slice aSU nSU cSU,.slice aF mF cF,.slice aD nD cD,.slice aU nU cU,.int .i64 r.k,.slice aT r.n cT,.int .u32 r.nx] 36)).alloc (.cells #[.bool false,.int .u32 0,.int .u32 0,.slice none 0 0,.slice none 0 0,.slice none 0 0,.slice none 0 0,.slice none 0 0,.int .i64 0,.slice none 0 0,.int .u32 0] 36))):=BE.start _ _ _ _;have HL1:Hid (w.heap.size<((w.alloc (.cells #[.bool r.ok,.int .u32 r.g,.int .u32 r.t,.slice aSD nSD cSD,.slice aSU nSU cSU,.slice aF mF cF,.slice aD nD cD,.slice aU nU cU,.int .i64 r.k,.slice aT r.n cT,.int .u32 r.nx] 36)).alloc (.cells #[.bool false,.int .u32 0,.int .u32 0,.slice none 0 0,.slice none 0 0,.slice none 0 0,.slice none 0 0,.slice none 0 0,.int .i64 0,.slice none 0 0,.int .u32 0] 36)).heap.size):=(Array.getElem?_eq_some_iff.1 HE1.out.b0).1;clear A1 A2 A3 A4 A5 A6 e1 e2 e3 e4 e5 e6 l1 l2 l3 l4 l5 l6;go_enter Tryz.func79,Tryz.ntmps79;go_wp2_with fail;generalize ((w.alloc (.cells #[.bool r.ok,.int .u32 r.g,.int .u32 r.t,.slice aSD nSD cSD,.slice aSU nSU cSU,.slice aF mF cF,.slice aD nD cD,.slice aU nU cU,.int .i64 r.k,.slice aT r.n cT,.int .u32 r.nx] 36)).alloc (.cells #[.bool false,.int .u32 0,.int .u32 0,.slice none 0 0,.slice none 0 0,.slice none 0 0,.slice none 0 0,.slice none 0 0,.int .i64 0,.slice none 0 0,.int .u32 0] 36))=w1 at *;refine wp_region_any (by kernel_rfl) ?_;refine wpAny_slotsF 14 (fun _ a b=>Below a.heap.size a b) (frame:=(fun (a b c:Value)=>fun (t:Nat→Value)=>({ tmps:=List.toArray [a,b,c,t 0,t 1,t 2,t 3,t 4,t 5,t 6,t 7,t 8,t 9,t 10,t 11,t 12,t 13],defers:=[] }:Act)) _ _ _)
  (Ext:=fun L u w'=>ApH w1 [4,7,10] L u w') (Good:=fun i L w' v=>if i=0 then v=.pointer (some ⟨w.heap.size,0,none⟩) else if i=1 then v=.bool r.ok else if i=2 then v=.pointer (some ⟨w.heap.size,1,none⟩) else if i=3 then v=.agg #[.int .u32 r.g,.int .u32 r.t,.slice aSD nSD cSD,.slice aSU nSU cSU] else if i=4 then SNY w1.heap.size w' v r.g r.t r.sD r.sU else if i=5 then v=.pointer (some ⟨w.heap.size,5,none⟩) else if i=6 then v=.slice aF mF cF else if i=7 then FO w1.heap.size w' v r.F mF else if i=8 then v=.pointer (some ⟨w.heap.size,6,none⟩) else if i=9 then v=.agg #[.slice aD nD cD,.slice aU nU cU,.int .i64 r.k,.slice aT r.n cT] else if i=10 then STY w1.heap.size w' v r.D r.U r.k r.T r.n else if i=11 then v=.pointer (some ⟨w.heap.size,10,none⟩) else if i=12 then v=.int .u32 r.nx else if i=13 then ImY w1.heap.size w' v r else True) (Fin:=fun _ ww=>∃ C,ww.heap[w.heap.size+1]?=some (.cells C 36 (0,0))∧ImY w.heap.size ww (.agg C) r∧C.size=11∧Below w.heap.size w ww) rfl (by kernel_rfl) ?hstab (by kernel_rfl) ?hop ?hend ?hdone _ _ ((fun (x0 x1 x2 x3 x4 x5 x6 x7 x8 x9 x10 x11 x12 x13:Value)=>fun (i:Nat)=>if i=0 then x0 else if i=1 then x1 else if i=2 then x2 else if i=3 then x3 else if i=4 then x4 else if i=5 then x5 else if i=6 then x6 else if i=7 then x7 else if i=8 then x8 else if i=9 then x9 else if i=10 then x10 else if i=11 then x11 else if i=12 then x12 else if i=13 then x13 else undef) _ _ _ _ _ _ _ _ _ _ _ _ _ _) _ (by simp) ?none ?ext (by simp)
 case none=>intro i;rw[Array.getD_eq_getD_getElem?,Array.getElem?_replicate];split<;>rfl
 case ext=>exact ApH.start w1 [4,7,10] _ _ (fun i=>by rw[Array.getD_eq_getD_getElem?,Array.getElem?_replicate];split<;>rfl) ⟨rfl,rfl,rfl,Nat.le_refl _,fun _ _=>rfl⟩
 case hstab=>
  intro j L w9 w' i v _ hM _ _ h;by_cases h4:j=4
  ·subst h4;simp at h ⊢;exact h.below hM
  by_cases h7:j=7
  ·subst h7;simp at h ⊢;exact h.below hM
  by_cases h10:j=10
  ·subst h10;simp at h ⊢;exact h.below hM
  by_cases h13:j=13
  ·subst h13;simp at h ⊢;exact h.below hM
  simp only[if_neg h4,if_neg h7,if_neg h10,if_neg h13] at h ⊢;exact h
 case hop=>
  intro i o L t w' hi ho hLi hx hdep K hK;have cX:∀ q9:Nat,w'.cell? ⟨w.heap.size,q9,none⟩=(#[.bool r.ok,.int .u32 r.g,.int .u32 r.t,.slice aSD nSD cSD,.slice aSU nSU cSU,.slice aF mF cF,.slice aD nD cD,.slice aU nU cU,.int .i64 r.k,.slice aT r.n cT,.int .u32 r.nx]:Array Value)[q9]?:=fun q9=>by rw[World.cell?_of_block (a:=⟨w.heap.size,q9,none⟩) (w:=w1) (hx.below.block _ HL1.out),cell_of_row w1 w.heap.size q9 _ _ _ HE1.out.b0]
  obtain rfl|rfl|rfl|rfl|rfl|rfl|rfl|rfl|rfl|rfl|rfl|rfl|rfl|rfl:i=0∨i=1∨i=2∨i=3∨i=4∨i=5∨i=6∨i=7∨i=8∨i=9∨i=10∨i=11∨i=12∨i=13:=by omega
  all_goals(simp at ho;subst ho)
  all_goals try(have hK':=hK w' _ rfl (hx.step _ _ (Below.refl _ _) (fun h=>absurd h (by decide))) (Below.refl _ _);clear hK;simp[Region.binds] at hdep;rw[if_pos (by rfl)];go_simp;simpa[upd,hdep] using hK')
  ·have d3:t 3=.agg #[.int .u32 r.g,.int .u32 r.t,.slice aSD nSD cSD,.slice aSU nSU cSU]:=by simpa using(hdep ⟨3,.data⟩ (by simp) rfl).2
   clear hdep;have bw:Below w.heap.size w w':=HE1.out.below.trans (hx.below.mono HE1.out.below.size);have hsz:w1.heap.size≤w'.heap.size:=hx.below.size;have A:=HCS.out w' bw;have hK':∀ ww v,SNY w1.heap.size ww v r.g r.t r.sD r.sU→FreshH w' ww v→Below w'.heap.size w' ww→K _ ww:=fun ww v hv hf hb=>hK ww v (by simpa using hv) (hx.step 4 v hb (fun _=>hf)) hb
   clear hK;rw[if_pos (by rfl)];go_simp;try simp only[d3]
   refine A.mono ?_;rintro e w9 ⟨v9,rfl,h9,hb9⟩;have hK2:=hK' w9 v9 (h9.dn hsz) h9.fresh hb9;clear hK' A h9 hb9;go_simp;simpa[upd,d3] using hK2
  ·have d6:t 6=.slice aF mF cF:=by simpa using(hdep ⟨6,.data⟩ (by simp) rfl).2
   clear hdep;have bw:Below w.heap.size w w':=HE1.out.below.trans (hx.below.mono HE1.out.below.size);have hsz:w1.heap.size≤w'.heap.size:=hx.below.size;have A:=HCF.out w' bw;have hK':∀ ww v,FO w1.heap.size ww v r.F mF→FreshH w' ww v→Below w'.heap.size w' ww→K _ ww:=fun ww v hv hf hb=>hK ww v (by simpa using hv) (hx.step 7 v hb (fun _=>hf)) hb
   clear hK;rw[if_pos (by rfl)];go_simp;try simp only[d6]
   refine A.mono ?_;rintro e w9 ⟨v9,rfl,h9,hb9⟩;have hK2:=hK' w9 v9 (h9.lo hsz) (own_fresh h9) hb9;clear hK' A h9 hb9;go_simp;simpa[upd,d6] using hK2
  ·have d9:t 9=.agg #[.slice aD nD cD,.slice aU nU cU,.int .i64 r.k,.slice aT r.n cT]:=by simpa using(hdep ⟨9,.data⟩ (by simp) rfl).2
   clear hdep;have bw:Below w.heap.size w w':=HE1.out.below.trans (hx.below.mono HE1.out.below.size);have hsz:w1.heap.size≤w'.heap.size:=hx.below.size;have A:=HCT.out w' bw;have hK':∀ ww v,STY w1.heap.size ww v r.D r.U r.k r.T r.n→FreshH w' ww v→Below w'.heap.size w' ww→K _ ww:=fun ww v hv hf hb=>hK ww v (by simpa using hv) (hx.step 10 v hb (fun _=>hf)) hb
   clear hK;rw[if_pos (by rfl)];go_simp;try simp only[d9]
   refine A.mono ?_;rintro e w9 ⟨v9,rfl,h9,hb9⟩;have hK2:=hK' w9 v9 (h9.dn hsz) h9.fresh hb9;clear hK' A h9 hb9;go_simp;simpa[upd,d9] using hK2
  ·have d1:t 1=.bool r.ok:=by simpa using(hdep ⟨1,.data⟩ (by simp) rfl).2
   have l4:L 4=true:=(hdep ⟨4,.data⟩ (by simp) rfl).1;have f4:SNY w1.heap.size w' (t 4) r.g r.t r.sD r.sU:=by simpa using(hdep ⟨4,.data⟩ (by simp) rfl).2
   have l7:L 7=true:=(hdep ⟨7,.data⟩ (by simp) rfl).1;have f7:FO w1.heap.size w' (t 7) r.F mF:=by simpa using(hdep ⟨7,.data⟩ (by simp) rfl).2
   have l10:L 10=true:=(hdep ⟨10,.data⟩ (by simp) rfl).1;have f10:STY w1.heap.size w' (t 10) r.D r.U r.k r.T r.n:=by simpa using(hdep ⟨10,.data⟩ (by simp) rfl).2
   have d12:t 12=.int .u32 r.nx:=by simpa using(hdep ⟨12,.data⟩ (by simp) rfl).2
   clear hdep;have a1:=hx.ap 4 (by decide) 7 (by decide) (by decide) l4 l7;have a2:=hx.ap 4 (by decide) 10 (by decide) (by decide) l4 l10;have a3:=hx.ap 7 (by decide) 10 (by decide) (by decide) l7 l10;obtain⟨bSD,mSD,dSD,bSU,mSU,dSU,e4,s4⟩:=f4;obtain⟨bF,dF,e7,q1,q2,q3⟩:=f7.form;obtain⟨bD,mD,dD,bU,mU,dU,bT,dT,e10,s10⟩:=f10;rw[e4] at a1 a2;rw[e7] at f7 a1 a3;rw[e10] at a2 a3;have hsv:ImY w1.heap.size w' (.agg #[.bool r.ok,.int .u32 r.g,.int .u32 r.t,.slice bSD mSD dSD,.slice bSU mSU dSU,.slice bF mF dF,.slice bD mD dD,.slice bU mU dU,.int .i64 r.k,.slice bT r.n dT,.int .u32 r.nx]) r:=imY_of s4 f7 s10 a1 a2 a3;have hK':=hK w' _ (by simpa using hsv) (hx.step 13 _ (Below.refl _ _) (fun h=>absurd h (by decide))) (Below.refl _ _);clear hK s4 f7 s10 hsv a1 a2 a3 q1 q2 q3;rw[if_pos (by rfl)];go_simp;simpa[upd,d1,d12,e4,e7,e10] using hK'
 case hend=>
  intro o L t w' ho hx hg K hK;simp at ho;subst ho;have f13:ImY w1.heap.size w' (t 13) r:=by simpa using(hg 13 (by decide)).2
  clear hg;obtain⟨aSD,nSD,cSD,aSU,nSU,cSU,aF,mF,cF,aD,nD,cD,aU,nU,cU,aT,cT,b1,b2,e13,s13,s14,s15⟩:=f13;have hrs:=(hx.below.block _ (Array.getElem?_eq_some_iff.1 HE1.out.b1).1).trans HE1.out.b1;have hR:=(Array.getElem?_eq_some_iff.1 HE1.out.b1).1;have hK':∀ ww,Wr (w.heap.size+1) w' ww→ww.heap[w.heap.size+1]?=some (.cells #[.bool r.ok,.int .u32 r.g,.int .u32 r.t,.slice aSD nSD cSD,.slice aSU nSU cSU,.slice aF mF cF,.slice aD nD cD,.slice aU nU cU,.int .i64 r.k,.slice aT r.n cT,.int .u32 r.nx] 36 (0,0))→K _ ww:=fun ww hw hr=>hK ww undef ⟨_,hr,⟨aSD,nSD,cSD,aSU,nSU,cSU,aF,mF,cF,aD,nD,cD,aU,nU,cU,aT,cT,b1,b2,rfl,(s13.keep (Nat.le_of_eq hw.size.symm) (fun k hk _=>hw.block k (by omega))).low (by have:=HE1.out.below.size;omega),s14.keep s13.l6 (Nat.le_of_eq hw.size.symm) (fun k hk _=>hw.block k (by omega)),s15⟩,rfl,(HE1.out.below.trans (hx.below.mono HE1.out.below.size)).trans (hw.below (by omega))⟩
  clear hK s13 s14 s15;rw[if_pos (by rfl)];refine wp_store_row 36 (.tmp 2) (.tmp 16) rfl (w.heap.size+1) #[.bool r.ok,.int .u32 r.g,.int .u32 r.t,.slice aSD nSD cSD,.slice aSU nSU cSU,.slice aF mF cF,.slice aD nD cD,.slice aU nU cU,.int .i64 r.k,.slice aT r.n cT,.int .u32 r.nx] rfl e13 36 _ hrs HSI.out rfl (by simp[Value.oneCell']) ?_;have hK2:=hK' _ (Wr.setRow _ _ _) (setRow_heap _ _ _ _ _ _ hrs);clear hK';simpa[upd,Act.put] using hK2
 case hdone=>
  intro t w9 hf;obtain⟨C,hr,hI,hz,hb9⟩:=hf;have HR9:Hid (w9.heap[w.heap.size+1]?=some (.cells C 36 (0,0))):=hr;have HF:Hid (ImY w.heap.size w9 (.agg C) r∧Below w.heap.size w w9):=⟨hI,hb9⟩
  have HS9:Hid ((Tryz.prog.info? 36).map (·.size)=some C.size):=by show _=_;rw[hz];exact HSI.out
  clear hr hI hz hb9;go_wp2_with fail;exact bodyPost_ret (v:=.agg C) (results_cell_row rfl _ _ (w.heap.size+1) 36 _ (0,0) _ rfl HR9.out Tryz.underlying36 rfl HS9.out) rfl ⟨_,rfl,HF.out.1,HF.out.2⟩
set_option maxRecDepth 100000 in
set_option maxHeartbeats 4000000 in
theorem cpG_any {lo:Nat} (C:Array Value) (zs ks:List Int) (f:Int) (d:Bool) (r:ImR) (w:World) (h:GL lo w C zs ks f d r) (hb:ImLe r) (hz:zs.length≤1048576) (hk:ks.length≤1048576) :
  Calls Tryz.prog 57 #[.agg C] w fun e w'=>∃ C',e=.returned (.agg C')∧GPn w.heap.size w' C' zs ks f d r∧Below w.heap.size w w':=by
 obtain⟨da,dc,ca,cc,ka,kc,aSD,nSD,cSD,aSU,nSU,cSU,aF,mF,cF,aD,nD,cD,aU,nU,cU,aT,cT,rfl,q1,q2,q3,q4,q5⟩:=h;have HCD:Hid (∀ ww,Below w.heap.size w ww→Calls Tryz.prog 29 #[.agg #[.slice da zs.length dc,.slice ca 0 cc,.int .i64 f,.bool d]] ww fun e w'=>∃ v,e=.returned v∧DvN ww.heap.size w' v zs f d∧Below ww.heap.size ww w'):=fun ww b=>(icp2_any (.agg #[.slice da zs.length dc,.slice ca 0 cc,.int .i64 f,.bool d]) zs [] f d ww ⟨da,dc,ca,cc,rfl,q2.1.below b,.inl rfl,q1.1⟩ hz (by simp) (by simp)).mono fun e w' ⟨v,e1,e2,e3,e4⟩=>⟨v,e1,by
  obtain⟨dv,cv,qs,E,e5,e6,_⟩:=e2;obtain⟨dv',e7⟩:=e4 rfl;rw[e7] at e5;injection e5 with e5
  simp at e5;exact⟨dv,by rw[e7,e5.1],e6⟩,e3⟩
 have HCK:=hid_ofV (fun ww (b:Below w.heap.size w ww)=>clone2_any ka ks.length kc ks ww rfl hk (q3.1.below b));have HCI:Hid (∀ ww,Below w.heap.size w ww→Calls Tryz.prog 79 #[.agg #[.bool r.ok,.int .u32 r.g,.int .u32 r.t,.slice aSD nSD cSD,.slice aSU nSU cSU,.slice aF mF cF,.slice aD nD cD,.slice aU nU cU,.int .i64 r.k,.slice aT r.n cT,.int .u32 r.nx]] ww fun e w'=>∃ v,e=.returned v∧ImY ww.heap.size w' v r∧Below ww.heap.size ww w'):=fun ww b=>(cpIm_any (.agg #[.bool r.ok,.int .u32 r.g,.int .u32 r.t,.slice aSD nSD cSD,.slice aSU nSU cSU,.slice aF mF cF,.slice aD nD cD,.slice aU nU cU,.int .i64 r.k,.slice aT r.n cT,.int .u32 r.nx]) r ww ⟨aSD,nSD,cSD,aSU,nSU,cSU,aF,mF,cF,aD,nD,cD,aU,nU,cU,aT,cT,rfl,q4.below b⟩ hb).mono fun e w' ⟨C,h1,h2,h3⟩=>⟨_,h1,h2,h3⟩
 have HSD:Hid ((Tryz.prog.info? 27).map (·.size)=some 4):=by show _=_;kernel_rfl
 have HSI:Hid ((Tryz.prog.info? 36).map (·.size)=some 11):=by show _=_;kernel_rfl
 have HSG:Hid ((Tryz.prog.info? 38).map (·.size)=some 16):=by show _=_;kernel_rfl
 have HE1:Hid (BE w 38 #[.slice da zs.length dc,.slice ca 0 cc,.int .i64 f,.bool d,.slice ka ks.length kc,.bool r.ok,.int .u32 r.g,.int .u32 r.t,.slice aSD nSD cSD,.slice aSU nSU cSU,.slice aF mF cF,.slice aD nD cD,.slice aU nU cU,.int .i64 r.k,.slice aT r.n cT,.int .u32 r.nx] #[.slice none 0 0,.slice none 0 0,.int .i64 0,.bool false,.slice none 0 0,.bool false,.int .u32 0,.int .u32 0,.slice none 0 0,.slice none 0 0,.slice none 0 0,.slice none 0 0,.slice none 0 0,.int .i64 0,.slice none 0 0,.int .u32 0] ((w.alloc (.cells #[.slice da zs.length dc,.slice ca 0 cc,.int .i64 f,.bool d,.slice ka ks.length kc,.bool r.ok,.int .u32 r.g,.int .u32 r.t,.slice aSD nSD cSD,.slice aSU nSU cSU,.slice aF mF cF,.slice aD nD cD,.slice aU nU cU,.int .i64 r.k,.slice aT r.n cT,.int .u32 r.nx] 38)).alloc (.cells #[.slice none 0 0,.slice none 0 0,.int .i64 0,.bool false,.slice none 0 0,.bool false,.int .u32 0,.int .u32 0,.slice none 0 0,.slice none 0 0,.slice none 0 0,.slice none 0 0,.slice none 0 0,.int .i64 0,.slice none 0 0,.int .u32 0] 38))):=BE.start _ _ _ _;have HL1:Hid (w.heap.size<((w.alloc (.cells #[.slice da zs.length dc,.slice ca 0 cc,.int .i64 f,.bool d,.slice ka ks.length kc,.bool r.ok,.int .u32 r.g,.int .u32 r.t,.slice aSD nSD cSD,.slice aSU nSU cSU,.slice aF mF cF,.slice aD nD cD,.slice aU nU cU,.int .i64 r.k,.slice aT r.n cT,.int .u32 r.nx] 38)).alloc (.cells #[.slice none 0 0,.slice none 0 0,.int .i64 0,.bool false,.slice none 0 0,.bool false,.int .u32 0,.int .u32 0,.slice none 0 0,.slice none 0 0,.slice none 0 0,.slice none 0 0,.slice none 0 0,.int .i64 0,.slice none 0 0,.int .u32 0] 38)).heap.size):=(Array.getElem?_eq_some_iff.1 HE1.out.b0).1;clear q1 q2 q3 q4 q5 hb hz hk;go_enter Tryz.func57,Tryz.ntmps57;go_wp2_with fail;generalize ((w.alloc (.cells #[.slice da zs.length dc,.slice ca 0 cc,.int .i64 f,.bool d,.slice ka ks.length kc,.bool r.ok,.int .u32 r.g,.int .u32 r.t,.slice aSD nSD cSD,.slice aSU nSU cSU,.slice aF mF cF,.slice aD nD cD,.slice aU nU cU,.int .i64 r.k,.slice aT r.n cT,.int .u32 r.nx] 38)).alloc (.cells #[.slice none 0 0,.slice none 0 0,.int .i64 0,.bool false,.slice none 0 0,.bool false,.int .u32 0,.int .u32 0,.slice none 0 0,.slice none 0 0,.slice none 0 0,.slice none 0 0,.slice none 0 0,.int .i64 0,.slice none 0 0,.int .u32 0] 38))=w1 at *;refine wp_region_any (by kernel_rfl) ?_;refine wpAny_slotsF 10 (fun _ a b=>Below a.heap.size a b) (frame:=(fun (a b c:Value)=>fun (t:Nat→Value)=>({ tmps:=List.toArray [a,b,c,t 0,t 1,t 2,t 3,t 4,t 5,t 6,t 7,t 8,t 9],defers:=[] }:Act)) _ _ _)
  (Ext:=fun L u w'=>ApH w1 [2,5,8] L u w') (Good:=fun i L w' v=>if i=0 then v=.pointer (some ⟨w.heap.size,0,none⟩) else if i=1 then v=.agg #[.slice da zs.length dc,.slice ca 0 cc,.int .i64 f,.bool d] else if i=2 then DvN w1.heap.size w' v zs f d else if i=3 then v=.pointer (some ⟨w.heap.size,4,none⟩) else if i=4 then v=.slice ka ks.length kc else if i=5 then KM w1.heap.size w' v ks else if i=6 then v=.pointer (some ⟨w.heap.size,5,none⟩) else if i=7 then v=.agg #[.bool r.ok,.int .u32 r.g,.int .u32 r.t,.slice aSD nSD cSD,.slice aSU nSU cSU,.slice aF mF cF,.slice aD nD cD,.slice aU nU cU,.int .i64 r.k,.slice aT r.n cT,.int .u32 r.nx] else if i=8 then ImY w1.heap.size w' v r else if i=9 then GPnv w1.heap.size w' v zs ks f d r else True) (Fin:=fun _ ww=>∃ C,ww.heap[w.heap.size+1]?=some (.cells C 38 (0,0))∧GPn w.heap.size ww C zs ks f d r∧C.size=16∧Below w.heap.size w ww) rfl (by kernel_rfl) ?hstab (by kernel_rfl) ?hop ?hend ?hdone _ _ ((fun (x0 x1 x2 x3 x4 x5 x6 x7 x8 x9:Value)=>fun (i:Nat)=>if i=0 then x0 else if i=1 then x1 else if i=2 then x2 else if i=3 then x3 else if i=4 then x4 else if i=5 then x5 else if i=6 then x6 else if i=7 then x7 else if i=8 then x8 else if i=9 then x9 else undef) _ _ _ _ _ _ _ _ _ _) _ (by simp) ?none ?ext (by simp)
 case none=>intro i;rw[Array.getD_eq_getD_getElem?,Array.getElem?_replicate];split<;>rfl
 case ext=>exact ApH.start w1 [2,5,8] _ _ (fun i=>by rw[Array.getD_eq_getD_getElem?,Array.getElem?_replicate];split<;>rfl) ⟨rfl,rfl,rfl,Nat.le_refl _,fun _ _=>rfl⟩
 case hstab=>
  intro j L w9 w' i v _ hM _ _ h;by_cases h2:j=2
  ·subst h2;simp at h ⊢;exact h.below hM
  by_cases h5:j=5
  ·subst h5;simp at h ⊢;exact h.below hM
  by_cases h8:j=8
  ·subst h8;simp at h ⊢;exact h.below hM
  by_cases h9:j=9
  ·subst h9;simp at h ⊢;exact h.below hM
  simp only[if_neg h2,if_neg h5,if_neg h8,if_neg h9] at h ⊢;exact h
 case hop=>
  intro i o L t w' hi ho hLi hx hdep K hK;have cX:∀ q9:Nat,w'.cell? ⟨w.heap.size,q9,none⟩=(#[.slice da zs.length dc,.slice ca 0 cc,.int .i64 f,.bool d,.slice ka ks.length kc,.bool r.ok,.int .u32 r.g,.int .u32 r.t,.slice aSD nSD cSD,.slice aSU nSU cSU,.slice aF mF cF,.slice aD nD cD,.slice aU nU cU,.int .i64 r.k,.slice aT r.n cT,.int .u32 r.nx]:Array Value)[q9]?:=fun q9=>by rw[World.cell?_of_block (a:=⟨w.heap.size,q9,none⟩) (w:=w1) (hx.below.block _ HL1.out),cell_of_row w1 w.heap.size q9 _ _ _ HE1.out.b0]
  obtain rfl|rfl|rfl|rfl|rfl|rfl|rfl|rfl|rfl|rfl:i=0∨i=1∨i=2∨i=3∨i=4∨i=5∨i=6∨i=7∨i=8∨i=9:=by omega
  all_goals(simp at ho;subst ho)
  all_goals try(have hK':=hK w' _ rfl (hx.step _ _ (Below.refl _ _) (fun h=>absurd h (by decide))) (Below.refl _ _);clear hK;simp[Region.binds] at hdep;rw[if_pos (by rfl)];go_simp;simpa[upd,hdep] using hK')
  ·have d1:t 1=.agg #[.slice da zs.length dc,.slice ca 0 cc,.int .i64 f,.bool d]:=by simpa using(hdep ⟨1,.data⟩ (by simp) rfl).2
   clear hdep;have bw:Below w.heap.size w w':=HE1.out.below.trans (hx.below.mono HE1.out.below.size);have hsz:w1.heap.size≤w'.heap.size:=hx.below.size;have A:=HCD.out w' bw;have hK':∀ ww v,DvN w1.heap.size ww v zs f d→FreshH w' ww v→Below w'.heap.size w' ww→K _ ww:=fun ww v hv hf hb=>hK ww v (by simpa using hv) (hx.step 2 v hb (fun _=>hf)) hb
   clear hK;rw[if_pos (by rfl)];go_simp;try simp only[d1]
   refine A.mono ?_;rintro e w9 ⟨v9,rfl,h9,hb9⟩;have hK2:=hK' w9 v9 (h9.dn hsz) h9.dvm.fresh hb9;clear hK' A h9 hb9;go_simp;simpa[upd,d1] using hK2
  ·have d4:t 4=.slice ka ks.length kc:=by simpa using(hdep ⟨4,.data⟩ (by simp) rfl).2
   clear hdep;have bw:Below w.heap.size w w':=HE1.out.below.trans (hx.below.mono HE1.out.below.size);have hsz:w1.heap.size≤w'.heap.size:=hx.below.size;have A:=HCK.out w' bw;have hK':∀ ww v,KM w1.heap.size ww v ks→FreshH w' ww v→Below w'.heap.size w' ww→K _ ww:=fun ww v hv hf hb=>hK ww v (by simpa using hv) (hx.step 5 v hb (fun _=>hf)) hb
   clear hK;rw[if_pos (by rfl)];go_simp;try simp only[d4]
   refine A.mono ?_;rintro e w9 ⟨v9,rfl,h9,hb9⟩;have hK2:=hK' w9 v9 (h9.km.mono hsz) h9.km.fresh hb9;clear hK' A h9 hb9;go_simp;simpa[upd,d4] using hK2
  ·have d7:t 7=.agg #[.bool r.ok,.int .u32 r.g,.int .u32 r.t,.slice aSD nSD cSD,.slice aSU nSU cSU,.slice aF mF cF,.slice aD nD cD,.slice aU nU cU,.int .i64 r.k,.slice aT r.n cT,.int .u32 r.nx]:=by simpa using(hdep ⟨7,.data⟩ (by simp) rfl).2
   clear hdep;have bw:Below w.heap.size w w':=HE1.out.below.trans (hx.below.mono HE1.out.below.size);have hsz:w1.heap.size≤w'.heap.size:=hx.below.size;have A:=HCI.out w' bw;have hK':∀ ww v,ImY w1.heap.size ww v r→FreshH w' ww v→Below w'.heap.size w' ww→K _ ww:=fun ww v hv hf hb=>hK ww v (by simpa using hv) (hx.step 8 v hb (fun _=>hf)) hb
   clear hK;rw[if_pos (by rfl)];go_simp;try simp only[d7]
   refine A.mono ?_;rintro e w9 ⟨v9,rfl,h9,hb9⟩;have hK2:=hK' w9 v9 (h9.dn hsz) h9.fresh hb9;clear hK' A h9 hb9;go_simp;simpa[upd,d7] using hK2
  ·have l2:L 2=true:=(hdep ⟨2,.data⟩ (by simp) rfl).1;have f2:DvN w1.heap.size w' (t 2) zs f d:=by simpa using(hdep ⟨2,.data⟩ (by simp) rfl).2
   have l5:L 5=true:=(hdep ⟨5,.data⟩ (by simp) rfl).1;have f5:KM w1.heap.size w' (t 5) ks:=by simpa using(hdep ⟨5,.data⟩ (by simp) rfl).2
   have l8:L 8=true:=(hdep ⟨8,.data⟩ (by simp) rfl).1;have f8:ImY w1.heap.size w' (t 8) r:=by simpa using(hdep ⟨8,.data⟩ (by simp) rfl).2
   clear hdep;have a1:=hx.ap 2 (by decide) 5 (by decide) (by decide) l2 l5;have a2:=hx.ap 2 (by decide) 8 (by decide) (by decide) l2 l8;have a3:=hx.ap 5 (by decide) 8 (by decide) (by decide) l5 l8;obtain⟨xa,xc,ya,yc,bSD,mSD,dSD,bSU,mSU,dSU,bF,mG,dF,bD,mD,dD,bU,mU,dU,bT,dT,e2,e5,e8,hg⟩:=gpn_make f2 f5 f8 a1 a2 a3;have hsv:GPnv w1.heap.size w' (.agg #[.slice xa zs.length xc,.slice none 0 0,.int .i64 f,.bool d,.slice ya ks.length yc,.bool r.ok,.int .u32 r.g,.int .u32 r.t,.slice bSD mSD dSD,.slice bSU mSU dSU,.slice bF mG dF,.slice bD mD dD,.slice bU mU dU,.int .i64 r.k,.slice bT r.n dT,.int .u32 r.nx]) zs ks f d r:=⟨_,rfl,hg⟩
   have hK':=hK w' _ (by simpa using hsv) (hx.step 9 _ (Below.refl _ _) (fun h=>absurd h (by decide))) (Below.refl _ _);clear hK hg hsv a1 a2 a3 f2 f5 f8;rw[if_pos (by rfl)];go_simp;simpa[upd,e2,e5,e8] using hK'
 case hend=>
  intro o L t w' ho hx hg K hK;simp at ho;subst ho;have f9:GPnv w1.heap.size w' (t 9) zs ks f d r:=by simpa using(hg 9 (by decide)).2
  clear hg;obtain⟨C,e9,j0⟩:=f9;have hrs:=(hx.below.block _ (Array.getElem?_eq_some_iff.1 HE1.out.b1).1).trans HE1.out.b1;have hR:=(Array.getElem?_eq_some_iff.1 HE1.out.b1).1;have hz:=j0.1.gl.row;have hK':∀ ww,Wr (w.heap.size+1) w' ww→ww.heap[w.heap.size+1]?=some (.cells C 38 (0,0))→K _ ww:=fun ww hw hr=>hK ww undef ⟨C,hr,(j0.keep (Nat.le_of_eq hw.size.symm) (fun k hk _=>hw.block k (by omega))).mono (by have:=HE1.out.below.size;omega),hz.1,(HE1.out.below.trans (hx.below.mono HE1.out.below.size)).trans (hw.below (by omega))⟩
  clear hK j0;rw[if_pos (by rfl)];refine wp_store_row 38 (.tmp 2) (.tmp 12) rfl (w.heap.size+1) C rfl e9 38 _ hrs (by rw[hz.1];exact HSG.out) (by rw[hz.1];rfl) hz.2 ?_;have hK2:=hK' _ (Wr.setRow _ _ _) (setRow_heap _ _ _ _ _ _ hrs);clear hK';simpa[upd,Act.put] using hK2
 case hdone=>
  intro t w9 hf;obtain⟨C,hr,hI,hz,hb9⟩:=hf;have HR9:Hid (w9.heap[w.heap.size+1]?=some (.cells C 38 (0,0))):=hr;have HF:Hid (GPn w.heap.size w9 C zs ks f d r∧Below w.heap.size w w9):=⟨hI,hb9⟩
  have HS9:Hid ((Tryz.prog.info? 38).map (·.size)=some C.size):=by show _=_;rw[hz];exact HSG.out
  clear hr hI hz hb9;go_wp2_with fail;exact bodyPost_ret (v:=.agg C) (results_cell_row rfl _ _ (w.heap.size+1) 38 _ (0,0) _ rfl HR9.out Tryz.underlying38 rfl HS9.out) rfl ⟨_,rfl,HF.out.1,HF.out.2⟩
end Go.Proofs.YtilpkdnoaldfmaaGreatDoor
