import Derived.Test.YtilpkdnoaldfmaaGreatDoorMArrEq
import Derived.Test.YtilpkdnoaldfmaaGreatDoorMCatF
import Derived.Test.YtilpkdnoaldfmaaGreatDoorMArgDev
import Derived.Test.YtilpkdnoaldfmaaGreatDoorMSvO
import Derived.Test.YtilpkdnoaldfmaaGreatDoorMSwH
import Derived.Test.YtilpkdnoaldfmaaGreatDoorMRows8a
namespace Go.Proofs.YtilpkdnoaldfmaaGreatDoor
open Go.ChangeShapes Go.WideShapes Go.ChangeAt Go.RowKit
set_option linter.unusedVariables false
def syL (zs:List Int) (ps:List PD) (k:Nat):List Int:=crL zs ps (List.replicate ps.length true) (-1) 0 k
theorem syL_len {zs:List Int} {ps:List PD} (h:PsOk zs.length ps) (hL:zs.length%64=0) (k:Nat) (hk:k≤ps.length):(syL zs ps k).length=zs.length:=crL_len h hL k hk
theorem syL_succ {zs:List Int} {ps:List PD} {k s:Nat} (hk:k<ps.length) (hs:(ps.getD k (0,[])).1=(s:Int)) (hd:(ps.getD k (0,[])).2.length=64):syL zs ps (k+1)=overL (syL zs ps k) s (ps.getD k (0,[])).2:=by
 have hr:rch (List.replicate ps.length true) (-1) 0 k=64:=rch_keep (by omega) (by simp[List.getD,hk]);show overL _ _ _=_
 rw[hr,hs,List.take_of_length_le (by omega)];rfl
set_option maxRecDepth 100000 in
set_option maxHeartbeats 1000000 in
theorem clnI_any (a:Option Addr) (n cap:Nat) (xs:List Int) (w:World) (hn:xs.length=n) (hm:n≤1048576) (ha:At .i64 w a xs) :
  Calls Tryz.prog 80 #[.slice a n cap] w fun e w'=>∃ v,e=.returned v∧Iow w.heap.size w' v xs∧Below w.heap.size w w':=by
 have E:=run_nilS 24 2 Tryz.underlying24 w a n cap;cases a with
 |none=>
  have hx:xs=[]:=by rcases ha with h|⟨b,o,e,_⟩;exact h;cases e
  have HP:Hid (Iow w.heap.size w (.slice none 0 0) xs):=by
   subst hx
   skip
   exact⟨rfl,.inl ⟨rfl,rfl⟩⟩
  clear hn ha hm hx;go_enter Tryz.func80,Tryz.ntmps80;go_wp2
  go_ret
  exact⟨_,rfl,HP.out,Below.refl _ _⟩
 |some ad=>
  have bb:Below w.heap.size w (w.alloc (.cells #[] 2)):=(Below.refl _ _).alloc (Nat.le_refl _) _;have HA:Hid (At .i64 (w.alloc (.cells #[] 2)) (some ad) xs∧EmS w.heap.size 2 (w.alloc (.cells #[] 2)) (.slice (some ⟨w.heap.size,0,none⟩) 0 0)):=⟨ha.below bb,EmS.new _ w (Nat.le_refl _)⟩
  have HB:=hid_ofV bb;have HN:=hid_ofV (And.intro hn hm);clear hn ha hm bb;go_enter Tryz.func80,Tryz.ntmps80;go_wp2_with (first
   |(refine wpList_plain rfl fun K hK=>wp_appG 24 2 (.int .i64 0) 1 8 Tryz.infoI64 Tryz.underlying24 rfl (by decide) (by decide) _ (.tmp 5) (.tmp 6) rfl w.heap.size _ rfl HA.out.2 (some ad) n cap xs rfl (by rw[HN.out.1,Nat.mul_one]) HA.out.1 HN.out.2 (by simp) fun v' w3 ho hb=>hK _ _ ?_)
   |fail)
  have HF:Hid (Iow w.heap.size w3 v' xs∧Below w.heap.size w w3):=⟨by first|exact ho|(unfold Iow;rw[HN.out.1];exact ho),HB.out.trans (hb.mono HB.out.size)⟩
  clear ho hb HA HB HN;go_wp2
  go_ret
  exact⟨_,rfl,HF.out.1,HF.out.2⟩
theorem own_fresh {w0 w:World} {tE:TypeId} {k n:Nat} {v:Value} {xs:List Value} (h:w.ownsRow w0.heap.size tE k v n xs):FreshH w0 w v:=by
 intro j hj;rcases h.2 with⟨rfl,_⟩|⟨g,c,cur,rfl,hb,hh,_⟩
 ·rcases hj with⟨a,e,_⟩|⟨cs,e,_⟩<;>cases e
 ·rcases hj with⟨a,e,rfl⟩|⟨cs,e,_⟩
  ·cases e;exact⟨hb,(Array.getElem?_eq_some_iff.1 hh).1⟩
  ·cases e
theorem rowLo {w:World} {lo lo':Nat} {tE:TypeId} {k n:Nat} {v:Value} {xs:List Value} (h:w.ownsRow lo tE k v n xs) (hl:lo'≤lo):w.ownsRow lo' tE k v n xs:=by
 refine⟨h.1,?_⟩;rcases h.2 with h|⟨g,c,cur,e,hb,r⟩
 ·exact .inl h
 ·exact .inr ⟨g,c,cur,e,Nat.le_trans hl hb,r⟩
theorem Iow.lo {lo lo':Nat} {w:World} {v:Value} {xs:List Int} (h:Iow lo w v xs) (hl:lo'≤lo):Iow lo' w v xs:=rowLo h hl
theorem TapO.lo {lo lo' n:Nat} {w:World} {v:Value} {xs:List Int} (h:TapO lo w v xs n) (hl:lo'≤lo):TapO lo' w v xs n:=rowLo h hl
theorem TapO.frm {B:Nat} {w:World} {v:Value} {T:List Int} {m:Nat} (h:TapO B w v T m):∃ a c,v=.slice a m c:=by
 rcases h.2 with⟨rfl,h0⟩|⟨g,c,cur,rfl,_⟩
 ·have:=h.1;rw[h0] at this;simp at this;exact⟨none,0,by rw[show m=0 by omega]⟩
 ·exact⟨_,_,rfl⟩
theorem ap_slice {a a':Option Addr} {n c n' c':Nat} (h:ApVH (.slice a n c) (.slice a' n' c')):Aprt a a':=fun x y e e' h'=>h x.block (.inl ⟨x,e,rfl⟩) (.inl ⟨y,e',h'.symm⟩)
theorem S3.lo {lo lo':Nat} {w:World} {aD aU aT:Option Addr} {nD nU nT:Nat} {D U T:List Int} (h:S3 lo w aD aU aT nD nU nT D U T) (hl:lo'≤lo):S3 lo' w aD aU aT nD nU nT D U T:=
 ⟨h.d,h.u,h.t,h.nd,h.nu,h.nt,h.ld.mono hl (Nat.le_refl _),h.lu.mono hl (Nat.le_refl _),h.lt.mono hl (Nat.le_refl _),h.du,h.dt,h.ut⟩
theorem s3_of {lo:Nat} {w:World} {aD aU aT:Option Addr} {nD cD nU cU nT cT:Nat} {D U T:List Int} (h1:Iow lo w (.slice aD nD cD) D) (h2:Iow lo w (.slice aU nU cU) U) (h3:TapO lo w (.slice aT nT cT) T nT) (a1:Aprt aD aU) (a2:Aprt aD aT) (a3:Aprt aU aT):S3 lo w aD aU aT nD nU nT D U T:=by
 obtain⟨d1,d2,d3⟩:=h1.sat;obtain⟨u1,u2,u3⟩:=h2.sat;obtain⟨t1,t2,t3⟩:=h3.tapV.sat;exact⟨d1,u1,t1,d2,u2,t2,d3,u3,t3,a1,a2,a3⟩
def STY (lo:Nat) (w:World) (v:Value) (D U:List Int) (k:Int) (T:List Int) (nT:Nat):Prop:=∃ bD mD dD bU mU dU bT dT,v=.agg #[.slice bD mD dD,.slice bU mU dU,.int .i64 k,.slice bT nT dT]∧S3 lo w bD bU bT mD mU nT D U T
theorem STY.below {lo:Nat} {w w':World} {v:Value} {D U:List Int} {k:Int} {T:List Int} {nT:Nat} (h:STY lo w v D U k T nT) (b:Below w.heap.size w w'):STY lo w' v D U k T nT:=by
 obtain⟨bD,mD,dD,bU,mU,dU,bT,dT,e,h⟩:=h;exact⟨bD,mD,dD,bU,mU,dU,bT,dT,e,h.below b⟩
set_option maxRecDepth 100000 in
set_option maxHeartbeats 4000000 in
theorem cpSt_any (aD aU aT:Option Addr) (nD cD nU cU nT cT:Nat) (D U:List Int) (k:Int) (T:List Int) (w:World) (hD:D.length=nD) (hU:U.length=nU) (hT:T.length=nT*2) (mD:nD≤1048576) (mU:nU≤1048576) (mT:nT≤1048576) (haD:At .i64 w aD D) (haU:At .i64 w aU U) (haT:At .i64 w aT T) :
  Calls Tryz.prog 60 #[.agg #[.slice aD nD cD,.slice aU nU cU,.int .i64 k,.slice aT nT cT]] w fun e w'=>∃ v,e=.returned v∧STY w.heap.size w' v D U k T nT∧Below w.heap.size w w':=by
 have HCD:=hid_ofV (fun ww (b:Below w.heap.size w ww)=>clnI_any aD nD cD D ww hD mD (haD.below b));have HCU:=hid_ofV (fun ww (b:Below w.heap.size w ww)=>clnI_any aU nU cU U ww hU mU (haU.below b));have HCT:=hid_ofV (fun ww (b:Below w.heap.size w ww)=>clnT0_any aT nT cT T ww hT mT (haT.below b));have HSZ:Hid ((Tryz.prog.info? 34).map (·.size)=some 4):=by show _=_;kernel_rfl
 have HE1:Hid (BE w 34 #[.slice aD nD cD,.slice aU nU cU,.int .i64 k,.slice aT nT cT] #[.slice none 0 0,.slice none 0 0,.int .i64 0,.slice none 0 0] ((w.alloc (.cells #[.slice aD nD cD,.slice aU nU cU,.int .i64 k,.slice aT nT cT] 34)).alloc (.cells #[.slice none 0 0,.slice none 0 0,.int .i64 0,.slice none 0 0] 34))):=BE.start _ _ _ _;have HL1:Hid (w.heap.size<((w.alloc (.cells #[.slice aD nD cD,.slice aU nU cU,.int .i64 k,.slice aT nT cT] 34)).alloc (.cells #[.slice none 0 0,.slice none 0 0,.int .i64 0,.slice none 0 0] 34)).heap.size):=(Array.getElem?_eq_some_iff.1 HE1.out.b0).1;clear hD hU hT mD mU mT haD haU haT;go_enter Tryz.func60,Tryz.ntmps60;go_wp2_with fail;generalize ((w.alloc (.cells #[.slice aD nD cD,.slice aU nU cU,.int .i64 k,.slice aT nT cT] 34)).alloc (.cells #[.slice none 0 0,.slice none 0 0,.int .i64 0,.slice none 0 0] 34))=w1 at *;refine wp_region_any (by kernel_rfl) ?_;refine wpAny_slotsF 12 (fun _ a b=>Below a.heap.size a b) (frame:=(fun (a b c:Value)=>fun (t:Nat→Value)=>({ tmps:=List.toArray [a,b,c,t 0,t 1,t 2,t 3,t 4,t 5,t 6,t 7,t 8,t 9,t 10,t 11],defers:=[] }:Act)) _ _ _)
  (Ext:=fun L u w'=>ApH w1 [2,5,10] L u w') (Good:=fun i L w' v=>if i=0 then v=.pointer (some ⟨w.heap.size,0,none⟩) else if i=1 then v=.slice aD nD cD else if i=2 then Iow w1.heap.size w' v D else if i=3 then v=.pointer (some ⟨w.heap.size,1,none⟩) else if i=4 then v=.slice aU nU cU else if i=5 then Iow w1.heap.size w' v U else if i=6 then v=.pointer (some ⟨w.heap.size,2,none⟩) else if i=7 then v=.int .i64 k else if i=8 then v=.pointer (some ⟨w.heap.size,3,none⟩) else if i=9 then v=.slice aT nT cT else if i=10 then TapO w1.heap.size w' v T nT else if i=11 then STY w1.heap.size w' v D U k T nT else True) (Fin:=fun _ ww=>∃ bD mD dD bU mU dU bT dT,ww.heap[w.heap.size+1]?=some (.cells #[.slice bD mD dD,.slice bU mU dU,.int .i64 k,.slice bT nT dT] 34 (0,0))∧S3 w.heap.size ww bD bU bT mD mU nT D U T∧Below w.heap.size w ww) rfl (by kernel_rfl) ?hstab (by kernel_rfl) ?hop ?hend ?hdone _ _ ((fun (x0 x1 x2 x3 x4 x5 x6 x7 x8 x9 x10 x11:Value)=>fun (i:Nat)=>if i=0 then x0 else if i=1 then x1 else if i=2 then x2 else if i=3 then x3 else if i=4 then x4 else if i=5 then x5 else if i=6 then x6 else if i=7 then x7 else if i=8 then x8 else if i=9 then x9 else if i=10 then x10 else if i=11 then x11 else undef) _ _ _ _ _ _ _ _ _ _ _ _) _ (by simp) ?none ?ext (by simp)
 case none=>intro i;rw[Array.getD_eq_getD_getElem?,Array.getElem?_replicate];split<;>rfl
 case ext=>exact ApH.start w1 [2,5,10] _ _ (fun i=>by rw[Array.getD_eq_getD_getElem?,Array.getElem?_replicate];split<;>rfl) ⟨rfl,rfl,rfl,Nat.le_refl _,fun _ _=>rfl⟩
 case hstab=>
  intro j L w9 w' i v _ hM _ _ h;by_cases h2:j=2
  ·subst h2;simp at h ⊢;exact h.below hM
  by_cases h5:j=5
  ·subst h5;simp at h ⊢;exact h.below hM
  by_cases h10:j=10
  ·subst h10;simp at h ⊢;exact h.below hM
  by_cases h11:j=11
  ·subst h11;simp at h ⊢;exact h.below hM
  simp only[if_neg h2,if_neg h5,if_neg h10,if_neg h11] at h ⊢;exact h
 case hop=>
  intro i o L t w' hi ho hLi hx hdep K hK;have cX:∀ q9:Nat,w'.cell? ⟨w.heap.size,q9,none⟩=(#[.slice aD nD cD,.slice aU nU cU,.int .i64 k,.slice aT nT cT]:Array Value)[q9]?:=fun q9=>by rw[World.cell?_of_block (a:=⟨w.heap.size,q9,none⟩) (w:=w1) (hx.below.block _ HL1.out),cell_of_row w1 w.heap.size q9 _ _ _ HE1.out.b0]
  obtain rfl|rfl|rfl|rfl|rfl|rfl|rfl|rfl|rfl|rfl|rfl|rfl:i=0∨i=1∨i=2∨i=3∨i=4∨i=5∨i=6∨i=7∨i=8∨i=9∨i=10∨i=11:=by omega
  all_goals(simp at ho;subst ho)
  all_goals try(have hK':=hK w' _ rfl (hx.step _ _ (Below.refl _ _) (fun h=>absurd h (by decide))) (Below.refl _ _);clear hK;simp[Region.binds] at hdep;rw[if_pos (by rfl)];go_simp;simpa[upd,hdep] using hK')
  ·have d1:t 1=.slice aD nD cD:=by simpa using(hdep ⟨1,.data⟩ (by simp) rfl).2
   clear hdep;have bw:Below w.heap.size w w':=HE1.out.below.trans (hx.below.mono HE1.out.below.size);have hsz:w1.heap.size≤w'.heap.size:=hx.below.size;have A:=HCD.out w' bw;have hK':∀ ww v,Iow w1.heap.size ww v D→FreshH w' ww v→Below w'.heap.size w' ww→K _ ww:=fun ww v hv hf hb=>hK ww v (by simpa using hv) (hx.step 2 v hb (fun _=>hf)) hb
   clear hK;rw[if_pos (by rfl)];go_simp;try simp only[d1]
   refine A.mono ?_;rintro e w9 ⟨v9,rfl,h9,hb9⟩;have hK2:=hK' w9 v9 (h9.lo hsz) (own_fresh h9) hb9;clear hK' A h9 hb9;go_simp;simpa[upd,d1] using hK2
  ·have d4:t 4=.slice aU nU cU:=by simpa using(hdep ⟨4,.data⟩ (by simp) rfl).2
   clear hdep;have bw:Below w.heap.size w w':=HE1.out.below.trans (hx.below.mono HE1.out.below.size);have hsz:w1.heap.size≤w'.heap.size:=hx.below.size;have A:=HCU.out w' bw;have hK':∀ ww v,Iow w1.heap.size ww v U→FreshH w' ww v→Below w'.heap.size w' ww→K _ ww:=fun ww v hv hf hb=>hK ww v (by simpa using hv) (hx.step 5 v hb (fun _=>hf)) hb
   clear hK;rw[if_pos (by rfl)];go_simp;try simp only[d4]
   refine A.mono ?_;rintro e w9 ⟨v9,rfl,h9,hb9⟩;have hK2:=hK' w9 v9 (h9.lo hsz) (own_fresh h9) hb9;clear hK' A h9 hb9;go_simp;simpa[upd,d4] using hK2
  ·have d9:t 9=.slice aT nT cT:=by simpa using(hdep ⟨9,.data⟩ (by simp) rfl).2
   clear hdep;have bw:Below w.heap.size w w':=HE1.out.below.trans (hx.below.mono HE1.out.below.size);have hsz:w1.heap.size≤w'.heap.size:=hx.below.size;have A:=HCT.out w' bw;have hK':∀ ww v,TapO w1.heap.size ww v T nT→FreshH w' ww v→Below w'.heap.size w' ww→K _ ww:=fun ww v hv hf hb=>hK ww v (by simpa using hv) (hx.step 10 v hb (fun _=>hf)) hb
   clear hK;rw[if_pos (by rfl)];go_simp;try simp only[d9]
   refine A.mono ?_;rintro e w9 ⟨v9,rfl,h9,hb9⟩;have hK2:=hK' w9 v9 (h9.lo hsz) (own_fresh h9) hb9;clear hK' A h9 hb9;go_simp;simpa[upd,d9] using hK2
  ·have l2:L 2=true:=(hdep ⟨2,.data⟩ (by simp) rfl).1;have f2:Iow w1.heap.size w' (t 2) D:=by simpa using(hdep ⟨2,.data⟩ (by simp) rfl).2
   have l5:L 5=true:=(hdep ⟨5,.data⟩ (by simp) rfl).1;have f5:Iow w1.heap.size w' (t 5) U:=by simpa using(hdep ⟨5,.data⟩ (by simp) rfl).2
   have d7:t 7=.int .i64 k:=by simpa using(hdep ⟨7,.data⟩ (by simp) rfl).2
   have l10:L 10=true:=(hdep ⟨10,.data⟩ (by simp) rfl).1;have f10:TapO w1.heap.size w' (t 10) T nT:=by simpa using(hdep ⟨10,.data⟩ (by simp) rfl).2
   clear hdep;have a1:=hx.ap 2 (by decide) 5 (by decide) (by decide) l2 l5;have a2:=hx.ap 2 (by decide) 10 (by decide) (by decide) l2 l10;have a3:=hx.ap 5 (by decide) 10 (by decide) (by decide) l5 l10;obtain⟨bD,mD,dD,eD⟩:=f2.form;obtain⟨bU,mU,dU,eU⟩:=f5.form;obtain⟨bT,dT,eT⟩:=f10.frm;rw[eD] at f2 a1 a2;rw[eU] at f5 a1 a3;rw[eT] at f10 a2 a3;have hsv:STY w1.heap.size w' (.agg #[.slice bD mD dD,.slice bU mU dU,.int .i64 k,.slice bT nT dT]) D U k T nT:=⟨bD,mD,dD,bU,mU,dU,bT,dT,rfl,s3_of f2 f5 f10 (ap_slice a1) (ap_slice a2) (ap_slice a3)⟩
   have hK':=hK w' _ (by simpa using hsv) (hx.step 11 _ (Below.refl _ _) (fun h=>absurd h (by decide))) (Below.refl _ _);clear hK f2 f5 f10 hsv a1 a2 a3;rw[if_pos (by rfl)];go_simp;simpa[upd,d7,eD,eU,eT] using hK'
 case hend=>
  intro o L t w' ho hx hg K hK;simp at ho;subst ho;have f11:STY w1.heap.size w' (t 11) D U k T nT:=by simpa using(hg 11 (by decide)).2
  clear hg;obtain⟨bD,mD,dD,bU,mU,dU,bT,dT,e11,s11⟩:=f11;have hrs:=(hx.below.block _ (Array.getElem?_eq_some_iff.1 HE1.out.b1).1).trans HE1.out.b1;have hK':∀ ww,Wr (w.heap.size+1) w' ww→ww.heap[w.heap.size+1]?=some (.cells #[.slice bD mD dD,.slice bU mU dU,.int .i64 k,.slice bT nT dT] 34 (0,0))→K _ ww:=fun ww hw hr=>hK ww undef ⟨bD,mD,dD,bU,mU,dU,bT,dT,hr,(s11.keep (Nat.le_of_eq hw.size.symm) (fun k hk _=>hw.block k (by have:=(Array.getElem?_eq_some_iff.1 HE1.out.b1).1;omega))).lo (by have:=HE1.out.below.size;omega),(HE1.out.below.trans (hx.below.mono HE1.out.below.size)).trans (hw.below (by omega))⟩
  clear hK s11;rw[if_pos (by rfl)];refine wp_store_row 34 (.tmp 2) (.tmp 14) rfl (w.heap.size+1) #[.slice bD mD dD,.slice bU mU dU,.int .i64 k,.slice bT nT dT] rfl e11 34 _ hrs HSZ.out rfl (by simp[Value.oneCell']) ?_;have hK2:=hK' _ (Wr.setRow _ _ _) (setRow_heap _ _ _ _ _ _ hrs);clear hK';simpa[upd,Act.put] using hK2
 case hdone=>
  intro t w9 hf;obtain⟨bD,mD,dD,bU,mU,dU,bT,dT,hr,hI,hb9⟩:=hf;have HR9:Hid (w9.heap[w.heap.size+1]?=some (.cells #[.slice bD mD dD,.slice bU mU dU,.int .i64 k,.slice bT nT dT] 34 (0,0))):=hr;have HF:Hid (STY w.heap.size w9 (.agg #[.slice bD mD dD,.slice bU mU dU,.int .i64 k,.slice bT nT dT]) D U k T nT∧Below w.heap.size w w9):=⟨⟨bD,mD,dD,bU,mU,dU,bT,dT,rfl,hI⟩,hb9⟩
  clear hr hI hb9;go_wp2_with fail;exact bodyPost_ret (v:=.agg #[.slice bD mD dD,.slice bU mU dU,.int .i64 k,.slice bT nT dT]) (results_cell_row rfl _ _ (w.heap.size+1) 34 _ (0,0) _ rfl HR9.out Tryz.underlying34 rfl HSZ.out) rfl ⟨_,rfl,HF.out.1,HF.out.2⟩
end Go.Proofs.YtilpkdnoaldfmaaGreatDoor
