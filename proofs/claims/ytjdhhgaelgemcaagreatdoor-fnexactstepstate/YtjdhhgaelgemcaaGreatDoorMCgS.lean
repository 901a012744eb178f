import Derived.Test.YtjdhhgaelgemcaaGreatDoorMSvC
import Derived.Test.YtjdhhgaelgemcaaGreatDoorMEqSt
import Derived.Test.YtjdhhgaelgemcaaGreatDoorMSvF
import Derived.Test.YtjdhhgaelgemcaaGreatDoorMEqB
import Derived.Test.YtjdhhgaelgemcaaGreatDoorStR
import Derived.Test.YtjdhhgaelgemcaaGreatDoorMCatC
import Derived.Test.YtjdhhgaelgemcaaGreatDoorMICd
import Derived.Lib.SmallJoins
namespace Go.Proofs.YtjdhhgaelgemcaaGreatDoor
open Go.ChangeShapes Go.WideShapes Go.ChangeAt Go.RowKit
set_option linter.unusedVariables false
theorem run_nilS (t tE:TypeId) (hu:Tryz.prog.underlying t=some (.slice tE)) (w:World) (a:Option Addr) (n c:Nat):(binOp .eql t (.slice a n c) (.slice none 0 0)).run Tryz.prog w=.ok (.bool a.isNone) w:=by
 have h:∀ d,(Op.equalIn (d+1) t (.slice a n c) (.slice none 0 0)).run Tryz.prog w=.ok a.isNone w:=fun d=>by
  cases a<;>simp[Op.equalIn,run_underlying hu]
 have h':(Op.equal t (.slice a n c) (.slice none 0 0)).run Tryz.prog w=.ok a.isNone w:=h 9999;simp only[binOp];simp[h']
set_option maxRecDepth 100000 in
set_option maxHeartbeats 1000000 in
theorem clnI_any (a:Option Addr) (n cap:Nat) (xs:List Int) (w:World) (hn:xs.length=n) (hm:n≤1048576) (ha:At .i64 w a xs) :
  Calls Tryz.prog 48 #[.slice a n cap] w fun e w'=>∃ v,e=.returned v∧IO w.heap.size w' v xs∧Below w.heap.size w w':=by
 have E:=run_nilS 22 2 Tryz.underlying22 w a n cap;cases a with
 |none=>
  have hx:xs=[]:=by rcases ha with h|⟨b,o,e,_⟩;exact h;cases e
  have HP:Hid (IO w.heap.size w (.slice none 0 0) xs):=by
   subst hx
   skip
   exact⟨rfl,.inl ⟨rfl,rfl⟩⟩
  clear hn ha hm hx;go_enter Tryz.func48,Tryz.ntmps48;go_wp2
  go_ret
  exact⟨_,rfl,HP.out,Below.refl _ _⟩
 |some ad=>
  have bb:Below w.heap.size w (w.alloc (.cells #[] 2)):=(Below.refl _ _).alloc (Nat.le_refl _) _;have HA:Hid (At .i64 (w.alloc (.cells #[] 2)) (some ad) xs∧EmS w.heap.size 2 (w.alloc (.cells #[] 2)) (.slice (some ⟨w.heap.size,0,none⟩) 0 0)):=⟨ha.below bb,EmS.new _ w (Nat.le_refl _)⟩
  have HB:=hid_ofV bb;have HN:=hid_ofV (And.intro hn hm);clear hn ha hm bb;go_enter Tryz.func48,Tryz.ntmps48;go_wp2_with (first
   |(refine wpList_plain rfl fun K hK=>wp_appG 22 2 (.int .i64 0) 1 8 Tryz.infoI64 Tryz.underlying22 rfl (by decide) (by decide) _ (.tmp 5) (.tmp 6) rfl w.heap.size _ rfl HA.out.2 (some ad) n cap xs rfl (by rw[HN.out.1,Nat.mul_one]) HA.out.1 HN.out.2 (by simp) fun v' w3 ho hb=>hK _ _ ?_)
   |fail)
  have HF:Hid (IO w.heap.size w3 v' xs∧Below w.heap.size w w3):=⟨by first|exact ho|(unfold IO;rw[HN.out.1];exact ho),HB.out.trans (hb.mono HB.out.size)⟩
  clear ho hb HA HB HN;go_wp2
  go_ret
  exact⟨_,rfl,HF.out.1,HF.out.2⟩
set_option maxRecDepth 100000 in
set_option maxHeartbeats 1000000 in
theorem clnT0_any (a:Option Addr) (n cap:Nat) (xs:List Int) (w:World) (hn:xs.length=n*2) (hm:n≤1048576) (ha:At .i64 w a xs) :
  Calls Tryz.prog 47 #[.slice a n cap] w fun e w'=>∃ v,e=.returned v∧TapO w.heap.size w' v xs n∧Below w.heap.size w w':=by
 have E:=run_nilS 31 77 Tryz.underlying31 w a n cap;cases a with
 |none=>
  have hx:xs=[]:=by rcases ha with h|⟨b,o,e,_⟩;exact h;cases e
  have HP:Hid (TapO w.heap.size w (.slice none 0 0) xs n):=by
   subst hx;obtain rfl:n=0:=by simp at hn;omega
   exact⟨rfl,.inl ⟨rfl,rfl⟩⟩
  clear hn ha hm hx;go_enter Tryz.func47,Tryz.ntmps47;go_wp2
  go_ret
  exact⟨_,rfl,HP.out,Below.refl _ _⟩
 |some ad=>
  have bb:Below w.heap.size w (w.alloc (.cells #[] 77)):=(Below.refl _ _).alloc (Nat.le_refl _) _;have HA:Hid (At .i64 (w.alloc (.cells #[] 77)) (some ad) xs∧EmS w.heap.size 77 (w.alloc (.cells #[] 77)) (.slice (some ⟨w.heap.size,0,none⟩) 0 0)):=⟨ha.below bb,EmS.new _ w (Nat.le_refl _)⟩
  have HB:=hid_ofV bb;have HN:=hid_ofV (And.intro hn hm);clear hn ha hm bb;go_enter Tryz.func47,Tryz.ntmps47;go_wp2_with (first
   |(refine wpList_plain rfl fun K hK=>wp_appG 31 77 (.agg #[.int .i64 0,.int .i64 0]) 2 16 Tryz.infoTap Tryz.underlying31 rfl (by decide) (by decide) _ (.tmp 5) (.tmp 6) rfl w.heap.size _ rfl HA.out.2 (some ad) n cap xs rfl HN.out.1 HA.out.1 HN.out.2 (by simp) fun v' w3 ho hb=>hK _ _ ?_)
   |fail)
  have HF:Hid (TapO w.heap.size w3 v' xs n∧Below w.heap.size w w3):=⟨by first|exact ho|(unfold TapO;rw[HN.out.1];exact ho),HB.out.trans (hb.mono HB.out.size)⟩
  clear ho hb HA HB HN;go_wp2
  go_ret
  exact⟨_,rfl,HF.out.1,HF.out.2⟩
theorem own_fresh {w0 w:World} {tE:TypeId} {k n:Nat} {v:Value} {xs:List Value} (h:w.ownsRow w0.heap.size tE k v n xs):FreshH w0 w v:=by
 intro j hj;rcases h.2 with⟨rfl,_⟩|⟨g,c,cur,rfl,hb,hh,_⟩
 ·rcases hj with⟨a,e,_⟩|⟨cs,e,_⟩<;>cases e
 ·rcases hj with⟨a,e,rfl⟩|⟨cs,e,_⟩
  ·cases e;exact⟨hb,(Array.getElem?_eq_some_iff.1 hh).1⟩
  ·cases e
theorem rowLo {w:World} {lo lo':Nat} {tE:TypeId} {k n:Nat} {v:Value} {xs:List Value} (h:w.ownsRow lo tE k v n xs) (hl:lo'≤lo):w.ownsRow lo' tE k v n xs:=by
 refine⟨h.1,?_⟩;rcases h.2 with h|⟨g,c,cur,e,hb,r⟩
 ·exact .inl h
 ·exact .inr ⟨g,c,cur,e,Nat.le_trans hl hb,r⟩
theorem IO.lo {lo lo':Nat} {w:World} {v:Value} {xs:List Int} (h:IO lo w v xs) (hl:lo'≤lo):IO lo' w v xs:=rowLo h hl
theorem TapO.lo {lo lo' n:Nat} {w:World} {v:Value} {xs:List Int} (h:TapO lo w v xs n) (hl:lo'≤lo):TapO lo' w v xs n:=rowLo h hl
theorem TapO.frm {B:Nat} {w:World} {v:Value} {T:List Int} {m:Nat} (h:TapO B w v T m):∃ a c,v=.slice a m c:=by
 rcases h.2 with⟨rfl,h0⟩|⟨g,c,cur,rfl,_⟩
 ·have:=h.1;rw[h0] at this;simp at this;exact⟨none,0,by rw[show m=0 by omega]⟩
 ·exact⟨_,_,rfl⟩
theorem ap_slice {a a':Option Addr} {n c n' c':Nat} (h:ApVH (.slice a n c) (.slice a' n' c')):Aprt a a':=fun x y e e' h'=>h x.block (.inl ⟨x,e,rfl⟩) (.inl ⟨y,e',h'.symm⟩)
theorem S3.lo {lo lo':Nat} {w:World} {aD aU aT:Option Addr} {nD nU nT:Nat} {D U T:List Int} (h:S3 lo w aD aU aT nD nU nT D U T) (hl:lo'≤lo):S3 lo' w aD aU aT nD nU nT D U T:=
 ⟨h.d,h.u,h.t,h.nd,h.nu,h.nt,h.ld.mono hl (Nat.le_refl _),h.lu.mono hl (Nat.le_refl _),h.lt.mono hl (Nat.le_refl _),h.du,h.dt,h.ut⟩
theorem s3_of {lo:Nat} {w:World} {aD aU aT:Option Addr} {nD cD nU cU nT cT:Nat} {D U T:List Int} (h1:IO lo w (.slice aD nD cD) D) (h2:IO lo w (.slice aU nU cU) U) (h3:TapO lo w (.slice aT nT cT) T nT) (a1:Aprt aD aU) (a2:Aprt aD aT) (a3:Aprt aU aT):S3 lo w aD aU aT nD nU nT D U T:=by
 obtain⟨d1,d2,d3⟩:=h1.sat;obtain⟨u1,u2,u3⟩:=h2.sat;obtain⟨t1,t2,t3⟩:=h3.tapV.sat;exact⟨d1,u1,t1,d2,u2,t2,d3,u3,t3,a1,a2,a3⟩
def STY (lo:Nat) (w:World) (v:Value) (D U:List Int) (k:Int) (T:List Int) (nT:Nat):Prop:=∃ bD mD dD bU mU dU bT dT,v=.agg #[.slice bD mD dD,.slice bU mU dU,.int .i64 k,.slice bT nT dT]∧S3 lo w bD bU bT mD mU nT D U T
theorem STY.below {lo:Nat} {w w':World} {v:Value} {D U:List Int} {k:Int} {T:List Int} {nT:Nat} (h:STY lo w v D U k T nT) (b:Below w.heap.size w w'):STY lo w' v D U k T nT:=by
 obtain⟨bD,mD,dD,bU,mU,dU,bT,dT,e,h⟩:=h;exact⟨bD,mD,dD,bU,mU,dU,bT,dT,e,h.below b⟩
set_option maxRecDepth 100000 in
set_option maxHeartbeats 4000000 in
theorem cpSt_any (aD aU aT:Option Addr) (nD cD nU cU nT cT:Nat) (D U:List Int) (k:Int) (T:List Int) (w:World) (hD:D.length=nD) (hU:U.length=nU) (hT:T.length=nT*2) (mD:nD≤1048576) (mU:nU≤1048576) (mT:nT≤1048576) (haD:At .i64 w aD D) (haU:At .i64 w aU U) (haT:At .i64 w aT T) :
  Calls Tryz.prog 30 #[.agg #[.slice aD nD cD,.slice aU nU cU,.int .i64 k,.slice aT nT cT]] w fun e w'=>∃ v,e=.returned v∧STY w.heap.size w' v D U k T nT∧Below w.heap.size w w':=by
 have HCD:=hid_ofV (fun ww (b:Below w.heap.size w ww)=>clnI_any aD nD cD D ww hD mD (haD.below b));have HCU:=hid_ofV (fun ww (b:Below w.heap.size w ww)=>clnI_any aU nU cU U ww hU mU (haU.below b));have HCT:=hid_ofV (fun ww (b:Below w.heap.size w ww)=>clnT0_any aT nT cT T ww hT mT (haT.below b));have HSZ:Hid ((Tryz.prog.info? 33).map (·.size)=some 4):=by show _=_;kernel_rfl
 have HE1:Hid (BE w 33 #[.slice aD nD cD,.slice aU nU cU,.int .i64 k,.slice aT nT cT] #[.slice none 0 0,.slice none 0 0,.int .i64 0,.slice none 0 0] ((w.alloc (.cells #[.slice aD nD cD,.slice aU nU cU,.int .i64 k,.slice aT nT cT] 33)).alloc (.cells #[.slice none 0 0,.slice none 0 0,.int .i64 0,.slice none 0 0] 33))):=BE.start _ _ _ _;have HL1:Hid (w.heap.size<((w.alloc (.cells #[.slice aD nD cD,.slice aU nU cU,.int .i64 k,.slice aT nT cT] 33)).alloc (.cells #[.slice none 0 0,.slice none 0 0,.int .i64 0,.slice none 0 0] 33)).heap.size):=(Array.getElem?_eq_some_iff.1 HE1.out.b0).1;clear hD hU hT mD mU mT haD haU haT;go_enter Tryz.func30,Tryz.ntmps30;go_wp2_with fail;generalize ((w.alloc (.cells #[.slice aD nD cD,.slice aU nU cU,.int .i64 k,.slice aT nT cT] 33)).alloc (.cells #[.slice none 0 0,.slice none 0 0,.int .i64 0,.slice none 0 0] 33))=w1 at *;refine wp_region_any (by kernel_rfl) ?_;refine wpAny_slotsF 12 (fun _ a b=>Below a.heap.size a b) (frame:=(fun (a b c:Value)=>fun (t:Nat→Value)=>({ tmps:=List.toArray [a,b,c,t 0,t 1,t 2,t 3,t 4,t 5,t 6,t 7,t 8,t 9,t 10,t 11],defers:=[] }:Act)) _ _ _)
  (Ext:=fun L u w'=>ApH w1 [2,5,10] L u w') (Good:=fun i L w' v=>if i=0 then v=.pointer (some ⟨w.heap.size,0,none⟩) else if i=1 then v=.slice aD nD cD else if i=2 then IO w1.heap.size w' v D else if i=3 then v=.pointer (some ⟨w.heap.size,1,none⟩) else if i=4 then v=.slice aU nU cU else if i=5 then IO w1.heap.size w' v U else if i=6 then v=.pointer (some ⟨w.heap.size,2,none⟩) else if i=7 then v=.int .i64 k else if i=8 then v=.pointer (some ⟨w.heap.size,3,none⟩) else if i=9 then v=.slice aT nT cT else if i=10 then TapO w1.heap.size w' v T nT else if i=11 then STY w1.heap.size w' v D U k T nT else True) (Fin:=fun _ ww=>∃ bD mD dD bU mU dU bT dT,ww.heap[w.heap.size+1]?=some (.cells #[.slice bD mD dD,.slice bU mU dU,.int .i64 k,.slice bT nT dT] 33 (0,0))∧S3 w.heap.size ww bD bU bT mD mU nT D U T∧Below w.heap.size w ww) rfl (by kernel_rfl) ?hstab (by kernel_rfl) ?hop ?hend ?hdone _ _ ((fun (x0 x1 x2 x3 x4 x5 x6 x7 x8 x9 x10 x11:Value)=>fun (i:Nat)=>if i=0 then x0 else if i=1 then x1 else if i=2 then x2 else if i=3 then x3 else if i=4 then x4 else if i=5 then x5 else if i=6 then x6 else if i=7 then x7 else if i=8 then x8 else if i=9 then x9 else if i=10 then x10 else if i=11 then x11 else undef) _ _ _ _ _ _ _ _ _ _ _ _) _ (by simp) ?none ?ext (by simp)
 case none=>intro i;rw[Array.getD_eq_getD_getElem?,Array.getElem?_replicate];split<;>rfl
 case ext=>exact ApH.start w1 [2,5,10] _ _ (fun i=>by rw[Array.getD_eq_getD_getElem?,Array.getElem?_replicate];split<;>rfl) ⟨rfl,rfl,rfl,Nat.le_refl _,fun _ _=>rfl⟩
 case hstab=>
  intro j L w9 w' i v _ hM _ _ h;by_cases h2:j=2
  ·subst h2;simp at h ⊢;exact h.below hM
  by_cases h5:j=5
  ·subst h5;simp at h ⊢;exact h.below hM
  by_cases h10:j=10
  ·subst h10;simp at h ⊢;exact h.below hM
  by_cases h11:j=11
  ·subst h11;simp at h ⊢;exact h.below hM
  simp only[if_neg h2,if_neg h5,if_neg h10,if_neg h11] at h ⊢;exact h
 case hop=>
  intro i o L t w' hi ho hLi hx hdep K hK;have cX:∀ q9:Nat,w'.cell? ⟨w.heap.size,q9,none⟩=(#[.slice aD nD cD,.slice aU nU cU,.int .i64 k,.slice aT nT cT]:Array Value)[q9]?:=fun q9=>by rw[World.cell?_of_block (a:=⟨w.heap.size,q9,none⟩) (w:=w1) (hx.below.block _ HL1.out),cell_of_row w1 w.heap.size q9 _ _ _ HE1.out.b0]
  obtain rfl|rfl|rfl|rfl|rfl|rfl|rfl|rfl|rfl|rfl|rfl|rfl:i=0∨i=1∨i=2∨i=3∨i=4∨i=5∨i=6∨i=7∨i=8∨i=9∨i=10∨i=11:=by omega
  all_goals(simp at ho;subst ho)
  all_goals try(have hK':=hK w' _ rfl (hx.step _ _ (Below.refl _ _) (fun h=>absurd h (by decide))) (Below.refl _ _);clear hK;simp[Region.binds] at hdep;rw[if_pos (by rfl)];go_simp;simpa[upd,hdep] using hK')
  ·have d1:t 1=.slice aD nD cD:=by simpa using(hdep ⟨1,.data⟩ (by simp) rfl).2
   clear hdep;have bw:Below w.heap.size w w':=HE1.out.below.trans (hx.below.mono HE1.out.below.size);have hsz:w1.heap.size≤w'.heap.size:=hx.below.size;have A:=HCD.out w' bw;have hK':∀ ww v,IO w1.heap.size ww v D→FreshH w' ww v→Below w'.heap.size w' ww→K _ ww:=fun ww v hv hf hb=>hK ww v (by simpa using hv) (hx.step 2 v hb (fun _=>hf)) hb
   clear hK;rw[if_pos (by rfl)];go_simp;try simp only[d1]
   refine A.mono ?_;rintro e w9 ⟨v9,rfl,h9,hb9⟩;have hK2:=hK' w9 v9 (h9.lo hsz) (own_fresh h9) hb9;clear hK' A h9 hb9;go_simp;simpa[upd,d1] using hK2
  ·have d4:t 4=.slice aU nU cU:=by simpa using(hdep ⟨4,.data⟩ (by simp) rfl).2
   clear hdep;have bw:Below w.heap.size w w':=HE1.out.below.trans (hx.below.mono HE1.out.below.size);have hsz:w1.heap.size≤w'.heap.size:=hx.below.size;have A:=HCU.out w' bw;have hK':∀ ww v,IO w1.heap.size ww v U→FreshH w' ww v→Below w'.heap.size w' ww→K _ ww:=fun ww v hv hf hb=>hK ww v (by simpa using hv) (hx.step 5 v hb (fun _=>hf)) hb
   clear hK;rw[if_pos (by rfl)];go_simp;try simp only[d4]
   refine A.mono ?_;rintro e w9 ⟨v9,rfl,h9,hb9⟩;have hK2:=hK' w9 v9 (h9.lo hsz) (own_fresh h9) hb9;clear hK' A h9 hb9;go_simp;simpa[upd,d4] using hK2
  ·have d9:t 9=.slice aT nT cT:=by simpa using(hdep ⟨9,.data⟩ (by simp) rfl).2
   clear hdep;have bw:Below w.heap.size w w':=HE1.out.below.trans (hx.below.mono HE1.out.below.size);have hsz:w1.heap.size≤w'.heap.size:=hx.below.size;have A:=HCT.out w' bw;have hK':∀ ww v,TapO w1.heap.size ww v T nT→FreshH w' ww v→Below w'.heap.size w' ww→K _ ww:=fun ww v hv hf hb=>hK ww v (by simpa using hv) (hx.step 10 v hb (fun _=>hf)) hb
   clear hK;rw[if_pos (by rfl)];go_simp;try simp only[d9]
   refine A.mono ?_;rintro e w9 ⟨v9,rfl,h9,hb9⟩;have hK2:=hK' w9 v9 (h9.lo hsz) (own_fresh h9) hb9;clear hK' A h9 hb9;go_simp;simpa[upd,d9] using hK2
  ·have l2:L 2=true:=(hdep ⟨2,.data⟩ (by simp) rfl).1;have f2:IO w1.heap.size w' (t 2) D:=by simpa using(hdep ⟨2,.data⟩ (by simp) rfl).2
   have l5:L 5=true:=(hdep ⟨5,.data⟩ (by simp) rfl).1;have f5:IO w1.heap.size w' (t 5) U:=by simpa using(hdep ⟨5,.data⟩ (by simp) rfl).2
   have d7:t 7=.int .i64 k:=by simpa using(hdep ⟨7,.data⟩ (by simp) rfl).2
   have l10:L 10=true:=(hdep ⟨10,.data⟩ (by simp) rfl).1;have f10:TapO w1.heap.size w' (t 10) T nT:=by simpa using(hdep ⟨10,.data⟩ (by simp) rfl).2
   clear hdep;have a1:=hx.ap 2 (by decide) 5 (by decide) (by decide) l2 l5;have a2:=hx.ap 2 (by decide) 10 (by decide) (by decide) l2 l10;have a3:=hx.ap 5 (by decide) 10 (by decide) (by decide) l5 l10;obtain⟨bD,mD,dD,eD⟩:=f2.form;obtain⟨bU,mU,dU,eU⟩:=f5.form;obtain⟨bT,dT,eT⟩:=f10.frm;rw[eD] at f2 a1 a2;rw[eU] at f5 a1 a3;rw[eT] at f10 a2 a3;have hsv:STY w1.heap.size w' (.agg #[.slice bD mD dD,.slice bU mU dU,.int .i64 k,.slice bT nT dT]) D U k T nT:=⟨bD,mD,dD,bU,mU,dU,bT,dT,rfl,s3_of f2 f5 f10 (ap_slice a1) (ap_slice a2) (ap_slice a3)⟩
   have hK':=hK w' _ (by simpa using hsv) (hx.step 11 _ (Below.refl _ _) (fun h=>absurd h (by decide))) (Below.refl _ _);clear hK f2 f5 f10 hsv a1 a2 a3;rw[if_pos (by rfl)];go_simp;simpa[upd,d7,eD,eU,eT] using hK'
 case hend=>
  intro o L t w' ho hx hg K hK;simp at ho;subst ho;have f11:STY w1.heap.size w' (t 11) D U k T nT:=by simpa using(hg 11 (by decide)).2
  clear hg;obtain⟨bD,mD,dD,bU,mU,dU,bT,dT,e11,s11⟩:=f11;have hrs:=(hx.below.block _ (Array.getElem?_eq_some_iff.1 HE1.out.b1).1).trans HE1.out.b1;have hK':∀ ww,Wr (w.heap.size+1) w' ww→ww.heap[w.heap.size+1]?=some (.cells #[.slice bD mD dD,.slice bU mU dU,.int .i64 k,.slice bT nT dT] 33 (0,0))→K _ ww:=fun ww hw hr=>hK ww undef ⟨bD,mD,dD,bU,mU,dU,bT,dT,hr,(s11.keep (Nat.le_of_eq hw.size.symm) (fun k hk _=>hw.block k (by have:=(Array.getElem?_eq_some_iff.1 HE1.out.b1).1;omega))).lo (by have:=HE1.out.below.size;omega),(HE1.out.below.trans (hx.below.mono HE1.out.below.size)).trans (hw.below (by omega))⟩
  clear hK s11;rw[if_pos (by rfl)];refine wp_store_row 33 (.tmp 2) (.tmp 14) rfl (w.heap.size+1) #[.slice bD mD dD,.slice bU mU dU,.int .i64 k,.slice bT nT dT] rfl e11 33 _ hrs HSZ.out rfl (by simp[Value.oneCell']) ?_;have hK2:=hK' _ (Wr.setRow _ _ _) (setRow_heap _ _ _ _ _ _ hrs);clear hK';simpa[upd,Act.put] using hK2
 case hdone=>
  intro t w9 hf;obtain⟨bD,mD,dD,bU,mU,dU,bT,dT,hr,hI,hb9⟩:=hf;have HR9:Hid (w9.heap[w.heap.size+1]?=some (.cells #[.slice bD mD dD,.slice bU mU dU,.int .i64 k,.slice bT nT dT] 33 (0,0))):=hr;have HF:Hid (STY w.heap.size w9 (.agg #[.slice bD mD dD,.slice bU mU dU,.int .i64 k,.slice bT nT dT]) D U k T nT∧Below w.heap.size w w9):=⟨⟨bD,mD,dD,bU,mU,dU,bT,dT,rfl,hI⟩,hb9⟩
  clear hr hI hb9;go_wp2_with fail;exact bodyPost_ret (v:=.agg #[.slice bD mD dD,.slice bU mU dU,.int .i64 k,.slice bT nT dT]) (results_cell_row rfl _ _ (w.heap.size+1) 33 _ (0,0) _ rfl HR9.out Tryz.underlying33 rfl HSZ.out) rfl ⟨_,rfl,HF.out.1,HF.out.2⟩
theorem WSV.mono {lo lo':Nat} {w:World} {v:Value} {r:SpR} (h:WSV lo w v r) (hl:lo'≤lo):WSV lo' w v r:=by
 obtain⟨aD,nD,cD,aU,nU,cU,aT,nT,cT,e,h1,h2,h3,h4,h5,h6,l1,l2,l3,l4,l5⟩:=h;exact⟨aD,nD,cD,aU,nU,cU,aT,nT,cT,e,h1,h2,h3,h4,h5,h6,l1.mono hl (Nat.le_refl _),l2.mono hl (Nat.le_refl _),l3.mono hl (Nat.le_refl _),l4,l5⟩
theorem cpf_wsv {lo R:Nat} {k c:Int} {D U T:List Int} {nT:Nat} {w w':World} {aD aU aT:Option Addr} {nD cD nU cU cT:Nat} (h:CpFin lo k D U T nT w #[.slice aD nD cD,.slice aU nU cU,.int .i64 k,.slice aT nT cT]) (hR:R<lo) (hw:Wr R w w') :
  WSV lo w' (.agg #[.int .i64 c,.slice aD nD cD,.slice aU nU cU,.int .i64 k,.slice aT nT cT]) ⟨c,D,U,k,T,nT⟩:=by
 obtain⟨bD,mD,dD,bU,mU,dU,bT,dT,e,h1,h2,h3⟩:=h;simp at e;obtain⟨⟨rfl,rfl,rfl⟩,⟨rfl,rfl,rfl⟩,rfl,rfl⟩:=e;obtain⟨-,q1,-⟩:=h1.sat;obtain⟨-,q2,-⟩:=h2.sat;obtain⟨-,q3,-⟩:=h3.tapV.sat;have y1:=(h1.lk (lo:=lo) (O:=R) (Nat.le_refl _) (.inl hR)).wr hw;have y2:=(h2.lk (lo:=lo) (O:=R) (Nat.le_refl _) (.inl hR)).wr hw;have y3:=(h3.lk (lo:=lo) (O:=R) (Nat.le_refl _) (.inl hR)).wr hw;have hc:=h3.cap;exact⟨_,_,_,_,_,_,_,_,_,rfl,y1.1,y2.1,y3.1,q1,q2,q3,fun ad e=>⟨(y1.2 ad e).1,(y1.2 ad e).2.2⟩,fun ad e=>⟨(y2.2 ad e).1,(y2.2 ad e).2.2⟩,fun ad e=>⟨(y3.2 ad e).1,(y3.2 ad e).2.2⟩,hc.1,hc.2⟩
theorem run_g5 (w:World) (o:Bool) (aD aU aT:Option Addr) (nD cD nU cU nT cT:Nat) (k:Int):(Instr.field 60 (.agg #[.bool o,.slice aD nD cD,.slice aU nU cU,.int .i64 k,.slice aT nT cT]) 1).run Tryz.prog w=.ok (.agg #[.slice aD nD cD,.slice aU nU cU,.int .i64 k,.slice aT nT cT]) w:=by kernel_rfl
structure CX3 (w:World) (sc oc:Array Value) (wr:World):Prop where
 below:Below w.heap.size w wr
 sb:wr.heap[w.heap.size]?=some (.cells sc 33 (0,0))
 ob:wr.heap[w.heap.size+1]?=some (.cells oc 39 (0,0))
 rb:wr.heap[w.heap.size+2]?=some (.cells #[.int .i64 0,.slice none 0 0,.slice none 0 0,.int .i64 0,.slice none 0 0] 35 (0,0))
theorem CX3.lt {w wr:World} {sc oc:Array Value} (h:CX3 w sc oc wr):w.heap.size+2<wr.heap.size:=(Array.getElem?_eq_some_iff.1 h.rb).1
theorem CX3.keep {w wr w':World} {sc oc:Array Value} {B:Nat} (h:CX3 w sc oc wr) (b:Below B wr w') (hB:w.heap.size+3≤B):CX3 w sc oc w':=
 ⟨h.below.trans (b.mono (by omega)),by rw[b.block _ (by omega)];exact h.sb,by rw[b.block _ (by omega)];exact h.ob,by rw[b.block _ (by omega)];exact h.rb⟩
theorem CX3.call {w wr w':World} {sc oc:Array Value} (h:CX3 w sc oc wr) (b:Below wr.heap.size wr w'):CX3 w sc oc w':=h.keep b h.lt
theorem CX3.start (w:World) (sc oc:Array Value):CX3 w sc oc (((w.alloc (.cells sc 33)).alloc (.cells oc 39)).alloc (.cells #[.int .i64 0,.slice none 0 0,.slice none 0 0,.int .i64 0,.slice none 0 0] 35)):=by
 have h:=BX2.start w 33 39 sc oc;have b:Below ((w.alloc (.cells sc 33)).alloc (.cells oc 39)).heap.size ((w.alloc (.cells sc 33)).alloc (.cells oc 39)) _:=(Below.refl _ _).alloc (Nat.le_refl _) (.cells #[.int .i64 0,.slice none 0 0,.slice none 0 0,.int .i64 0,.slice none 0 0] 35);have h2:=h.call b;refine⟨h2.below,h2.b0,h2.b1,?_⟩;have:=heap_alloc_new ((w.alloc (.cells sc 33)).alloc (.cells oc 39)) (.cells #[.int .i64 0,.slice none 0 0,.slice none 0 0,.int .i64 0,.slice none 0 0] 35)
 rwa [show((w.alloc (.cells sc 33)).alloc (.cells oc 39)).heap.size=w.heap.size+2 by simp] at this
set_option maxRecDepth 100000 in
set_option maxHeartbeats 8000000 in
theorem sss_any (aD aU aT:Option Addr) (nD cD nU cU nT cT:Nat) (D U:List Int) (k:Int) (T:List Int) (ka:Option Addr) (nk ck:Nat) (ks:List Int) (ta:Option Addr) (tn tc:Nat) (tk:List Int) (kind now N:Int) (w:World) (hD:D.length=nD) (hU:U.length=nU) (hT:T.length=nT*2) (mD:nD≤1048576) (mU:nU≤1048576) (mT:nT≤1048576)
  (haD:At .i64 w aD D) (haU:At .i64 w aU U) (haT:At .i64 w aT T) (hcT:nT≤cT) (hcm:cT≤9223372036854775807) (hk0:-9223372036854775808≤k) (hk1:k<9223372036854775808) (hk:ks.length=nk) (mk:nk≤1048576) (hp:At .u8 w ka ks) (zk:Byte ks) (ht:tk.length=tn) (mt:tn≤1048576) (hct:tn≤tc) (hat:At .u8 w ta tk) (zt:Byte tk) :
  Calls Tryz.prog 6 #[.agg #[.slice aD nD cD,.slice aU nU cU,.int .i64 k,.slice aT nT cT],.slice ka nk ck,.agg #[.int .i64 kind,.slice ta tn tc,.int .i64 now,.int .i64 N]] w fun e w'=>∃ v,e=.returned v∧WSV w.heap.size w' v (stR D U k T nT ks kind tk now N)∧Below w.heap.size w w':=by
 have HX0:Hid (CX3 w #[.slice aD nD cD,.slice aU nU cU,.int .i64 k,.slice aT nT cT] #[.int .i64 kind,.slice ta tn tc,.int .i64 now,.int .i64 N] (((w.alloc (.cells #[.slice aD nD cD,.slice aU nU cU,.int .i64 k,.slice aT nT cT] 33)).alloc (.cells #[.int .i64 kind,.slice ta tn tc,.int .i64 now,.int .i64 N] 39)).alloc (.cells #[.int .i64 0,.slice none 0 0,.slice none 0 0,.int .i64 0,.slice none 0 0] 35))):=CX3.start _ _ _;have HLN:Hid (D.length=nD∧U.length=nU∧T.length=nT*2):=⟨hD,hU,hT⟩
 have HA:Hid (∀ wz,Below w.heap.size w wz→At .i64 wz aD D∧At .i64 wz aU U∧At .i64 wz aT T∧At .u8 wz ka ks∧At .u8 wz ta tk):=fun wz h=>⟨haD.below h,haU.below h,haT.below h,hp.below h,hat.below h⟩
 have HKL:Hid (ks.length=nk∧Byte ks∧tk.length=tn∧Byte tk):=⟨hk,zk,ht,zt⟩
 have HC:=svs_any aD aU aT nD cD nU cU nT cT D U k T _ hD hU hT mD mU mT (haD.below HX0.out.below) (haU.below HX0.out.below) (haT.below HX0.out.below) hk0 hk1;have HRZ:Hid ((Tryz.prog.info? 35).map (·.size)=some 5):=by show _=_;kernel_rfl
 have HSZ:Hid ((Tryz.prog.info? 33).map (·.size)=some 4):=by show _=_;kernel_rfl
 have HOZ:Hid ((Tryz.prog.info? 39).map (·.size)=some 4):=by show _=_;kernel_rfl
 have HFZ:Hid ((Tryz.prog.info? 56).map (·.size)=some 4):=by show _=_;kernel_rfl
 have HST:Hid (stB D U k T nT=true→StP D U k T nT):=stP_of;have HSR:Hid (stR D U k T nT ks kind tk now N=stR D U k T nT ks kind tk now N):=rfl;clear haD haU haT hD hU hT hk hp zk ht hat zt;go_enter Tryz.func6,Tryz.ntmps6
 go_upto_region 1 with fail
 generalize (((w.alloc (.cells #[.slice aD nD cD,.slice aU nU cU,.int .i64 k,.slice aT nT cT] 33)).alloc (.cells #[.int .i64 kind,.slice ta tn tc,.int .i64 now,.int .i64 N] 39)).alloc (.cells #[.int .i64 0,.slice none 0 0,.slice none 0 0,.int .i64 0,.slice none 0 0] 35))=w0 at *;have o0:w0.cell? ⟨w.heap.size+1,0,none⟩=some (.int .i64 kind):=by rw[cell_of_row w0 _ 0 _ _ _ HX0.out.ob];rfl
 go_wp2_with (first
  |(refine wpList_load_row rfl 33 (.tmp 3) rfl w.heap.size rfl 33 _ (0,0) _ HX0.out.sb Tryz.underlying33 rfl HSZ.out ?_)
  |fail)
 refine HC.mono ?_;rintro e w1 ⟨rfl,hb1⟩;have HX1:Hid (CX3 w #[.slice aD nD cD,.slice aU nU cU,.int .i64 k,.slice aT nT cT] #[.int .i64 kind,.slice ta tn tc,.int .i64 now,.int .i64 N] w1):=HX0.out.call hb1;have o1:w1.cell? ⟨w.heap.size+1,0,none⟩=some (.int .i64 kind):=by rw[cell_of_row w1 _ 0 _ _ _ HX1.out.ob];rfl
 clear HC HX0 hb1 o0;by_cases hbad:¬ (stB D U k T nT=true∧nk=32∧1≤kind∧kind≤5)
 ·have HR:Hid (stR D U k T nT ks kind tk now N=⟨10,D,U,k,T,nT⟩):=by
   show _=_
   unfold stR;by_cases h:stB D U k T nT=true∧ks.length=32
   ·rw[if_pos h];unfold opR;have h2:¬ (1≤kind∧kind≤5):=fun h3=>hbad ⟨h.1,HKL.out.1.symm.trans h.2,h3⟩
    rw[if_neg (by omega),if_neg (by omega),if_neg (by omega),if_neg (by omega),if_neg (by omega)]
   ·rw[if_neg h]
  have hcs:stB D U k T nT=false∨(stB D U k T nT=true∧((nk:Int) != 32)=true)∨(stB D U k T nT=true∧nk=32∧kind<1)∨(stB D U k T nT=true∧nk=32∧¬ kind<1∧5<kind):=by
   cases hq:stB D U k T nT with
   |false=>exact .inl rfl
   |true=>
    by_cases h32:nk=32
    ·by_cases h1:kind<1
     ·exact .inr (.inr (.inl ⟨rfl,h32,h1⟩))
     ·have h3:¬ (1≤kind∧kind≤5):=fun h=>hbad ⟨hq,h32,h⟩
      exact .inr (.inr (.inr ⟨rfl,h32,h1,by omega⟩))
    ·exact .inr (.inl ⟨rfl,by simp;omega⟩)
  clear hbad HST HSR;generalize hq:stB D U k T nT=q at *;clear hq;rcases hcs with rfl|⟨rfl,h32⟩|⟨rfl,rfl,h1⟩|⟨rfl,rfl,h1,h5⟩
  all_goals
   go_upto_region 2 with fail
   go_wp2_with (first
    |(refine wpList_load_row rfl 33 (.tmp 3) rfl w.heap.size rfl 33 _ (0,0) _ HX1.out.sb Tryz.underlying33 rfl HSZ.out ?_)
    |fail)
   refine(l5c_any aD aU aT nD cD nU cU nT cT D U k T w1 HLN.out.1 HLN.out.2.1 HLN.out.2.2 mD mU mT (HA.out w1 HX1.out.below).1 (HA.out w1 HX1.out.below).2.1 (HA.out w1 HX1.out.below).2.2.1).mono ?_;rintro e w9 ⟨cs,rfl,hcp,hb9⟩;have HX9:Hid (CX3 w #[.slice aD nD cD,.slice aU nU cU,.int .i64 k,.slice aT nT cT] #[.int .i64 kind,.slice ta tn tc,.int .i64 now,.int .i64 N] w9):=HX1.out.call hb9;have HL9:Hid (w.heap.size+2<w1.heap.size):=HX1.out.lt;have HCP:Hid (CpFin w1.heap.size k D U T nT w9 cs):=hcp;obtain⟨bD,mD',dD,bU,mU',dU,bT,dT,rfl,-⟩:=hcp;have HRB:Hid (w9.heap[w.heap.size+2]?=some (.cells #[.int .i64 0,.slice none 0 0,.slice none 0 0,.int .i64 0,.slice none 0 0] 35 (0,0))):=HX9.out.rb;have HF:Hid (WSV w.heap.size (w9.setRow (w.heap.size+2) #[.int .i64 10,.slice bD mD' dD,.slice bU mU' dU,.int .i64 k,.slice bT nT dT]) (.agg #[.int .i64 10,.slice bD mD' dD,.slice bU mU' dU,.int .i64 k,.slice bT nT dT]) (stR D U k T nT ks kind tk now N)∧Below w.heap.size w (w9.setRow (w.heap.size+2) #[.int .i64 10,.slice bD mD' dD,.slice bU mU' dU,.int .i64 k,.slice bT nT dT])):=⟨by rw[HR.out];exact(cpf_wsv HCP.out HL9.out (Wr.setRow _ _ _)).mono (by have:=HX9.out.below.size;have:=HL9.out;omega),HX9.out.below.trans ((Wr.setRow _ _ _).below (by omega))⟩
   clear hb9 HCP HL9 HX1;go_wp2_with (first
    |(refine wpList_store_row rfl 35 (.tmp 6) (.tmp 29) rfl (w.heap.size+2) #[.int .i64 10,.slice bD mD' dD,.slice bU mU' dU,.int .i64 k,.slice bT nT dT] rfl rfl 35 _ HRB.out HRZ.out rfl (by simp[Value.oneCell']) ?_)
    |fail)
   exact bodyPost_ret (v:=.agg #[.int .i64 10,.slice bD mD' dD,.slice bU mU' dU,.int .i64 k,.slice bT nT dT]) (results_cell_row rfl _ _ (w.heap.size+2) 35 _ (0,0) _ rfl (setRow_heap _ _ _ _ _ _ HRB.out) Tryz.underlying35 rfl HRZ.out) rfl ⟨_,rfl,HF.out.1,HF.out.2⟩
 have hgood:stB D U k T nT=true∧nk=32∧1≤kind∧kind≤5:=Decidable.not_not.1 hbad;obtain⟨hq,h32,hki,hk5⟩:=hgood;have hst:=HST.out hq;have hkn:k+nT=(nU:Int):=by have:=hst.2.2.2.2.1;rw[HLN.out.2.1] at this;exact this
 have hkk:0≤k:=hst.2.2.2.1;have hd16:D.length≤16:=hst.2.1;have HSO:Hid (stR D U k T nT ks kind tk now N=opR D U k T nT ks kind tk now N):=by show _=_;unfold stR;rw[if_pos ⟨hq,HKL.out.1.trans h32⟩]
 have HDO:=hid_ofS (du_op (ks:=ks) (kind:=kind) (tk:=tk) (now:=now) (N:=N) hq HKL.out.2.2.2 hkk (by omega) mT hd16 hki hk5);have hkb:k≤1048576:=by omega
 have h1:¬ kind<1:=by omega
 have h5:¬ 5<kind:=by omega
 have HQ:Hid (stB D U k T nT=true):=hq;rw[hq];clear hst hbad HST hkn hd16 hq hki hk5 HSR;subst h32;obtain⟨bp,op,rfl,-,-⟩:=(HA.out w1 HX1.out.below).2.2.2.1.get (by rw[HKL.out.1];decide);have HPT:Hid (∀ wz,Below w.heap.size w wz→PtA wz bp op ks):=fun wz h=>by
  obtain⟨b',o',e',hl',hc'⟩:=(HA.out wz h).2.2.2.1.get (by rw[HKL.out.1];decide);cases e';exact⟨hl',hc'⟩
 go_upto_region 3 with fail
 clear h1 h5 o1;go_wp2_with (first
  |(refine wpList_load_row rfl 33 (.tmp 3) rfl w.heap.size rfl 33 _ (0,0) _ HX1.out.sb Tryz.underlying33 rfl HSZ.out ?_)
  |(refine wpList_load_row rfl 39 (.tmp 5) rfl (w.heap.size+1) rfl 39 _ (0,0) _ HX1.out.ob Tryz.underlying39 rfl HOZ.out ?_)
  |fail)
 refine(due_any aD aU aT nD cD nU cU nT cT D U k bp op ck ks ta tn tc tk kind now N w1 HLN.out.1 HLN.out.2.1 mD mU mT (HA.out w1 HX1.out.below).1 (HA.out w1 HX1.out.below).2.1 hkk hkb HKL.out.1 (HPT.out w1 HX1.out.below) HKL.out.2.1 HKL.out.2.2.1 mt hct (HA.out w1 HX1.out.below).2.2.2.2 HKL.out.2.2.2).mono ?_;rintro e w4 ⟨rfl,hb4⟩;have HX4:Hid (CX3 w #[.slice aD nD cD,.slice aU nU cU,.int .i64 k,.slice aT nT cT] #[.int .i64 kind,.slice ta tn tc,.int .i64 now,.int .i64 N] w4):=HX1.out.call hb4;clear hb4 HX1 HPT;generalize duR D U k nT ks kind tk now N=r at *;obtain⟨c,fk,a,b⟩:=r;unfold duV;dsimp only at HDO ⊢;have HN:Hid ((w4.alloc (.cells #[.int .u32 0,.int .i64 0,.int .u32 0,.int .u32 0] 56)).heap[w4.heap.size]?=some (.cells #[.int .u32 0,.int .i64 0,.int .u32 0,.int .u32 0] 56 (0,0))):=heap_alloc_new w4 _;have HB5:Hid (Below w4.heap.size w4 ((w4.alloc (.cells #[.int .u32 0,.int .i64 0,.int .u32 0,.int .u32 0] 56)).setRow w4.heap.size #[.int .u32 0,.int .i64 fk,.int .u32 (a:Int),.int .u32 (b:Int)])):=((Below.refl _ _).alloc (Nat.le_refl _) _).trans ((Wr.setRow _ _ _).below (Nat.le_refl _));have HR5:Hid (((w4.alloc (.cells #[.int .u32 0,.int .i64 0,.int .u32 0,.int .u32 0] 56)).setRow w4.heap.size #[.int .u32 0,.int .i64 fk,.int .u32 (a:Int),.int .u32 (b:Int)]).heap[w4.heap.size]?=some (.cells #[.int .u32 0,.int .i64 fk,.int .u32 (a:Int),.int .u32 (b:Int)] 56 (0,0))):=setRow_heap _ _ _ _ _ _ HN.out;have HX5:Hid (CX3 w #[.slice aD nD cD,.slice aU nU cU,.int .i64 k,.slice aT nT cT] #[.int .i64 kind,.slice ta tn tc,.int .i64 now,.int .i64 N] ((w4.alloc (.cells #[.int .u32 0,.int .i64 0,.int .u32 0,.int .u32 0] 56)).setRow w4.heap.size #[.int .u32 0,.int .i64 fk,.int .u32 (a:Int),.int .u32 (b:Int)])):=HX4.out.call HB5.out
 go_upto_region 4 with (first
  |(refine wpList_store_row rfl 56 (.tmp 8) (.tmp 36) rfl w4.heap.size #[.int .u32 0,.int .i64 fk,.int .u32 (a:Int),.int .u32 (b:Int)] rfl rfl 56 _ HN.out HFZ.out rfl (by simp[Value.oneCell']) ?_)
  |fail)
 clear HN HB5 HX4;generalize ((w4.alloc (.cells #[.int .u32 0,.int .i64 0,.int .u32 0,.int .u32 0] 56)).setRow w4.heap.size #[.int .u32 0,.int .i64 fk,.int .u32 (a:Int),.int .u32 (b:Int)])=w5 at *;have f1:w5.cell? ⟨w4.heap.size,1,none⟩=some (.int .i64 fk):=by rw[cell_of_row w5 _ 1 _ _ _ HR5.out];rfl
 by_cases hfk:fk=0
 ·have HR:Hid (stR D U k T nT ks kind tk now N=⟨c,D,U,k,T,nT⟩):=by show _=_;rw[HSO.out];exact HDO.out.1 hfk
  subst hfk;clear HDO HSO HR5
  go_upto_region 5 with fail
  go_wp2_with (first
   |(refine wpList_load_row rfl 33 (.tmp 3) rfl w.heap.size rfl 33 _ (0,0) _ HX5.out.sb Tryz.underlying33 rfl HSZ.out ?_)
   |fail)
  refine(l5c_any aD aU aT nD cD nU cU nT cT D U k T w5 HLN.out.1 HLN.out.2.1 HLN.out.2.2 mD mU mT (HA.out w5 HX5.out.below).1 (HA.out w5 HX5.out.below).2.1 (HA.out w5 HX5.out.below).2.2.1).mono ?_;rintro e w9 ⟨cs,rfl,hcp,hb9⟩;have HX9:Hid (CX3 w #[.slice aD nD cD,.slice aU nU cU,.int .i64 k,.slice aT nT cT] #[.int .i64 kind,.slice ta tn tc,.int .i64 now,.int .i64 N] w9):=HX5.out.call hb9;have HL9:Hid (w.heap.size+2<w5.heap.size):=HX5.out.lt;have HCP:Hid (CpFin w5.heap.size k D U T nT w9 cs):=hcp;obtain⟨bD,mD',dD,bU,mU',dU,bT,dT,rfl,-⟩:=hcp;have HRB:Hid (w9.heap[w.heap.size+2]?=some (.cells #[.int .i64 0,.slice none 0 0,.slice none 0 0,.int .i64 0,.slice none 0 0] 35 (0,0))):=HX9.out.rb;have HF:Hid (WSV w.heap.size (w9.setRow (w.heap.size+2) #[.int .i64 c,.slice bD mD' dD,.slice bU mU' dU,.int .i64 k,.slice bT nT dT]) (.agg #[.int .i64 c,.slice bD mD' dD,.slice bU mU' dU,.int .i64 k,.slice bT nT dT]) (stR D U k T nT ks kind tk now N)∧Below w.heap.size w (w9.setRow (w.heap.size+2) #[.int .i64 c,.slice bD mD' dD,.slice bU mU' dU,.int .i64 k,.slice bT nT dT])):=⟨by rw[HR.out];exact(cpf_wsv HCP.out HL9.out (Wr.setRow _ _ _)).mono (by have:=HX9.out.below.size;have:=HL9.out;omega),HX9.out.below.trans ((Wr.setRow _ _ _).below (by omega))⟩
  clear hb9 HCP HL9 HX5;go_wp2_with (first
   |(refine wpList_store_row rfl 35 (.tmp 6) (.tmp 43) rfl (w.heap.size+2) #[.int .i64 c,.slice bD mD' dD,.slice bU mU' dU,.int .i64 k,.slice bT nT dT] rfl rfl 35 _ HRB.out HRZ.out rfl (by simp[Value.oneCell']) ?_)
   |fail)
  exact bodyPost_ret (v:=.agg #[.int .i64 c,.slice bD mD' dD,.slice bU mU' dU,.int .i64 k,.slice bT nT dT]) (results_cell_row rfl _ _ (w.heap.size+2) 35 _ (0,0) _ rfl (setRow_heap _ _ _ _ _ _ HRB.out) Tryz.underlying35 rfl HRZ.out) rfl ⟨_,rfl,HF.out.1,HF.out.2⟩
 obtain⟨o,ho,hoc,hap,ha,hb⟩:=HDO.out.2 hfk;have HSO2:Hid (stR D U k T nT ks kind tk now N=o):=by show _=_;rw[HSO.out];exact ho
 have HOC:Hid (o.c=c):=hoc;have HAP:Hid (apF D U k T nT fk a b=⟨true,o.D,o.U,o.k,o.T,o.n⟩):=hap;clear HDO HSO ho hoc hap HQ
 go_upto_region 6 with fail
 clear f1 hfk;go_wp2_with (first
  |(refine wpList_load_row rfl 33 (.tmp 3) rfl w.heap.size rfl 33 _ (0,0) _ HX5.out.sb Tryz.underlying33 rfl HSZ.out ?_)
  |(refine wpList_load_row rfl 56 (.tmp 8) rfl w4.heap.size rfl 56 _ (0,0) _ HR5.out Tryz.underlying56 rfl HFZ.out ?_)
  |fail)
 have HAP2:=HAP;refine(sap_ok aD aU aT nD cD nU cU nT cT D U k T 0 fk a b w5 HLN.out.1 HLN.out.2.1 HLN.out.2.2 mD mU mT (HA.out w5 HX5.out.below).1 (HA.out w5 HX5.out.below).2.1 (HA.out w5 HX5.out.below).2.2.1 hcT hcm hk0 hk1 ha hb (by rw[HAP.out])).mono ?_;rintro e w9 ⟨v,rfl,hv,hb9⟩;have HX9:Hid (CX3 w #[.slice aD nD cD,.slice aU nU cU,.int .i64 k,.slice aT nT cT] #[.int .i64 kind,.slice ta tn tc,.int .i64 now,.int .i64 N] w9):=HX5.out.call hb9;have HL9:Hid (w.heap.size+2<w5.heap.size):=HX5.out.lt;rw[HAP.out] at hv;obtain⟨bD,mD',dD,bU,mU',dU,bT,mT',dT,rfl,hv⟩:=hv;have HV:Hid (At .i64 w9 bD o.D∧At .i64 w9 bU o.U∧At .i64 w9 bT o.T∧o.D.length=mD'∧o.U.length=mU'∧o.T.length=mT'*2∧Lies w5.heap.size w9 bD∧Lies w5.heap.size w9 bU∧Lies w5.heap.size w9 bT∧mT'≤dT∧dT≤9223372036854775807):=hv;have HRB:Hid (w9.heap[w.heap.size+2]?=some (.cells #[.int .i64 0,.slice none 0 0,.slice none 0 0,.int .i64 0,.slice none 0 0] 35 (0,0))):=HX9.out.rb;have HF:Hid (WSV w.heap.size (w9.setRow (w.heap.size+2) #[.int .i64 c,.slice bD mD' dD,.slice bU mU' dU,.int .i64 o.k,.slice bT mT' dT]) (.agg #[.int .i64 c,.slice bD mD' dD,.slice bU mU' dU,.int .i64 o.k,.slice bT mT' dT]) (stR D U k T nT ks kind tk now N)∧Below w.heap.size w (w9.setRow (w.heap.size+2) #[.int .i64 c,.slice bD mD' dD,.slice bU mU' dU,.int .i64 o.k,.slice bT mT' dT])):=by
  refine⟨?_,HX9.out.below.trans ((Wr.setRow _ _ _).below (by omega))⟩;rw[HSO2.out];obtain⟨v1,v2,v3,v4,v5,v6,l1,l2,l3,v7,v8⟩:=HV.out;have hl:=HL9.out;have hw:Wr (w.heap.size+2) w9 (w9.setRow (w.heap.size+2) #[.int .i64 c,.slice bD mD' dD,.slice bU mU' dU,.int .i64 o.k,.slice bT mT' dT]):=Wr.setRow _ _ _;have K:∀ {x:Option Addr} {xs:List Int},At .i64 w9 x xs→Lies w5.heap.size w9 x→At .i64 (w9.setRow (w.heap.size+2) #[.int .i64 c,.slice bD mD' dD,.slice bU mU' dU,.int .i64 o.k,.slice bT mT' dT]) x xs∧Lies w.heap.size (w9.setRow (w.heap.size+2) #[.int .i64 c,.slice bD mD' dD,.slice bU mU' dU,.int .i64 o.k,.slice bT mT' dT]) x:=fun h l=>by
   refine⟨h.keepT (by rw[hw.size];exact Nat.le_refl _) (fun ad e _=>hw.block _ (by have:=(l ad e).1;omega)),fun ad e=>?_⟩;have:=l ad e;rw[hw.size];omega
  exact⟨_,_,_,_,_,_,_,_,_,by rw[HOC.out],(K v1 l1).1,(K v2 l2).1,(K v3 l3).1,v4,v5,v6,(K v1 l1).2,(K v2 l2).2,(K v3 l3).2,v7,v8⟩
 have hfd:=run_g5 w9 true bD bU bT mD' dD mU' dU mT' dT o.k;clear hb9 HV HL9 HX5 hv;go_wp2_with (first
  |(refine wpList_store_row rfl 35 (.tmp 6) (.tmp 49) rfl (w.heap.size+2) #[.int .i64 c,.slice bD mD' dD,.slice bU mU' dU,.int .i64 o.k,.slice bT mT' dT] rfl rfl 35 _ HRB.out HRZ.out rfl (by simp[Value.oneCell']) ?_)
  |fail)
 exact bodyPost_ret (v:=.agg #[.int .i64 c,.slice bD mD' dD,.slice bU mU' dU,.int .i64 o.k,.slice bT mT' dT]) (results_cell_row rfl _ _ (w.heap.size+2) 35 _ (0,0) _ rfl (setRow_heap _ _ _ _ _ _ HRB.out) Tryz.underlying35 rfl HRZ.out) rfl ⟨_,rfl,HF.out.1,HF.out.2⟩
def BkP (H B g:Nat) (w:World) (r:SpR) (e:Ending) (w':World):Prop:=
 e=.returned (.int .i64 r.c)∧Below H w w'∧∃ d u v,Bk w' g d u r.k v∧SetB d (fun x=>(x:Int)∈r.D)∧SetB u (fun x=>(x:Int)∈r.U)∧TapV B w' v r.T r.n∧NeG g v
structure BkV (H B g:Nat) (w:World) (d u:List Int) (v:Value) (D U:List Int) (k:Int) (T:List Int) (n:Nat):Prop where
 bk:Bk w g d u k v
 sd:SetB d (fun x=>(x:Int)∈D)
 su:SetB u (fun x=>(x:Int)∈U)
 tv:TapV B w v T n
 ser:SerP D
 h0:0≤k
 h1:k≤1048576
 hn:n≤1048576
 hH:H≤g
 hHB:H≤B
 ne:NeG g v
 hBw:B≤w.heap.size
section
variable {H B g:Nat} {w w':World} {d u:List Int} {v:Value} {D U:List Int} {k:Int} {T:List Int} {n:Nat} {ks tk:List Int} {now N:Int}
theorem BkV.same (h:BkV H B g w d u v D U k T n) (c:Int):BkP H B g w ⟨c,D,U,k,T,n⟩ (.returned (.int .i64 c)) w:=⟨rfl,Below.refl _ _,d,u,v,h.bk,h.sd,h.su,h.tv,h.ne⟩
theorem BkV.drew (h:BkV H B g w d u v D U k T n) (q:Nat):BkV H B g (w.drewN q) d u v D U k T n:=⟨h.bk.drew q,h.sd,h.su,h.tv.drew q,h.ser,h.h0,h.h1,h.hn,h.hH,h.hHB,h.ne,h.hBw⟩
theorem BkV.below (h:BkV H B g w d u v D U k T n) (b:Below w.heap.size w w'):BkV H B g w' d u v D U k T n:=
 ⟨h.bk.below b h.bk.lt,h.sd,h.su,h.tv.block b.size (fun t _ ht=>b.block t ht),h.ser,h.h0,h.h1,h.hn,h.hH,h.hHB,h.ne,Nat.le_trans h.hBw b.size⟩
theorem BkP.from {r:SpR} {e:Ending} {w1:World} (h:BkP H B g w1 r e w') (b:Below H w w1):BkP H B g w r e w':=⟨h.1,b.trans h.2.1,h.2.2⟩
theorem opR_2:opR D U k T n ks 2 tk now N=if 0≤N∧N<256 then(if memB N D=true then ⟨9,D,U,k,T,n⟩ else if D.length=16 then ⟨10,D,U,k,T,n⟩ else ⟨9,withS D N.toNat,U,k,T,n⟩) else ⟨10,D,U,k,T,n⟩:=by unfold opR;rw[if_neg (by decide),if_pos rfl]
theorem opR_3:opR D U k T n ks 3 tk now N=if 0≤N∧N<256 then(if memB N D=true then ⟨9,lessS D N.toNat,U,k,T,n⟩ else ⟨9,D,U,k,T,n⟩) else ⟨10,D,U,k,T,n⟩:=by unfold opR;rw[if_neg (by decide),if_neg (by decide),if_pos rfl]
theorem opR_4:opR D U k T n ks 4 tk now N=if N<k then ⟨10,D,U,k,T,n⟩ else if k+(n:Int)<N then ⟨10,D,U,k,T,n⟩ else if N=k then ⟨9,D,U,k,T,n⟩ else ⟨9,D,U,N,T.drop ((N-k).toNat*2),n-(N-k).toNat⟩:=by unfold opR;rw[if_neg (by decide),if_neg (by decide),if_neg (by decide),if_pos rfl]
set_option maxRecDepth 100000 in
set_option maxHeartbeats 1000000 in
theorem dny_any (h:BkV H B g w d u v D U k T n) :
  Calls Tryz.prog 50 #[.pointer (some ⟨g,0,none⟩),.int .i64 N] w (BkP H B g w (opR D U k T n ks 2 tk now N)):=by
 have HB:=hid_ofS h;clear h;by_cases hs:0≤N∧N<256
 ·obtain⟨m,rfl⟩:∃ m:Nat,N=m:=⟨N.toNat,by omega⟩
  have hm:m<256:=by omega
  have HSO:Hid (serOk (m:Int)=true):=ser_yes hm;by_cases hin:memB (m:Int) D=true
  ·have HR:Hid (opR D U k T n ks 2 tk now (m:Int)=⟨9,D,U,k,T,n⟩):=by show _=_;rw[opR_2,if_pos hs,if_pos hin]
   have HQ:Hid (m<256∧(m:Int)∈D):=⟨hm,memB_of hin⟩
   clear hs hin;go_enter Tryz.func50,Tryz.ntmps50;go_wp2_with fail;refine(isSerial_any _ _).mono ?_;rintro e w1 ⟨rfl,e1⟩;obtain rfl:w=w1:=e1.symm;rw[HSO.out];go_wp2_with fail;refine(hasYes_any m HB.out.bk.batd HB.out.sd HQ.out).mono ?_;rintro e w1 ⟨rfl,e1⟩;obtain rfl:w=w1:=e1.symm;have HF:=hid_ofS (HB.out.same 9);clear HB HSO HQ;go_wp2
   go_ret
   rw[HR.out];exact HF.out
  ·have HQ:Hid (¬ (m<256∧(m:Int)∈D)):=fun h=>memB_not hin h.2
   by_cases h16:D.length=16
   ·have HR:Hid (opR D U k T n ks 2 tk now (m:Int)=⟨10,D,U,k,T,n⟩):=by show _=_;rw[opR_2,if_pos hs,if_neg hin,if_pos h16]
    have HP:Hid (decide (popS d 32=16)=true):=decide_eq_true ((pop_len HB.out.sd HB.out.ser).trans h16);clear hs hin h16;go_enter Tryz.func50,Tryz.ntmps50;go_wp2_with fail;refine(isSerial_any _ _).mono ?_;rintro e w1 ⟨rfl,e1⟩;obtain rfl:w=w1:=e1.symm;rw[HSO.out];go_wp2_with fail;refine(hasNo_any m HB.out.bk.batd HB.out.sd HQ.out).mono ?_;rintro e w1 ⟨rfl,e1⟩;obtain rfl:w=w1:=e1.symm;go_wp2_with fail;refine(full_any HB.out.bk).mono ?_;rintro e w1 ⟨rfl,e1⟩;obtain rfl:w=w1:=e1.symm;rw[HP.out];have HF:=hid_ofS (HB.out.same 10);clear HB HSO HQ HP;go_wp2
    go_ret
    rw[HR.out];exact HF.out
   ·have HR:Hid (opR D U k T n ks 2 tk now (m:Int)=⟨9,withS D m,U,k,T,n⟩):=by show _=_;rw[opR_2,if_pos hs,if_neg hin,if_neg h16];rfl
    have HP:Hid (decide (popS d 32=16)=false):=decide_eq_false (fun h=>h16 ((pop_len HB.out.sd HB.out.ser).symm.trans h));have HF:∀ q,Hid (BkP H B g w ⟨9,withS D m,U,k,T,n⟩ (.returned (.int .i64 9)) ((w.setCell ⟨g,0+m/8,none⟩ (.int .u8 ((addB d m).getD (m/8) 0))).drewN q)):=fun q=>by
     have hw:Wr g w ((w.setCell ⟨g,0+m/8,none⟩ (.int .u8 ((addB d m).getD (m/8) 0))).drewN q):=((Wr.refl _ _).setCell _ _).drewN _;exact⟨rfl,hw.below HB.out.hH,_,_,_,(HB.out.bk.addD m hm).drew q,(HB.out.sd.add m hm).congr (fun x hx=>withS_mem hx),HB.out.su,HB.out.tv.wr hw HB.out.ne,HB.out.ne⟩
    clear hs hin h16;go_enter Tryz.func50,Tryz.ntmps50;go_wp2_with fail;refine(isSerial_any _ _).mono ?_;rintro e w1 ⟨rfl,e1⟩;obtain rfl:w=w1:=e1.symm;rw[HSO.out];go_wp2_with fail;refine(hasNo_any m HB.out.bk.batd HB.out.sd HQ.out).mono ?_;rintro e w1 ⟨rfl,e1⟩;obtain rfl:w=w1:=e1.symm;go_wp2_with fail;refine(full_any HB.out.bk).mono ?_;rintro e w1 ⟨rfl,e1⟩;obtain rfl:w=w1:=e1.symm;rw[HP.out];go_wp2_with fail;refine(addS_any g 0 m d _ hm HB.out.bk.batd).mono ?_;rintro e w4 ⟨rfl,q,rfl⟩;have H2:=HF q;clear HF HB HSO HQ HP;generalize (w.setCell ⟨g,0+m/8,none⟩ (.int .u8 ((addB d m).getD (m/8) 0))).drewN q=w4 at *;go_wp2
    go_ret
    rw[HR.out];exact H2.out
 ·have HR:Hid (opR D U k T n ks 2 tk now N=⟨10,D,U,k,T,n⟩):=by show _=_;rw[opR_2,if_neg hs]
  have HSO:Hid (serOk N=false):=decide_eq_false hs;clear hs;go_enter Tryz.func50,Tryz.ntmps50;go_wp2_with fail;refine(isSerial_any _ _).mono ?_;rintro e w1 ⟨rfl,e1⟩;obtain rfl:w=w1:=e1.symm;rw[HSO.out];have HF:=hid_ofS (HB.out.same 10);clear HB HSO;go_wp2
  go_ret
  rw[HR.out];exact HF.out
set_option maxRecDepth 100000 in
set_option maxHeartbeats 1000000 in
theorem alw_any (h:BkV H B g w d u v D U k T n) :
  Calls Tryz.prog 51 #[.pointer (some ⟨g,0,none⟩),.int .i64 N] w (BkP H B g w (opR D U k T n ks 3 tk now N)):=by
 have HB:=hid_ofS h;clear h;by_cases hs:0≤N∧N<256
 ·obtain⟨m,rfl⟩:∃ m:Nat,N=m:=⟨N.toNat,by omega⟩
  have hm:m<256:=by omega
  have HSO:Hid (serOk (m:Int)=true):=ser_yes hm;have HF:∀ q,Hid (BkP H B g w (opR D U k T n ks 3 tk now (m:Int)) (.returned (.int .i64 9)) ((w.setCell ⟨g,0+m/8,none⟩ (.int .u8 ((remB d m).getD (m/8) 0))).drewN q)):=fun q=>by
   have hw:Wr g w ((w.setCell ⟨g,0+m/8,none⟩ (.int .u8 ((remB d m).getD (m/8) 0))).drewN q):=((Wr.refl _ _).setCell _ _).drewN _;show BkP _ _ _ _ _ _ _
   by_cases hin:memB (m:Int) D=true
   ·rw[opR_3,if_pos hs,if_pos hin];exact⟨rfl,hw.below HB.out.hH,_,_,_,(HB.out.bk.remD m hm).drew q,(HB.out.sd.rem m hm).congr (fun x hx=>lessS_mem),HB.out.su,HB.out.tv.wr hw HB.out.ne,HB.out.ne⟩
   ·rw[opR_3,if_pos hs,if_neg hin];refine⟨rfl,hw.below HB.out.hH,_,_,_,(HB.out.bk.remD m hm).drew q,(HB.out.sd.rem m hm).congr (fun x hx=>⟨fun h=>h.1,fun h=>⟨h,fun e=>?_⟩⟩),HB.out.su,HB.out.tv.wr hw HB.out.ne,HB.out.ne⟩;subst e;exact memB_not hin h
  clear hs;go_enter Tryz.func51,Tryz.ntmps51;go_wp2_with fail;refine(isSerial_any _ _).mono ?_;rintro e w1 ⟨rfl,e1⟩;obtain rfl:w=w1:=e1.symm;rw[HSO.out];go_wp2_with fail;refine(remS_any g 0 m d _ hm HB.out.bk.batd).mono ?_;rintro e w4 ⟨rfl,q,rfl⟩;have H2:=HF q;clear HF HB HSO;generalize (w.setCell ⟨g,0+m/8,none⟩ (.int .u8 ((remB d m).getD (m/8) 0))).drewN q=w4 at *;go_wp2
  go_ret
  exact H2.out
 ·have HR:Hid (opR D U k T n ks 3 tk now N=⟨10,D,U,k,T,n⟩):=by show _=_;rw[opR_3,if_neg hs]
  have HSO:Hid (serOk N=false):=decide_eq_false hs;clear hs;go_enter Tryz.func51,Tryz.ntmps51;go_wp2_with fail;refine(isSerial_any _ _).mono ?_;rintro e w1 ⟨rfl,e1⟩;obtain rfl:w=w1:=e1.symm;rw[HSO.out];have HF:=hid_ofS (HB.out.same 10);clear HB HSO;go_wp2
  go_ret
  rw[HR.out];exact HF.out
set_option maxRecDepth 100000 in
set_option maxHeartbeats 1000000 in
theorem bak_any (h:BkV H B g w d u v D U k T n) :
  Calls Tryz.prog 52 #[.pointer (some ⟨g,0,none⟩),.int .i64 N] w (BkP H B g w (opR D U k T n ks 4 tk now N)):=by
 have HB:=hid_ofS h;obtain⟨ad,c,rfl⟩:=h.tv.slice;have c0:=h.bk.ck;have h0:=h.h0;have h1:=h.h1;have hn:=h.hn;clear h;by_cases hlo:N<k
 ·have HR:Hid (opR D U k T n ks 4 tk now N=⟨10,D,U,k,T,n⟩):=by show _=_;rw[opR_4,if_pos hlo]
  have HF:=hid_ofS (HB.out.same 10);clear HB;go_enter Tryz.func52,Tryz.ntmps52;go_wp2
  go_ret
  rw[HR.out];exact HF.out
 have HAD:=admitted_any ad n c HB.out.bk h0 h1 hn;by_cases hhi:k+(n:Int)<N
 ·have HR:Hid (opR D U k T n ks 4 tk now N=⟨10,D,U,k,T,n⟩):=by show _=_;rw[opR_4,if_neg hlo,if_pos hhi]
  go_enter Tryz.func52,Tryz.ntmps52;go_wp2_with fail;refine HAD.mono ?_;rintro e w1 ⟨rfl,q,rfl⟩;have HF:=hid_ofS (((HB.out.drew q).same 10).from (w:=w) (below_dq (Below.refl _ _) q));clear HB HAD c0;generalize w.drewN q=w1 at *;go_wp2
  go_ret
  rw[HR.out];exact HF.out
 ·obtain⟨m,rfl⟩:∃ m:Nat,N=k+m:=⟨(N-k).toNat,by omega⟩
  have HR:Hid (opR D U k T n ks 4 tk now (k+(m:Int))=⟨9,D,U,k+(m:Int),T.drop (m*2),n-m⟩):=by
   show _=_
   rw[opR_4,if_neg hlo,if_neg hhi];by_cases hm:k+(m:Int)=k
   ·have:m=0:=by omega
    subst this;rw[if_pos hm];simp
   ·rw[if_neg hm,show(k+(m:Int)-k).toNat=m by omega]
  go_enter Tryz.func52,Tryz.ntmps52;go_wp2_with fail;refine HAD.mono ?_;rintro e w1 ⟨rfl,q,rfl⟩;have HB1:=hid_ofS (HB.out.drew q);have HW1:Hid (Below H w (w.drewN q)):=below_dq (Below.refl _ _) q;clear HB HAD c0;generalize w.drewN q=w1 at *;go_wp2_with fail;refine(ack_any m HB1.out.bk HB1.out.tv h0 h1 (by omega) hn HB1.out.hH HB1.out.ne).mono ?_;rintro e w2 ⟨rfl,hb2,v',r1,r2,r3⟩;have HF:Hid (BkP H B g w ⟨9,D,U,k+(m:Int),T.drop (m*2),n-m⟩ (.returned (.int .i64 9)) w2):=⟨rfl,HW1.out.trans hb2,_,_,_,r1,HB1.out.sd,HB1.out.su,r2,r3⟩
  clear hb2 r1 r2 r3 HB1 HW1;go_wp2
  go_ret
  rw[HR.out];exact HF.out
end
end Go.Proofs.YtjdhhgaelgemcaaGreatDoor
namespace Go.Proofs.YtjdhhgaelgemcaaGreatDoor
open Go.ChangeShapes Go.WideShapes Go.ChangeAt Go.RowKit Go.Joins
set_option linter.unusedVariables false
theorem tab_keepV {w w':World} (h:TabIn w) (hz:1<w.heap.size) (hb:Below w.heap.size w w'):TabIn w':=fun i hi=>by rw[hb.cell (p:=⟨1,i,none⟩) hz];exact h i hi
theorem pt_newV (w:World):Pt (w.alloc (.cells #[.int .u64 0,.int .u64 0,.int .u64 0,.int .u64 0,.int .u64 0,.int .u64 0,.int .u64 0,.int .u64 0,.int .u64 0,.int .u64 0,.int .u64 0,.int .u64 0,.int .u64 0,.int .u64 0,.int .u64 0,.int .u64 0,.int .u64 0,.int .u64 0,.int .u64 0,.int .u64 0] 140)) w.heap.size [0,0,0,0,0] [0,0,0,0,0] [0,0,0,0,0] [0,0,0,0,0]:=⟨heap_alloc_new w _,zero_ok,zero_ok,zero_ok,zero_ok⟩
theorem vsR_64 {pub msg sig:List Int} (h:¬ sig.length=64):vsR pub msg sig=false:=by unfold vsR;simp[h]
theorem vsR_q {pub msg sig:List Int} (h:decide (val 256 (sig.drop 32)<bigL)=false):vsR pub msg sig=false:=by unfold vsR;simp[h]
theorem vsR_p {pub msg sig:List Int} (h:mB pub mdD=false):vsR pub msg sig=false:=by unfold vsR;simp[h]
theorem vsR_r {pub msg sig:List Int} (h:mB (sig.take 32) mdD=false):vsR pub msg sig=false:=by unfold vsR;simp[h]
theorem vsR_e {pub msg sig:List Int} (h1:sig.length=64) (h2:decide (val 256 (sig.drop 32)<bigL)=true) (h3:mB pub mdD=true) (h4:mB (sig.take 32) mdD=true):vsR pub msg sig=eqnS pub msg sig:=by unfold vsR;rw[h2,h3,h4,decide_eq_true h1];simp
theorem dc_pt {zs x y z t:List Int} (hz:Byte zs) (hb:mB zs mdD=true) (hv:dcR zs=true→ev x=dcX zs∧ev y=dcY zs∧ev z=1∧ev t=dcX zs*dcY zs%fp):((ev x,ev y,ev z,ev t):Q4)=ptQ zs:=by
 obtain⟨e1,e2,e3,e4⟩:=hv (by rw[dec_same zs hz];exact hb);have q1:=decX_same zs (mB_len2 hb).1 hz (mB_len2 hb).2;unfold ptQ;rw[e1,q1,e2,e3,e4,q1];rfl
theorem ev_rd (x y z t:List Int):Rd ((ev x,ev y,ev z,ev t):Q4):=⟨ev_bd _,ev_bd _,ev_bd _,ev_bd _⟩
set_option maxRecDepth 100000 in
set_option maxHeartbeats 4000000 in
theorem vsI_any (bp op cp bm om cm bs os cs np nm ns:Nat) (pub msg sig:List Int) (w:World) (hpl:pub.length=np) (hml:msg.length=nm) (hsl:sig.length=ns) (hp:PtA w bp op pub) (hm:PtA w bm om msg) (hs:PtA w bs os sig)
  (zp:Byte pub) (zm:Byte msg) (zs:Byte sig) (hcs:ns≤cs) (bnp:np≤1048576) (bnm:nm≤1048576) (bns:ns≤1048576) (hT:TabIn w) (h0:1<w.heap.size) :
  Calls Tryz.prog 81 #[.slice (some ⟨bp,op,none⟩) np cp,.slice (some ⟨bm,om,none⟩) nm cm,.slice (some ⟨bs,os,none⟩) ns cs] w fun e w'=>e=.returned (.bool (vsR pub msg sig))∧Below w.heap.size w w':=by
 have HB0:Hid (Below w.heap.size w (((w.alloc (.cells #[.int .u64 0,.int .u64 0,.int .u64 0,.int .u64 0,.int .u64 0,.int .u64 0,.int .u64 0,.int .u64 0,.int .u64 0,.int .u64 0,.int .u64 0,.int .u64 0,.int .u64 0,.int .u64 0,.int .u64 0,.int .u64 0,.int .u64 0,.int .u64 0,.int .u64 0,.int .u64 0] 140)).alloc (.cells #[.int .u64 0,.int .u64 0,.int .u64 0,.int .u64 0,.int .u64 0,.int .u64 0,.int .u64 0,.int .u64 0,.int .u64 0,.int .u64 0,.int .u64 0,.int .u64 0,.int .u64 0,.int .u64 0,.int .u64 0,.int .u64 0,.int .u64 0,.int .u64 0,.int .u64 0,.int .u64 0] 140)).alloc (.cells #[.int .u64 0,.int .u64 0,.int .u64 0,.int .u64 0,.int .u64 0,.int .u64 0,.int .u64 0,.int .u64 0,.int .u64 0,.int .u64 0,.int .u64 0,.int .u64 0,.int .u64 0,.int .u64 0,.int .u64 0,.int .u64 0,.int .u64 0,.int .u64 0,.int .u64 0,.int .u64 0] 140))):=((below_new3 _ _).trans ((below_new3 _ _).mono (by simp))).trans ((below_new3 _ _).mono (by simp;omega));have HK0:Hid (Pt (((w.alloc (.cells #[.int .u64 0,.int .u64 0,.int .u64 0,.int .u64 0,.int .u64 0,.int .u64 0,.int .u64 0,.int .u64 0,.int .u64 0,.int .u64 0,.int .u64 0,.int .u64 0,.int .u64 0,.int .u64 0,.int .u64 0,.int .u64 0,.int .u64 0,.int .u64 0,.int .u64 0,.int .u64 0] 140)).alloc (.cells #[.int .u64 0,.int .u64 0,.int .u64 0,.int .u64 0,.int .u64 0,.int .u64 0,.int .u64 0,.int .u64 0,.int .u64 0,.int .u64 0,.int .u64 0,.int .u64 0,.int .u64 0,.int .u64 0,.int .u64 0,.int .u64 0,.int .u64 0,.int .u64 0,.int .u64 0,.int .u64 0] 140)).alloc (.cells #[.int .u64 0,.int .u64 0,.int .u64 0,.int .u64 0,.int .u64 0,.int .u64 0,.int .u64 0,.int .u64 0,.int .u64 0,.int .u64 0,.int .u64 0,.int .u64 0,.int .u64 0,.int .u64 0,.int .u64 0,.int .u64 0,.int .u64 0,.int .u64 0,.int .u64 0,.int .u64 0] 140)) w.heap.size [0,0,0,0,0] [0,0,0,0,0] [0,0,0,0,0] [0,0,0,0,0]):=((pt_newV w).below (below_new3 _ _) (by simp)).below (below_new3 _ _) (by simp;omega);have HN0:Hid (Pt (((w.alloc (.cells #[.int .u64 0,.int .u64 0,.int .u64 0,.int .u64 0,.int .u64 0,.int .u64 0,.int .u64 0,.int .u64 0,.int .u64 0,.int .u64 0,.int .u64 0,.int .u64 0,.int .u64 0,.int .u64 0,.int .u64 0,.int .u64 0,.int .u64 0,.int .u64 0,.int .u64 0,.int .u64 0] 140)).alloc (.cells #[.int .u64 0,.int .u64 0,.int .u64 0,.int .u64 0,.int .u64 0,.int .u64 0,.int .u64 0,.int .u64 0,.int .u64 0,.int .u64 0,.int .u64 0,.int .u64 0,.int .u64 0,.int .u64 0,.int .u64 0,.int .u64 0,.int .u64 0,.int .u64 0,.int .u64 0,.int .u64 0] 140)).alloc (.cells #[.int .u64 0,.int .u64 0,.int .u64 0,.int .u64 0,.int .u64 0,.int .u64 0,.int .u64 0,.int .u64 0,.int .u64 0,.int .u64 0,.int .u64 0,.int .u64 0,.int .u64 0,.int .u64 0,.int .u64 0,.int .u64 0,.int .u64 0,.int .u64 0,.int .u64 0,.int .u64 0] 140)) (w.heap.size+1) [0,0,0,0,0] [0,0,0,0,0] [0,0,0,0,0] [0,0,0,0,0]):=by
  have:=(pt_newV (w.alloc (.cells #[.int .u64 0,.int .u64 0,.int .u64 0,.int .u64 0,.int .u64 0,.int .u64 0,.int .u64 0,.int .u64 0,.int .u64 0,.int .u64 0,.int .u64 0,.int .u64 0,.int .u64 0,.int .u64 0,.int .u64 0,.int .u64 0,.int .u64 0,.int .u64 0,.int .u64 0,.int .u64 0] 140))).below (below_new3 ((w.alloc (.cells #[.int .u64 0,.int .u64 0,.int .u64 0,.int .u64 0,.int .u64 0,.int .u64 0,.int .u64 0,.int .u64 0,.int .u64 0,.int .u64 0,.int .u64 0,.int .u64 0,.int .u64 0,.int .u64 0,.int .u64 0,.int .u64 0,.int .u64 0,.int .u64 0,.int .u64 0,.int .u64 0] 140)).alloc (.cells #[.int .u64 0,.int .u64 0,.int .u64 0,.int .u64 0,.int .u64 0,.int .u64 0,.int .u64 0,.int .u64 0,.int .u64 0,.int .u64 0,.int .u64 0,.int .u64 0,.int .u64 0,.int .u64 0,.int .u64 0,.int .u64 0,.int .u64 0,.int .u64 0,.int .u64 0,.int .u64 0] 140)) (.cells #[.int .u64 0,.int .u64 0,.int .u64 0,.int .u64 0,.int .u64 0,.int .u64 0,.int .u64 0,.int .u64 0,.int .u64 0,.int .u64 0,.int .u64 0,.int .u64 0,.int .u64 0,.int .u64 0,.int .u64 0,.int .u64 0,.int .u64 0,.int .u64 0,.int .u64 0,.int .u64 0] 140)) (by simp);rw[show(w.alloc (.cells #[.int .u64 0,.int .u64 0,.int .u64 0,.int .u64 0,.int .u64 0,.int .u64 0,.int .u64 0,.int .u64 0,.int .u64 0,.int .u64 0,.int .u64 0,.int .u64 0,.int .u64 0,.int .u64 0,.int .u64 0,.int .u64 0,.int .u64 0,.int .u64 0,.int .u64 0,.int .u64 0] 140)).heap.size=w.heap.size+1 by simp] at this;exact this
 have HL0:Hid (Pt (((w.alloc (.cells #[.int .u64 0,.int .u64 0,.int .u64 0,.int .u64 0,.int .u64 0,.int .u64 0,.int .u64 0,.int .u64 0,.int .u64 0,.int .u64 0,.int .u64 0,.int .u64 0,.int .u64 0,.int .u64 0,.int .u64 0,.int .u64 0,.int .u64 0,.int .u64 0,.int .u64 0,.int .u64 0] 140)).alloc (.cells #[.int .u64 0,.int .u64 0,.int .u64 0,.int .u64 0,.int .u64 0,.int .u64 0,.int .u64 0,.int .u64 0,.int .u64 0,.int .u64 0,.int .u64 0,.int .u64 0,.int .u64 0,.int .u64 0,.int .u64 0,.int .u64 0,.int .u64 0,.int .u64 0,.int .u64 0,.int .u64 0] 140)).alloc (.cells #[.int .u64 0,.int .u64 0,.int .u64 0,.int .u64 0,.int .u64 0,.int .u64 0,.int .u64 0,.int .u64 0,.int .u64 0,.int .u64 0,.int .u64 0,.int .u64 0,.int .u64 0,.int .u64 0,.int .u64 0,.int .u64 0,.int .u64 0,.int .u64 0,.int .u64 0,.int .u64 0] 140)) (w.heap.size+1+1) [0,0,0,0,0] [0,0,0,0,0] [0,0,0,0,0] [0,0,0,0,0]):=by
  have:=pt_newV ((w.alloc (.cells #[.int .u64 0,.int .u64 0,.int .u64 0,.int .u64 0,.int .u64 0,.int .u64 0,.int .u64 0,.int .u64 0,.int .u64 0,.int .u64 0,.int .u64 0,.int .u64 0,.int .u64 0,.int .u64 0,.int .u64 0,.int .u64 0,.int .u64 0,.int .u64 0,.int .u64 0,.int .u64 0] 140)).alloc (.cells #[.int .u64 0,.int .u64 0,.int .u64 0,.int .u64 0,.int .u64 0,.int .u64 0,.int .u64 0,.int .u64 0,.int .u64 0,.int .u64 0,.int .u64 0,.int .u64 0,.int .u64 0,.int .u64 0,.int .u64 0,.int .u64 0,.int .u64 0,.int .u64 0,.int .u64 0,.int .u64 0] 140));rw[show((w.alloc (.cells #[.int .u64 0,.int .u64 0,.int .u64 0,.int .u64 0,.int .u64 0,.int .u64 0,.int .u64 0,.int .u64 0,.int .u64 0,.int .u64 0,.int .u64 0,.int .u64 0,.int .u64 0,.int .u64 0,.int .u64 0,.int .u64 0,.int .u64 0,.int .u64 0,.int .u64 0,.int .u64 0] 140)).alloc (.cells #[.int .u64 0,.int .u64 0,.int .u64 0,.int .u64 0,.int .u64 0,.int .u64 0,.int .u64 0,.int .u64 0,.int .u64 0,.int .u64 0,.int .u64 0,.int .u64 0,.int .u64 0,.int .u64 0,.int .u64 0,.int .u64 0,.int .u64 0,.int .u64 0,.int .u64 0,.int .u64 0] 140)).heap.size=w.heap.size+1+1 by simp] at this;exact this
 have HP:=hid_ofS hp;have HM:=hid_ofS hm;have HS:=hid_ofS hs;have HZ:=hid_ofS (And.intro zp (And.intro zm zs));have HT:=hid_ofS (And.intro hT h0);clear hp hm hs zp zm zs hT h0;by_cases h64:ns=64
 ·subst h64;have hslh:=fun w=>run_sliceHi w bs os cs hcs
  have hsll:=fun w=>run_sliceLo w bs os cs hcs
  have hdl:(sig.drop 32).length=32:=by rw[List.length_drop,hsl]
  have htl:(sig.take 32).length=32:=by rw[List.length_take,hsl];rfl
  go_enter Tryz.func81,Tryz.ntmps81;go_wp2_with fail;generalize (((w.alloc (.cells #[.int .u64 0,.int .u64 0,.int .u64 0,.int .u64 0,.int .u64 0,.int .u64 0,.int .u64 0,.int .u64 0,.int .u64 0,.int .u64 0,.int .u64 0,.int .u64 0,.int .u64 0,.int .u64 0,.int .u64 0,.int .u64 0,.int .u64 0,.int .u64 0,.int .u64 0,.int .u64 0] 140)).alloc (.cells #[.int .u64 0,.int .u64 0,.int .u64 0,.int .u64 0,.int .u64 0,.int .u64 0,.int .u64 0,.int .u64 0,.int .u64 0,.int .u64 0,.int .u64 0,.int .u64 0,.int .u64 0,.int .u64 0,.int .u64 0,.int .u64 0,.int .u64 0,.int .u64 0,.int .u64 0,.int .u64 0] 140)).alloc (.cells #[.int .u64 0,.int .u64 0,.int .u64 0,.int .u64 0,.int .u64 0,.int .u64 0,.int .u64 0,.int .u64 0,.int .u64 0,.int .u64 0,.int .u64 0,.int .u64 0,.int .u64 0,.int .u64 0,.int .u64 0,.int .u64 0,.int .u64 0,.int .u64 0,.int .u64 0,.int .u64 0] 140))=w0 at *;refine(iok2_any (some ⟨bs,os+32,none⟩) 32 (cs-32) (sig.drop 32) _ hdl ((HS.out.below HB0.out).drop 32).at_ (byte_drop HZ.out.2.2 32)).mono ?_;rintro e w1 ⟨rfl,b1⟩;have HB1:Hid (Below w.heap.size w w1):=HB0.out.trans (b1.mono HB0.out.size);have HK1:Hid (Pt w1 w.heap.size [0,0,0,0,0] [0,0,0,0,0] [0,0,0,0,0] [0,0,0,0,0]):=HK0.out.below b1 HK0.out.row.lt;have HN1:Hid (Pt w1 (w.heap.size+1) [0,0,0,0,0] [0,0,0,0,0] [0,0,0,0,0] [0,0,0,0,0]):=HN0.out.below b1 HN0.out.row.lt;have HL1:Hid (Pt w1 (w.heap.size+1+1) [0,0,0,0,0] [0,0,0,0,0] [0,0,0,0,0] [0,0,0,0,0]):=HL0.out.below b1 HL0.out.row.lt;have hqq:decide (32=32∧val 256 (sig.drop 32)<bigL)=decide (val 256 (sig.drop 32)<bigL):=by simp
  rw[hqq];clear b1 HB0 HK0 HN0 HL0 hqq;cases hq:decide (val 256 (sig.drop 32)<bigL) with
  |false=>
   have HV:=hid_ofS (vsR_q (pub:=pub) (msg:=msg) hq);clear hq HK1 HN1 HL1;go_wp2
   go_ret
   exact⟨by rw[HV.out];rfl,HB1.out⟩
  |true=>
   have HQ:=hid_ofS hq;clear hq;go_wp2_with fail;refine(decode_any w.heap.size _ _ _ _ (some ⟨bp,op,none⟩) np cp pub _ hpl bnp (HP.out.below HB1.out).at_ HZ.out.1 HK1.out).mono ?_;rintro e w2 ⟨x1,y1,z1,t1,P1,hw1,rfl,hv1⟩;have HB2:Hid (Below w.heap.size w w2):=HB1.out.trans (hw1.below w.heap.size (Nat.le_refl _) HB1.out.size);have HK2:Hid (Pt w2 w.heap.size x1 y1 z1 t1):=P1;have HN2:Hid (Pt w2 (w.heap.size+1) [0,0,0,0,0] [0,0,0,0,0] [0,0,0,0,0] [0,0,0,0,0]):=HN1.out.wrh2 hw1 (by omega);have HL2:Hid (Pt w2 (w.heap.size+1+1) [0,0,0,0,0] [0,0,0,0,0] [0,0,0,0,0] [0,0,0,0,0]):=HL1.out.wrh2 hw1 (by omega);have HV1:=hid_ofS hv1;rw[dec_same pub HZ.out.1];clear hw1 P1 hv1 HB1 HK1 HN1 HL1;cases hb:mB pub mdD with
   |false=>
    have HV:=hid_ofS (vsR_p (msg:=msg) (sig:=sig) hb);clear hb HK2 HN2 HL2 HV1;go_wp2
    go_ret
    exact⟨by rw[HV.out];rfl,HB2.out⟩
   |true=>
    have HE1:=hid_ofS (dc_pt HZ.out.1 hb HV1.out);have HBP:=hid_ofS hb;obtain rfl:np=32:=by rw[←hpl];exact(mB_len2 hb).1
    clear hb HV1;go_wp2_with fail;refine(decode_any (w.heap.size+1) _ _ _ _ (some ⟨bs,os,none⟩) 32 cs (sig.take 32) _ htl (by decide) ((HS.out.below HB2.out).take 32).at_ (byte_take HZ.out.2.2 32) HN2.out).mono ?_;rintro e w3 ⟨x2,y2,z2,t2,P2,hw2,rfl,hv2⟩;have HB3:Hid (Below w.heap.size w w3):=HB2.out.trans (hw2.below w.heap.size (by omega) HB2.out.size);have HK3:Hid (Pt w3 w.heap.size x1 y1 z1 t1):=HK2.out.wrh2 hw2 (by omega);have HN3:Hid (Pt w3 (w.heap.size+1) x2 y2 z2 t2):=P2;have HL3:Hid (Pt w3 (w.heap.size+1+1) [0,0,0,0,0] [0,0,0,0,0] [0,0,0,0,0] [0,0,0,0,0]):=HL2.out.wrh2 hw2 (by omega);have HV2:=hid_ofS hv2;rw[dec_same (sig.take 32) (byte_take HZ.out.2.2 32)];clear hw2 P2 hv2 HB2 HK2 HN2 HL2;cases hb2:mB (sig.take 32) mdD with
    |false=>
     have HV:=hid_ofS (vsR_r (msg:=msg) (pub:=pub) hb2);clear hb2 HK3 HN3 HL3 HV2;go_wp2
     go_ret
     exact⟨by rw[HV.out];rfl,HB3.out⟩
    |true=>
     have HE2:=hid_ofS (dc_pt (byte_take HZ.out.2.2 32) hb2 HV2.out);have HVR:=hid_ofS (vsR_e (msg:=msg) hsl HQ.out HBP.out hb2);clear hb2 HV2 HQ HBP;go_wp2_with fail;refine(ibas_any _).mono ?_;rintro e w4 ⟨v4,b4s,rfl,o4,c1,c2,c3,b4⟩;obtain rfl:=bB_of c1 c2 c3;obtain⟨g4,c4,rfl,hA4,hc4⟩:=PtA.of_own o4;have HB4:Hid (Below w.heap.size w w4):=HB3.out.trans (b4.mono HB3.out.size);have HK4:Hid (Pt w4 w.heap.size x1 y1 z1 t1):=HK3.out.below b4 HK3.out.row.lt;have HN4:Hid (Pt w4 (w.heap.size+1) x2 y2 z2 t2):=HN3.out.below b4 HN3.out.row.lt;have HL4:Hid (Pt w4 (w.heap.size+1+1) [0,0,0,0,0] [0,0,0,0,0] [0,0,0,0,0] [0,0,0,0,0]):=HL3.out.below b4 HL3.out.row.lt;have HA4:=hid_ofS hA4;rw[bB_len];clear o4 c1 c2 c3 b4 hA4 hc4 HB3 HK3 HN3 HL3;go_wp2_with fail;refine(decode_any (w.heap.size+1+1) _ _ _ _ (some ⟨g4,0,none⟩) 32 c4 bB _ bB_len (by decide) HA4.out.at_ bB_byte HL4.out).mono ?_;rintro e w5 ⟨x3,y3,z3,t3,P3,hw3,rfl,hv3⟩;have HB5:Hid (Below w.heap.size w w5):=HB4.out.trans (hw3.below w.heap.size (by omega) HB4.out.size);have HK5:Hid (Pt w5 w.heap.size x1 y1 z1 t1):=HK4.out.wrh2 hw3 (by omega);have HN5:Hid (Pt w5 (w.heap.size+1) x2 y2 z2 t2):=HN4.out.wrh2 hw3 (by omega);have HL5:Hid (Pt w5 (w.heap.size+1+1) x3 y3 z3 t3):=P3;have HE3:=hid_ofS (dc_pt bB_byte bB_ok hv3);generalize dcR bB=rb at *;clear hw3 P3 hv3 HB4 HK4 HN4 HL4 HA4;go_wp2_with fail;refine(nof_any (some ⟨bs,os+32,none⟩) 32 (cs-32) (sig.drop 32) _ hdl (by decide) (by decide) ((HS.out.below HB5.out).drop 32).at_ (byte_drop HZ.out.2.2 32)).mono ?_;rintro e w6 ⟨ms,hl,hw,hv,rfl,b6⟩;rw[List.take_of_length_le (by omega)] at hv;have HB6:Hid (Below w.heap.size w w6):=HB5.out.trans (b6.mono HB5.out.size);have HK6:Hid (Pt w6 w.heap.size x1 y1 z1 t1):=HK5.out.below b6 HK5.out.row.lt;have HN6:Hid (Pt w6 (w.heap.size+1) x2 y2 z2 t2):=HN5.out.below b6 HN5.out.row.lt;have HL6:Hid (Pt w6 (w.heap.size+1+1) x3 y3 z3 t3):=HL5.out.below b6 HL5.out.row.lt;have CM:=hid_ofS (multiply_any (w.heap.size+1+1) x3 y3 z3 t3 ms w6 HL6.out hl hw);rw[HE3.out,hv] at CM;clear b6 HB5 HK5 HN5 HL5 hl hw hv;go_wp2_with fail;refine CM.out.mono ?_;rintro e w7 ⟨x4,y4,z4,t4,P4,hw4,rfl,hq4⟩;have HB7:Hid (Below w.heap.size w w7):=HB6.out.trans (hw4.below w.heap.size (by omega) HB6.out.size);have HK7:Hid (Pt w7 w.heap.size x1 y1 z1 t1):=HK6.out.wrh2 hw4 (by omega);have HN7:Hid (Pt w7 (w.heap.size+1) x2 y2 z2 t2):=HN6.out.wrh2 hw4 (by omega);have HL7:Hid (Pt w7 (w.heap.size+1+1) x4 y4 z4 t4):=P4;have HQ4:=hid_ofS hq4;clear P4 hw4 hq4 CM HB6 HK6 HN6 HL6;have hfl:[sig.take 32,pub,msg].flatten=sig.take 32++pub++msg:=by simp
     have hfn:(sig.take 32++pub++msg).length=32+32+nm:=by rw[List.length_append,List.length_append,htl,hpl,hml]
     have HAL:Hid (Below w7.heap.size w7 (w7.alloc (.cells #[.slice (some ⟨bs,os,none⟩) 32 cs,.slice (some ⟨bp,op,none⟩) 32 cp,.slice (some ⟨bm,om,none⟩) nm cm] 26))):=below_new3 _ _;have CC:Hid (Calls Tryz.prog 108 #[.slice (some ⟨w7.heap.size,0,none⟩) 3 3] (w7.alloc (.cells #[.slice (some ⟨bs,os,none⟩) 32 cs,.slice (some ⟨bp,op,none⟩) 32 cp,.slice (some ⟨bm,om,none⟩) nm cm] 26)) _):=
      conc_any w7.heap.size 3 3 [.slice (some ⟨bs,os,none⟩) 32 cs,.slice (some ⟨bp,op,none⟩) 32 cp,.slice (some ⟨bm,om,none⟩) nm cm] [sig.take 32,pub,msg] _ rfl (by simp)
       (fun i hi=>by
        rw[cell_of_row _ _ i _ _ _ (heap_alloc_new w7 _)]
        match i,hi with
        |0,_=>rfl
        |1,_=>rfl
        |2,_=>rfl)
       (fun i hi=>by
        have bx:=HB7.out.trans (HAL.out.mono HB7.out.size)
        match i,hi with
        |0,_=>exact((HS.out.below bx).take 32).part 32 cs htl
        |1,_=>exact(HP.out.below bx).part 32 cp hpl
        |2,_=>exact(HM.out.below bx).part nm cm hml)
       (by rw[hfl,hfn];omega) (by rw[hfl,hfn];omega) (by decide)
     rw[hfl] at CC;have HFN:=hid_ofS hfn;clear hfl hfn;go_wp2_with fail;refine CC.out.mono ?_;rintro e w8 ⟨v8,rfl,o8,b8⟩;obtain⟨g8,c8,rfl,hA8,hc8⟩:=PtA.of_own o8;have b78:Below w7.heap.size w7 w8:=HAL.out.trans (b8.mono HAL.out.size);have HB8:Hid (Below w.heap.size w w8):=HB7.out.trans (b78.mono HB7.out.size);have HK8:Hid (Pt w8 w.heap.size x1 y1 z1 t1):=HK7.out.below b78 HK7.out.row.lt;have HN8:Hid (Pt w8 (w.heap.size+1) x2 y2 z2 t2):=HN7.out.below b78 HN7.out.row.lt;have HL8:Hid (Pt w8 (w.heap.size+1+1) x4 y4 z4 t4):=HL7.out.below b78 HL7.out.row.lt;have HBY:Hid (Byte (sig.take 32++pub++msg)):=fun z hz=>by
      simp only[List.mem_append] at hz;rcases hz with (h|h)|h
      ·exact byte_take HZ.out.2.2 32 z h
      ·exact HZ.out.1 z h
      ·exact HZ.out.2.1 z h
     have CH:=hid_ofS (shaI_any (some ⟨g8,0,none⟩) _ c8 (sig.take 32++pub++msg) w8 rfl hA8.at_ HBY.out (by rw[HFN.out];omega) hc8 (tab_keepV HT.out.1 HT.out.2 HB8.out) (Nat.lt_of_lt_of_le HT.out.2 HB8.out.size));clear o8 b8 b78 hA8 hc8 CC HAL HB7 HK7 HN7 HL7;rw[HFN.out] at CH ⊢;go_wp2_with fail;refine CH.out.mono ?_;rintro e w9 ⟨v9,rfl,o9,b9⟩;obtain⟨g9,c9,rfl,hA9,hc9⟩:=PtA.of_own o9;have HB9:Hid (Below w.heap.size w w9):=HB8.out.trans (b9.mono HB8.out.size);have HK9:Hid (Pt w9 w.heap.size x1 y1 z1 t1):=HK8.out.below b9 HK8.out.row.lt;have HN9:Hid (Pt w9 (w.heap.size+1) x2 y2 z2 t2):=HN8.out.below b9 HN8.out.row.lt;have HL9:Hid (Pt w9 (w.heap.size+1+1) x4 y4 z4 t4):=HL8.out.below b9 HL8.out.row.lt;have hsl9:(shaL (sig.take 32++pub++msg)).length=64:=by unfold shaL;rw[txtW_len,(finL_w8 _ _ _).1]
     have CR:=hid_ofS (rnum_any (some ⟨g9,0,none⟩) 64 c9 (shaL (sig.take 32++pub++msg)) w9 hsl9 (by decide) hA9.at_ (by unfold shaL;exact txtW_byte _));rw[hsl9];clear o9 b9 hA9 hc9 CH HB8 HK8 HN8 HL8 hsl9 HBY;go_wp2_with fail;refine CR.out.mono ?_;rintro e w10 ⟨ks,hl,hw,hv,rfl,b10⟩;have HB10:Hid (Below w.heap.size w w10):=HB9.out.trans (b10.mono HB9.out.size);have HK10:Hid (Pt w10 w.heap.size x1 y1 z1 t1):=HK9.out.below b10 HK9.out.row.lt;have HN10:Hid (Pt w10 (w.heap.size+1) x2 y2 z2 t2):=HN9.out.below b10 HN9.out.row.lt;have HL10:Hid (Pt w10 (w.heap.size+1+1) x4 y4 z4 t4):=HL9.out.below b10 HL9.out.row.lt;have CM:=hid_ofS (multiply_any w.heap.size x1 y1 z1 t1 ks w10 HK10.out hl hw);rw[HE1.out,show val 18446744073709551616 ks=hsV pub msg sig from hv] at CM;clear b10 HB9 HK9 HN9 HL9 CR hl hw hv;go_wp2_with fail;refine CM.out.mono ?_;rintro e w11 ⟨x5,y5,z5,t5,P5,hw5,rfl,hq5⟩;have HB11:Hid (Below w.heap.size w w11):=HB10.out.trans (hw5.below w.heap.size (Nat.le_refl _) HB10.out.size);have HK11:Hid (Pt w11 w.heap.size x5 y5 z5 t5):=P5;have HN11:Hid (Pt w11 (w.heap.size+1) x2 y2 z2 t2):=HN10.out.wrh2 hw5 (by omega);have HL11:Hid (Pt w11 (w.heap.size+1+1) x4 y4 z4 t4):=HL10.out.wrh2 hw5 (by omega);have HQ5:=hid_ofS hq5;clear P5 hw5 hq5 CM HB10 HK10 HN10 HL10;have CA:=hid_ofS (add_any (w.heap.size+1) w.heap.size x2 y2 z2 t2 x5 y5 z5 t5 w11 HN11.out HK11.out);go_wp2_with fail;refine CA.out.mono ?_;intro e w12 h12;obtain⟨x6,y6,z6,t6,P6,hw6,rfl,hq6⟩:=h12.q4;have HB12:Hid (Below w.heap.size w w12):=HB11.out.trans (hw6.below w.heap.size (by omega) HB11.out.size);have HN12:Hid (Pt w12 (w.heap.size+1) x6 y6 z6 t6):=P6;have HL12:Hid (Pt w12 (w.heap.size+1+1) x4 y4 z4 t4):=HL11.out.wrh2 hw6 (by omega);have HEQ:Hid (decide (cdV (ev x4) (ev y4) (ev z4)=cdV (ev x6) (ev y6) (ev z6))=vsR pub msg sig):=by
      show _=_
      have hp1:Rd (ptQ pub):=by rw[←HE1.out];exact ev_rd _ _ _ _
      have hp2:Rd (ptQ (sig.take 32)):=by rw[←HE2.out];exact ev_rd _ _ _ _
      have hp3:Rd (ptQ bB):=by rw[←HE3.out];exact ev_rd _ _ _ _
      rw[HVR.out,←eqn_same pub msg sig hp1 hp2 hp3];unfold eqnI;rw[←HQ4.out,←HQ5.out,←HE2.out,←hq6];rfl
     clear h12 P6 hw6 hq6 CA HB11 HK11 HN11 HL11 HE1 HE2 HE3 HQ4 HQ5 HVR;obtain⟨vr,hvr⟩:∃ v,v=vsR pub msg sig:=⟨_,rfl⟩
     rw[←hvr] at HEQ;have HVV:=hid_ofS hvr;clear hvr;have CL:=hid_ofS (pcode_any (w.heap.size+1+1) x4 y4 z4 t4 w12 HL12.out);generalize cdV (ev x4) (ev y4) (ev z4)=V1 at *;go_wp2_with fail;refine CL.out.mono ?_;rintro e w13 ⟨ls,hl1,hw1,hv1,rfl,b13⟩;have HB13:Hid (Below w.heap.size w w13):=HB12.out.trans (b13.mono HB12.out.size);have HN13:Hid (Pt w13 (w.heap.size+1) x6 y6 z6 t6):=HN12.out.below b13 HN12.out.row.lt;have CR:=hid_ofS (pcode_any (w.heap.size+1) x6 y6 z6 t6 w13 HN13.out);generalize cdV (ev x6) (ev y6) (ev z6)=V2 at *;have HW1:=hid_ofS (And.intro hw1 hv1);clear b13 CL HB12 HN12 HL12 hw1 hv1;go_wp2_with fail;refine CR.out.mono ?_;rintro e w14 ⟨rs,hl2,hw2,hv2,rfl,b14⟩;have HB14:Hid (Below w.heap.size w w14):=HB13.out.trans (b14.mono HB13.out.size);have HQ:Hid (decide (ls=rs)=vr):=by
      show _=_
      rw[←HEQ.out];obtain⟨hw1,hv1⟩:=HW1.out;by_cases h:ls=rs
      ·rw[decide_eq_true h,decide_eq_true (by rw[←hv1,←hv2,h])]
      ·rw[decide_eq_false h,decide_eq_false (fun e=>h (val_inj (B:=18446744073709551616) (by decide) hw1 hw2 (by omega) (by rw[hv1,hv2,e])))]
     clear b14 CR HB13 HN13 HW1 HEQ hw2 hv2;go_wp2_with (simp only[run_eqW _ 9998 4 143 Tryz.underlying143 ls rs hl1 hl2]);rw[HQ.out];clear HQ;simp only[Result.andThen_ok];go_simp;go_wp2
     go_ret
     exact⟨by rw[←HVV.out];rfl,HB14.out⟩
 ·have HV:=hid_ofS (vsR_64 (pub:=pub) (msg:=msg) (sig:=sig) (by rw[hsl];exact h64));have h65:¬ ((ns:Int)=64):=by omega
  have h66:((ns:Int) != 64)=true:=by simpa using h65
  clear HK0 HN0 HL0;go_enter Tryz.func81,Tryz.ntmps81;go_wp2
  go_ret
  exact⟨by rw[HV.out];rfl,HB0.out⟩
end Go.Proofs.YtjdhhgaelgemcaaGreatDoor
namespace Go.Proofs.YtjdhhgaelgemcaaGreatDoor
open Go.ChangeShapes Go.WideShapes Go.ChangeAt Go.RowKit
set_option linter.unusedVariables false
set_option maxRecDepth 100000 in
set_option maxHeartbeats 8000000 in
theorem adm_any {H B g:Nat} {w:World} {d u:List Int} {v:Value} {D U:List Int} {k:Int} {T:List Int} {n:Nat} (h:BkV H B g w d u v D U k T n) (bp op cp:Nat) (ks:List Int) (ta:Option Addr) (tn tc:Nat) (tk:List Int) (kind now N:Int)
  (hk:ks.length=32) (hp:PtA w bp op ks) (zk:Byte ks) (ht:tk.length=tn) (mt:tn≤1048576) (hct:tn≤tc) (hat:At .u8 w ta tk) (zt:Byte tk) (hT:TabIn w) (hV:1<w.heap.size) :
  Calls Tryz.prog 64 #[.pointer (some ⟨g,0,none⟩),.slice (some ⟨bp,op,none⟩) 32 cp,.agg #[.int .i64 kind,.slice ta tn tc,.int .i64 now,.int .i64 N]] w fun e w'=>∃ x y,e=.returned (.tuple #[x,y])∧Below w.heap.size w w'∧((tapC D U ks tk now=1∧x=.int .i64 (tkS tk)∧y=.nilIface)∨(¬ tapC D U ks tk now=1∧y=.iface 118 (.int .i64 (tapC D U ks tk now)))):=by
 have HKw0:=hid_ofS h;have HA:Hid (∀ wz,Below w.heap.size w wz→At .u8 wz ta tk∧PtA wz bp op ks∧TabIn wz):=fun wz h=>⟨hat.below h,hp.below h,tab_keepV hT hV h⟩
 have HL:Hid (tk.length=tn∧ks.length=32∧Byte ks∧Byte tk):=⟨ht,hk,zk,zt⟩
 have HV1:Hid (1<w.heap.size):=hV;have HTB:Hid (tkB tk=true→tk.length=72):=fun h=>by
  unfold tkB at h;simp at h;exact h.1
 have HNN:Hid (0≤tkS tk):=tkS_nn zt;have HSZ:Hid ((Tryz.prog.info? 81).map (·.size)=some 3):=by show _=_;kernel_rfl
 have HCB:Hid (now<0∨4294967295<now→tapC D U ks tk now=10):=tapC_bad;have HCI:Hid (0≤now→now≤4294967295→tapC D U ks tk now=if tkB tk=false then 2 else if 256≤tkS tk then 3 else if tkE tk<now then 4 else if memB (tkS tk) D=true then 5 else if memB (tkS tk) U=true then 6 else if vsR ks (tk.take 8) (tk.drop 8)=true then 1 else 7):=tapC_in;have HBA:Hid (Below w.heap.size w (w.alloc (.cells #[.int .i64 kind,.slice ta tn tc,.int .i64 now,.int .i64 N] 39))):=(Below.refl _ _).alloc (Nat.le_refl _) _;have HR0:Hid ((w.alloc (.cells #[.int .i64 kind,.slice ta tn tc,.int .i64 now,.int .i64 N] 39)).heap[w.heap.size]?=some (.cells #[.int .i64 kind,.slice ta tn tc,.int .i64 now,.int .i64 N] 39 (0,0))):=heap_alloc_new w _;clear h hk hp zk ht hat zt hT hV;go_enter Tryz.func64,Tryz.ntmps64
 go_upto_region 1 with fail
 generalize w.alloc (.cells #[.int .i64 kind,.slice ta tn tc,.int .i64 now,.int .i64 N] 39)=w0 at *;have o1:w0.cell? ⟨w.heap.size,1,none⟩=some (.slice ta tn tc):=by rw[cell_of_row w0 _ 1 _ _ _ HR0.out];rfl
 have o2:w0.cell? ⟨w.heap.size,2,none⟩=some (.int .i64 now):=by rw[cell_of_row w0 _ 2 _ _ _ HR0.out];rfl
 go_wp2_with fail;refine(isNow_any _ _).mono ?_;rintro e w9 ⟨rfl,e9⟩;obtain rfl:w0=w9:=e9.symm;by_cases hn:0≤now∧now≤4294967295
 case neg=>
  have HNO:Hid (nowOk now=false):=decide_eq_false hn;have HF:Hid (tapC D U ks tk now=10):=HCB.out (by omega);rw[HNO.out];clear HCB HCI HTB HKw0 o1 o2;go_wp2
  go_ret2
  exact⟨_,_,rfl,HBA.out,.inr ⟨by rw[HF.out];decide,by rw[HF.out];rfl⟩⟩
 have HNO:Hid (nowOk now=true):=decide_eq_true hn;rw[HNO.out];have HC:=hid_ofS (HCI.out hn.1 hn.2);clear HCB HCI hn HNO;go_wp2_with fail;refine(ptI_any ta tn tc tk _ HL.out.1 mt hct (HA.out _ HBA.out).1 HL.out.2.2.2).mono ?_;rintro e w1 ⟨rfl,hb1⟩;have HR1:Hid (w1.heap[w.heap.size]?=some (.cells #[.int .i64 kind,.slice ta tn tc,.int .i64 now,.int .i64 N] 39 (0,0))):=by show _=_;rw[hb1.block _ (Array.getElem?_eq_some_iff.1 HR0.out).1];exact HR0.out
 have HB1:Hid (Below w.heap.size w w1):=HBA.out.trans (hb1.mono HBA.out.size);clear hb1 HR0 HBA o1 o2;generalize hq:tkB tk=q at *;have HQ:Hid (tkB tk=q):=hq;clear hq;obtain⟨s,x,HV⟩:∃ s x,Hid (tkV tk=.agg #[.bool q,.int .i64 s,.int .i64 x]∧(q=true→tkS tk=s∧tkE tk=x)):=by
  cases q with
  |false=>exact⟨0,0,tkV_no HQ.out,fun h=>by cases h⟩
  |true=>exact⟨_,_,tkV_yes HQ.out,fun _=>⟨rfl,rfl⟩⟩
 have HN:Hid ((w1.alloc (.cells #[.bool false,.int .i64 0,.int .i64 0] 81)).heap[w1.heap.size]?=some (.cells #[.bool false,.int .i64 0,.int .i64 0] 81 (0,0))):=heap_alloc_new w1 _;have HBX:Hid (Below w1.heap.size w1 ((w1.alloc (.cells #[.bool false,.int .i64 0,.int .i64 0] 81)).setRow w1.heap.size #[.bool q,.int .i64 s,.int .i64 x])):=((Below.refl _ _).alloc (Nat.le_refl _) _).trans ((Wr.setRow _ _ _).below (Nat.le_refl _));have HR2:Hid (((w1.alloc (.cells #[.bool false,.int .i64 0,.int .i64 0] 81)).setRow w1.heap.size #[.bool q,.int .i64 s,.int .i64 x]).heap[w1.heap.size]?=some (.cells #[.bool q,.int .i64 s,.int .i64 x] 81 (0,0))):=setRow_heap _ _ _ _ _ _ HN.out;rw[HV.out.1]
 go_upto_region 4 with (first
  |(refine wpList_store_row rfl 81 (.tmp 8) (.tmp 16) rfl w1.heap.size #[.bool q,.int .i64 s,.int .i64 x] rfl rfl 81 _ HN.out HSZ.out rfl (by simp[Value.oneCell']) ?_)
  |fail)
 clear HN HSZ;generalize (w1.alloc (.cells #[.bool false,.int .i64 0,.int .i64 0] 81)).setRow w1.heap.size #[.bool q,.int .i64 s,.int .i64 x]=w2 at *;have HB2:Hid (Below w.heap.size w w2):=HB1.out.trans (HBX.out.mono HB1.out.size);have HKw2:Hid (BkV H B g w2 d u v D U k T n):=HKw0.out.below HB2.out;have HRO:Hid (w2.heap[w.heap.size]?=some (.cells #[.int .i64 kind,.slice ta tn tc,.int .i64 now,.int .i64 N] 39 (0,0))):=by show _=_;rw[HBX.out.block _ (Array.getElem?_eq_some_iff.1 HR1.out).1];exact HR1.out
 have c0:w2.cell? ⟨w1.heap.size,0,none⟩=some (.bool q):=by rw[cell_of_row w2 _ 0 _ _ _ HR2.out];rfl
 have c1:w2.cell? ⟨w1.heap.size,1,none⟩=some (.int .i64 s):=by rw[cell_of_row w2 _ 1 _ _ _ HR2.out];rfl
 have c2:w2.cell? ⟨w1.heap.size,2,none⟩=some (.int .i64 x):=by rw[cell_of_row w2 _ 2 _ _ _ HR2.out];rfl
 have o1:w2.cell? ⟨w.heap.size,1,none⟩=some (.slice ta tn tc):=by rw[cell_of_row w2 _ 1 _ _ _ HRO.out];rfl
 have o2:w2.cell? ⟨w.heap.size,2,none⟩=some (.int .i64 now):=by rw[cell_of_row w2 _ 2 _ _ _ HRO.out];rfl
 clear HR2 HBX HR1 HRO HKw0 HB1;cases q with
 |false=>
  have HF:Hid (tapC D U ks tk now=2):=by show _=_;rw[HC.out,if_pos rfl]
  clear HC HV HTB HKw2 c1 c2 o1 o2;go_wp2
  go_ret2
  exact⟨_,_,rfl,HB2.out,.inr ⟨by rw[HF.out];decide,by rw[HF.out];rfl⟩⟩
 |true=>
 have HSV:Hid (tkS tk=s):=(HV.out.2 rfl).1;have HCX:=HC.out;rw[if_neg (fun h=>by cases h),(HV.out.2 rfl).1,(HV.out.2 rfl).2] at HCX;have HC2:=hid_ofS HCX;have HT72:Hid (tk.length=72):=HTB.out rfl;have HS1:Hid (0≤s):=by show _≤_;rw[←HSV.out];exact HNN.out
 clear HC HV HTB HQ HCX
 go_upto_region 6 with fail
 clear c0;go_wp2_with fail;refine(isSerial_any _ _).mono ?_;rintro e w9 ⟨rfl,e9⟩;obtain rfl:w2=w9:=e9.symm;by_cases hs:256≤s
 ·have HF:Hid (tapC D U ks tk now=3):=by show _=_;rw[HC2.out,if_pos hs]
  have HSO:Hid (serOk s=false):=decide_eq_false (by omega);rw[HSO.out];clear HC2 c1 c2 o1 o2 HKw2;go_wp2
  go_ret2
  exact⟨_,_,rfl,HB2.out,.inr ⟨by rw[HF.out];decide,by rw[HF.out];rfl⟩⟩
 have HSO:Hid (serOk s=true):=decide_eq_true ⟨HS1.out,by omega⟩;have HS0:Hid (0≤s∧s<256):=⟨HS1.out,by omega⟩
 rw[HSO.out];by_cases hx:x<now
 ·have HF:Hid (tapC D U ks tk now=4):=by show _=_;rw[HC2.out,if_neg hs,if_pos hx]
  clear HC2 HKw2 c1 o1;go_wp2
  go_ret2
  exact⟨_,_,rfl,HB2.out,.inr ⟨by rw[HF.out];decide,by rw[HF.out];rfl⟩⟩
 have HCX:=HC2.out;rw[if_neg hs,if_neg hx] at HCX;have HC3:=hid_ofS HCX;clear HC2 HCX hs HSO HS1
 go_upto_region 10 with fail
 clear hx c2 o2;have HAS:Hid (∀ wz,Below w2.heap.size w2 wz→Calls Tryz.prog 61 #[.pointer (some ⟨g,0,none⟩),.int .i64 s] wz fun e w'=>e=.returned (.bool (memB s D))∧Below wz.heap.size wz w'):=fun wz h=>by
  have hk:=HKw2.out.below h;refine(hasS_any g 0 s _ _ (memB s D) wz hk.bk.batd hk.sd ?_).mono ?_
  ·have e:((s.toNat:Nat):Int)=s:=Int.toNat_of_nonneg HS0.out.1;rw[e];exact⟨fun h=>⟨HS0.out.1,HS0.out.2,memB_of h⟩,fun h=>memB_yes h.2.2⟩
  ·rintro e w' ⟨rfl,rfl⟩;exact⟨rfl,Below.refl _ _⟩
 have HCS:Hid (w2.cell? ⟨w1.heap.size,1,none⟩=some (.int .i64 s)):=c1;have HLT1:Hid (w1.heap.size<w2.heap.size):=block_lt_of_cell c1;have HO1:Hid (w2.cell? ⟨w.heap.size,1,none⟩=some (.slice ta tn tc)):=o1;have HLT:Hid (w.heap.size<w2.heap.size):=block_lt_of_cell o1;obtain⟨m,hm⟩:∃ m,m=memB s D:=⟨_,rfl⟩
 have HM:Hid (memB s D=m):=hm.symm;rw[←hm] at HAS;clear hm c1 o1;go_wp2_with fail;refine wp_region_any (by kernel_rfl) ?_;refine wpAny_slotsU (fun _ a b=>Below a.heap.size a b) (frame:=(fun (a b c d e f g h i j k l m n o p q r s u v w x y z A B C D E F G H I J K L M N O P Q R S T U V W X Y Z a0 a1 a2 a3 a4 a5:Value)=>fun (t:Nat→Value)=>({ tmps:=List.toArray [a,b,c,d,e,f,g,h,i,j,k,l,m,n,o,p,q,r,s,u,v,w,x,y,z,A,B,C,D,E,F,G,H,I,J,t 6,t 0,t 1,t 2,t 3,t 4,t 5,K,L,M,N,O,P,Q,R,S,T,U,V,W,X,Y,Z,a0,a1,a2,a3,a4,a5],defers:=[] }:Act)) _ _ _ _ _ _ _ _ _ _ _ _ _ _ _ _ _ _ _ _ _ _ _ _ _ _ _ _ _ _ _ _ _ _ _ _ _ _ _ _ _ _ _ _ _ _ _ _ _ _ _ _ _ _ _ _ _)
  (Ext:=fun L u w'=>ApX w2 [] L u w') (Good:=fun i L w' v=>if i=0 then v=.pointer (some ⟨g,0,none⟩) else if i=1 then v=.pointer (some ⟨g,0,none⟩) else if i=2 then v=.pointer (some ⟨g,0,none⟩) else if i=3 then v=.pointer (some ⟨w1.heap.size,1,none⟩) else if i=4 then v=.int .i64 s else if i=5 then v=.bool m else if i=6 then v=.bool m else True) ?hstab (by kernel_rfl) ?hop ?hdone _ _ ((fun (x0 x1 x2 x3 x4 x5 x6:Value)=>fun (i:Nat)=>if i=0 then x0 else if i=1 then x1 else if i=2 then x2 else if i=3 then x3 else if i=4 then x4 else if i=5 then x5 else if i=6 then x6 else undef) _ _ _ _ _ _ _) _ (by simp) ?ext ?start (by simp)
 case start=>intro i hi h;exact absurd h (by rw[Array.getD_eq_getD_getElem?,Array.getElem?_replicate];split<;>simp)
 case ext=>exact(ApX.start w2 [] _ _ (fun i=>by rw[Array.getD_eq_getD_getElem?,Array.getElem?_replicate];split<;>rfl)).drew
 case hstab=>
  intro j L w9 w' i v hM _ _ h;exact h
 case hop=>
  intro i o L t w' ho hLi hx hdep K hK;have hi:i<7:=(Array.getElem?_eq_some_iff.1 ho).1;obtain rfl|rfl|rfl|rfl|rfl|rfl|rfl:i=0∨i=1∨i=2∨i=3∨i=4∨i=5∨i=6:=by omega
  all_goals(simp at ho;subst ho)
  ·clear hdep;have hK':=hK w' (.pointer (some ⟨g,0,none⟩)) (by simp) (hx.step 0 _ (Below.refl _ _) (fun h=>absurd h (by decide))) (Below.refl _ _);clear hK;rw[if_pos (by rfl)];go_simp;simpa[upd] using hK'
  ·have d0:t 0=.pointer (some ⟨g,0,none⟩):=by simpa using(hdep ⟨0,.data⟩ (by simp) rfl).2
   clear hdep;have hK':=hK w' (.pointer (some ⟨g,0,none⟩)) (by simp) (hx.step 1 _ (Below.refl _ _) (fun h=>absurd h (by decide))) (Below.refl _ _);clear hK;rw[if_pos (by rfl)];go_simp;simpa[upd,d0] using hK'
  ·have d1:t 1=.pointer (some ⟨g,0,none⟩):=by simpa using(hdep ⟨1,.data⟩ (by simp) rfl).2
   clear hdep;have hK':=hK w' (.pointer (some ⟨g,0,none⟩)) (by simp) (hx.step 2 _ (Below.refl _ _) (fun h=>absurd h (by decide))) (Below.refl _ _);clear hK;rw[if_pos (by rfl)];go_simp;simpa[upd,d1] using hK'
  ·clear hdep;have hK':=hK w' (.pointer (some ⟨w1.heap.size,1,none⟩)) (by simp) (hx.step 3 _ (Below.refl _ _) (fun h=>absurd h (by decide))) (Below.refl _ _);clear hK;rw[if_pos (by rfl)];go_simp;simpa[upd] using hK'
  ·have d3:t 3=.pointer (some ⟨w1.heap.size,1,none⟩):=by simpa using(hdep ⟨3,.data⟩ (by simp) rfl).2
   clear hdep;have cc:w'.cell? ⟨w1.heap.size,1,none⟩=some (.int .i64 s):=by rw[hx.below.cell (p:=⟨w1.heap.size,1,none⟩) HLT1.out];exact HCS.out
   have hK':=hK w' (.int .i64 s) (by simp) (hx.step 4 _ (Below.refl _ _) (fun h=>absurd h (by decide))) (Below.refl _ _);clear hK;rw[if_pos (by rfl)];go_simp;simpa[upd,d3] using hK'
  ·have d2:t 2=.pointer (some ⟨g,0,none⟩):=by simpa using(hdep ⟨2,.data⟩ (by simp) rfl).2
   have d4:t 4=.int .i64 s:=by simpa using(hdep ⟨4,.data⟩ (by simp) rfl).2
   clear hdep;have A:=HAS.out w' hx.below;have hK':∀ ww,Below w'.heap.size w' ww→K _ ww:=fun ww hb=>hK ww (.bool m) (by simp) (hx.step 5 _ hb (fun h=>absurd h (by decide))) hb
   clear hK;rw[if_pos (by rfl)];go_simp;try simp only[d2,d4]
   refine A.mono ?_;rintro e w9 ⟨rfl,hb9⟩;have hK2:=hK' w9 hb9;clear hK' A hb9;go_simp;simpa[upd,d2,d4] using hK2
  ·have d5:t 5=.bool m:=by simpa using(hdep ⟨5,.data⟩ (by simp) rfl).2
   clear hdep;have hK':=hK w' (.bool m) (by simp) (hx.step 6 _ (Below.refl _ _) (fun h=>absurd h (by decide))) (Below.refl _ _);clear hK;rw[if_pos (by rfl)];go_simp;simpa[upd,d5] using hK'
 case hdone=>
  intro L t w3 hx hg;have e6:t 6=.bool m:=by simpa using hg 6 (by decide)
  have HB3:Hid (Below w.heap.size w w3):=HB2.out.trans (hx.below.mono HB2.out.size);have c1':w3.cell? ⟨w1.heap.size,1,none⟩=some (.int .i64 s):=by rw[hx.below.cell (p:=⟨w1.heap.size,1,none⟩) HLT1.out];exact HCS.out
  have o1':w3.cell? ⟨w.heap.size,1,none⟩=some (.slice ta tn tc):=by rw[hx.below.cell (p:=⟨w.heap.size,1,none⟩) HLT.out];exact HO1.out
  have HKw3:Hid (BkV H B g w3 d u v D U k T n):=HKw2.out.below hx.below;clear hg hx HAS HCS HO1 HLT HLT1 HKw2;have c1:=c1';have o1:=o1';clear c1' o1';simp only[e6];clear e6;cases m with
  |true=>
   have HF:Hid (tapC D U ks tk now=5):=by show _=_;rw[HC3.out,if_pos HM.out]
   clear HC3 HM c1 o1;go_wp2
   go_ret2
   exact⟨_,_,rfl,HB3.out,.inr ⟨by rw[HF.out];decide,by rw[HF.out];rfl⟩⟩
  |false=>
   have HC4:=HC3.out;rw[if_neg (by rw[HM.out];decide)] at HC4;have HY:=hid_ofS HC4;clear HC4 HC3 HM;have HC4:=HY;clear HY;have HAS:Hid (∀ wz,Below w3.heap.size w3 wz→Calls Tryz.prog 61 #[.pointer (some ⟨g,32,none⟩),.int .i64 s] wz fun e w'=>e=.returned (.bool (memB s U))∧Below wz.heap.size wz w'):=fun wz h=>by
    have hk:=HKw3.out.below h;refine(hasS_any g 32 s _ _ (memB s U) wz hk.bk.batu hk.su ?_).mono ?_
    ·have e:((s.toNat:Nat):Int)=s:=Int.toNat_of_nonneg HS0.out.1;rw[e];exact⟨fun h=>⟨HS0.out.1,HS0.out.2,memB_of h⟩,fun h=>memB_yes h.2.2⟩
    ·rintro e w' ⟨rfl,rfl⟩;exact⟨rfl,Below.refl _ _⟩
   have HCS:Hid (w3.cell? ⟨w1.heap.size,1,none⟩=some (.int .i64 s)):=c1;have HLT1:Hid (w1.heap.size<w3.heap.size):=block_lt_of_cell c1;have HO1:Hid (w3.cell? ⟨w.heap.size,1,none⟩=some (.slice ta tn tc)):=o1;have HLT:Hid (w.heap.size<w3.heap.size):=block_lt_of_cell o1;obtain⟨m,hm⟩:∃ m,m=memB s U:=⟨_,rfl⟩
   have HM:Hid (memB s U=m):=hm.symm;rw[←hm] at HAS;clear hm c1 o1;go_wp2_with fail;refine wp_region_any (by kernel_rfl) ?_;refine wpAny_slotsU (fun _ a b=>Below a.heap.size a b) (frame:=(fun (a b c d e f g h i j k l m n o p q r s u v w x y z A B C D E F G H I J K L M N O P Q R S T U V W X Y Z a0 a1 a2 a3 a4 a5:Value)=>fun (t:Nat→Value)=>({ tmps:=List.toArray [a,b,c,d,e,f,g,h,i,j,k,l,m,n,o,p,q,r,s,u,v,w,x,y,z,A,B,C,D,E,F,G,H,I,J,K,L,M,N,O,P,Q,R,t 6,t 0,t 1,t 2,t 3,t 4,t 5,S,T,U,V,W,X,Y,Z,a0,a1,a2,a3,a4,a5],defers:=[] }:Act)) _ _ _ _ _ _ _ _ _ _ _ _ _ _ _ _ _ _ _ _ _ _ _ _ _ _ _ _ _ _ _ _ _ _ _ _ _ _ _ _ _ _ _ _ _ _ _ _ _ _ _ _ _ _ _ _ _)
    (Ext:=fun L u w'=>ApX w3 [] L u w') (Good:=fun i L w' v=>if i=0 then v=.pointer (some ⟨g,0,none⟩) else if i=1 then v=.pointer (some ⟨g,0,none⟩) else if i=2 then v=.pointer (some ⟨g,32,none⟩) else if i=3 then v=.pointer (some ⟨w1.heap.size,1,none⟩) else if i=4 then v=.int .i64 s else if i=5 then v=.bool m else if i=6 then v=.bool m else True) ?hstab (by kernel_rfl) ?hop ?hdone _ _ ((fun (x0 x1 x2 x3 x4 x5 x6:Value)=>fun (i:Nat)=>if i=0 then x0 else if i=1 then x1 else if i=2 then x2 else if i=3 then x3 else if i=4 then x4 else if i=5 then x5 else if i=6 then x6 else undef) _ _ _ _ _ _ _) _ (by simp) ?ext ?start (by simp)
   case start=>intro i hi h;exact absurd h (by rw[Array.getD_eq_getD_getElem?,Array.getElem?_replicate];split<;>simp)
   case ext=>exact(ApX.start w3 [] _ _ (fun i=>by rw[Array.getD_eq_getD_getElem?,Array.getElem?_replicate];split<;>rfl)).drew
   case hstab=>
    intro j L w9 w' i v hM _ _ h;exact h
   case hop=>
    intro i o L t w' ho hLi hx hdep K hK;have hi:i<7:=(Array.getElem?_eq_some_iff.1 ho).1;obtain rfl|rfl|rfl|rfl|rfl|rfl|rfl:i=0∨i=1∨i=2∨i=3∨i=4∨i=5∨i=6:=by omega
    all_goals(simp at ho;subst ho)
    ·clear hdep;have hK':=hK w' (.pointer (some ⟨g,0,none⟩)) (by simp) (hx.step 0 _ (Below.refl _ _) (fun h=>absurd h (by decide))) (Below.refl _ _);clear hK;rw[if_pos (by rfl)];go_simp;simpa[upd] using hK'
    ·have d0:t 0=.pointer (some ⟨g,0,none⟩):=by simpa using(hdep ⟨0,.data⟩ (by simp) rfl).2
     clear hdep;have hK':=hK w' (.pointer (some ⟨g,0,none⟩)) (by simp) (hx.step 1 _ (Below.refl _ _) (fun h=>absurd h (by decide))) (Below.refl _ _);clear hK;rw[if_pos (by rfl)];go_simp;simpa[upd,d0] using hK'
    ·have d1:t 1=.pointer (some ⟨g,0,none⟩):=by simpa using(hdep ⟨1,.data⟩ (by simp) rfl).2
     clear hdep;have hK':=hK w' (.pointer (some ⟨g,32,none⟩)) (by simp) (hx.step 2 _ (Below.refl _ _) (fun h=>absurd h (by decide))) (Below.refl _ _);clear hK;rw[if_pos (by rfl)];go_simp;simpa[upd,d1] using hK'
    ·clear hdep;have hK':=hK w' (.pointer (some ⟨w1.heap.size,1,none⟩)) (by simp) (hx.step 3 _ (Below.refl _ _) (fun h=>absurd h (by decide))) (Below.refl _ _);clear hK;rw[if_pos (by rfl)];go_simp;simpa[upd] using hK'
    ·have d3:t 3=.pointer (some ⟨w1.heap.size,1,none⟩):=by simpa using(hdep ⟨3,.data⟩ (by simp) rfl).2
     clear hdep;have cc:w'.cell? ⟨w1.heap.size,1,none⟩=some (.int .i64 s):=by rw[hx.below.cell (p:=⟨w1.heap.size,1,none⟩) HLT1.out];exact HCS.out
     have hK':=hK w' (.int .i64 s) (by simp) (hx.step 4 _ (Below.refl _ _) (fun h=>absurd h (by decide))) (Below.refl _ _);clear hK;rw[if_pos (by rfl)];go_simp;simpa[upd,d3] using hK'
    ·have d2:t 2=.pointer (some ⟨g,32,none⟩):=by simpa using(hdep ⟨2,.data⟩ (by simp) rfl).2
     have d4:t 4=.int .i64 s:=by simpa using(hdep ⟨4,.data⟩ (by simp) rfl).2
     clear hdep;have A:=HAS.out w' hx.below;have hK':∀ ww,Below w'.heap.size w' ww→K _ ww:=fun ww hb=>hK ww (.bool m) (by simp) (hx.step 5 _ hb (fun h=>absurd h (by decide))) hb
     clear hK;rw[if_pos (by rfl)];go_simp;try simp only[d2,d4]
     refine A.mono ?_;rintro e w9 ⟨rfl,hb9⟩;have hK2:=hK' w9 hb9;clear hK' A hb9;go_simp;simpa[upd,d2,d4] using hK2
    ·have d5:t 5=.bool m:=by simpa using(hdep ⟨5,.data⟩ (by simp) rfl).2
     clear hdep;have hK':=hK w' (.bool m) (by simp) (hx.step 6 _ (Below.refl _ _) (fun h=>absurd h (by decide))) (Below.refl _ _);clear hK;rw[if_pos (by rfl)];go_simp;simpa[upd,d5] using hK'
   case hdone=>
    intro L t w4 hx hg;have e6:t 6=.bool m:=by simpa using hg 6 (by decide)
    have HB4:Hid (Below w.heap.size w w4):=HB3.out.trans (hx.below.mono HB3.out.size);have c1':w4.cell? ⟨w1.heap.size,1,none⟩=some (.int .i64 s):=by rw[hx.below.cell (p:=⟨w1.heap.size,1,none⟩) HLT1.out];exact HCS.out
    have o1':w4.cell? ⟨w.heap.size,1,none⟩=some (.slice ta tn tc):=by rw[hx.below.cell (p:=⟨w.heap.size,1,none⟩) HLT.out];exact HO1.out
    have HKw4:Hid (BkV H B g w4 d u v D U k T n):=HKw3.out.below hx.below;clear hg hx HAS HCS HO1 HLT HLT1 HKw3;have c1:=c1';have o1:=o1';clear c1' o1';simp only[e6];clear e6;cases m with
    |true=>
     have HF:Hid (tapC D U ks tk now=6):=by show _=_;rw[HC4.out,if_pos HM.out]
     clear HC4 HM c1 o1;go_wp2
     go_ret2
     exact⟨_,_,rfl,HB4.out,.inr ⟨by rw[HF.out];decide,by rw[HF.out];rfl⟩⟩
    |false=>
     have HC5:=HC4.out;rw[if_neg (by rw[HM.out];decide)] at HC5;have HTV:=hid_ofS HC5;clear HC4 HC5 HM;have h72:72=tn:=HT72.out.symm.trans HL.out.1;subst h72;obtain⟨bt,ot,rfl,-,-⟩:=(HA.out _ HB4.out).1.get (by rw[HT72.out];decide);have HPT:Hid (∀ wz,Below w.heap.size w wz→PtA wz bt ot tk):=fun wz h=>by
      obtain⟨b',o',e',hl',hc'⟩:=(HA.out _ h).1.get (by rw[HT72.out];decide);cases e';exact⟨hl',hc'⟩
     have HT8:Hid ((8:Int)≤tc∧(72:Int)≤tc∧¬ (tc=8)):=⟨by omega,by omega,by omega⟩
     have HVS:Hid (∀ wz,Below w.heap.size w wz→Calls Tryz.prog 81 #[.slice (some ⟨bp,op,none⟩) 32 cp,.slice (some ⟨bt,ot,none⟩) 8 tc,.slice (some ⟨bt,ot+8,none⟩) 64 (tc-8:Nat)] wz fun e w'=>e=.returned (.bool (vsR ks (tk.take 8) (tk.drop 8)))∧Below wz.heap.size wz w'):=fun wz h=>
      vsI_any bp op cp bt ot tc bt (ot+8) (tc-8) 32 8 64 ks (tk.take 8) (tk.drop 8) wz HL.out.2.1 (by rw[List.length_take,HT72.out];rfl) (by rw[List.length_drop,HT72.out]) (HA.out wz h).2.1 ((HPT.out wz h).take 8) ((HPT.out wz h).drop 8) HL.out.2.2.1 (fun z hz=>HL.out.2.2.2 z (List.mem_of_mem_take hz)) (fun z hz=>HL.out.2.2.2 z (List.mem_of_mem_drop hz)) (by omega) (by decide) (by decide) (by decide) (HA.out wz h).2.2 (Nat.lt_of_lt_of_le HV1.out h.size)
     have HCS:Hid (w4.cell? ⟨w1.heap.size,1,none⟩=some (.int .i64 s)):=c1;have HLT1:Hid (w1.heap.size<w4.heap.size):=block_lt_of_cell c1;have HC1:Hid (w4.cell? ⟨w.heap.size,1,none⟩=some (.slice (some ⟨bt,ot,none⟩) 72 tc)):=o1;have HLT:Hid (w.heap.size<w4.heap.size):=block_lt_of_cell o1;generalize vsR ks (tk.take 8) (tk.drop 8)=V at *;clear HPT HT72 HA HL c1 o1 mt hct;go_wp2_with fail;refine wp_region_any (by kernel_rfl) ?_;refine wpAny_slotsU (fun _ a b=>Below a.heap.size a b) (frame:=(fun (a b c d e f g h i j k l m n o p q r s u v w x y z A B C D E F G H I J K L M N O P Q R S T U V W X Y Z a0 a1 a2:Value)=>fun (t:Nat→Value)=>({ tmps:=List.toArray [a,b,c,d,e,f,g,h,i,j,k,l,m,n,o,p,q,r,s,u,v,w,x,y,z,A,B,C,D,E,F,G,H,I,J,K,L,M,N,O,P,Q,R,S,T,U,V,W,X,Y,Z,t 9,t 0,t 1,t 2,t 3,t 4,t 5,t 6,t 7,t 8,a0,a1,a2],defers:=[] }:Act)) _ _ _ _ _ _ _ _ _ _ _ _ _ _ _ _ _ _ _ _ _ _ _ _ _ _ _ _ _ _ _ _ _ _ _ _ _ _ _ _ _ _ _ _ _ _ _ _ _ _ _ _ _ _)
      (Ext:=fun L u w'=>ApX w4 [] L u w') (Good:=fun i L w' v=>if i=0 then v=.slice (some ⟨bp,op,none⟩) 32 cp else if i=1 then v=.pointer (some ⟨w.heap.size,1,none⟩) else if i=2 then v=.slice (some ⟨bt,ot,none⟩) 72 tc else if i=3 then v=.slice (some ⟨bt,ot,none⟩) 8 tc else if i=4 then v=.pointer (some ⟨w.heap.size,1,none⟩) else if i=5 then v=.slice (some ⟨bt,ot,none⟩) 72 tc else if i=6 then v=.slice (some ⟨bt,ot+8,none⟩) 64 (tc-8:Nat) else if i=7 then v=.bool V else if i=8 then v=.bool (!V) else if i=9 then v=.bool (!V) else True) ?hstab (by kernel_rfl) ?hop ?hdone _ _ ((fun (x0 x1 x2 x3 x4 x5 x6 x7 x8 x9:Value)=>fun (i:Nat)=>if i=0 then x0 else if i=1 then x1 else if i=2 then x2 else if i=3 then x3 else if i=4 then x4 else if i=5 then x5 else if i=6 then x6 else if i=7 then x7 else if i=8 then x8 else if i=9 then x9 else undef) _ _ _ _ _ _ _ _ _ _) _ (by simp) ?ext ?start (by simp)
     case start=>intro i hi h;exact absurd h (by rw[Array.getD_eq_getD_getElem?,Array.getElem?_replicate];split<;>simp)
     case ext=>exact(ApX.start w4 [] _ _ (fun i=>by rw[Array.getD_eq_getD_getElem?,Array.getElem?_replicate];split<;>rfl)).drew
     case hstab=>
      intro j L w9 w' i v hM _ _ h;exact h
     case hop=>
      intro i o L t w' ho hLi hx hdep K hK;have hi:i<10:=(Array.getElem?_eq_some_iff.1 ho).1;obtain rfl|rfl|rfl|rfl|rfl|rfl|rfl|rfl|rfl|rfl:i=0∨i=1∨i=2∨i=3∨i=4∨i=5∨i=6∨i=7∨i=8∨i=9:=by omega
      all_goals(simp at ho;subst ho)
      ·clear hdep;have hK':=hK w' (.slice (some ⟨bp,op,none⟩) 32 cp) (by simp) (hx.step 0 _ (Below.refl _ _) (fun h=>absurd h (by decide))) (Below.refl _ _);clear hK;rw[if_pos (by rfl)];go_simp;simpa[upd] using hK'
      ·clear hdep;have hK':=hK w' (.pointer (some ⟨w.heap.size,1,none⟩)) (by simp) (hx.step 1 _ (Below.refl _ _) (fun h=>absurd h (by decide))) (Below.refl _ _);clear hK;rw[if_pos (by rfl)];go_simp;simpa[upd] using hK'
      ·have d1:t 1=.pointer (some ⟨w.heap.size,1,none⟩):=by simpa using(hdep ⟨1,.data⟩ (by simp) rfl).2
       clear hdep;have cc:w'.cell? ⟨w.heap.size,1,none⟩=some (.slice (some ⟨bt,ot,none⟩) 72 tc):=by rw[hx.below.cell (p:=⟨w.heap.size,1,none⟩) HLT.out];exact HC1.out
       have hK':=hK w' (.slice (some ⟨bt,ot,none⟩) 72 tc) (by simp) (hx.step 2 _ (Below.refl _ _) (fun h=>absurd h (by decide))) (Below.refl _ _);clear hK;rw[if_pos (by rfl)];go_simp;simpa[upd,d1] using hK'
      ·have d2:t 2=.slice (some ⟨bt,ot,none⟩) 72 tc:=by simpa using(hdep ⟨2,.data⟩ (by simp) rfl).2
       clear hdep;have h8:(8:Int)≤tc:=HT8.out.1;have hK':=hK w' (.slice (some ⟨bt,ot,none⟩) 8 tc) (by simp) (hx.step 3 _ (Below.refl _ _) (fun h=>absurd h (by decide))) (Below.refl _ _);clear hK;rw[if_pos (by rfl)];go_simp;simpa[upd,d2] using hK'
      ·clear hdep;have hK':=hK w' (.pointer (some ⟨w.heap.size,1,none⟩)) (by simp) (hx.step 4 _ (Below.refl _ _) (fun h=>absurd h (by decide))) (Below.refl _ _);clear hK;rw[if_pos (by rfl)];go_simp;simpa[upd] using hK'
      ·have d4:t 4=.pointer (some ⟨w.heap.size,1,none⟩):=by simpa using(hdep ⟨4,.data⟩ (by simp) rfl).2
       clear hdep;have cc:w'.cell? ⟨w.heap.size,1,none⟩=some (.slice (some ⟨bt,ot,none⟩) 72 tc):=by rw[hx.below.cell (p:=⟨w.heap.size,1,none⟩) HLT.out];exact HC1.out
       have hK':=hK w' (.slice (some ⟨bt,ot,none⟩) 72 tc) (by simp) (hx.step 5 _ (Below.refl _ _) (fun h=>absurd h (by decide))) (Below.refl _ _);clear hK;rw[if_pos (by rfl)];go_simp;simpa[upd,d4] using hK'
      ·have d5:t 5=.slice (some ⟨bt,ot,none⟩) 72 tc:=by simpa using(hdep ⟨5,.data⟩ (by simp) rfl).2
       clear hdep;have h8:(8:Int)≤tc:=HT8.out.1;have h72:(72:Int)≤tc:=HT8.out.2.1;have hne:¬ (tc=8):=HT8.out.2.2;have hK':=hK w' (.slice (some ⟨bt,ot+8,none⟩) 64 (tc-8:Nat)) (by simp) (hx.step 6 _ (Below.refl _ _) (fun h=>absurd h (by decide))) (Below.refl _ _);clear hK;rw[if_pos (by rfl)];go_simp;simpa[upd,d5] using hK'
      ·have d0:t 0=.slice (some ⟨bp,op,none⟩) 32 cp:=by simpa using(hdep ⟨0,.data⟩ (by simp) rfl).2
       have d3:t 3=.slice (some ⟨bt,ot,none⟩) 8 tc:=by simpa using(hdep ⟨3,.data⟩ (by simp) rfl).2
       have d6:t 6=.slice (some ⟨bt,ot+8,none⟩) 64 (tc-8:Nat):=by simpa using(hdep ⟨6,.data⟩ (by simp) rfl).2
       clear hdep;have A:=HVS.out w' (HB4.out.trans (hx.below.mono HB4.out.size));have hK':∀ ww,Below w'.heap.size w' ww→K _ ww:=fun ww hb=>hK ww (.bool V) (by simp) (hx.step 7 _ hb (fun h=>absurd h (by decide))) hb
       clear hK;rw[if_pos (by rfl)];go_simp;try simp only[d0,d3,d6]
       refine A.mono ?_;rintro e w9 ⟨rfl,hb9⟩;have hK2:=hK' w9 hb9;clear hK' A hb9;go_simp;simpa[upd,d0,d3,d6] using hK2
      ·have d7:t 7=.bool V:=by simpa using(hdep ⟨7,.data⟩ (by simp) rfl).2
       clear hdep;have hK':=hK w' (.bool (!V)) (by simp) (hx.step 8 _ (Below.refl _ _) (fun h=>absurd h (by decide))) (Below.refl _ _);clear hK;rw[if_pos (by rfl)];go_simp;simpa[upd,d7] using hK'
      ·have d8:t 8=.bool (!V):=by simpa using(hdep ⟨8,.data⟩ (by simp) rfl).2
       clear hdep;have hK':=hK w' (.bool (!V)) (by simp) (hx.step 9 _ (Below.refl _ _) (fun h=>absurd h (by decide))) (Below.refl _ _);clear hK;rw[if_pos (by rfl)];go_simp;simpa[upd,d8] using hK'
     case hdone=>
      intro L t w5 hx hg;have e9:t 9=.bool (!V):=by simpa using hg 9 (by decide)
      have HB5:Hid (Below w.heap.size w w5):=HB4.out.trans (hx.below.mono HB4.out.size);have cs5:w5.cell? ⟨w1.heap.size,1,none⟩=some (.int .i64 s):=by rw[hx.below.cell (p:=⟨w1.heap.size,1,none⟩) HLT1.out];exact HCS.out
      clear hg hx;simp only[e9];clear e9;cases V with
      |true=>
       have HF:Hid (tapC D U ks tk now=1):=HTV.out;clear HTV;go_wp2
       go_ret2
       exact⟨_,_,rfl,HB5.out,.inl ⟨HF.out,by rw[HSV.out];rfl,rfl⟩⟩
      |false=>
       have HF:Hid (tapC D U ks tk now=7):=HTV.out;clear HTV cs5;go_wp2
       go_ret2
       exact⟨_,_,rfl,HB5.out,.inr ⟨by rw[HF.out];decide,by rw[HF.out];rfl⟩⟩
end Go.Proofs.YtjdhhgaelgemcaaGreatDoor
