import Derived.Test.YthmeoilbmfdhfaaGreatCgA
import Derived.Deep.MidRow
import Derived.Test.YthmeoilbmfdhfaaGreatMAppE
import Derived.Defers
import Derived.Recover
import Derived.WalkLawsBesides
namespace Go.Proofs.YthmeoilbmfdhfaaGreat
open Go.ChangeShapes Go.WideShapes Go.ChangeAt Go.RowKit
set_option linter.unusedVariables false
theorem mid_row {w:World} {b:Nat} {C:Array Value} {t:TypeId} {fr:Nat×Nat} (h:w.heap[b]?=some (.cells C t fr)) (o:Nat) (cs:List Value) (hc:(C.toList.drop o).take cs.length=cs):w.rangeAt b o cs:=fun j v hj=>by
 rw[cell_of_row w b (o+j) _ _ _ h,←Array.getElem?_toList,←List.getElem?_drop,←List.getElem?_take_of_lt (List.getElem?_eq_some_iff.1 hj).1,hc];exact hj
section
variable {lo lo':Nat} {w w':World} {v vd vk vi:Value} {zs ks D U T:List Int} {f gn tl k:Int} {d:Bool} {r:ImR} {C:Array Value} {nT:Nat}
theorem SNY.dn (h:SNY lo w v gn tl D U) (hl:lo'≤lo):SNY lo' w v gn tl D U:=by obtain⟨bD,mD,dD,bU,mU,dU,e,h⟩:=h;exact⟨bD,mD,dD,bU,mU,dU,e,h.lo hl⟩
theorem STY.dn (h:STY lo w v D U k T nT) (hl:lo'≤lo):STY lo' w v D U k T nT:=by obtain⟨bD,mD,dD,bU,mU,dU,bT,dT,e,h⟩:=h;exact⟨bD,mD,dD,bU,mU,dU,bT,dT,e,h.lo hl⟩
theorem SNY.fresh {w0:World} (h:SNY w0.heap.size w v gn tl D U):FreshH w0 w v:=by
 obtain⟨bD,mD,dD,bU,mU,dU,rfl,h⟩:=h;intro k hk;obtain⟨x,hx,ad,hA,rfl⟩:=has_agg.1 hk;simp at hx;rcases hx with rfl|rfl|rfl|rfl
 ·cases hA
 ·cases hA
 ·exact h.ld ad hA
 ·exact h.lu ad hA
theorem STY.fresh {w0:World} (h:STY w0.heap.size w v D U k T nT):FreshH w0 w v:=by
 obtain⟨bD,mD,dD,bU,mU,dU,bT,dT,rfl,h⟩:=h;intro k hk;obtain⟨x,hx,ad,hA,rfl⟩:=has_agg.1 hk;simp at hx;rcases hx with rfl|rfl|rfl|rfl
 ·exact h.ld ad hA
 ·exact h.lu ad hA
 ·cases hA
 ·exact h.lt ad hA
theorem ImY.dn (h:ImY lo w v r) (hl:lo'≤lo):ImY lo' w v r:=by
 obtain⟨aSD,nSD,cSD,aSU,nSU,cSU,aF,mF,cF,aD,nD,cD,aU,nU,cU,aT,cT,b1,b2,e,g,h,h3⟩:=h;exact⟨aSD,nSD,cSD,aSU,nSU,cSU,aF,mF,cF,aD,nD,cD,aU,nU,cU,aT,cT,b1,b2,e,g.low hl,h,h3⟩
theorem ImY.fresh {w0:World} (h:ImY w0.heap.size w v r):FreshH w0 w v:=by
 obtain⟨aSD,nSD,cSD,aSU,nSU,cSU,aF,mF,cF,aD,nD,cD,aU,nU,cU,aT,cT,b1,b2,rfl,g,h2⟩:=h;obtain⟨l1,l2,l3,l4,l5,l6⟩:=g.l6;intro k hk;obtain⟨x,hx,ad,hA,rfl⟩:=has_agg.1 hk;simp at hx;rcases hx with rfl|rfl|rfl|rfl|rfl|rfl|rfl|rfl|rfl|rfl|rfl
 all_goals first
  |exact l1 ad hA
  |exact l2 ad hA
  |exact l3 ad hA
  |exact l4 ad hA
  |exact l5 ad hA
  |exact l6 ad hA
  |cases hA
theorem imY_of {bSD bSU bF bD bU bT:Option Addr} {mSD dSD mSU dSU mF dF mD dD mU dU dT:Nat} (s1:S3 lo w bSD bSU none mSD mSU 0 r.sD r.sU []) (f1:FO lo w (.slice bF mF dF) r.F mF) (s2:S3 lo w bD bU bT mD mU r.n r.D r.U r.T)
  (a1:ApVH (.agg #[.int .u32 r.g,.int .u32 r.t,.slice bSD mSD dSD,.slice bSU mSU dSU]) (.slice bF mF dF)) (a2:ApVH (.agg #[.int .u32 r.g,.int .u32 r.t,.slice bSD mSD dSD,.slice bSU mSU dSU]) (.agg #[.slice bD mD dD,.slice bU mU dU,.int .i64 r.k,.slice bT r.n dT])) (a3:ApVH (.slice bF mF dF) (.agg #[.slice bD mD dD,.slice bU mU dU,.int .i64 r.k,.slice bT r.n dT])) :
  ImY lo w (.agg #[.bool r.ok,.int .u32 r.g,.int .u32 r.t,.slice bSD mSD dSD,.slice bSU mSU dSU,.slice bF mF dF,.slice bD mD dD,.slice bU mU dU,.int .i64 r.k,.slice bT r.n dT,.int .u32 r.nx]) r:=by
 have fl:=f1.len;obtain⟨aF,cF,e,fA,fc,fL⟩:=f1.form;cases e;refine⟨bSD,mSD,dSD,bSU,mSU,dSU,bF,mF,dF,bD,mD,dD,bU,mU,dU,bT,dT,0,0,rfl,⟨s1.d.open_ s1.nd,s1.u.open_ s1.nu,f1.open_,s2.d.open_ s2.nd,s2.u.open_ s2.nu,s2.t.open_ s2.nt,s1.ld,s1.lu,fL,s2.ld,s2.lu,s2.lt,s1.du,s2.du,s2.dt,s2.ut,fun ad e=>?_,fun ad e=>?_⟩,⟨s1.d.at_,s1.u.at_,fA,s2.d.at_,s2.u.at_,s2.t.at_,s1.nd,s1.nu,fl,s2.nd,s2.nu,s2.nt⟩,fc⟩
 ·have q:Value.has (.agg #[.int .u32 r.g,.int .u32 r.t,.slice bSD mSD dSD,.slice bSU mSU dSU]) ad.block:=by
   rcases e with e|e
   ·exact has_slice 2 rfl e
   ·exact has_slice 3 rfl e
  exact⟨fun x hx h=>a1 _ q (.inl ⟨x,hx,h.symm⟩),fun x hx h=>a2 _ q (by rw[h];exact has_slice 0 rfl hx),fun x hx h=>a2 _ q (by rw[h];exact has_slice 1 rfl hx),fun x hx h=>a2 _ q (by rw[h];exact has_slice 3 rfl hx)⟩
 ·have q:Value.has (.slice bF mF dF) ad.block:=.inl ⟨ad,e,rfl⟩;exact⟨fun x hx h=>a3 _ q (by rw[h];exact has_slice 0 rfl hx),fun x hx h=>a3 _ q (by rw[h];exact has_slice 1 rfl hx),fun x hx h=>a3 _ q (by rw[h];exact has_slice 3 rfl hx)⟩
def DvN (lo:Nat) (w:World) (v:Value) (zs:List Int) (f:Int) (d:Bool):Prop:=∃ dv,v=.agg #[dv,.slice none 0 0,.int .i64 f,.bool d]∧OwnN w lo dv zs
theorem DvN.below (h:DvN lo w v zs f d) (b:Below w.heap.size w w'):DvN lo w' v zs f d:=by obtain⟨dv,e,h⟩:=h;exact⟨dv,e,h.grow b⟩
theorem DvN.dn (h:DvN lo w v zs f d) (hl:lo'≤lo):DvN lo' w v zs f d:=by obtain⟨dv,e,h⟩:=h;exact⟨dv,e,h.mono hl⟩
theorem DvN.dvm (h:DvN lo w v zs f d):DvM lo w v zs f d:=by
 obtain⟨dv,rfl,h⟩:=h;obtain⟨ka,kc,rfl,q⟩:=h.km;refine⟨ka,kc,none,0,rfl,?_,q,fun _ e=>(by cases e)⟩;rcases h with⟨e,rfl⟩|h
 ·cases e;exact Nat.le_refl _
 ·obtain⟨g,c,e,q1,q2,q3,q4,q5⟩:=h.at_;cases e;exact q3
def GPn (lo:Nat) (w:World) (C:Array Value) (zs ks:List Int) (f:Int) (d:Bool) (r:ImR):Prop:=GP lo w C zs ks f d r∧C[1]?=some (.slice none 0 0)∧∃ dv,C[0]?=some dv∧OwnN w lo dv zs
def GPnv (lo:Nat) (w:World) (v:Value) (zs ks:List Int) (f:Int) (d:Bool) (r:ImR):Prop:=∃ C,v=.agg C∧GPn lo w C zs ks f d r
theorem GPn.keep (h:GPn lo w C zs ks f d r) (hs:w.heap.size≤w'.heap.size) (hb:∀ k,lo≤k→k<w.heap.size→w'.heap[k]?=w.heap[k]?):GPn lo w' C zs ks f d r:=by
 obtain⟨h1,h2,dv,h3,h4⟩:=h;exact⟨h1.keep hs hb,h2,dv,h3,h4.keep fun k e=>hb k (h4.lt k e).1 (h4.lt k e).2.1⟩
theorem GPn.below (h:GPn lo w C zs ks f d r) (b:Below w.heap.size w w'):GPn lo w' C zs ks f d r:=h.keep b.size (fun k _ hk=>b.block k hk)
theorem GPn.mono (h:GPn lo w C zs ks f d r) (hl:lo'≤lo):GPn lo' w C zs ks f d r:=by
 obtain⟨h1,h2,dv,h3,h4⟩:=h;exact⟨h1.mono hl,h2,dv,h3,h4.mono hl⟩
theorem GPnv.below (h:GPnv lo w v zs ks f d r) (b:Below w.heap.size w w'):GPnv lo w' v zs ks f d r:=by obtain⟨C,e,h⟩:=h;exact⟨C,e,h.below b⟩
theorem gpn_make (h1:DvN lo w vd zs f d) (h2:KM lo w vk ks) (h3:ImY lo w vi r) (a1:ApVH vd vk) (a2:ApVH vd vi) (a3:ApVH vk vi) :
  ∃ xa xc ya yc bSD mSD dSD bSU mSU dSU bF mG dF bD mD dD bU mU dU bT dT,vd=.agg #[.slice xa zs.length xc,.slice none 0 0,.int .i64 f,.bool d]∧vk=.slice ya ks.length yc∧vi=.agg #[.bool r.ok,.int .u32 r.g,.int .u32 r.t,.slice bSD mSD dSD,.slice bSU mSU dSU,.slice bF mG dF,.slice bD mD dD,.slice bU mU dU,.int .i64 r.k,.slice bT r.n dT,.int .u32 r.nx]∧GPn lo w #[.slice xa zs.length xc,.slice none 0 0,.int .i64 f,.bool d,.slice ya ks.length yc,.bool r.ok,.int .u32 r.g,.int .u32 r.t,.slice bSD mSD dSD,.slice bSU mSU dSU,.slice bF mG dF,.slice bD mD dD,.slice bU mU dU,.int .i64 r.k,.slice bT r.n dT,.int .u32 r.nx] zs ks f d r:=by
 obtain⟨da,dc,ca,cc,ka,kc,aSD,nSD,cSD,aSU,nSU,cSU,aF,mF,cF,aD,nD,cD,aU,nU,cU,aT,cT,e1,e2,e3,g⟩:=gp_make h1.dvm h2 h3 a1 a2 a3;obtain⟨dv,e,o⟩:=h1;rw[e] at e1;injection e1 with e1
 simp at e1;obtain⟨rfl,⟨rfl,rfl⟩⟩:=e1;exact⟨da,dc,ka,kc,aSD,nSD,cSD,aSU,nSU,cSU,aF,mF,cF,aD,nD,cD,aU,nU,cU,aT,cT,e,e2,e3,g,rfl,_,rfl,o⟩
end
set_option maxRecDepth 100000 in
set_option maxHeartbeats 4000000 in
theorem cpIm_any (v:Value) (r:ImR) (w:World) (h:ImW w v r) (hb:ImLe r) :
  Calls Tryz.prog 163 #[v] w fun e w'=>∃ C,e=.returned (.agg C)∧ImY w.heap.size w' (.agg C) r∧Below w.heap.size w w':=by
 obtain⟨aSD,nSD,cSD,aSU,nSU,cSU,aF,mF,cF,aD,nD,cD,aU,nU,cU,aT,cT,rfl,A1,A2,A3,A4,A5,A6,e1,e2,e3,e4,e5,e6⟩:=h;obtain⟨l1,l2,l3,l4,l5,l6⟩:=hb;have HCS:=hid_ofV (fun ww (b:Below w.heap.size w ww)=>cpSn_any r.g r.t aSD aSU nSD cSD nSU cSU r.sD r.sU ww e1 e2 (by omega) (by omega) (A1.below b) (A2.below b));have HCF:=hid_ofV (fun ww (b:Below w.heap.size w ww)=>clnF_any aF mF cF r.F ww e3 (by omega) (A3.below b));have HCT:=hid_ofV (fun ww (b:Below w.heap.size w ww)=>cpSt_any aD aU aT nD cD nU cU r.n cT r.D r.U r.k r.T ww e4 e5 e6 (by omega) (by omega) (by omega) (A4.below b) (A5.below b) (A6.below b));have HSN:Hid ((Tryz.prog.info? 30).map (·.size)=some 4):=by show _=_;kernel_rfl
 have HST:Hid ((Tryz.prog.info? 34).map (·.size)=some 4):=by show _=_;kernel_rfl
 have HSI:Hid ((Tryz.prog.info? 36).map (·.size)=some 11):=by show _=_;kernel_rfl
 have HE1:Hid (BE w 36 #[.bool r.ok,.int .u32 r.g,.int .u32 r.t,.slice aSD nSD cSD,.slice aSU nSU cSU,.slice aF mF cF,.slice aD nD cD,.slice aU nU cU,.int .i64 r.k,.slice aT r.n cT,.int .u32 r.nx] #[.bool false,.int .u32 0,.int .u32 0,.slice none 0 0,.slice none 0 0,.slice none 0 0,.slice none 0 0,.slice none 0 0,.int .i64 0,.slice none 0 0,.int .u32 0] ((w.alloc (.cells #[.bool r.ok,.int .u32 r.g,.int .u32 r.t,.slice aSD nSD cSD,.slice aSU nSU cSU,.slice aF mF cF,.slice aD nD cD,.slice aU nU cU,.int .i64 r.k,.slice aT r.n cT,.int .u32 r.nx] 36)).alloc (.cells #[.bool false,.int .u32 0,.int .u32 0,.slice none 0 0,.slice none 0 0,.slice none 0 0,.slice none 0 0,.slice none 0 0,.int .i64 0,.slice none 0 0,.int .u32 0] 36))):=BE.start _ _ _ _;have HL1:Hid (w.heap.size<((w.alloc (.cells #[.bool r.ok,.int .u32 r.g,.int .u32 r.t,.slice aSD nSD cSD,.slice aSU nSU cSU,.slice aF mF cF,.slice aD nD cD,.slice aU nU cU,.int .i64 r.k,.slice aT r.n cT,.int .u32 r.nx] 36)).alloc (.cells #[.bool false,.int .u32 0,.int .u32 0,.slice none 0 0,.slice none 0 0,.slice none 0 0,.slice none 0 0,.slice none 0 0,.int .i64 0,.slice none 0 0,.int .u32 0] 36)).heap.size):=(Array.getElem?_eq_some_iff.1 HE1.out.b0).1;clear A1 A2 A3 A4 A5 A6 e1 e2 e3 e4 e5 e6 l1 l2 l3 l4 l5 l6;go_enter Tryz.func163,Tryz.ntmps163;go_wp2_with fail;generalize ((w.alloc (.cells #[.bool r.ok,.int .u32 r.g,.int .u32 r.t,.slice aSD nSD cSD,.slice aSU nSU cSU,.slice aF mF cF,.slice aD nD cD,.slice aU nU cU,.int .i64 r.k,.slice aT r.n cT,.int .u32 r.nx] 36)).alloc (.cells #[.bool false,.int .u32 0,.int .u32 0,.slice none 0 0,.slice none 0 0,.slice none 0 0,.slice none 0 0,.slice none 0 0,.int .i64 0,.slice none 0 0,.int .u32 0] 36))=w1 at *;refine wp_region_any (by kernel_rfl) ?_;refine wpAny_slotsF 14 (fun _ a b=>Below a.heap.size a b) (frame:=(fun (a b c:Value)=>fun (t:Nat→Value)=>({ tmps:=List.toArray [a,b,c,t 0,t 1,t 2,t 3,t 4,t 5,t 6,t 7,t 8,t 9,t 10,t 11,t 12,t 13],defers:=[] }:Act)) _ _ _)
  (Ext:=fun L u w'=>ApH w1 [4,7,10] L u w') (Good:=fun i L w' v=>if i=0 then v=.pointer (some ⟨w.heap.size,0,none⟩) else if i=1 then v=.bool r.ok else if i=2 then v=.pointer (some ⟨w.heap.size,1,none⟩) else if i=3 then v=.agg #[.int .u32 r.g,.int .u32 r.t,.slice aSD nSD cSD,.slice aSU nSU cSU] else if i=4 then SNY w1.heap.size w' v r.g r.t r.sD r.sU else if i=5 then v=.pointer (some ⟨w.heap.size,5,none⟩) else if i=6 then v=.slice aF mF cF else if i=7 then FO w1.heap.size w' v r.F mF else if i=8 then v=.pointer (some ⟨w.heap.size,6,none⟩) else if i=9 then v=.agg #[.slice aD nD cD,.slice aU nU cU,.int .i64 r.k,.slice aT r.n cT] else if i=10 then STY w1.heap.size w' v r.D r.U r.k r.T r.n else if i=11 then v=.pointer (some ⟨w.heap.size,10,none⟩) else if i=12 then v=.int .u32 r.nx else if i=13 then ImY w1.heap.size w' v r else True) (Fin:=fun _ ww=>∃ C,ww.heap[w.heap.size+1]?=some (.cells C 36 (0,0))∧ImY w.heap.size ww (.agg C) r∧C.size=11∧Below w.heap.size w ww) rfl (by kernel_rfl) ?hstab (by kernel_rfl) ?hop ?hend ?hdone _ _ ((fun (x0 x1 x2 x3 x4 x5 x6 x7 x8 x9 x10 x11 x12 x13:Value)=>fun (i:Nat)=>if i=0 then x0 else if i=1 then x1 else if i=2 then x2 else if i=3 then x3 else if i=4 then x4 else if i=5 then x5 else if i=6 then x6 else if i=7 then x7 else if i=8 then x8 else if i=9 then x9 else if i=10 then x10 else if i=11 then x11 else if i=12 then x12 else if i=13 then x13 else undef) _ _ _ _ _ _ _ _ _ _ _ _ _ _) _ (by simp) ?none ?ext (by simp)
 case none=>intro i;rw[Array.getD_eq_getD_getElem?,Array.getElem?_replicate];split<;>rfl
 case ext=>exact ApH.start w1 [4,7,10] _ _ (fun i=>by rw[Array.getD_eq_getD_getElem?,Array.getElem?_replicate];split<;>rfl) ⟨rfl,rfl,rfl,Nat.le_refl _,fun _ _=>rfl⟩
 case hstab=>
  intro j L w9 w' i v _ hM _ _ h;by_cases h4:j=4
  ·subst h4;simp at h ⊢;exact h.below hM
  by_cases h7:j=7
  ·subst h7;simp at h ⊢;exact h.below hM
  by_cases h10:j=10
  ·subst h10;simp at h ⊢;exact h.below hM
  by_cases h13:j=13
  ·subst h13;simp at h ⊢;exact h.below hM
  simp only[if_neg h4,if_neg h7,if_neg h10,if_neg h13] at h ⊢;exact h
 case hop=>
  intro i o L t w' hi ho hLi hx hdep K hK;have cX:∀ q9:Nat,w'.cell? ⟨w.heap.size,q9,none⟩=(#[.bool r.ok,.int .u32 r.g,.int .u32 r.t,.slice aSD nSD cSD,.slice aSU nSU cSU,.slice aF mF cF,.slice aD nD cD,.slice aU nU cU,.int .i64 r.k,.slice aT r.n cT,.int .u32 r.nx]:Array Value)[q9]?:=fun q9=>by rw[World.cell?_of_block (a:=⟨w.heap.size,q9,none⟩) (w:=w1) (hx.below.block _ HL1.out),cell_of_row w1 w.heap.size q9 _ _ _ HE1.out.b0]
  obtain rfl|rfl|rfl|rfl|rfl|rfl|rfl|rfl|rfl|rfl|rfl|rfl|rfl|rfl:i=0∨i=1∨i=2∨i=3∨i=4∨i=5∨i=6∨i=7∨i=8∨i=9∨i=10∨i=11∨i=12∨i=13:=by omega
  all_goals(simp at ho;subst ho)
  all_goals try(have hK':=hK w' _ rfl (hx.step _ _ (Below.refl _ _) (fun h=>absurd h (by decide))) (Below.refl _ _);clear hK;simp[Region.binds] at hdep;rw[if_pos (by rfl)];go_simp;simpa[upd,hdep] using hK')
  ·have d3:t 3=.agg #[.int .u32 r.g,.int .u32 r.t,.slice aSD nSD cSD,.slice aSU nSU cSU]:=by simpa using(hdep ⟨3,.data⟩ (by simp) rfl).2
   clear hdep;have bw:Below w.heap.size w w':=HE1.out.below.trans (hx.below.mono HE1.out.below.size);have hsz:w1.heap.size≤w'.heap.size:=hx.below.size;have A:=HCS.out w' bw;have hK':∀ ww v,SNY w1.heap.size ww v r.g r.t r.sD r.sU→FreshH w' ww v→Below w'.heap.size w' ww→K _ ww:=fun ww v hv hf hb=>hK ww v (by simpa using hv) (hx.step 4 v hb (fun _=>hf)) hb
   clear hK;rw[if_pos (by rfl)];go_simp;try simp only[d3]
   refine A.mono ?_;rintro e w9 ⟨v9,rfl,h9,hb9⟩;have hK2:=hK' w9 v9 (h9.dn hsz) h9.fresh hb9;clear hK' A h9 hb9;go_simp;simpa[upd,d3] using hK2
  ·have d6:t 6=.slice aF mF cF:=by simpa using(hdep ⟨6,.data⟩ (by simp) rfl).2
   clear hdep;have bw:Below w.heap.size w w':=HE1.out.below.trans (hx.below.mono HE1.out.below.size);have hsz:w1.heap.size≤w'.heap.size:=hx.below.size;have A:=HCF.out w' bw;have hK':∀ ww v,FO w1.heap.size ww v r.F mF→FreshH w' ww v→Below w'.heap.size w' ww→K _ ww:=fun ww v hv hf hb=>hK ww v (by simpa using hv) (hx.step 7 v hb (fun _=>hf)) hb
   clear hK;rw[if_pos (by rfl)];go_simp;try simp only[d6]
   refine A.mono ?_;rintro e w9 ⟨v9,rfl,h9,hb9⟩;have hK2:=hK' w9 v9 (h9.lo hsz) (own_fresh h9) hb9;clear hK' A h9 hb9;go_simp;simpa[upd,d6] using hK2
  ·have d9:t 9=.agg #[.slice aD nD cD,.slice aU nU cU,.int .i64 r.k,.slice aT r.n cT]:=by simpa using(hdep ⟨9,.data⟩ (by simp) rfl).2
   clear hdep;have bw:Below w.heap.size w w':=HE1.out.below.trans (hx.below.mono HE1.out.below.size);have hsz:w1.heap.size≤w'.heap.size:=hx.below.size;have A:=HCT.out w' bw;have hK':∀ ww v,STY w1.heap.size ww v r.D r.U r.k r.T r.n→FreshH w' ww v→Below w'.heap.size w' ww→K _ ww:=fun ww v hv hf hb=>hK ww v (by simpa using hv) (hx.step 10 v hb (fun _=>hf)) hb
   clear hK;rw[if_pos (by rfl)];go_simp;try simp only[d9]
   refine A.mono ?_;rintro e w9 ⟨v9,rfl,h9,hb9⟩;have hK2:=hK' w9 v9 (h9.dn hsz) h9.fresh hb9;clear hK' A h9 hb9;go_simp;simpa[upd,d9] using hK2
  ·have d1:t 1=.bool r.ok:=by simpa using(hdep ⟨1,.data⟩ (by simp) rfl).2
   have l4:L 4=true:=(hdep ⟨4,.data⟩ (by simp) rfl).1;have f4:SNY w1.heap.size w' (t 4) r.g r.t r.sD r.sU:=by simpa using(hdep ⟨4,.data⟩ (by simp) rfl).2
   have l7:L 7=true:=(hdep ⟨7,.data⟩ (by simp) rfl).1;have f7:FO w1.heap.size w' (t 7) r.F mF:=by simpa using(hdep ⟨7,.data⟩ (by simp) rfl).2
   have l10:L 10=true:=(hdep ⟨10,.data⟩ (by simp) rfl).1;have f10:STY w1.heap.size w' (t 10) r.D r.U r.k r.T r.n:=by simpa using(hdep ⟨10,.data⟩ (by simp) rfl).2
   have d12:t 12=.int .u32 r.nx:=by simpa using(hdep ⟨12,.data⟩ (by simp) rfl).2
   clear hdep;have a1:=hx.ap 4 (by decide) 7 (by decide) (by decide) l4 l7;have a2:=hx.ap 4 (by decide) 10 (by decide) (by decide) l4 l10;have a3:=hx.ap 7 (by decide) 10 (by decide) (by decide) l7 l10;obtain⟨bSD,mSD,dSD,bSU,mSU,dSU,e4,s4⟩:=f4;obtain⟨bF,dF,e7,q1,q2,q3⟩:=f7.form;obtain⟨bD,mD,dD,bU,mU,dU,bT,dT,e10,s10⟩:=f10;rw[e4] at a1 a2;rw[e7] at f7 a1 a3;rw[e10] at a2 a3;have hsv:ImY w1.heap.size w' (.agg #[.bool r.ok,.int .u32 r.g,.int .u32 r.t,.slice bSD mSD dSD,.slice bSU mSU dSU,.slice bF mF dF,.slice bD mD dD,.slice bU mU dU,.int .i64 r.k,.slice bT r.n dT,.int .u32 r.nx]) r:=imY_of s4 f7 s10 a1 a2 a3;have hK':=hK w' _ (by simpa using hsv) (hx.step 13 _ (Below.refl _ _) (fun h=>absurd h (by decide))) (Below.refl _ _);clear hK s4 f7 s10 hsv a1 a2 a3 q1 q2 q3;rw[if_pos (by rfl)];go_simp;simpa[upd,d1,d12,e4,e7,e10] using hK'
 case hend=>
  intro o L t w' ho hx hg K hK;simp at ho;subst ho;have f13:ImY w1.heap.size w' (t 13) r:=by simpa using(hg 13 (by decide)).2
  clear hg;obtain⟨aSD,nSD,cSD,aSU,nSU,cSU,aF,mF,cF,aD,nD,cD,aU,nU,cU,aT,cT,b1,b2,e13,s13,s14,s15⟩:=f13;have hrs:=(hx.below.block _ (Array.getElem?_eq_some_iff.1 HE1.out.b1).1).trans HE1.out.b1;have hR:=(Array.getElem?_eq_some_iff.1 HE1.out.b1).1;have hK':∀ ww,Wr (w.heap.size+1) w' ww→ww.heap[w.heap.size+1]?=some (.cells #[.bool r.ok,.int .u32 r.g,.int .u32 r.t,.slice aSD nSD cSD,.slice aSU nSU cSU,.slice aF mF cF,.slice aD nD cD,.slice aU nU cU,.int .i64 r.k,.slice aT r.n cT,.int .u32 r.nx] 36 (0,0))→K _ ww:=fun ww hw hr=>hK ww undef ⟨_,hr,⟨aSD,nSD,cSD,aSU,nSU,cSU,aF,mF,cF,aD,nD,cD,aU,nU,cU,aT,cT,b1,b2,rfl,(s13.keep (Nat.le_of_eq hw.size.symm) (fun k hk _=>hw.block k (by omega))).low (by have:=HE1.out.below.size;omega),s14.keep s13.l6 (Nat.le_of_eq hw.size.symm) (fun k hk _=>hw.block k (by omega)),s15⟩,rfl,(HE1.out.below.trans (hx.below.mono HE1.out.below.size)).trans (hw.below (by omega))⟩
  clear hK s13 s14 s15;rw[if_pos (by rfl)];refine wp_store_row 36 (.tmp 2) (.tmp 16) rfl (w.heap.size+1) #[.bool r.ok,.int .u32 r.g,.int .u32 r.t,.slice aSD nSD cSD,.slice aSU nSU cSU,.slice aF mF cF,.slice aD nD cD,.slice aU nU cU,.int .i64 r.k,.slice aT r.n cT,.int .u32 r.nx] rfl e13 36 _ hrs HSI.out rfl (by simp[Value.oneCell']) ?_;have hK2:=hK' _ (Wr.setRow _ _ _) (setRow_heap _ _ _ _ _ _ hrs);clear hK';simpa[upd,Act.put] using hK2
 case hdone=>
  intro t w9 hf;obtain⟨C,hr,hI,hz,hb9⟩:=hf;have HR9:Hid (w9.heap[w.heap.size+1]?=some (.cells C 36 (0,0))):=hr;have HF:Hid (ImY w.heap.size w9 (.agg C) r∧Below w.heap.size w w9):=⟨hI,hb9⟩
  have HS9:Hid ((Tryz.prog.info? 36).map (·.size)=some C.size):=by show _=_;rw[hz];exact HSI.out
  clear hr hI hz hb9;go_wp2_with fail;exact bodyPost_ret (v:=.agg C) (results_cell_row rfl _ _ (w.heap.size+1) 36 _ (0,0) _ rfl HR9.out Tryz.underlying36 rfl HS9.out) rfl ⟨_,rfl,HF.out.1,HF.out.2⟩
set_option maxRecDepth 100000 in
set_option maxHeartbeats 4000000 in
theorem cpG_any {lo:Nat} (C:Array Value) (zs ks:List Int) (f:Int) (d:Bool) (r:ImR) (w:World) (h:GL lo w C zs ks f d r) (hb:ImLe r) (hz:zs.length≤1048576) (hk:ks.length≤1048576) :
  Calls Tryz.prog 152 #[.agg C] w fun e w'=>∃ C',e=.returned (.agg C')∧GPn w.heap.size w' C' zs ks f d r∧Below w.heap.size w w':=by
 obtain⟨da,dc,ca,cc,ka,kc,aSD,nSD,cSD,aSU,nSU,cSU,aF,mF,cF,aD,nD,cD,aU,nU,cU,aT,cT,rfl,q1,q2,q3,q4,q5⟩:=h;have HCD:Hid (∀ ww,Below w.heap.size w ww→Calls Tryz.prog 109 #[.agg #[.slice da zs.length dc,.slice ca 0 cc,.int .i64 f,.bool d]] ww fun e w'=>∃ v,e=.returned v∧DvN ww.heap.size w' v zs f d∧Below ww.heap.size ww w'):=fun ww b=>(icp2_any (.agg #[.slice da zs.length dc,.slice ca 0 cc,.int .i64 f,.bool d]) zs [] f d ww ⟨da,dc,ca,cc,rfl,q2.1.below b,.inl rfl,q1.1⟩ hz (by simp) (by simp)).mono fun e w' ⟨v,e1,e2,e3,e4⟩=>⟨v,e1,by
  obtain⟨dv,cv,qs,E,e5,e6,_⟩:=e2;obtain⟨dv',e7⟩:=e4 rfl;rw[e7] at e5;injection e5 with e5
  simp at e5;exact⟨dv,by rw[e7,e5.1],e6⟩,e3⟩
 have HCK:=hid_ofV (fun ww (b:Below w.heap.size w ww)=>clone2_any ka ks.length kc ks ww rfl hk (q3.1.below b));have HCI:Hid (∀ ww,Below w.heap.size w ww→Calls Tryz.prog 163 #[.agg #[.bool r.ok,.int .u32 r.g,.int .u32 r.t,.slice aSD nSD cSD,.slice aSU nSU cSU,.slice aF mF cF,.slice aD nD cD,.slice aU nU cU,.int .i64 r.k,.slice aT r.n cT,.int .u32 r.nx]] ww fun e w'=>∃ v,e=.returned v∧ImY ww.heap.size w' v r∧Below ww.heap.size ww w'):=fun ww b=>(cpIm_any (.agg #[.bool r.ok,.int .u32 r.g,.int .u32 r.t,.slice aSD nSD cSD,.slice aSU nSU cSU,.slice aF mF cF,.slice aD nD cD,.slice aU nU cU,.int .i64 r.k,.slice aT r.n cT,.int .u32 r.nx]) r ww ⟨aSD,nSD,cSD,aSU,nSU,cSU,aF,mF,cF,aD,nD,cD,aU,nU,cU,aT,cT,rfl,q4.below b⟩ hb).mono fun e w' ⟨C,h1,h2,h3⟩=>⟨_,h1,h2,h3⟩
 have HSD:Hid ((Tryz.prog.info? 40).map (·.size)=some 4):=by show _=_;kernel_rfl
 have HSI:Hid ((Tryz.prog.info? 36).map (·.size)=some 11):=by show _=_;kernel_rfl
 have HSG:Hid ((Tryz.prog.info? 48).map (·.size)=some 16):=by show _=_;kernel_rfl
 have HE1:Hid (BE w 48 #[.slice da zs.length dc,.slice ca 0 cc,.int .i64 f,.bool d,.slice ka ks.length kc,.bool r.ok,.int .u32 r.g,.int .u32 r.t,.slice aSD nSD cSD,.slice aSU nSU cSU,.slice aF mF cF,.slice aD nD cD,.slice aU nU cU,.int .i64 r.k,.slice aT r.n cT,.int .u32 r.nx] #[.slice none 0 0,.slice none 0 0,.int .i64 0,.bool false,.slice none 0 0,.bool false,.int .u32 0,.int .u32 0,.slice none 0 0,.slice none 0 0,.slice none 0 0,.slice none 0 0,.slice none 0 0,.int .i64 0,.slice none 0 0,.int .u32 0] ((w.alloc (.cells #[.slice da zs.length dc,.slice ca 0 cc,.int .i64 f,.bool d,.slice ka ks.length kc,.bool r.ok,.int .u32 r.g,.int .u32 r.t,.slice aSD nSD cSD,.slice aSU nSU cSU,.slice aF mF cF,.slice aD nD cD,.slice aU nU cU,.int .i64 r.k,.slice aT r.n cT,.int .u32 r.nx] 48)).alloc (.cells #[.slice none 0 0,.slice none 0 0,.int .i64 0,.bool false,.slice none 0 0,.bool false,.int .u32 0,.int .u32 0,.slice none 0 0,.slice none 0 0,.slice none 0 0,.slice none 0 0,.slice none 0 0,.int .i64 0,.slice none 0 0,.int .u32 0] 48))):=BE.start _ _ _ _;have HL1:Hid (w.heap.size<((w.alloc (.cells #[.slice da zs.length dc,.slice ca 0 cc,.int .i64 f,.bool d,.slice ka ks.length kc,.bool r.ok,.int .u32 r.g,.int .u32 r.t,.slice aSD nSD cSD,.slice aSU nSU cSU,.slice aF mF cF,.slice aD nD cD,.slice aU nU cU,.int .i64 r.k,.slice aT r.n cT,.int .u32 r.nx] 48)).alloc (.cells #[.slice none 0 0,.slice none 0 0,.int .i64 0,.bool false,.slice none 0 0,.bool false,.int .u32 0,.int .u32 0,.slice none 0 0,.slice none 0 0,.slice none 0 0,.slice none 0 0,.slice none 0 0,.int .i64 0,.slice none 0 0,.int .u32 0] 48)).heap.size):=(Array.getElem?_eq_some_iff.1 HE1.out.b0).1;clear q1 q2 q3 q4 q5 hb hz hk;go_enter Tryz.func152,Tryz.ntmps152;go_wp2_with fail;generalize ((w.alloc (.cells #[.slice da zs.length dc,.slice ca 0 cc,.int .i64 f,.bool d,.slice ka ks.length kc,.bool r.ok,.int .u32 r.g,.int .u32 r.t,.slice aSD nSD cSD,.slice aSU nSU cSU,.slice aF mF cF,.slice aD nD cD,.slice aU nU cU,.int .i64 r.k,.slice aT r.n cT,.int .u32 r.nx] 48)).alloc (.cells #[.slice none 0 0,.slice none 0 0,.int .i64 0,.bool false,.slice none 0 0,.bool false,.int .u32 0,.int .u32 0,.slice none 0 0,.slice none 0 0,.slice none 0 0,.slice none 0 0,.slice none 0 0,.int .i64 0,.slice none 0 0,.int .u32 0] 48))=w1 at *;refine wp_region_any (by kernel_rfl) ?_;refine wpAny_slotsF 10 (fun _ a b=>Below a.heap.size a b) (frame:=(fun (a b c:Value)=>fun (t:Nat→Value)=>({ tmps:=List.toArray [a,b,c,t 0,t 1,t 2,t 3,t 4,t 5,t 6,t 7,t 8,t 9],defers:=[] }:Act)) _ _ _)
  (Ext:=fun L u w'=>ApH w1 [2,5,8] L u w') (Good:=fun i L w' v=>if i=0 then v=.pointer (some ⟨w.heap.size,0,none⟩) else if i=1 then v=.agg #[.slice da zs.length dc,.slice ca 0 cc,.int .i64 f,.bool d] else if i=2 then DvN w1.heap.size w' v zs f d else if i=3 then v=.pointer (some ⟨w.heap.size,4,none⟩) else if i=4 then v=.slice ka ks.length kc else if i=5 then KM w1.heap.size w' v ks else if i=6 then v=.pointer (some ⟨w.heap.size,5,none⟩) else if i=7 then v=.agg #[.bool r.ok,.int .u32 r.g,.int .u32 r.t,.slice aSD nSD cSD,.slice aSU nSU cSU,.slice aF mF cF,.slice aD nD cD,.slice aU nU cU,.int .i64 r.k,.slice aT r.n cT,.int .u32 r.nx] else if i=8 then ImY w1.heap.size w' v r else if i=9 then GPnv w1.heap.size w' v zs ks f d r else True) (Fin:=fun _ ww=>∃ C,ww.heap[w.heap.size+1]?=some (.cells C 48 (0,0))∧GPn w.heap.size ww C zs ks f d r∧C.size=16∧Below w.heap.size w ww) rfl (by kernel_rfl) ?hstab (by kernel_rfl) ?hop ?hend ?hdone _ _ ((fun (x0 x1 x2 x3 x4 x5 x6 x7 x8 x9:Value)=>fun (i:Nat)=>if i=0 then x0 else if i=1 then x1 else if i=2 then x2 else if i=3 then x3 else if i=4 then x4 else if i=5 then x5 else if i=6 then x6 else if i=7 then x7 else if i=8 then x8 else if i=9 then x9 else undef) _ _ _ _ _ _ _ _ _ _) _ (by simp) ?none ?ext (by simp)
 case none=>intro i;rw[Array.getD_eq_getD_getElem?,Array.getElem?_replicate];split<;>rfl
 case ext=>exact ApH.start w1 [2,5,8] _ _ (fun i=>by rw[Array.getD_eq_getD_getElem?,Array.getElem?_replicate];split<;>rfl) ⟨rfl,rfl,rfl,Nat.le_refl _,fun _ _=>rfl⟩
 case hstab=>
  intro j L w9 w' i v _ hM _ _ h;by_cases h2:j=2
  ·subst h2;simp at h ⊢;exact h.below hM
  by_cases h5:j=5
  ·subst h5;simp at h ⊢;exact h.below hM
  by_cases h8:j=8
  ·subst h8;simp at h ⊢;exact h.below hM
  by_cases h9:j=9
  ·subst h9;simp at h ⊢;exact h.below hM
  simp only[if_neg h2,if_neg h5,if_neg h8,if_neg h9] at h ⊢;exact h
 case hop=>
  intro i o L t w' hi ho hLi hx hdep K hK;have cX:∀ q9:Nat,w'.cell? ⟨w.heap.size,q9,none⟩=(#[.slice da zs.length dc,.slice ca 0 cc,.int .i64 f,.bool d,.slice ka ks.length kc,.bool r.ok,.int .u32 r.g,.int .u32 r.t,.slice aSD nSD cSD,.slice aSU nSU cSU,.slice aF mF cF,.slice aD nD cD,.slice aU nU cU,.int .i64 r.k,.slice aT r.n cT,.int .u32 r.nx]:Array Value)[q9]?:=fun q9=>by rw[World.cell?_of_block (a:=⟨w.heap.size,q9,none⟩) (w:=w1) (hx.below.block _ HL1.out),cell_of_row w1 w.heap.size q9 _ _ _ HE1.out.b0]
  obtain rfl|rfl|rfl|rfl|rfl|rfl|rfl|rfl|rfl|rfl:i=0∨i=1∨i=2∨i=3∨i=4∨i=5∨i=6∨i=7∨i=8∨i=9:=by omega
  all_goals(simp at ho;subst ho)
  all_goals try(have hK':=hK w' _ rfl (hx.step _ _ (Below.refl _ _) (fun h=>absurd h (by decide))) (Below.refl _ _);clear hK;simp[Region.binds] at hdep;rw[if_pos (by rfl)];go_simp;simpa[upd,hdep] using hK')
  ·have d1:t 1=.agg #[.slice da zs.length dc,.slice ca 0 cc,.int .i64 f,.bool d]:=by simpa using(hdep ⟨1,.data⟩ (by simp) rfl).2
   clear hdep;have bw:Below w.heap.size w w':=HE1.out.below.trans (hx.below.mono HE1.out.below.size);have hsz:w1.heap.size≤w'.heap.size:=hx.below.size;have A:=HCD.out w' bw;have hK':∀ ww v,DvN w1.heap.size ww v zs f d→FreshH w' ww v→Below w'.heap.size w' ww→K _ ww:=fun ww v hv hf hb=>hK ww v (by simpa using hv) (hx.step 2 v hb (fun _=>hf)) hb
   clear hK;rw[if_pos (by rfl)];go_simp;try simp only[d1]
   refine A.mono ?_;rintro e w9 ⟨v9,rfl,h9,hb9⟩;have hK2:=hK' w9 v9 (h9.dn hsz) h9.dvm.fresh hb9;clear hK' A h9 hb9;go_simp;simpa[upd,d1] using hK2
  ·have d4:t 4=.slice ka ks.length kc:=by simpa using(hdep ⟨4,.data⟩ (by simp) rfl).2
   clear hdep;have bw:Below w.heap.size w w':=HE1.out.below.trans (hx.below.mono HE1.out.below.size);have hsz:w1.heap.size≤w'.heap.size:=hx.below.size;have A:=HCK.out w' bw;have hK':∀ ww v,KM w1.heap.size ww v ks→FreshH w' ww v→Below w'.heap.size w' ww→K _ ww:=fun ww v hv hf hb=>hK ww v (by simpa using hv) (hx.step 5 v hb (fun _=>hf)) hb
   clear hK;rw[if_pos (by rfl)];go_simp;try simp only[d4]
   refine A.mono ?_;rintro e w9 ⟨v9,rfl,h9,hb9⟩;have hK2:=hK' w9 v9 (h9.km.mono hsz) h9.km.fresh hb9;clear hK' A h9 hb9;go_simp;simpa[upd,d4] using hK2
  ·have d7:t 7=.agg #[.bool r.ok,.int .u32 r.g,.int .u32 r.t,.slice aSD nSD cSD,.slice aSU nSU cSU,.slice aF mF cF,.slice aD nD cD,.slice aU nU cU,.int .i64 r.k,.slice aT r.n cT,.int .u32 r.nx]:=by simpa using(hdep ⟨7,.data⟩ (by simp) rfl).2
   clear hdep;have bw:Below w.heap.size w w':=HE1.out.below.trans (hx.below.mono HE1.out.below.size);have hsz:w1.heap.size≤w'.heap.size:=hx.below.size;have A:=HCI.out w' bw;have hK':∀ ww v,ImY w1.heap.size ww v r→FreshH w' ww v→Below w'.heap.size w' ww→K _ ww:=fun ww v hv hf hb=>hK ww v (by simpa using hv) (hx.step 8 v hb (fun _=>hf)) hb
   clear hK;rw[if_pos (by rfl)];go_simp;try simp only[d7]
   refine A.mono ?_;rintro e w9 ⟨v9,rfl,h9,hb9⟩;have hK2:=hK' w9 v9 (h9.dn hsz) h9.fresh hb9;clear hK' A h9 hb9;go_simp;simpa[upd,d7] using hK2
  ·have l2:L 2=true:=(hdep ⟨2,.data⟩ (by simp) rfl).1;have f2:DvN w1.heap.size w' (t 2) zs f d:=by simpa using(hdep ⟨2,.data⟩ (by simp) rfl).2
   have l5:L 5=true:=(hdep ⟨5,.data⟩ (by simp) rfl).1;have f5:KM w1.heap.size w' (t 5) ks:=by simpa using(hdep ⟨5,.data⟩ (by simp) rfl).2
   have l8:L 8=true:=(hdep ⟨8,.data⟩ (by simp) rfl).1;have f8:ImY w1.heap.size w' (t 8) r:=by simpa using(hdep ⟨8,.data⟩ (by simp) rfl).2
   clear hdep;have a1:=hx.ap 2 (by decide) 5 (by decide) (by decide) l2 l5;have a2:=hx.ap 2 (by decide) 8 (by decide) (by decide) l2 l8;have a3:=hx.ap 5 (by decide) 8 (by decide) (by decide) l5 l8;obtain⟨xa,xc,ya,yc,bSD,mSD,dSD,bSU,mSU,dSU,bF,mG,dF,bD,mD,dD,bU,mU,dU,bT,dT,e2,e5,e8,hg⟩:=gpn_make f2 f5 f8 a1 a2 a3;have hsv:GPnv w1.heap.size w' (.agg #[.slice xa zs.length xc,.slice none 0 0,.int .i64 f,.bool d,.slice ya ks.length yc,.bool r.ok,.int .u32 r.g,.int .u32 r.t,.slice bSD mSD dSD,.slice bSU mSU dSU,.slice bF mG dF,.slice bD mD dD,.slice bU mU dU,.int .i64 r.k,.slice bT r.n dT,.int .u32 r.nx]) zs ks f d r:=⟨_,rfl,hg⟩
   have hK':=hK w' _ (by simpa using hsv) (hx.step 9 _ (Below.refl _ _) (fun h=>absurd h (by decide))) (Below.refl _ _);clear hK hg hsv a1 a2 a3 f2 f5 f8;rw[if_pos (by rfl)];go_simp;simpa[upd,e2,e5,e8] using hK'
 case hend=>
  intro o L t w' ho hx hg K hK;simp at ho;subst ho;have f9:GPnv w1.heap.size w' (t 9) zs ks f d r:=by simpa using(hg 9 (by decide)).2
  clear hg;obtain⟨C,e9,j0⟩:=f9;have hrs:=(hx.below.block _ (Array.getElem?_eq_some_iff.1 HE1.out.b1).1).trans HE1.out.b1;have hR:=(Array.getElem?_eq_some_iff.1 HE1.out.b1).1;have hz:=j0.1.gl.row;have hK':∀ ww,Wr (w.heap.size+1) w' ww→ww.heap[w.heap.size+1]?=some (.cells C 48 (0,0))→K _ ww:=fun ww hw hr=>hK ww undef ⟨C,hr,(j0.keep (Nat.le_of_eq hw.size.symm) (fun k hk _=>hw.block k (by omega))).mono (by have:=HE1.out.below.size;omega),hz.1,(HE1.out.below.trans (hx.below.mono HE1.out.below.size)).trans (hw.below (by omega))⟩
  clear hK j0;rw[if_pos (by rfl)];refine wp_store_row 48 (.tmp 2) (.tmp 12) rfl (w.heap.size+1) C rfl e9 48 _ hrs (by rw[hz.1];exact HSG.out) (by rw[hz.1];rfl) hz.2 ?_;have hK2:=hK' _ (Wr.setRow _ _ _) (setRow_heap _ _ _ _ _ _ hrs);clear hK';simpa[upd,Act.put] using hK2
 case hdone=>
  intro t w9 hf;obtain⟨C,hr,hI,hz,hb9⟩:=hf;have HR9:Hid (w9.heap[w.heap.size+1]?=some (.cells C 48 (0,0))):=hr;have HF:Hid (GPn w.heap.size w9 C zs ks f d r∧Below w.heap.size w w9):=⟨hI,hb9⟩
  have HS9:Hid ((Tryz.prog.info? 48).map (·.size)=some C.size):=by show _=_;rw[hz];exact HSG.out
  clear hr hI hz hb9;go_wp2_with fail;exact bodyPost_ret (v:=.agg C) (results_cell_row rfl _ _ (w.heap.size+1) 48 _ (0,0) _ rfl HR9.out Tryz.underlying48 rfl HS9.out) rfl ⟨_,rfl,HF.out.1,HF.out.2⟩
def stF (f:Int):Int:=if f>0 then f-1 else f
def stD (f:Int) (d:Bool):Bool:=if f=0 then true else d
set_option maxHeartbeats 1000000 in
set_option maxRecDepth 100000 in
theorem sst_any (v:Value) (zs:List Int) (ps:List PD) (f:Int) (d:Bool) (w:World) (h:DAt w v zs ps f d) (hz:zs.length≤1048576) (hn:ps.length≤1048576) (hps:∀ i,(ps.getD i (0,[])).2.length≤1048576) (hf:f≤9223372036854775807) :
  Calls Tryz.prog 103 #[v] w fun e w'=>∃ r,e=.returned r∧DvOwn w' w.heap.size r zs ps (stF f) (stD f d)∧Below w.heap.size w w':=by
 have HSD:Hid _:=Tryz.sizeDv;have HCP:=scp_any v zs ps f d;have hD:=h;obtain⟨a,cap,x,cx,rfl,hA,hP,hcap⟩:=h;obtain⟨L,hL⟩:∃ L,zs.length=L:=⟨_,rfl⟩
 obtain⟨m,hm⟩:∃ m,ps.length=m:=⟨_,rfl⟩
 have HHL:Hid (zs.length=L∧ps.length=m):=⟨hL,hm⟩
 rw[hL] at hz HCP hD ⊢;rw[hm] at hn HCP hD ⊢;clear hL hm hA hP hcap;have HCP':Hid (∀ ww:World,DAt ww (.agg #[.slice a L cap,.slice x m cx,.int .i64 f,.bool d]) zs ps f d→Calls Tryz.prog 102 #[.agg #[.slice a L cap,.slice x m cx,.int .i64 f,.bool d]] ww fun e w'=>∃ r,e=.returned r∧DvOwn w' ww.heap.size r zs ps f d∧Below ww.heap.size ww w'):=fun ww hh=>HCP ww hh hz hn hps
 clear HCP hps hz hn;have HS0:Hid (B2 w _ #[.slice a L cap,.slice x m cx,.int .i64 f,.bool d]):=B2.start w #[.slice a L cap,.slice x m cx,.int .i64 f,.bool d];have HDD:Hid (DAt w (.agg #[.slice a L cap,.slice x m cx,.int .i64 f,.bool d]) zs ps f d):=hD;clear hD;go_enter Tryz.func103,Tryz.ntmps103;go_wp2_with fail;have st1:=HS0.out;clear HS0;generalize ((w.alloc (.cells #[.slice a L cap,.slice x m cx,.int .i64 f,.bool d] 40)).alloc (.cells #[.slice none 0 0,.slice none 0 0,.int .i64 0,.bool false] 40))=w1 at *;refine(HCP'.out w1 (DAt.below HDD.out st1.below)).mono ?_;rintro e w2 ⟨r,rfl,D2,hb2⟩;have hs1:w.heap.size+1<w1.heap.size:=(Array.getElem?_eq_some_iff.1 st1.b1).1;have hs2:=hb2.size;have st2:=st1.grow hb2;have D2':=D2;obtain⟨da,dc,ca,cc,B1,hr2,_⟩:=D2'.mine;subst hr2;rw[HHL.out.1,HHL.out.2] at D2 ⊢;have HD2:Hid (DvOwn w2 w1.heap.size (.agg #[.slice da L dc,.slice ca m cc,.int .i64 f,.bool d]) zs ps f d):=D2;have HS2:Hid (B2 w w2 #[.slice a L cap,.slice x m cx,.int .i64 f,.bool d]):=st2;clear st1 st2 D2 hb2 HCP' HDD;go_wp2_with (refine wpList_storeW rfl 40 (.tmp 3) (.tmp 5) rfl w2.heap.size #[.slice da L dc,.slice ca m cc,.int .i64 f,.bool d] rfl rfl 40 _ (heap_alloc_new w2 _) HSD.out rfl (all4e _ _ _ _ _ _ _ _) ?_);intro w3 hr3 hw3;have hb3:Below w2.heap.size w2 w3:=((Below.refl _ _).alloc (Nat.le_refl _) _).trans (hw3.below (Nat.le_refl _));have st3:=B2.grow HS2.out hb3;have D3:=DvOwn.grow HD2.out hb3;have hAl:w2.heap.size<w3.heap.size:=(Array.getElem?_eq_some_iff.1 hr3).1;obtain⟨a0,a1,a2,a3⟩:=row4 hr3;have f2:=frozen_of_row w3 w2.heap.size 2 _ _ hr3;have f3:=frozen_of_row w3 w2.heap.size 3 _ _ hr3;have HD3:Hid (DvOwn w3 w1.heap.size (.agg #[.slice da L dc,.slice ca m cc,.int .i64 f,.bool d]) zs ps f d):=D3;have HR3:Hid (w3.heap[w2.heap.size]?=some (.cells #[.slice da L dc,.slice ca m cc,.int .i64 f,.bool d] 40 (0,0))):=hr3;have HS3:Hid (B2 w w3 #[.slice a L cap,.slice x m cx,.int .i64 f,.bool d]):=st3;clear st3 D3 hr3 hw3 hb3 HS2 HD2;generalize w2.heap.size=A at *;have key:∀(w4:World) (f':Int) (d':Bool),w4.heap.size=w3.heap.size→w4.os=w3.os→w4.tape=w3.tape→w4.output=w3.output→(∀ j,j≠A→w4.heap[j]?=w3.heap[j]?)→
   w4.heap[w.heap.size+1]?=some (.cells #[.slice none 0 0,.slice none 0 0,.int .i64 0,.bool false] 40 (0,0))∧DvOwn (w4.setRow (w.heap.size+1) #[.slice da L dc,.slice ca m cc,.int .i64 f',.bool d']) w.heap.size (.agg #[.slice da L dc,.slice ca m cc,.int .i64 f',.bool d']) zs ps f' d'∧Below w.heap.size w (w4.setRow (w.heap.size+1) #[.slice da L dc,.slice ca m cc,.int .i64 f',.bool d']):=by
  intro w4 f' d' hsz ho ht hu hoth;have hwr:=Wr.setRow (w.heap.size+1) w4 #[.slice da L dc,.slice ca m cc,.int .i64 f',.bool d'];refine⟨by rw[hoth _ (by omega)];exact B2.b1 HS3.out,?_,?_⟩
  ·have h1:DvOwn (w4.setRow (w.heap.size+1) #[.slice da L dc,.slice ca m cc,.int .i64 f',.bool d']) w1.heap.size (.agg #[.slice da L dc,.slice ca m cc,.int .i64 f,.bool d]) zs ps f d:=
    DvOwn.keep HD3.out (fun j cur t hj hh ht=>(hwr.block j (by omega)).trans (hoth j (fun e=>by rw[e,HR3.out] at hh;simp at hh;exact ht hh.2.symm))) (by rw[hwr.size,hsz];exact Nat.le_refl _)
   exact(h1.refit f' d').mono (by omega)
  ·have hb4:Below w.heap.size w3 w4:=⟨ho,ht,hu,by omega,fun j hj=>hoth j (by omega)⟩
   exact((B2.below HS3.out).trans hb4).trans (hwr.below (by omega))
 have KEY:Hid _:=key;clear key;obtain hf0|hf1|hf2:f=0∨0<f∨f<0:=by omega
 ·subst hf0;have E12:Hid (stF 0=0∧stD 0 d=true):=⟨rfl,rfl⟩
  obtain⟨k1,k2,k3⟩:=KEY.out (w3.setCell ⟨A,3,none⟩ (.bool true)) 0 true (by simp[World.setCell]) rfl rfl rfl (fun j hj=>heap_setCell_other w3 ⟨A,3,none⟩ j (.bool true) (by simpa using hj));have K1:Hid _:=k1;have K2:Hid _:=And.intro k2 k3;clear k1 k2 k3;go_wp2_with (refine wpList_store_row rfl 40 (.tmp 2) (.tmp 17) rfl (w.heap.size+1) #[.slice da L dc,.slice ca m cc,.int .i64 0,.bool true] rfl rfl 40 _ K1.out HSD.out rfl (all4e _ _ _ _ _ _ _ _) ?_)
  (try simp only[Exit.inBlock,Exit.then])
  refine bodyPost_ret (v:=.agg #[.slice da L dc,.slice ca m cc,.int .i64 0,.bool true]) (results_cell_row rfl _ _ (w.heap.size+1) 40 _ (0,0) _ rfl (setRow_heap _ _ _ _ _ _ K1.out) Tryz.underlying40 rfl HSD.out) rfl ⟨_,rfl,?_,K2.out.2⟩;rw[E12.out.1,E12.out.2];exact K2.out.1
 ·have E12:Hid (stF f=f-1∧stD f d=d):=⟨by unfold stF;rw[if_pos hf1],by unfold stD;rw[if_neg (by omega)]⟩
  obtain⟨k1,k2,k3⟩:=KEY.out (w3.setCell ⟨A,2,none⟩ (.int .i64 (f-1))) (f-1) d (by simp[World.setCell]) rfl rfl rfl (fun j hj=>heap_setCell_other w3 ⟨A,2,none⟩ j (.int .i64 (f-1)) (by simpa using hj));have K1:Hid _:=k1;have K2:Hid _:=And.intro k2 k3;have hne:(f == 0)=false:=by simp;omega
  have hwr:IntKind.i64.wrap (f-1)=f-1:=by rw[IntKind.wrap_i64];omega
  clear k1 k2 k3;go_wp2_with (refine wpList_store_row rfl 40 (.tmp 2) (.tmp 17) rfl (w.heap.size+1) #[.slice da L dc,.slice ca m cc,.int .i64 (f-1),.bool d] rfl rfl 40 _ K1.out HSD.out rfl (all4e _ _ _ _ _ _ _ _) ?_)
  (try simp only[Exit.inBlock,Exit.then])
  refine bodyPost_ret (v:=.agg #[.slice da L dc,.slice ca m cc,.int .i64 (f-1),.bool d]) (results_cell_row rfl _ _ (w.heap.size+1) 40 _ (0,0) _ rfl (setRow_heap _ _ _ _ _ _ K1.out) Tryz.underlying40 rfl HSD.out) rfl ⟨_,rfl,?_,K2.out.2⟩;rw[E12.out.1,E12.out.2];exact K2.out.1
 ·have E12:Hid (stF f=f∧stD f d=d):=⟨by unfold stF;rw[if_neg (by omega)],by unfold stD;rw[if_neg (by omega)]⟩
  obtain⟨k1,k2,k3⟩:=KEY.out w3 f d rfl rfl rfl rfl (fun j hj=>rfl);have K1:Hid _:=k1;have K2:Hid _:=And.intro k2 k3;have hne:(f == 0)=false:=by simp;omega
  have hng:¬ f>0:=by omega
  clear k1 k2 k3;go_wp2_with (refine wpList_store_row rfl 40 (.tmp 2) (.tmp 17) rfl (w.heap.size+1) #[.slice da L dc,.slice ca m cc,.int .i64 f,.bool d] rfl rfl 40 _ K1.out HSD.out rfl (all4e _ _ _ _ _ _ _ _) ?_)
  (try simp only[Exit.inBlock,Exit.then])
  refine bodyPost_ret (v:=.agg #[.slice da L dc,.slice ca m cc,.int .i64 f,.bool d]) (results_cell_row rfl _ _ (w.heap.size+1) 40 _ (0,0) _ rfl (setRow_heap _ _ _ _ _ _ K1.out) Tryz.underlying40 rfl HSD.out) rfl ⟨_,rfl,?_,K2.out.2⟩;rw[E12.out.1,E12.out.2];exact K2.out.1
def lossV:Value:=.iface 190 (.agg #[])
abbrev DC (a b:Value) (f:Int) (d:Bool) (X:List Value):Array Value:=List.toArray (a::b::.int .i64 f::.bool d::X)
theorem row4x {w:World} {g:Nat} {t:TypeId} {a b:Value} {f:Int} {d:Bool} {X:List Value} (h:w.heap[g]?=some (.cells (DC a b f d X) t (0,0))) :
  w.cell? ⟨g,0,none⟩=some a∧w.cell? ⟨g,1,none⟩=some b∧w.cell? ⟨g,2,none⟩=some (.int .i64 f)∧w.cell? ⟨g,3,none⟩=some (.bool d):=
 ⟨by rw[cell_of_row _ _ _ _ _ _ h];rfl,by rw[cell_of_row _ _ _ _ _ _ h];rfl,by rw[cell_of_row _ _ _ _ _ _ h];rfl,by rw[cell_of_row _ _ _ _ _ _ h];rfl⟩
theorem DC.s1 {a b b':Value} {f:Int} {d:Bool} {X:List Value}:(DC a b f d X).setIfInBounds 1 b'=DC a b' f d X:=by simp
theorem DC.s2 {a b:Value} {f f':Int} {d:Bool} {X:List Value}:(DC a b f d X).setIfInBounds 2 (.int .i64 f')=DC a b f' d X:=by simp
theorem DC.s3 {a b:Value} {f:Int} {d d':Bool} {X:List Value}:(DC a b f d X).setIfInBounds 3 (.bool d')=DC a b f d' X:=by simp
set_option maxHeartbeats 400000 in
set_option maxRecDepth 100000 in
theorem burn_yes (D:Nat) (a b:Value) (f:Int) (d:Bool) (w:World) {X:List Value} {T:TypeId} (h:w.heap[D]?=some (.cells (DC a b f d X) T (0,0))) (hf:f=-1∨0<f) (hf2:f≤9223372036854775807) :
  Calls Tryz.prog 149 #[.pointer (some ⟨D,0,none⟩)] w fun e w'=>e=.returned (.tuple #[])∧w'.heap[D]?=some (.cells (DC a b (stF f) d X) T (0,0))∧Wr D w w':=by
 obtain⟨c0,c1,c2,c3⟩:=row4x h;have f2:=frozen_of_row w D 2 _ _ h;rcases hf with rfl|hf
 ·have HH:Hid _:=h;clear h;go_enter Tryz.func149,Tryz.ntmps149;go_wp2
  first|go_end0|go_ret
  exact⟨rfl,HH.out,Wr.refl _ _⟩
 ·have e1:stF f=f-1:=by unfold stF;rw[if_pos hf]
  have hne:(f == 0)=false:=by simp;omega
  have hne1:(f != -1)=true:=by simp;omega
  have hwr:IntKind.i64.wrap (f-1)=f-1:=by rw[IntKind.wrap_i64];omega
  have HH:Hid ((w.setCell ⟨D,2,none⟩ (.int .i64 (f-1))).heap[D]?=some (.cells (DC a b (stF f) d X) T (0,0))):=by
   unfold Hid;rw[e1];exact row_setCell (i:=2) _ h DC.s2
  have HW:Hid (Wr D w (w.setCell ⟨D,2,none⟩ (.int .i64 (f-1)))):=(Wr.refl D w).setCell 2 _;clear h e1;go_enter Tryz.func149,Tryz.ntmps149;go_wp2
  first|go_end0|go_ret
  exact⟨rfl,HH.out,HW.out⟩
set_option maxHeartbeats 400000 in
set_option maxRecDepth 100000 in
theorem burn_no (D:Nat) (a b:Value) (d:Bool) (w:World) {X:List Value} {T:TypeId} (h:w.heap[D]?=some (.cells (DC a b 0 d X) T (0,0))) :
  Calls Tryz.prog 149 #[.pointer (some ⟨D,0,none⟩)] w fun e w'=>e=.panicked [{ v:=lossV,recovered:=false }]∧w'.heap[D]?=some (.cells (DC a b 0 true X) T (0,0))∧Wr D w w':=by
 obtain⟨c0,c1,c2,c3⟩:=row4x h;have f3:=frozen_of_row w D 3 _ _ h;have HH:Hid ((w.setCell ⟨D,3,none⟩ (.bool true)).heap[D]?=some (.cells (DC a b 0 true X) T (0,0))):=row_setCell (i:=3) _ h DC.s3;have HW:Hid (Wr D w (w.setCell ⟨D,3,none⟩ (.bool true))):=(Wr.refl D w).setCell 3 _;clear h;go_enter Tryz.func149,Tryz.ntmps149;go_wp2;exact⟨rfl,rfl,HH.out,HW.out⟩
def DvY (B:Nat) (w:World) (v:Value) (zs:List Int) (ps:List PD) (f:Int) (d:Bool):Prop:=
 ∃ da dc ca cc E,v=.agg #[.slice da zs.length dc,.slice ca ps.length cc,.int .i64 f,.bool d]∧At .u8 w da zs∧Open w da zs.length∧(∀ ad,da=some ad→B≤ad.block∧ad.block<E)∧B≤E∧E≤w.heap.size∧(∃ qs,POwn w E (.slice ca ps.length cc) qs∧qps qs=ps)∧zs.length≤dc
section
variable {B B':Nat} {w w':World} {v:Value} {zs:List Int} {ps:List PD} {f:Int} {d:Bool}
theorem DvY.mine (h:DvY B w v zs ps f d):DMine B w.heap.size w v zs ps f d:=by
 obtain⟨da,dc,ca,cc,E,e,h1,h2,h3,h4,h5,⟨qs,hP,hq⟩,h7⟩:=h;obtain⟨ca',cc',e',hPm⟩:=hP.mine;simp at e';obtain⟨rfl,_,rfl⟩:=e';rw[hq] at hPm;exact⟨da,dc,ca,cc,E,e,h1,h2,h3,h4,h5,Nat.le_refl _,hPm,h7⟩
theorem DvY.at_ (h:DvY B w v zs ps f d):DAt w v zs ps f d:=h.mine.at_
theorem DvY.keep (h:DvY B w v zs ps f d) (hk:∀ j,B≤j→j<w.heap.size→w'.heap[j]?=w.heap[j]?) (hs:w.heap.size≤w'.heap.size):DvY B w' v zs ps f d:=by
 obtain⟨da,dc,ca,cc,E,e,h1,h2,h3,h4,h5,⟨qs,hP,hq⟩,h7⟩:=h;exact⟨da,dc,ca,cc,E,e,h1.keep (fun ad ea=>hk ad.block (h3 ad ea).1 (by have:=(h3 ad ea).2;omega)) hs,h2.keep (fun ad ea=>hk ad.block (h3 ad ea).1 (by have:=(h3 ad ea).2;omega)) hs,h3,h4,by omega,⟨qs,hP.keep (fun k hk1 hk2=>hk k (by omega) hk2),hq⟩,h7⟩
theorem DvY.below (h:DvY B w v zs ps f d) (hb:Below w.heap.size w w'):DvY B w' v zs ps f d:=h.keep (fun j _ hj=>hb.block j hj) hb.size
theorem DvY.mono (h:DvY B w v zs ps f d) (hB:B'≤B):DvY B' w v zs ps f d:=by
 obtain⟨da,dc,ca,cc,E,e,h1,h2,h3,h4,h5,h6,h7⟩:=h;exact⟨da,dc,ca,cc,E,e,h1,h2,fun ad ea=>⟨by have:=(h3 ad ea).1;omega,(h3 ad ea).2⟩,by omega,h5,h6,h7⟩
theorem DvOwn.dx (h:DvOwn w B v zs ps f d):DvY B w v zs ps f d:=by
 obtain⟨dv,cv,qs,E,rfl,hO,hP,rfl,hBE,hEw,hdv⟩:=h;obtain⟨ca,cc,rfl,hPm⟩:=hP.mine;have hq:(qps qs).length=qs.length:=by simp[qps]
 rcases hO with⟨rfl,rfl⟩|hO
 ·exact⟨none,0,ca,cc,E,by rw[hq];rfl,.inl rfl,.inl rfl,(fun ad e=>by cases e),hBE,hEw,⟨qs,by rw[hq];exact hP,rfl⟩,Nat.le_refl _⟩
 ·obtain⟨g,c,rfl,hb,hg,hc,hA,hOp⟩:=hO.at_;exact⟨_,c,ca,cc,E,by rw[hq],hA,hOp,fun ad e=>by cases e;exact⟨hb,hdv g rfl⟩,hBE,hEw,⟨qs,by rw[hq];exact hP,rfl⟩,hc⟩
end
end Go.Proofs.YthmeoilbmfdhfaaGreat
