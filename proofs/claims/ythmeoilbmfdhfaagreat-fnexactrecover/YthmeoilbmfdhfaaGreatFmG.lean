import Derived.Test.YthmeoilbmfdhfaaGreatFmI
namespace Go.Proofs.YthmeoilbmfdhfaaGreat
open Go.ChangeShapes Go.WideShapes Go.ChangeAt Go.RowKit
set_option linter.unusedVariables false
structure B3 (w:World) (t0 t1 t2:TypeId) (c0 c1 c2:Array Value) (wr:World):Prop where
 below:Below w.heap.size w wr
 b0:wr.heap[w.heap.size]?=some (.cells c0 t0 (0,0))
 b1:wr.heap[w.heap.size+1]?=some (.cells c1 t1 (0,0))
 b2:wr.heap[w.heap.size+2]?=some (.cells c2 t2 (0,0))
theorem B3.start (w:World) (t0 t1 t2:TypeId) (c0 c1 c2:Array Value):B3 w t0 t1 t2 c0 c1 c2 (((w.alloc (.cells c0 t0)).alloc (.cells c1 t1)).alloc (.cells c2 t2)):=by
 refine⟨(((Below.refl _ _).alloc (Nat.le_refl _) _).alloc (by simp) _).alloc (by simp;omega) _,?_,?_,?_⟩
 ·rw[Below.heap_alloc _ _ w.heap.size (by simp;omega),Below.heap_alloc _ _ w.heap.size (by simp)];exact heap_alloc_new w _
 ·rw[Below.heap_alloc _ _ (w.heap.size+1) (by simp)];have:=heap_alloc_new (w.alloc (.cells c0 t0)) (.cells c1 t1)
  rwa [show(w.alloc (.cells c0 t0)).heap.size=w.heap.size+1 by simp] at this
 ·have:=heap_alloc_new ((w.alloc (.cells c0 t0)).alloc (.cells c1 t1)) (.cells c2 t2)
  rwa [show((w.alloc (.cells c0 t0)).alloc (.cells c1 t1)).heap.size=w.heap.size+2 by simp] at this
structure BG2 (w:World) (t0 t1:TypeId) (c0 c1:Array Value) (wr:World):Prop where
 below:Below w.heap.size w wr
 b0:wr.heap[w.heap.size]?=some (.cells c0 t0 (0,0))
 b1:wr.heap[w.heap.size+1]?=some (.cells c1 t1 (0,0))
theorem BG2.start (w:World) (t0 t1:TypeId) (c0 c1:Array Value):BG2 w t0 t1 c0 c1 ((w.alloc (.cells c0 t0)).alloc (.cells c1 t1)):=by
 refine⟨((Below.refl _ _).alloc (Nat.le_refl _) _).alloc (by simp) _,?_,?_⟩
 ·rw[Below.heap_alloc _ _ w.heap.size (by simp)];exact heap_alloc_new w _
 ·have:=heap_alloc_new (w.alloc (.cells c0 t0)) (.cells c1 t1)
  rwa [show(w.alloc (.cells c0 t0)).heap.size=w.heap.size+1 by simp] at this
section
variable {lo lo':Nat} {w w':World} {zs ks:List Int} {v vd vk vi:Value} {f:Int} {d:Bool} {r:ImR}
def GPv (lo:Nat) (w:World) (v:Value) (zs ks:List Int) (f:Int) (d:Bool) (r:ImR):Prop:=∃ C,v=.agg C∧GP lo w C zs ks f d r
theorem GPv.below (h:GPv lo w v zs ks f d r) (b:Below w.heap.size w w'):GPv lo w' v zs ks f d r:=by obtain⟨C,e,h⟩:=h;exact⟨C,e,h.below b⟩
theorem I6.low {aSD aSU aF aD aU aT:Option Addr} {nSD nSU mF nD nU nT b1 b2:Nat} (g:I6 lo b1 b2 w aSD aSU aF aD aU aT nSD nSU mF nD nU nT) (hl:lo'≤lo):I6 lo' b1 b2 w aSD aSU aF aD aU aT nSD nSU mF nD nU nT:=
 ⟨g.oSD,g.oSU,g.oF,g.oD,g.oU,g.oT,fun ad e=>by have:=g.lSD ad e;omega,fun ad e=>by have:=g.lSU ad e;omega,fun ad e=>by have:=g.lF ad e;omega,fun ad e=>by have:=g.lD ad e;omega,fun ad e=>by have:=g.lU ad e;omega,fun ad e=>by have:=g.lT ad e;omega,g.sDU,g.dU,g.dT,g.uT,g.xS,g.xF⟩
theorem ImW.belowF (h:ImW w v r) (b:Below w.heap.size w w'):ImW w' v r:=by
 obtain⟨aSD,nSD,cSD,aSU,nSU,cSU,aF,mF,cF,aD,nD,cD,aU,nU,cU,aT,cT,e,a1,a2,a3,a4,a5,a6,h⟩:=h;exact⟨aSD,nSD,cSD,aSU,nSU,cSU,aF,mF,cF,aD,nD,cD,aU,nU,cU,aT,cT,e,a1.below b,a2.below b,FAt.below a3 b,a4.below b,a5.below b,a6.below b,h⟩
theorem GP.mono {C:Array Value} (h:GP lo w C zs ks f d r) (hl:lo'≤lo):GP lo' w C zs ks f d r:=by
 obtain⟨da,dc,ca,cc,ka,kc,aSD,nSD,cSD,aSU,nSU,cSU,aF,mF,cF,aD,nD,cD,aU,nU,cU,aT,cT,e,h1,h2,h3,h4,⟨b1,b2,h5⟩,h6,h7⟩:=h;exact⟨da,dc,ca,cc,ka,kc,aSD,nSD,cSD,aSU,nSU,cSU,aF,mF,cF,aD,nD,cD,aU,nU,cU,aT,cT,e,h1,h2.mono hl,h3.mono hl,h4,⟨b1,b2,h5.low hl⟩,h6,h7⟩
def ImY (lo:Nat) (w:World) (v:Value) (r:ImR):Prop:=∃ aSD nSD cSD aSU nSU cSU aF mF cF aD nD cD aU nU cU aT cT b1 b2,v=.agg #[.bool r.ok,.int .u32 r.g,.int .u32 r.t,.slice aSD nSD cSD,.slice aSU nSU cSU,.slice aF mF cF,.slice aD nD cD,.slice aU nU cU,.int .i64 r.k,.slice aT r.n cT,.int .u32 r.nx]∧I6 lo b1 b2 w aSD aSU aF aD aU aT nSD nSU mF nD nU r.n∧I6L w aSD aSU aF aD aU aT nSD nSU mF nD nU r∧mF≤cF
theorem ImY.below (h:ImY lo w v r) (b:Below w.heap.size w w'):ImY lo w' v r:=by
 obtain⟨aSD,nSD,cSD,aSU,nSU,cSU,aF,mF,cF,aD,nD,cD,aU,nU,cU,aT,cT,b1,b2,e,h1,h2,h3⟩:=h;exact⟨aSD,nSD,cSD,aSU,nSU,cSU,aF,mF,cF,aD,nD,cD,aU,nU,cU,aT,cT,b1,b2,e,h1.below b,h2.below b,h3⟩
theorem ImY.of (h:ImV lo w v r) (hl:lo'≤lo):ImY lo' w v r:=by
 obtain⟨aSD,nSD,cSD,aSU,nSU,cSU,aF,mF,cF,aD,nD,cD,aU,nU,cU,aT,cT,b1,b2,e,h1,h2,h3⟩:=h.six2;exact⟨aSD,nSD,cSD,aSU,nSU,cSU,aF,mF,cF,aD,nD,cD,aU,nU,cU,aT,cT,b1,b2,e,h1.low hl,h2,h3⟩
theorem has_slice {cs:Array Value} {a:Option Addr} {n c:Nat} {ad:Addr} (i:Nat) (hc:cs.toList[i]?=some (.slice a n c)) (h:a=some ad):Value.has (.agg cs) ad.block:=.inr ⟨cs,rfl,_,List.mem_of_getElem? hc,ad,h,rfl⟩
theorem DvM.fresh {w0:World} (h:DvM w0.heap.size w v zs f d):FreshH w0 w v:=by
 obtain⟨da,dc,ca,cc,rfl,h1,h2,h3⟩:=h;intro k hk;obtain⟨x,hx,ad,hA,rfl⟩:=has_agg.1 hk;simp at hx;rcases hx with rfl|rfl|rfl|rfl
 ·exact h2.2.2 ad hA
 ·exact h3 ad hA
 all_goals cases hA
theorem KM.fresh {w0:World} (h:KM w0.heap.size w v ks):FreshH w0 w v:=by
 obtain⟨ka,kc,rfl,h1⟩:=h;intro k hk;rcases hk with⟨ad,hA,rfl⟩|⟨cs,e,_⟩
 ·exact h1.2.2 ad hA
 ·cases e
theorem ImV.fresh {w0:World} (h:ImV w0.heap.size w v r):FreshH w0 w v:=by
 obtain⟨aSD,nSD,cSD,aSU,nSU,cSU,aF,mF,cF,aD,nD,cD,aU,nU,cU,aT,cT,b1,b2,rfl,g,h2⟩:=h.six;obtain⟨l1,l2,l3,l4,l5,l6⟩:=g.l6;intro k hk;obtain⟨x,hx,ad,hA,rfl⟩:=has_agg.1 hk;simp at hx;rcases hx with rfl|rfl|rfl|rfl|rfl|rfl|rfl|rfl|rfl|rfl|rfl
 ·cases hA
 ·cases hA
 ·cases hA
 ·exact l1 ad hA
 ·exact l2 ad hA
 ·exact l3 ad hA
 ·exact l4 ad hA
 ·exact l5 ad hA
 ·cases hA
 ·exact l6 ad hA
 ·cases hA
theorem gp_make (h1:DvM lo w vd zs f d) (h2:KM lo w vk ks) (h3:ImY lo w vi r) (a1:ApVH vd vk) (a2:ApVH vd vi) (a3:ApVH vk vi) :
  ∃ da dc ca cc ka kc aSD nSD cSD aSU nSU cSU aF mF cF aD nD cD aU nU cU aT cT,vd=.agg #[.slice da zs.length dc,.slice ca 0 cc,.int .i64 f,.bool d]∧vk=.slice ka ks.length kc∧vi=.agg #[.bool r.ok,.int .u32 r.g,.int .u32 r.t,.slice aSD nSD cSD,.slice aSU nSU cSU,.slice aF mF cF,.slice aD nD cD,.slice aU nU cU,.int .i64 r.k,.slice aT r.n cT,.int .u32 r.nx]∧GP lo w #[.slice da zs.length dc,.slice ca 0 cc,.int .i64 f,.bool d,.slice ka ks.length kc,.bool r.ok,.int .u32 r.g,.int .u32 r.t,.slice aSD nSD cSD,.slice aSU nSU cSU,.slice aF mF cF,.slice aD nD cD,.slice aU nU cU,.int .i64 r.k,.slice aT r.n cT,.int .u32 r.nx] zs ks f d r:=by
 obtain⟨da,dc,ca,cc,rfl,q1,q2,q3⟩:=h1;obtain⟨ka,kc,rfl,q4⟩:=h2;obtain⟨aSD,nSD,cSD,aSU,nSU,cSU,aF,mF,cF,aD,nD,cD,aU,nU,cU,aT,cT,b1,b2,rfl,q5,q6,q7⟩:=h3;refine⟨da,dc,ca,cc,ka,kc,aSD,nSD,cSD,aSU,nSU,cSU,aF,mF,cF,aD,nD,cD,aU,nU,cU,aT,cT,rfl,rfl,rfl,da,dc,ca,cc,ka,kc,aSD,nSD,cSD,aSU,nSU,cSU,aF,mF,cF,aD,nD,cD,aU,nU,cU,aT,cT,rfl,⟨q1,q7⟩,q2,q4,q6,⟨b1,b2,q5⟩,fun ad e=>?_,fun ad e=>?_⟩
 ·have hd:Value.has (.agg #[.slice da zs.length dc,.slice ca 0 cc,.int .i64 f,.bool d]) ad.block:=has_slice 0 rfl e;refine⟨fun x hx e2=>a1 _ hd (.inl ⟨x,hx,e2.symm⟩),?_⟩;exact⟨fun x hx e2=>a2 _ hd (by rw[e2];exact has_slice 3 rfl hx),fun x hx e2=>a2 _ hd (by rw[e2];exact has_slice 4 rfl hx),fun x hx e2=>a2 _ hd (by rw[e2];exact has_slice 5 rfl hx),fun x hx e2=>a2 _ hd (by rw[e2];exact has_slice 6 rfl hx),fun x hx e2=>a2 _ hd (by rw[e2];exact has_slice 7 rfl hx),fun x hx e2=>a2 _ hd (by rw[e2];exact has_slice 9 rfl hx)⟩
 ·have hd:Value.has (.slice ka ks.length kc) ad.block:=.inl ⟨ad,e,rfl⟩;exact⟨fun x hx e2=>a3 _ hd (by rw[e2];exact has_slice 3 rfl hx),fun x hx e2=>a3 _ hd (by rw[e2];exact has_slice 4 rfl hx),fun x hx e2=>a3 _ hd (by rw[e2];exact has_slice 5 rfl hx),fun x hx e2=>a3 _ hd (by rw[e2];exact has_slice 6 rfl hx),fun x hx e2=>a3 _ hd (by rw[e2];exact has_slice 7 rfl hx),fun x hx e2=>a3 _ hd (by rw[e2];exact has_slice 9 rfl hx)⟩
end
set_option maxRecDepth 100000 in
set_option maxHeartbeats 8000000 in
theorem igt_any (vd:Value) (zs ks:List Int) (f:Int) (d:Bool) (r:ImR) (za:Option Addr) (zc:Nat) (w:World) (h1:DAt w vd zs [] f d) (h2:At .u8 w za ks) (hr:imG zs [] f=r) (bz:Byte zs) (hz:zs.length≤1048576) (hk:ks.length≤1048576) :
  Calls Tryz.prog 59 #[vd,.slice za ks.length zc] w fun e w'=>∃ C,e=.returned (.agg C)∧GP w.heap.size w' C zs ks f d r∧Below w.heap.size w w':=by
 have HCD:Hid (∀ ww,Below w.heap.size w ww→Calls Tryz.prog 109 #[vd] ww fun e w'=>∃ v,e=.returned v∧DvOwn w' ww.heap.size v zs [] f d∧Below ww.heap.size ww w'):=fun ww b=>icp_any vd zs [] f d ww (h1.below b) hz (by simp) (by simp)
 have HCK:Hid (∀ ww,Below w.heap.size w ww→Calls Tryz.prog 110 #[.slice za ks.length zc] ww fun e w'=>∃ v,e=.returned v∧OwnN w' ww.heap.size v ks∧Below ww.heap.size ww w'):=fun ww b=>clone2_any za ks.length zc ks ww rfl hk (h2.below b)
 have HCI:Hid (∀ ww,Below w.heap.size w ww→Calls Tryz.prog 9 #[vd] ww fun e w'=>∃ v,e=.returned v∧ImV ww.heap.size w' v r∧Below ww.heap.size ww w'):=fun ww b=>by
  rw[←hr];obtain⟨xa,xc,ya,yc,rfl,x1,x2,x3⟩:=h1;exact ild_any xa ya zs.length xc 0 yc f d zs [] ww rfl rfl (x1.below b) (.inl rfl) x3 hz (by simp) (by simp) bz (by simp[Byte])
 obtain⟨xa,xc,ya,yc,rfl,x1,x2,x3⟩:=h1;have HSD:Hid ((Tryz.prog.info? 40).map (·.size)=some 4):=by show _=_;kernel_rfl
 have HSG:Hid ((Tryz.prog.info? 48).map (·.size)=some 16):=by show _=_;kernel_rfl
 have HW:Hid (BG2 w 40 48 #[.slice xa zs.length xc,.slice ya 0 yc,.int .i64 f,.bool d] #[.slice none 0 0,.slice none 0 0,.int .i64 0,.bool false,.slice none 0 0,.bool false,.int .u32 0,.int .u32 0,.slice none 0 0,.slice none 0 0,.slice none 0 0,.slice none 0 0,.slice none 0 0,.int .i64 0,.slice none 0 0,.int .u32 0] ((w.alloc (.cells #[.slice xa zs.length xc,.slice ya 0 yc,.int .i64 f,.bool d] 40)).alloc (.cells #[.slice none 0 0,.slice none 0 0,.int .i64 0,.bool false,.slice none 0 0,.bool false,.int .u32 0,.int .u32 0,.slice none 0 0,.slice none 0 0,.slice none 0 0,.slice none 0 0,.slice none 0 0,.int .i64 0,.slice none 0 0,.int .u32 0] 48))):=BG2.start _ _ _ _ _;clear x1 x2 x3 h2 hz hk bz hr;go_enter Tryz.func59,Tryz.ntmps59;go_wp2_with fail;generalize ((w.alloc (.cells #[.slice xa zs.length xc,.slice ya 0 yc,.int .i64 f,.bool d] 40)).alloc (.cells #[.slice none 0 0,.slice none 0 0,.int .i64 0,.bool false,.slice none 0 0,.bool false,.int .u32 0,.int .u32 0,.slice none 0 0,.slice none 0 0,.slice none 0 0,.slice none 0 0,.slice none 0 0,.int .i64 0,.slice none 0 0,.int .u32 0] 48))=w1 at *;refine wp_region_any (by kernel_rfl) ?_;refine wpAny_slotsF 7 (fun _ a b=>Below a.heap.size a b) (frame:=(fun (a b c d e:Value)=>fun (t:Nat→Value)=>({ tmps:=List.toArray [a,b,c,d,e,t 0,t 1,t 2,t 3,t 4,t 5,t 6],defers:=[] }:Act)) _ _ _ _ _)
  (Ext:=fun L u w'=>ApH w1 [1,3,5] L u w') (Good:=fun i L w' v=>if i=0 then v=.agg #[.slice xa zs.length xc,.slice ya 0 yc,.int .i64 f,.bool d] else if i=1 then DvM w1.heap.size w' v zs f d else if i=2 then v=.slice za ks.length zc else if i=3 then KM w1.heap.size w' v ks else if i=4 then v=.agg #[.slice xa zs.length xc,.slice ya 0 yc,.int .i64 f,.bool d] else if i=5 then ImY w1.heap.size w' v r else if i=6 then GPv w1.heap.size w' v zs ks f d r else True) (Fin:=fun _ ww=>∃ C,ww.heap[w.heap.size+1]?=some (.cells C 48 (0,0))∧GP w.heap.size ww C zs ks f d r∧C.size=16∧Below w.heap.size w ww) rfl (by kernel_rfl) ?hstab (by kernel_rfl) ?hop ?hend ?hdone _ _ ((fun (x0 x1 x2 x3 x4 x5 x6:Value)=>fun (i:Nat)=>if i=0 then x0 else if i=1 then x1 else if i=2 then x2 else if i=3 then x3 else if i=4 then x4 else if i=5 then x5 else if i=6 then x6 else undef) _ _ _ _ _ _ _) _ (by simp) ?none ?ext (by simp)
 case none=>intro i;rw[Array.getD_eq_getD_getElem?,Array.getElem?_replicate];split<;>rfl
 case ext=>exact ApH.start w1 [1,3,5] _ _ (fun i=>by rw[Array.getD_eq_getD_getElem?,Array.getElem?_replicate];split<;>rfl) ⟨rfl,rfl,rfl,Nat.le_refl _,fun _ _=>rfl⟩
 case hstab=>
  intro j L w9 w' i v _ hM _ _ h;by_cases h1:j=1
  ·subst h1;simp at h ⊢;exact h.below hM
  by_cases h3:j=3
  ·subst h3;simp at h ⊢;exact h.below hM
  by_cases h5:j=5
  ·subst h5;simp at h ⊢;exact h.below hM
  by_cases h6:j=6
  ·subst h6;simp at h ⊢;exact h.below hM
  simp only[if_neg h1,if_neg h3,if_neg h5,if_neg h6] at h ⊢;exact h
 case hop=>
  intro i o L t w' hi ho hLi hx hdep K hK;obtain rfl|rfl|rfl|rfl|rfl|rfl|rfl:i=0∨i=1∨i=2∨i=3∨i=4∨i=5∨i=6:=by omega
  all_goals(simp at ho;subst ho)
  ·clear hdep;have hK':=hK w' (.agg #[.slice xa zs.length xc,.slice ya 0 yc,.int .i64 f,.bool d]) (by simp) (hx.step 0 _ (Below.refl _ _) (fun h=>absurd h (by decide))) (Below.refl _ _);clear hK;rw[if_pos (by rfl)];refine wp_load_row 40 (.tmp 2) rfl (w.heap.size) rfl 40 _ (0,0) _ ((hx.below.block _ (Array.getElem?_eq_some_iff.1 HW.out.b0).1).trans HW.out.b0) Tryz.underlying40 rfl HSD.out ?_;simpa[upd,Act.put] using hK'
  ·have d0:t 0=.agg #[.slice xa zs.length xc,.slice ya 0 yc,.int .i64 f,.bool d]:=by simpa using(hdep ⟨0,.data⟩ (by simp) rfl).2
   clear hdep;have bw:Below w.heap.size w w':=HW.out.below.trans (hx.below.mono HW.out.below.size);have hsz:w1.heap.size≤w'.heap.size:=hx.below.size;have A:=HCD.out w' bw;have hK':∀ ww v,DvM w1.heap.size ww v zs f d→FreshH w' ww v→Below w'.heap.size w' ww→K _ ww:=fun ww v hv hf hb=>hK ww v (by simpa using hv) (hx.step 1 v hb (fun _=>hf)) hb
   clear hK;rw[if_pos (by rfl)];go_simp;try simp only[d0]
   refine A.mono ?_;rintro e w9 ⟨v9,rfl,h9,hb9⟩;have hK2:=hK' w9 v9 (h9.dvm.mono hsz) h9.dvm.fresh hb9;clear hK' A h9 hb9;go_simp;simpa[upd,d0] using hK2
  ·clear hdep;have hK':=hK w' (.slice za ks.length zc) (by simp) (hx.step 2 _ (Below.refl _ _) (fun h=>absurd h (by decide))) (Below.refl _ _);clear hK;rw[if_pos (by rfl)];go_simp;simpa[upd] using hK'
  ·have d2:t 2=.slice za ks.length zc:=by simpa using(hdep ⟨2,.data⟩ (by simp) rfl).2
   clear hdep;have bw:Below w.heap.size w w':=HW.out.below.trans (hx.below.mono HW.out.below.size);have hsz:w1.heap.size≤w'.heap.size:=hx.below.size;have A:=HCK.out w' bw;have hK':∀ ww v,KM w1.heap.size ww v ks→FreshH w' ww v→Below w'.heap.size w' ww→K _ ww:=fun ww v hv hf hb=>hK ww v (by simpa using hv) (hx.step 3 v hb (fun _=>hf)) hb
   clear hK;rw[if_pos (by rfl)];go_simp;try simp only[d2]
   refine A.mono ?_;rintro e w9 ⟨v9,rfl,h9,hb9⟩;have hK2:=hK' w9 v9 (h9.km.mono hsz) h9.km.fresh hb9;clear hK' A h9 hb9;go_simp;simpa[upd,d2] using hK2
  ·clear hdep;have hK':=hK w' (.agg #[.slice xa zs.length xc,.slice ya 0 yc,.int .i64 f,.bool d]) (by simp) (hx.step 4 _ (Below.refl _ _) (fun h=>absurd h (by decide))) (Below.refl _ _);clear hK;rw[if_pos (by rfl)];refine wp_load_row 40 (.tmp 2) rfl (w.heap.size) rfl 40 _ (0,0) _ ((hx.below.block _ (Array.getElem?_eq_some_iff.1 HW.out.b0).1).trans HW.out.b0) Tryz.underlying40 rfl HSD.out ?_;simpa[upd,Act.put] using hK'
  ·have d4:t 4=.agg #[.slice xa zs.length xc,.slice ya 0 yc,.int .i64 f,.bool d]:=by simpa using(hdep ⟨4,.data⟩ (by simp) rfl).2
   clear hdep;have bw:Below w.heap.size w w':=HW.out.below.trans (hx.below.mono HW.out.below.size);have hsz:w1.heap.size≤w'.heap.size:=hx.below.size;have A:=HCI.out w' bw;have hK':∀ ww v,ImY w1.heap.size ww v r→FreshH w' ww v→Below w'.heap.size w' ww→K _ ww:=fun ww v hv hf hb=>hK ww v (by simpa using hv) (hx.step 5 v hb (fun _=>hf)) hb
   clear hK;rw[if_pos (by rfl)];go_simp;try simp only[d4]
   refine A.mono ?_;rintro e w9 ⟨v9,rfl,h9,hb9⟩;have hK2:=hK' w9 v9 (ImY.of h9 hsz) h9.fresh hb9;clear hK' A h9 hb9;go_simp;simpa[upd,d4] using hK2
  ·have l1:L 1=true:=(hdep ⟨1,.data⟩ (by simp) rfl).1;have f1:DvM w1.heap.size w' (t 1) zs f d:=by simpa using(hdep ⟨1,.data⟩ (by simp) rfl).2
   have l3:L 3=true:=(hdep ⟨3,.data⟩ (by simp) rfl).1;have f3:KM w1.heap.size w' (t 3) ks:=by simpa using(hdep ⟨3,.data⟩ (by simp) rfl).2
   have l5:L 5=true:=(hdep ⟨5,.data⟩ (by simp) rfl).1;have f5:ImY w1.heap.size w' (t 5) r:=by simpa using(hdep ⟨5,.data⟩ (by simp) rfl).2
   clear hdep;have a1:=hx.ap 1 (by decide) 3 (by decide) (by decide) l1 l3;have a2:=hx.ap 1 (by decide) 5 (by decide) (by decide) l1 l5;have a3:=hx.ap 3 (by decide) 5 (by decide) (by decide) l3 l5;obtain⟨da,dc,ca,cc,ka,kc,aSD,nSD,cSD,aSU,nSU,cSU,aF,mF,cF,aD,nD,cD,aU,nU,cU,aT,cT,e1,e3,e5,hg⟩:=gp_make f1 f3 f5 a1 a2 a3;have hsv:GPv w1.heap.size w' (.agg #[.slice da zs.length dc,.slice ca 0 cc,.int .i64 f,.bool d,.slice ka ks.length kc,.bool r.ok,.int .u32 r.g,.int .u32 r.t,.slice aSD nSD cSD,.slice aSU nSU cSU,.slice aF mF cF,.slice aD nD cD,.slice aU nU cU,.int .i64 r.k,.slice aT r.n cT,.int .u32 r.nx]) zs ks f d r:=⟨_,rfl,hg⟩
   have hK':=hK w' _ (by simpa using hsv) (hx.step 6 _ (Below.refl _ _) (fun h=>absurd h (by decide))) (Below.refl _ _);clear hK hg hsv a1 a2 a3 f1 f3 f5;rw[if_pos (by rfl)];go_simp;simpa[upd,e1,e3,e5] using hK'
 case hend=>
  intro o L t w' ho hx hg K hK;simp at ho;subst ho;have f6:GPv w1.heap.size w' (t 6) zs ks f d r:=by simpa using(hg 6 (by decide)).2
  clear hg;obtain⟨C,e6,j0⟩:=f6;have hrs:=(hx.below.block _ (Array.getElem?_eq_some_iff.1 HW.out.b1).1).trans HW.out.b1;have hz:=j0.gl.row;have hK':∀ ww,Wr (w.heap.size+1) w' ww→ww.heap[w.heap.size+1]?=some (.cells C 48 (0,0))→K _ ww:=fun ww hw hr=>hK ww undef ⟨C,hr,(j0.keep (Nat.le_of_eq hw.size.symm) (fun k hk _=>hw.block k (by have:=(Array.getElem?_eq_some_iff.1 HW.out.b1).1;omega))).mono (by have:=HW.out.below.size;omega),hz.1,(HW.out.below.trans (hx.below.mono HW.out.below.size)).trans (hw.below (by omega))⟩
  clear hK j0;rw[if_pos (by rfl)];refine wp_store_row 48 (.tmp 4) (.tmp 11) rfl (w.heap.size+1) C rfl e6 48 _ hrs (by rw[hz.1];exact HSG.out) (by rw[hz.1];rfl) hz.2 ?_;have hK2:=hK' _ (Wr.setRow _ _ _) (setRow_heap _ _ _ _ _ _ hrs);clear hK';simpa[upd,Act.put] using hK2
 case hdone=>
  intro t w9 hf;obtain⟨C,hr,hI,hz,hb9⟩:=hf;have HR9:Hid (w9.heap[w.heap.size+1]?=some (.cells C 48 (0,0))):=hr;have HF:Hid (GP w.heap.size w9 C zs ks f d r∧Below w.heap.size w w9):=⟨hI,hb9⟩
  have HS9:Hid ((Tryz.prog.info? 48).map (·.size)=some C.size):=by show _=_;rw[hz];exact HSG.out
  clear hr hI hz hb9;go_wp2_with fail;exact bodyPost_ret (v:=.agg C) (results_cell_row rfl _ _ (w.heap.size+1) 48 _ (0,0) _ rfl HR9.out Tryz.underlying48 rfl HS9.out) rfl ⟨_,rfl,HF.out.1,HF.out.2⟩
end Go.Proofs.YthmeoilbmfdhfaaGreat
