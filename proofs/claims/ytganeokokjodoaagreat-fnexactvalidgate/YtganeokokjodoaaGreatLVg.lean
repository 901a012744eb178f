import Derived.Test.YtganeokokjodoaaGreatMVgM
namespace Go.Proofs.YtganeokokjodoaaGreat.lvg
open Go.ChangeShapes Go.WideShapes Go.ChangeAt Go.RowKit
set_option linter.unusedVariables false
theorem own:ownKnob Tryz.prog.godebug=none:=by kernel_rfl
theorem laidOut:laidOutB Tryz.prog=true:=by kernel_rfl
theorem grow {w:World} {v:Value} {zs:List Int} {ps:List PD} {f:Int} {d:Bool} {ks:List Int} {r:ImR} (h:GAt w v zs ps f d ks r):∃ C,v=.agg C∧C.size=16∧C.all (·.oneCell')=true:=by
 obtain⟨ada,adc,aca,acc,aka,akc,aSD,nSD,acSD,aSU,nSU,acSU,aF,nF,acF,aD,nD,acD,aU,nU,acU,aT,acT,rfl,_⟩:=h
 exact⟨_,rfl,rfl,by simp[Value.oneCell']⟩
set_option maxHeartbeats 8000000 in
set_option maxRecDepth 100000 in
theorem walk (a x:Option Addr) (n c m cx:Nat) (f:Int) (d:Bool) (zs:List Int) (ps:List PD) (ka:Option Addr) (kn kc:Nat) (ks:List Int) (r:ImR) (aSD aSU aF aD aU aT:Option Addr) (nSD cSD nSU cSU nF cF nD cD nU cU cT:Nat) (w:World) (hn:zs.length=n) (hm:ps.length=m) (hk:ks.length=kn) (b0:n≤9223372036854775807∧m≤9223372036854775807∧kn≤9223372036854775807∧nF≤9223372036854775807∧nSD≤9223372036854775807∧nSU≤9223372036854775807∧nD≤9223372036854775807∧nU≤9223372036854775807∧r.n≤9223372036854775807) (hps:∀ i,(ps.getD i (0,[])).2.length≤9223372036854775807) (bz:Byte zs) (bp:∀ i,Byte (ps.getD i (0,[])).2) (A1:At .u8 w a zs) (A2:PAt w x ps) (A3:At .u8 w ka ks) (A4:I6L w aSD aSU aF aD aU aT nSD nSU nF nD nU r) :
  Calls Tryz.prog 4 #[.agg #[.slice a n c,.slice x m cx,.int .i64 f,.bool d,.slice ka kn kc,.bool r.ok,.int .u32 r.g,.int .u32 r.t,.slice aSD nSD cSD,.slice aSU nSU cSU,.slice aF nF cF,.slice aD nD cD,.slice aU nU cU,.int .i64 r.k,.slice aT r.n cT,.int .u32 r.nx]] w fun e w'=>e=.returned (.bool true)∧Below w.heap.size w w':=by
 have HSL:Hid ((Tryz.prog.info? 55).map (·.size)=some 16):=by show _=_;kernel_rfl
 have HSG:Hid ((Tryz.prog.info? 59).map (·.size)=some 16):=by show _=_;kernel_rfl
 have HE0:Hid (OE w 55 #[.slice a n c,.slice x m cx,.int .i64 f,.bool d,.slice ka kn kc,.bool r.ok,.int .u32 r.g,.int .u32 r.t,.slice aSD nSD cSD,.slice aSU nSU cSU,.slice aF nF cF,.slice aD nD cD,.slice aU nU cU,.int .i64 r.k,.slice aT r.n cT,.int .u32 r.nx] (w.alloc (.cells #[.slice a n c,.slice x m cx,.int .i64 f,.bool d,.slice ka kn kc,.bool r.ok,.int .u32 r.g,.int .u32 r.t,.slice aSD nSD cSD,.slice aSU nSU cSU,.slice aF nF cF,.slice aD nD cD,.slice aU nU cU,.int .i64 r.k,.slice aT r.n cT,.int .u32 r.nx] 55))):=OE.start _ _ _
 obtain⟨c1,c2,c3,c4,c5,c6,c7,c8,c9⟩:=b0
 have HSZ:Hid (∀ ww,Below w.heap.size w ww→Calls Tryz.prog 14 #[.agg #[.slice a n c,.slice x m cx,.int .i64 f,.bool d,.slice ka kn kc,.bool r.ok,.int .u32 r.g,.int .u32 r.t,.slice aSD nSD cSD,.slice aSU nSU cSU,.slice aF nF cF,.slice aD nD cD,.slice aU nU cU,.int .i64 r.k,.slice aT r.n cT,.int .u32 r.nx],.int .i64 1048576] ww fun e w'=>∃ q:Int,e=.returned (.int .i64 q)∧Below ww.heap.size ww w'∧(¬ q<0→n+(m+pSum ps)+kn+(nSD+nSU+nF+nD+nU+r.n)≤1048576)):=fun ww b=>(szG_any a x n c m cx f d ps ka kn kc r.ok r.g r.t r.k r.nx aF aSD aSU aD aU aT nF cF nSD cSD nSU cSU nD cD nU cU r.n cT ww hm c1 c2 (A2.below b) hps c3 c4 c5 c6 c7 c8 c9)
 have HTO0:Hid (GLe zs ps ks r→∀ ww,Below w.heap.size w ww→Calls Tryz.prog 16 #[.agg #[.slice a n c,.slice x m cx,.int .i64 f,.bool d,.slice ka kn kc,.bool r.ok,.int .u32 r.g,.int .u32 r.t,.slice aSD nSD cSD,.slice aSU nSU cSU,.slice aF nF cF,.slice aD nD cD,.slice aU nU cU,.int .i64 r.k,.slice aT r.n cT,.int .u32 r.nx]] ww fun e w'=>∃ v,e=.returned v∧GAt w' v zs ps f d ks r∧Below ww.heap.size ww w'):=fun hb ww b=>toG_any a x n c m cx f d zs ps ka kn kc ks r aSD aSU aF aD aU aT nSD cSD nSU cSU nF cF nD cD nU cU cT ww hn hm hk hb (A1.below b) (A2.below b) (A3.below b) (A4.below b)
 have HGL0:Hid (n+(m+pSum ps)+kn+(nSD+nSU+nF+nD+nU+r.n)≤1048576→GLe zs ps ks r):=fun hs=>by
  obtain⟨_,_,_,_,_,_,e1,e2,e3,e4,e5,e6⟩:=A4;refine⟨by omega,by omega,fun i=>?_,by omega,by omega,by omega,by omega,by omega,by omega,by omega⟩;by_cases hi:i<ps.length
  ·have h1:=pSum_snoc ps i hi;have h2:=pSum_take ps (i+1);omega
  ·rw[List.getD_eq_getElem?_getD,List.getElem?_eq_none (by omega)];simp
 have HVG:Hid (GLe zs ps ks r→∀ ww v,GAt ww v zs ps f d ks r→(Calls Tryz.prog 15 #[v] ww fun e w'=>e=.returned (.bool (vgA zs ps f d ks r))∧Below ww.heap.size ww w')∧(Calls Tryz.prog 17 #[v] ww fun e w'=>e=.returned (.bool (vgA zs ps f d ks r))∧Below ww.heap.size ww w')):=fun hb ww v h=>⟨svgG h hb bz bp,ivgG h hb bz bp⟩
 generalize vgA zs ps f d ks r=V at *
 clear A1 A2 A3 A4 bz bp hps hn hm hk c1 c2 c3 c4 c5 c6 c7 c8 c9
 go_enter Tryz.func4,Tryz.ntmps4
 go_upto_region 2 with fail
 generalize w.alloc (.cells #[.slice a n c,.slice x m cx,.int .i64 f,.bool d,.slice ka kn kc,.bool r.ok,.int .u32 r.g,.int .u32 r.t,.slice aSD nSD cSD,.slice aSU nSU cSU,.slice aF nF cF,.slice aD nD cD,.slice aU nU cU,.int .i64 r.k,.slice aT r.n cT,.int .u32 r.nx] 55)=w0 at *
 go_wp2_with (first
  |(refine wpList_load_row rfl 55 (.tmp 1) rfl w.heap.size rfl 55 #[.slice a n c,.slice x m cx,.int .i64 f,.bool d,.slice ka kn kc,.bool r.ok,.int .u32 r.g,.int .u32 r.t,.slice aSD nSD cSD,.slice aSU nSU cSU,.slice aF nF cF,.slice aD nD cD,.slice aU nU cU,.int .i64 r.k,.slice aT r.n cT,.int .u32 r.nx] (0,0) _ HE0.out.b0 Tryz.underlying55 rfl HSL.out ?_)
  |fail)
 refine(HSZ.out w0 HE0.out.below).mono ?_
 rintro e w1 ⟨q,rfl,b1,hq⟩
 have HE1:=hid_ofV (HE0.out.call b1)
 clear HE0 b1 HSZ
 by_cases hq0:q<0
 ·clear hq;go_wp2
  go_ret
  exact⟨rfl,HE1.out.below⟩
 have HGL:=hid_ofV (HGL0.out (hq (by omega)))
 have HTO:=hid_ofV (HTO0.out HGL.out)
 clear hq HGL0 HTO0
 go_wp2_with (first
  |(refine wpList_load_row rfl 55 (.tmp 1) rfl w.heap.size rfl 55 #[.slice a n c,.slice x m cx,.int .i64 f,.bool d,.slice ka kn kc,.bool r.ok,.int .u32 r.g,.int .u32 r.t,.slice aSD nSD cSD,.slice aSU nSU cSU,.slice aF nF cF,.slice aD nD cD,.slice aU nU cU,.int .i64 r.k,.slice aT r.n cT,.int .u32 r.nx] (0,0) _ HE1.out.b0 Tryz.underlying55 rfl HSL.out ?_)
  |fail)
 refine(HTO.out _ HE1.out.below).mono ?_
 rintro e w2 ⟨v2,rfl,G2,b2⟩
 have HE2:=hid_ofV (HE1.out.call b2)
 clear HE1 b2
 go_wp2_with fail
 refine(HVG.out HGL.out _ _ G2).1.mono ?_
 rintro e w3 ⟨rfl,b3⟩
 have HE3:=hid_ofV (HE2.out.call b3)
 clear HE2 b3 G2
 go_wp2_with (first
  |(refine wpList_load_row rfl 55 (.tmp 1) rfl w.heap.size rfl 55 #[.slice a n c,.slice x m cx,.int .i64 f,.bool d,.slice ka kn kc,.bool r.ok,.int .u32 r.g,.int .u32 r.t,.slice aSD nSD cSD,.slice aSU nSU cSU,.slice aF nF cF,.slice aD nD cD,.slice aU nU cU,.int .i64 r.k,.slice aT r.n cT,.int .u32 r.nx] (0,0) _ HE3.out.b0 Tryz.underlying55 rfl HSL.out ?_)
  |fail)
 refine(HTO.out _ HE3.out.below).mono ?_
 rintro e w4 ⟨v4,rfl,G4,b4⟩
 obtain⟨C,rfl,hz,ho⟩:=grow G4
 have HZC:=hid_ofV (And.intro hz ho)
 have HIC:Hid ((Tryz.prog.info? 59).map (·.size)=some C.size):=by show _=_;rw[hz];exact HSG.out
 have b5:=(Below.refl w4.heap.size w4).alloc (Nat.le_refl _) (.cells C 59)
 have HE5:=hid_ofV ((HE3.out.call b4).call b5)
 have HG5:=hid_ofV (G4.below b5)
 have HR5:Hid ((w4.alloc (.cells C 59)).heap[w4.heap.size]?=some (.cells C 59 (0,0))):=heap_alloc_new w4 _
 clear HE3 b4 b5 G4 hz ho
 go_upto_region 7 with (first
  |(refine wpList_store_row rfl 59 (.tmp 5) (.tmp 16) rfl w4.heap.size C rfl rfl 59 _ (heap_alloc_new w4 _) HIC.out (by rw[HZC.out.1];rfl) HZC.out.2 ?_)
  |fail)
 try rw[World.setRow_alloc_new]
 generalize w4.alloc (.cells C 59)=w5 at *
 generalize w4.heap.size=X at *
 go_wp2_with (first
  |(refine wpList_load_row rfl 59 (.tmp 5) rfl X rfl 59 C (0,0) _ HR5.out Tryz.underlying59 rfl HIC.out ?_)
  |fail)
 refine(HVG.out HGL.out _ _ HG5.out).2.mono ?_
 rintro e w6 ⟨rfl,b6⟩
 have HE6:=hid_ofV (HE5.out.call b6)
 have HGX:=hid_ofV (HG5.out.below b6)
 have hX:=(Array.getElem?_eq_some_iff.1 HR5.out).1
 have HX:Hid (w6.heap[X]?=some (.cells C 59 (0,0))∧X<w6.heap.size):=⟨by rw[b6.block _ hX];exact HR5.out,by have:=b6.size;omega⟩
 have HB6:Hid (w6.heap[w.heap.size]?=some (.cells #[.slice a n c,.slice x m cx,.int .i64 f,.bool d,.slice ka kn kc,.bool r.ok,.int .u32 r.g,.int .u32 r.t,.slice aSD nSD cSD,.slice aSU nSU cSU,.slice aF nF cF,.slice aD nD cD,.slice aU nU cU,.int .i64 r.k,.slice aT r.n cT,.int .u32 r.nx] 55 (0,0))):=HE6.out.b0
 have HLT:=hid_ofV HE6.out.lt
 have HBW:=hid_ofV HE6.out.below
 have zV:(V != V)=false:=by simp
 clear HE5 HG5 HR5 b6 hX HE6 HVG
 go_wp2
 refine wp_region_any (by kernel_rfl) ?_
 refine wpAny_slotsU (fun _ a b=>Below a.heap.size a b) (frame:=(fun (a b c d e f g h i j k l m n o p q r s u v w:Value)=>fun (t:Nat→Value)=>({ tmps:=List.toArray [a,b,c,d,e,f,g,h,i,j,k,l,m,n,o,p,q,r,s,u,v,w,t 0,t 1,t 2,t 3,t 4],defers:=[] }:Act)) _ _ _ _ _ _ _ _ _ _ _ _ _ _ _ _ _ _ _ _ _ _)
  (Ext:=fun Ls u w'=>ApX w6 [] Ls u w') (Good:=fun i Ls w' v=>if i=0 then v=.agg C else if i=1 then v=.agg #[.slice a n c,.slice x m cx,.int .i64 f,.bool d,.slice ka kn kc,.bool r.ok,.int .u32 r.g,.int .u32 r.t,.slice aSD nSD cSD,.slice aSU nSU cSU,.slice aF nF cF,.slice aD nD cD,.slice aU nU cU,.int .i64 r.k,.slice aT r.n cT,.int .u32 r.nx] else if i=2 then GAt w' v zs ps f d ks r else if i=3 then v=.bool true else if i=4 then v=.bool false else True) ?hstab (by kernel_rfl) ?hop ?hdone _ _ ((fun (x0 x1 x2 x3 x4:Value)=>fun (i:Nat)=>if i=0 then x0 else if i=1 then x1 else if i=2 then x2 else if i=3 then x3 else if i=4 then x4 else undef) _ _ _ _ _) _ (by simp) ?ext ?start (by simp)
 case start=>intro i hi h;exact absurd h (by rw[Array.getD_eq_getD_getElem?,Array.getElem?_replicate];split<;>simp)
 case ext=>exact(ApX.start w6 [] _ _ (fun i=>by rw[Array.getD_eq_getD_getElem?,Array.getElem?_replicate];split<;>rfl)).drew
 case hstab=>
  intro j Ls w9 w' i v hM _ _ h;by_cases h2:j=2
  ·subst h2;simp at h ⊢;exact h.below hM
  simp only[if_neg h2] at h ⊢;exact h
 case hop=>
  intro i o Ls t w' ho hLi hx hdep K hK;have hi:i<5:=(Array.getElem?_eq_some_iff.1 ho).1;obtain rfl|rfl|rfl|rfl|rfl:i=0∨i=1∨i=2∨i=3∨i=4:=by omega
  all_goals(simp at ho;subst ho)
  ·clear hdep;have hK':=hK w' (.agg C) (by simp) (hx.step 0 _ (Below.refl _ _) (fun h=>absurd h (by decide))) (Below.refl _ _);clear hK;rw[if_pos (by rfl)];refine wp_load_row 59 (.tmp 5) rfl X rfl 59 _ (0,0) _ ((hx.below.block _ HX.out.2).trans HX.out.1) Tryz.underlying59 rfl HIC.out ?_;simpa[upd,Act.put] using hK'
  ·clear hdep;have hK':=hK w' (.agg #[.slice a n c,.slice x m cx,.int .i64 f,.bool d,.slice ka kn kc,.bool r.ok,.int .u32 r.g,.int .u32 r.t,.slice aSD nSD cSD,.slice aSU nSU cSU,.slice aF nF cF,.slice aD nD cD,.slice aU nU cU,.int .i64 r.k,.slice aT r.n cT,.int .u32 r.nx]) (by simp) (hx.step 1 _ (Below.refl _ _) (fun h=>absurd h (by decide))) (Below.refl _ _);clear hK;rw[if_pos (by rfl)];refine wp_load_row 55 (.tmp 1) rfl w.heap.size rfl 55 _ (0,0) _ ((hx.below.block _ HLT.out).trans HB6.out) Tryz.underlying55 rfl HSL.out ?_;simpa[upd,Act.put] using hK'
  ·have d1:t 1=.agg #[.slice a n c,.slice x m cx,.int .i64 f,.bool d,.slice ka kn kc,.bool r.ok,.int .u32 r.g,.int .u32 r.t,.slice aSD nSD cSD,.slice aSU nSU cSU,.slice aF nF cF,.slice aD nD cD,.slice aU nU cU,.int .i64 r.k,.slice aT r.n cT,.int .u32 r.nx]:=by simpa using(hdep ⟨1,.data⟩ (by simp) rfl).2
   clear hdep;have A:=HTO.out w' (HBW.out.trans (hx.below.mono HBW.out.size));have hK':∀ ww v,GAt ww v zs ps f d ks r→Below w'.heap.size w' ww→K _ ww:=fun ww v hv hb=>hK ww v (by simpa using hv) (hx.step 2 v hb (fun h=>absurd h (by decide))) hb
   clear hK;rw[if_pos (by rfl)];go_simp;try simp only[d1]
   refine A.mono ?_;rintro e w9 ⟨v9,rfl,h9,hb9⟩;have hK2:=hK' w9 v9 h9 hb9;clear hK' A hb9;go_simp;simpa[upd,d1] using hK2
  ·have d0:t 0=.agg C:=by simpa using(hdep ⟨0,.data⟩ (by simp) rfl).2
   have f2:GAt w' (t 2) zs ps f d ks r:=by simpa using(hdep ⟨2,.data⟩ (by simp) rfl).2
   clear hdep;have A:=eqG_any _ _ zs ps f d ks r w' (HGX.out.below hx.below) f2 HGL.out;have hK':∀ ww,Below w'.heap.size w' ww→K _ ww:=fun ww hb=>hK ww (.bool true) (by simp) (hx.step 3 _ hb (fun h=>absurd h (by decide))) hb
   clear hK;rw[if_pos (by rfl)];go_simp;try simp only[d0]
   refine A.mono ?_;rintro e w9 ⟨rfl,hb9⟩;have hK2:=hK' w9 hb9;clear hK' A hb9;go_simp;simpa[upd,d0] using hK2
  ·have d3:t 3=.bool true:=by simpa using(hdep ⟨3,.data⟩ (by simp) rfl).2
   clear hdep;have hK':=hK w' (.bool false) (by simp) (hx.step 4 _ (Below.refl _ _) (fun h=>absurd h (by decide))) (Below.refl _ _);clear hK;rw[if_pos (by rfl)];go_simp;simpa[upd,d3] using hK'
 case hdone=>
  intro Ls t w9 hx hg;have f4:t 4=.bool false:=by simpa using hg 4 (by decide)
  have HBF:=hid_ofV (HBW.out.trans (hx.below.mono HBW.out.size));clear hx hg;dsimp only;rw[f4];generalize t 0=t0;go_wp2
  go_ret
  exact⟨rfl,HBF.out⟩
set_option maxRecDepth 100000 in
theorem lifted (os:Os) (started:os.Started) (H:Type) (enc:TypeId×Value→H) :
  ReturnsInHanded {} Tryz.checked os 4 .any (Rows.fnExactValidGateSpec.pre6 enc Tryz.prog Tryz.f4 Rows.fnExactValidGateRow.domain false) (Rows.fnExactValidGateSpec.post enc Tryz.prog Tryz.f4 false true false false):=by
 refine returnsInHanded_of_change (C:=Tryz.checked) own started (by kernel_rfl) Tryz.func4
  (ChangeSpec.witness6 (enc:=enc) (C:=Tryz.checked) false ⟨#[],#[.agg #[.slice none 0 0,.slice none 0 0,.int .i64 0,.bool false,.slice none 0 0,.bool false,.int .u32 0,.int .u32 0,.slice none 0 0,.slice none 0 0,.slice none 0 0,.slice none 0 0,.slice none 0 0,.int .i64 0,.slice none 0 0,.int .u32 0]],[]⟩ 8 (by kernel_rfl) (by kernel_rfl) (by kernel_rfl) (by kernel_rfl)) ?_
 intro W base args ds gs before hval0 hW hcnd _
 have hval:∀(j:Nat) t v,Tryz.f4.params[j]?=some t→args[j]?=some v→Value.okWide Tryz.prog W .any base t v:=hval0
 have hW':=hW
 obtain⟨p,q,hA0,hV,rfl,hfz,hnd⟩:=hW
 have hA:DataW.TrodAll enc Tryz.prog W 0 (fun _=>true) true Tryz.f4.params.toList args.toList ds p:=hA0
 rw[Tryz.params4] at hA hval
 obtain⟨v0,vs0,d0,ds0,p0,q0,hargs,rfl,rfl,h0,r0⟩:=trodAll_cons hA
 obtain⟨rfl,rfl,rfl⟩:=trodAll_nil r0
 obtain rfl:args=#[v0]:=by cases args;simp_all
 obtain⟨rfl,rfl⟩:=trodVars_none hV
 have k0:=h0
 have lt0:∀ x∈p0,x.block<W.heap.size:=by obtain⟨m,hm⟩:=k0;exact DataW.trod_lt m _ _ _ hm
 have G:=gate_of (hval 0 55 v0 rfl rfl) h0
 obtain⟨v5,v6,v7,v8,v9,v10,v11,v12,v13,v14,v15,a,n,cap,a',n',cap',zs,ps,f,d,ka,kn,kc,ks,e0,hn,hn',hm,hm',ha,ha',hps,hbz,hpi,hk,hk2,hka,G⟩:=G
 obtain⟨asD,nsD,csD,sD,asU,nsU,csU,sU,aF,nF,cF,F,azD,nzD,czD,zD,azU,nzU,czU,zU,azT,nzT,czT,zT,sgn,stl,zk,nx,ok,e5,e6,e7,e8,e9,e10,e11,e12,e13,e14,e15,hsD,hsU,hF,hzD,hzU,hzT,msD,msU,mF,mzD,mzU,mzT,AsD,AsU,AF,AzD,AzU,AzT,_⟩:=G
 subst e5 e6 e7 e8 e9 e10 e11 e12 e13 e14 e15
 subst e0
 clear hA0 hval0
 refine(walk a a' n cap n' cap' f d zs ps ka kn kc ks ⟨ok,sgn,stl,sD,sU,F,zD,zU,zk,zT,nzT,nx⟩ asD asU aF azD azU azT nsD csD nsU csU nF cF nzD czD nzU czU czT W hn hn' hk ⟨hm,hm',hk2,mF,msD,msU,mzD,mzU,mzT⟩ hps hbz (fun i=>(hpi i).2) ha ha' hka ⟨AsD,AsU,AF,AzD,AzU,AzT,hsD,hsU,hF,hzD,hzU,hzT⟩).mono fun e W' ⟨he,bel⟩=>?_
 subst he
 exact⟨_,rfl,_,_,_,[],_,[],hW',trodAll_mk1 (shut_bool Tryz.underlying4 _),(trodAll_cons_mk (Below.trod laidOut (by kernel_rfl) (of_decide_eq_true (by kernel_rfl)) k0 bel lt0) trodAll_mk0),rfl,bel.frame _,fun h=>by cases h⟩
theorem over:Rows.fnExactValidGateRow.holds Tryz.pinned (OpenSpec.ofChange Rows.fnExactValidGateSpec):=
 OpenClaim.holds_of_wide 4 Tryz.f4 rfl rfl rfl rfl rfl rfl rfl ⟨rfl,rfl,rfl,rfl,rfl⟩ rfl rfl rfl rfl rfl (by kernel_rfl) Tryz.func4 (by kernel_rfl)
  (of_decide_eq_true (by kernel_rfl)) (by unfold Func.isWrapper;first|(rw[if_pos (by decide +kernel)];kernel_rfl)|(rw[if_neg (by decide +kernel)];exact⟨rfl,rfl⟩))
  (fun os started H enc _=>lifted os started H enc)
end Go.Proofs.YtganeokokjodoaaGreat.lvg
namespace Go.Proofs.YtganeokokjodoaaGreat
theorem validGate_holds:Rows.FnExactValidGateSaid:=lvg.over
#print axioms validGate_holds
end Go.Proofs.YtganeokokjodoaaGreat
