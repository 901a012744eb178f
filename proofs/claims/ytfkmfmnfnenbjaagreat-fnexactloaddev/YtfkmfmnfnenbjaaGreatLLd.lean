import Derived.Test.YtfkmfmnfnenbjaaGreatLlB
namespace Go.Proofs.YtfkmfmnfnenbjaaGreat.lld
open Go.ChangeShapes Go.WideShapes Go.ChangeAt Go.RowKit
set_option linter.unusedVariables false
theorem own:ownKnob Tryz.prog.godebug=none:=by kernel_rfl
theorem laidOut:laidOutB Tryz.prog=true:=by kernel_rfl
set_option maxHeartbeats 4000000 in
set_option maxRecDepth 100000 in
theorem walk (a:Option Addr) (n cap:Nat) (a':Option Addr) (n' cap':Nat) (zs:List Int) (ps:List PD) (f:Int) (d:Bool) (w:World) (hn:zs.length=n) (hn':ps.length=n') (hm:n≤9223372036854775807) (hm':n'≤9223372036854775807) (ha:At .u8 w a zs) (ha':PAt w a' ps) (hps:∀ i,(ps.getD i (0,[])).2.length≤9223372036854775807) (bz:Byte zs) (bp:∀ i,Byte (ps.getD i (0,[])).2) :
  Calls Tryz.prog 3 #[.agg #[.slice a n cap,.slice a' n' cap',.int .i64 f,.bool d]] w fun e w'=>e=.returned (.bool true)∧Below w.heap.size w w':=by
 have HZ:Hid (∀ left n,szR left n=if left<n then -1 else left-n):=fun _ _=>rfl
 have HSI:Hid ((Tryz.prog.info? 36).map (·.size)=some 11):=by show _=_;kernel_rfl
 have st0:LV w (w.alloc (.cells #[.slice a n cap,.slice a' n' cap',.int .i64 f,.bool d] 25)) #[.slice a n cap,.slice a' n' cap',.int .i64 f,.bool d]:=⟨(Below.refl _ _).alloc (Nat.le_refl _) _,heap_alloc_new w _⟩
 have HS0:Hid _:=st0
 clear st0
 go_enter Tryz.func3,Tryz.ntmps3
 go_wp2_with fail
 refine(szD_any a n cap a' n' cap' ps f d 1048576 _ hn' (by decide) (by decide) hm hm' (ha'.below HS0.out.below) hps).mono ?_
 rintro e w1 ⟨rfl,hb1⟩
 have st1:=LV.grow HS0.out hb1
 clear HS0 hb1
 by_cases hbig:(1048576:Int)<((n+(n'+pSum ps):Nat):Int)
 ·have hr:szR 1048576 (n+(n'+pSum ps))=-1:=by rw[HZ.out,if_pos hbig]
  rw[hr];have HB1:Hid _:=st1.below;clear st1;go_wp2
  go_ret
  exact⟨rfl,HB1.out⟩
 have hr:szR 1048576 (n+(n'+pSum ps))=1048576-((n+(n'+pSum ps):Nat):Int):=by rw[HZ.out,if_neg hbig]
 have hnb:n≤1048576:=by omega
 have hnb':n'≤1048576:=by omega
 have hsum:n+n'+pSum ps≤1048576:=by omega
 have hpb:∀ i,(ps.getD i (0,[])).2.length≤1048576:=fun i=>by
  by_cases hi:i<ps.length
  ·have h1:=pSum_snoc ps i hi;have h2:=pSum_take ps (i+1);omega
  ·rw[List.getD_eq_getElem?_getD,List.getElem?_eq_none (by omega)];simp
 have hneg:¬ (szR 1048576 (n+(n'+pSum ps))<0):=by rw[hr];omega
 generalize szR 1048576 (n+(n'+pSum ps))=left at *
 clear hr hbig hm hm' hps HZ
 have HTO:Hid (∀ ww,Below w.heap.size w ww→Calls Tryz.prog 6 #[.agg #[.slice a n cap,.slice a' n' cap',.int .i64 f,.bool d]] ww fun e w'=>∃ v,e=.returned v∧DMine ww.heap.size w'.heap.size w' v zs ps f d∧Below ww.heap.size ww w'):=fun ww b=>toD_any a n cap a' n' cap' zs ps f d _ hn hn' hnb hnb' (ha.below b) (ha'.below b) hpb
 have HLD:Hid (∀ ww v,DAt ww v zs ps f d→(Calls Tryz.prog 5 #[v] ww fun e w'=>∃ C,e=.returned (.agg C)∧IB w' C (imG zs ps f)∧Below ww.heap.size ww w')∧(Calls Tryz.prog 7 #[v] ww fun e w'=>∃ C,e=.returned (.agg C)∧IG ww.heap.size w'.heap.size w' C (imG zs ps f)∧Below ww.heap.size ww w')):=fun ww v h=>⟨sldD h (by omega) (by omega) hpb bz bp,ildD h (by omega) (by omega) hpb bz bp⟩
 have HBD:Hid (ImLe (imG zs ps f)):=imG_bd bz bp
 have HPB:=hid_ofL hpb
 clear bz bp ha ha' hpb
 generalize imG zs ps f=r at *
 obtain⟨c0,c1,c2,c3⟩:=st1.cells
 have HS1:Hid _:=st1
 clear st1
 go_wp2_with fail
 refine(HTO.out _ HS1.out.below).mono ?_
 rintro e w2 ⟨v2,rfl,D2,hb2⟩
 have st2:=LV.grow HS1.out hb2
 have D2':=D2.at_
 clear D2 hb2 HS1 c0 c1 c2 c3
 have HS2:Hid _:=st2
 clear st2
 go_wp2_with fail
 refine(HLD.out _ _ D2').1.mono ?_
 rintro e w3 ⟨C3,rfl,I3,hb3⟩
 have st3:=LV.grow HS2.out hb3
 have b34:=(Below.refl w3.heap.size w3).alloc (Nat.le_refl _) (.cells C3 36)
 obtain⟨hz3,ho3⟩:=I3.row
 have HZ3:=hid_ofL (And.intro hz3 ho3)
 have HI3:Hid ((Tryz.prog.info? 36).map (·.size)=some C3.size):=by show _=_;rw[hz3];exact HSI.out
 have HS4:=hid_ofL (LV.grow st3 b34)
 have HM4:=hid_ofL (I3.below b34)
 have HR4:Hid ((w3.alloc (.cells C3 36)).heap[w3.heap.size]?=some (.cells C3 36 (0,0))):=heap_alloc_new w3 _
 clear D2' hb3 HS2 st3 I3 b34 hz3 ho3
 go_upto_region 6 with (first
  |(refine wpList_store_row rfl 36 (.tmp 4) (.tmp 18) rfl w3.heap.size C3 rfl rfl 36 _ (heap_alloc_new w3 _) HI3.out (by rw[HZ3.out.1];rfl) HZ3.out.2 ?_)
  |fail)
 try rw[World.setRow_alloc_new]
 generalize w3.alloc (.cells C3 36)=w4 at *
 generalize w3.heap.size=N0 at *
 have hN0:N0<w4.heap.size:=(Array.getElem?_eq_some_iff.1 HR4.out).1
 have HN0:=hid_ofL hN0
 clear hN0
 obtain⟨c0,c1,c2,c3⟩:=LV.cells HS4.out
 go_wp2_with fail
 refine(HTO.out _ (LV.below HS4.out)).mono ?_
 rintro e w5 ⟨v5,rfl,D5,hb5⟩
 have D5':=D5
 obtain⟨da,dc,ca,cc,B1,rfl,_⟩:=D5'
 rw[hn,hn'] at D5 ⊢
 have HD5:=hid_ofL D5
 have HB5:=hid_ofL hb5
 clear D5 hb5 c0 c1 c2 c3
 go_wp2_with fail
 have hb6:=(Below.refl w5.heap.size w5).alloc (Nat.le_refl _) (.cells #[.slice da n dc,.slice ca n' cc,.int .i64 f,.bool d] 40)
 have HD6:=hid_ofL (HD5.out.below hb6)
 have HB6:=hid_ofL (HB5.out.trans (hb6.mono HB5.out.size))
 have HX6:Hid ((w5.alloc (.cells #[.slice da n dc,.slice ca n' cc,.int .i64 f,.bool d] 40)).heap[w5.heap.size]?=some (.cells #[.slice da n dc,.slice ca n' cc,.int .i64 f,.bool d] 40 (0,0))):=heap_alloc_new w5 _
 have HU5:=hid_ofL HB5.out.size
 clear HD5 HB5 hb6
 generalize (w5.alloc (.cells #[.slice da n dc,.slice ca n' cc,.int .i64 f,.bool d] 40))=w6 at *
 generalize w5.heap.size=X at *
 have HX6':Hid (X<w6.heap.size):=(Array.getElem?_eq_some_iff.1 HX6.out).1
 refine(HLD.out _ _ HD6.out.at_).2.mono ?_
 rintro e w7 ⟨C7,rfl,G7,hb7⟩
 have b78:=(Below.refl w7.heap.size w7).alloc (Nat.le_refl _) (.cells C7 36)
 obtain⟨hz7,ho7⟩:=G7.ib.row
 have HZ7:=hid_ofL (And.intro hz7 ho7)
 have HI7:Hid ((Tryz.prog.info? 36).map (·.size)=some C7.size):=by show _=_;rw[hz7];exact HSI.out
 have b68:Below w6.heap.size w6 (w7.alloc (.cells C7 36)):=hb7.trans (b78.mono hb7.size)
 have HLO:Hid (X≤w6.heap.size∧w6.heap.size≤w7.heap.size):=⟨Nat.le_of_lt HX6'.out,hb7.size⟩
 have HQ8:Hid (QS w4 w4.heap.size X X w7.heap.size w6.heap.size #[.slice da n dc,.slice ca n' cc,.int .i64 f,.bool d] C7 zs ps f d r (w7.alloc (.cells C7 36))):=⟨HB6.out.trans (b68.mono HB6.out.size),HD6.out.below b68,by rw[b68.block _ HX6'.out];exact HX6.out,heap_alloc_new w7 _,G7.below b78⟩
 clear G7 hb7 b78 b68 hz7 ho7 HD6 HB6 HX6 HX6'
 go_upto_region 8 with (first
  |(refine wpList_store_row rfl 36 (.tmp 6) (.tmp 22) rfl w7.heap.size C7 rfl rfl 36 _ (heap_alloc_new w7 _) HI7.out (by rw[HZ7.out.1];rfl) HZ7.out.2 ?_)
  |fail)
 try rw[World.setRow_alloc_new]
 generalize w7.alloc (.cells C7 36)=w8 at *
 generalize w7.heap.size=G at *
 generalize w6.heap.size=lo at *
 have HR8:Hid (∀ ww,Below w4.heap.size w4 ww→ww.heap[N0]?=some (.cells C3 36 (0,0))):=fun ww b=>(b.block _ HN0.out).trans HR4.out
 go_wp2_with (first
  |(refine wpList_load_row rfl 36 (.tmp 6) rfl G rfl 36 C7 (0,0) _ HQ8.out.g Tryz.underlying36 rfl HI7.out ?_)
  |(refine wpList_load_row rfl 36 (.tmp 4) rfl N0 rfl 36 C3 (0,0) _ (HR8.out _ HQ8.out.bel) Tryz.underlying36 rfl HI3.out ?_)
  |fail)
 refine(eqIB HQ8.out.im.ib (HM4.out.below HQ8.out.bel) HBD.out).mono ?_
 rintro e w9 ⟨rfl,hb9⟩
 have HQ9:=hid_ofL (HQ8.out.grow hb9)
 clear HQ8 hb9
 go_wp2
 refine wp_region_any (by kernel_rfl) ?_
 refine wpAny_slots (frame:=(fun (a b c d e f g h i j k l m n o p q r s u v w x y z A B C D E F G H I J K L M N O P Q R S T U V W X Y Z a0 a1 a2 a3 a4:Value)=>fun (t:Nat→Value)=>({ tmps:=List.toArray [a,b,c,d,e,f,g,h,i,j,k,l,m,n,o,p,q,r,s,u,v,w,x,y,z,A,B,t 0,t 1,t 2,t 3,t 4,C,D,E,F,G,H,I,J,K,L,M,N,O,P,Q,R,S,T,U,V,W,X,Y,Z,a0,a1,a2,a3,a4],defers:=[] }:Act)) _ _ _ _ _ _ _ _ _ _ _ _ _ _ _ _ _ _ _ _ _ _ _ _ _ _ _ _ _ _ _ _ _ _ _ _ _ _ _ _ _ _ _ _ _ _ _ _ _ _ _ _ _ _ _ _)
  (Ext:=fun w'=>QS w4 w4.heap.size X X G lo #[.slice da n dc,.slice ca n' cc,.int .i64 f,.bool d] C7 zs ps f d r w'∧LV w w' #[.slice a n cap,.slice a' n' cap',.int .i64 f,.bool d]) (Good:=G10 zs ps f d (.agg #[.slice da n dc,.slice ca n' cc,.int .i64 f,.bool d]) (.agg #[.slice a n cap,.slice a' n' cap',.int .i64 f,.bool d])) (G10_mono _ _ _ _ _ _) (by kernel_rfl) (by kernel_rfl) ?hop ?hdone _ _ (fun _=>undef) _ (by simp) ?ext ?start (by simp)
 case start=>intro i hi h;exact absurd h (by rw[Array.getD_eq_getD_getElem?,Array.getElem?_replicate];split<;>simp)
 case ext=>exact⟨HQ9.out.grow ((Below.refl _ _).drew),LV.grow HS4.out (HQ9.out.grow ((Below.refl _ _).drew)).bel⟩
 case hop=>
  intro i o t w' ho hx hdep K hK;obtain⟨hx,hv⟩:=hx;have hi:i<5:=(Array.getElem?_eq_some_iff.1 ho).1;obtain rfl|rfl|rfl|rfl|rfl:i=0∨i=1∨i=2∨i=3∨i=4:=by omega
  all_goals(simp at ho;subst ho)
  ·clear hdep;obtain⟨q0,q1,q2,q3⟩:=row4 (w:=w') (g:=X) hx.x;go_simp;exact hK w' _ rfl ⟨hx,hv⟩ (Mono.refl _)
  ·clear hdep;obtain⟨q0,q1,q2,q3⟩:=hv.cells;go_simp;exact hK w' _ rfl ⟨hx,hv⟩ (Mono.refl _)
  ·have d1:t 1=_:=hdep ⟨1,.data⟩ (by simp) rfl;clear hdep;go_simp;refine(HTO.out _ hv.below).mono ?_;rintro e w9 ⟨v9,rfl,D9,hb9⟩;have D9':=D9.at_;go_simp;simpa[upd,d1] using hK w9 v9 D9' ⟨hx.grow hb9,hv.grow hb9⟩ (Mono.of_below hb9)
  ·have d0:t 0=_:=hdep ⟨0,.data⟩ (by simp) rfl;have d2:DAt w' (t 2) zs ps f d:=hdep ⟨2,.data⟩ (by simp) rfl;clear hdep;go_simp;refine(eqD_any _ _ zs ps f d w' hx.dev.at_ d2 (by omega) (by omega) HPB.out).mono ?_;rintro e w9 ⟨rfl,hb9⟩;go_simp;simpa[upd,d0] using hK w9 (.bool true) rfl ⟨hx.grow hb9,hv.grow hb9⟩ (Mono.of_below hb9)
  ·have d3:t 3=_:=hdep ⟨3,.data⟩ (by simp) rfl;clear hdep;go_simp;simpa[upd,d3] using hK w' (.bool false) rfl ⟨hx,hv⟩ (Mono.refl _)
 case hdone=>
  intro t w10 hx hg;have h4:t 4=_:=hg 4 (by decide);clear hg;dsimp only;rw[h4];generalize t 0=t0;generalize t 1=t1;generalize t 2=t2;generalize t 3=t3;clear h4;have HQ10:=hid_ofL hx.1;obtain⟨c0,c1,c2,c3⟩:=row4 hx.1.x;clear hx HQ9;go_wp2_with fail;refine(markD_any _ zs ps f d 1 _ _ w10 HQ10.out.dev (by decide) (by omega)).mono ?_;rintro e w11 ⟨rfl,_,hc11⟩;have hkk:¬ (1+(zs.length:Int)+ps.length+pSum ps<0):=by omega
  generalize (1+(zs.length:Int)+ps.length+pSum ps)=kk at *;have HQ11:=hid_ofL (HQ10.out.mark hc11 (Nat.le_refl _) HU5.out HLO.out.1 HLO.out.2);clear hc11 HQ10 c0 c1 c2 c3;go_wp2_with (first
   |(refine wpList_wanted (by first|rfl|(simp[Region.wanted,yielded,Act.put,hkk];done)) fun _ hK=>wp_load_row 36 (.tmp 6) rfl G rfl 36 C7 (0,0) _ HQ11.out.g Tryz.underlying36 rfl HI7.out (hK _ _ ?_))
   |(refine wpList_wanted (by first|rfl|(simp[Region.wanted,yielded,Act.put,hkk];done)) fun _ hK=>wp_load_row 36 (.tmp 4) rfl N0 rfl 36 C3 (0,0) _ (HR8.out _ HQ11.out.bel) Tryz.underlying36 rfl HI3.out (hK _ _ ?_))
   |fail)
  refine(eqIB HQ11.out.im.ib (HM4.out.below HQ11.out.bel) HBD.out).mono ?_;rintro e w12 ⟨rfl,hb12⟩;have HQ12:=hid_ofL (HQ11.out.grow hb12);clear HQ11 hb12;go_wp2_with (first
   |(refine wpList_load_row rfl 36 (.tmp 6) rfl G rfl 36 C7 (0,0) _ HQ12.out.g Tryz.underlying36 rfl HI7.out ?_)
   |fail)
  have hG12:G<w12.heap.size:=(Array.getElem?_eq_some_iff.1 HQ12.out.g).1;refine(markIG HQ12.out.im (by have:=HLO.out.2;omega) HBD.out).mono ?_;rintro e w13 ⟨rfl,m13,hb13,hk13⟩;have HG13:Hid (w13.heap[G]?=some (.cells C7 36 (0,0))):=by show _=_;rw[hk13 G (Nat.le_refl _) hG12];exact HQ12.out.g
  have HB13:=hid_ofL (HQ12.out.bel.trans (hb13.mono (Nat.le_trans HU5.out HLO.out.1)));have HM13:=hid_ofL m13;clear hb13 hk13 m13 HQ12 hG12;go_wp2_with (first
   |(refine wpList_load_row rfl 36 (.tmp 6) rfl G rfl 36 C7 (0,0) _ HG13.out Tryz.underlying36 rfl HI7.out ?_)
   |fail)
  refine(heldIM HM13.out HBD.out).mono ?_;rintro e w14 ⟨rfl,hb14⟩;have HB14:=hid_ofL (HB13.out.trans (hb14.mono HB13.out.size));have t1':¬ (imK r<0):=imK_pos r;have t2':(imK r != imK r)=false:=by simp
  have HS14:=hid_ofL (LV.grow HS4.out HB14.out);obtain⟨c0,c1,c2,c3⟩:=LV.cells HS14.out;clear hb14 HM13 HG13 HB13;generalize imK r=kr at *;go_wp2_with fail;refine(HTO.out _ (LV.below HS14.out)).mono ?_;rintro e w15 ⟨v15,rfl,D15,hb15⟩;have D15':=D15.at_;have HB15:=hid_ofL (HB14.out.trans (hb15.mono HB14.out.size));clear D15 hb15 HB14 HS14 c0 c1 c2 c3;go_wp2_with fail;refine(HLD.out _ _ D15').2.mono ?_;rintro e w16 ⟨CH,rfl,GH,hb16⟩;have b17:=(Below.refl w16.heap.size w16).alloc (Nat.le_refl _) (.cells CH 36);obtain⟨hzH,hoH⟩:=GH.ib.row;have HZH:=hid_ofL (And.intro hzH hoH);have HIH:Hid ((Tryz.prog.info? 36).map (·.size)=some CH.size):=by show _=_;rw[hzH];exact HSI.out
  have HBH:=hid_ofL (GH.ib.below b17);have HRH:Hid ((w16.alloc (.cells CH 36)).heap[w16.heap.size]?=some (.cells CH 36 (0,0))):=heap_alloc_new w16 _;have HB17:=hid_ofL (HB15.out.trans ((hb16.trans (b17.mono hb16.size)).mono HB15.out.size));clear hzH hoH GH hb16 b17 HB15 D15'
  go_upto_region 25 with (first
   |(refine wpList_store_row rfl 36 (.tmp 10) (.tmp 56) rfl w16.heap.size CH rfl rfl 36 _ (heap_alloc_new w16 _) HIH.out (by rw[HZH.out.1];rfl) HZH.out.2 ?_)
   |fail)
  try rw[World.setRow_alloc_new]
  generalize w16.alloc (.cells CH 36)=w17 at *;generalize w16.heap.size=H at *;go_wp2_with (first
   |(refine wpList_load_row rfl 36 (.tmp 10) rfl H rfl 36 CH (0,0) _ HRH.out Tryz.underlying36 rfl HIH.out ?_)
   |(refine wpList_load_row rfl 36 (.tmp 4) rfl N0 rfl 36 C3 (0,0) _ (HR8.out _ HB17.out) Tryz.underlying36 rfl HI3.out ?_)
   |fail)
  refine(eqIB HBH.out (HM4.out.below HB17.out) HBD.out).mono ?_;rintro e w18 ⟨rfl,hb18⟩;have HB18:=hid_ofL (LV.below (LV.grow HS4.out (HB17.out.trans (hb18.mono HB17.out.size))));clear hb18 HBH HRH HB17;go_wp2
  go_ret
  exact⟨rfl,HB18.out⟩
set_option maxRecDepth 100000 in
theorem lifted (os:Os) (started:os.Started) (H:Type) (enc:TypeId×Value→H) :
  ReturnsInHanded {} Tryz.checked os 3 .any (Rows.fnExactLoadDevSpec.pre6 enc Tryz.prog Tryz.f3 Rows.fnExactLoadDevRow.domain false) (Rows.fnExactLoadDevSpec.post enc Tryz.prog Tryz.f3 false true false false):=by
 refine returnsInHanded_of_change (C:=Tryz.checked) own started (by kernel_rfl) Tryz.func3
  (ChangeSpec.witness6 (enc:=enc) (C:=Tryz.checked) false ⟨#[],#[.agg #[.slice none 0 0,.slice none 0 0,.int .i64 0,.bool false]],[]⟩ 8 (by kernel_rfl) (by kernel_rfl) (by kernel_rfl) (by kernel_rfl)) ?_
 intro W base args ds gs before hval0 hW hcnd _
 have hval:∀(j:Nat) t v,Tryz.f3.params[j]?=some t→args[j]?=some v→Value.okWide Tryz.prog W .any base t v:=hval0
 have hW':=hW
 obtain⟨p,q,hA0,hV,rfl,hfz,hnd⟩:=hW
 have hA:DataW.TrodAll enc Tryz.prog W 0 (fun _=>true) true Tryz.f3.params.toList args.toList ds p:=hA0
 rw[Tryz.params3] at hA hval
 obtain⟨v0,vs0,d0,ds0,p0,q0,hargs,rfl,rfl,h0,r0⟩:=trodAll_cons hA
 obtain⟨rfl,rfl,rfl⟩:=trodAll_nil r0
 obtain rfl:args=#[v0]:=by cases args;simp_all
 obtain⟨rfl,rfl⟩:=trodVars_none hV
 have k0:=h0
 have lt0:∀ x∈p0,x.block<W.heap.size:=by obtain⟨m,hm⟩:=k0;exact DataW.trod_lt m _ _ _ hm
 obtain⟨a,n,cap,a',n',cap',zs,ps,f,d,rfl,hn,hn',hm,hm',ha,ha',hps,hbz,hpi,_⟩:=dev_of (hval 0 25 v0 rfl rfl) h0
 clear hA0 hval0
 refine(walk a n cap a' n' cap' zs ps f d W hn hn' hm hm' ha ha' hps hbz (fun i=>(hpi i).2)).mono fun e W' ⟨he,bel⟩=>?_
 subst he
 exact⟨_,rfl,_,_,_,[],_,[],hW',trodAll_mk1 (shut_bool Tryz.underlying4 _),(trodAll_cons_mk (Below.trod laidOut (by kernel_rfl) (of_decide_eq_true (by kernel_rfl)) k0 bel lt0) trodAll_mk0),rfl,bel.frame _,fun h=>by cases h⟩
theorem over:Rows.fnExactLoadDevRow.holds Tryz.pinned (OpenSpec.ofChange Rows.fnExactLoadDevSpec):=
 OpenClaim.holds_of_wide 3 Tryz.f3 rfl rfl rfl rfl rfl rfl rfl ⟨rfl,rfl,rfl,rfl,rfl⟩ rfl rfl rfl rfl rfl (by kernel_rfl) Tryz.func3 (by kernel_rfl)
  (of_decide_eq_true (by kernel_rfl)) (by unfold Func.isWrapper;first|(rw[if_pos (by decide +kernel)];kernel_rfl)|(rw[if_neg (by decide +kernel)];exact⟨rfl,rfl⟩))
  (fun os started H enc _=>lifted os started H enc)
end Go.Proofs.YtfkmfmnfnenbjaaGreat.lld
namespace Go.Proofs.YtfkmfmnfnenbjaaGreat
theorem loadDev_holds:Rows.FnExactLoadDevSaid:=lld.over
#print axioms loadDev_holds
end Go.Proofs.YtfkmfmnfnenbjaaGreat
