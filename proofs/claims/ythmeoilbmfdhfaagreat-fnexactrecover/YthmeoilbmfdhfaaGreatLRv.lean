import Derived.Test.YthmeoilbmfdhfaaGreatMRcK
import Derived.Test.YthmeoilbmfdhfaaGreatMEqSn
import Derived.Test.YthmeoilbmfdhfaaGreatMReg
import Derived.Test.YthmeoilbmfdhfaaGreatMLlB
namespace Go.Proofs.YthmeoilbmfdhfaaGreat.lrv
open Go.ChangeShapes Go.WideShapes Go.ChangeAt Go.RowKit
set_option linter.unusedVariables false
theorem own:ownKnob Tryz.prog.godebug=none:=by kernel_rfl
theorem laidOut:laidOutB Tryz.prog=true:=by kernel_rfl
structure QT (v:World) (P lo hi:Nat) (X:Array Value) (R:RO) (w':World):Prop where
 bel:Below v.heap.size v w'
 g:w'.heap[P]?=some (.cells X 50 (0,0))
 im:RTH lo hi w' X R.c R.z R.p R.k R.f R.d R.r
theorem QT.keep {v w' w'':World} {P lo hi:Nat} {X:Array Value} {R:RO} (h:QT v P lo hi X R w') (ho:w''.os=w'.os) (ht:w''.tape=w'.tape) (hu:w''.output=w'.output) (hs:w'.heap.size≤w''.heap.size) (hb:∀ k,k<w'.heap.size→(k<v.heap.size∨lo≤k)→w''.heap[k]?=w'.heap[k]?) (hP:lo≤P∧hi≤w'.heap.size):QT v P lo hi X R w'':=
 ⟨h.bel.trans ⟨ho,ht,hu,hs,fun k hk=>hb k (by have:=h.bel.size;omega) (.inl hk)⟩,by rw[hb P (Array.getElem?_eq_some_iff.1 h.g).1 (.inr hP.1)];exact h.g,h.im.keep hs fun k hk hk'=>hb k (by omega) (.inr hk)⟩
theorem open9 {w:World} {B g n c:Nat} {zs:List Int} (h:Own w B (.slice (some ⟨g,0,none⟩) n c) zs):Open w (some ⟨g,0,none⟩) n:=by
 obtain⟨g',c',e,q1,q2,q3,q4,q5⟩:=h.at_;simp only[Value.slice.injEq,Option.some.injEq,Addr.mk.injEq] at e;obtain⟨⟨rfl,_⟩,e2,rfl⟩:=e;rw[e2];exact q5
set_option maxHeartbeats 8000000 in
set_option maxRecDepth 100000 in
theorem walk (a:Option Addr) (n cap:Nat) (a':Option Addr) (n' cap':Nat) (zs:List Int) (ps:List PD) (f:Int) (d:Bool) (w:World) (hn:zs.length=n) (hn':ps.length=n') (hm:n≤9223372036854775807) (hm':n'≤9223372036854775807) (ha:At .u8 w a zs) (ha':PAt w a' ps) (hps:∀ i,(ps.getD i (0,[])).2.length≤9223372036854775807) (bz:Byte zs) (ka:Option Addr) (kn kc:Nat) (ks:List Int) (hl:ks.length=kn) (hkm:kn≤9223372036854775807) (hka:At .u8 w ka ks) :
  Calls Tryz.prog 5 #[.agg #[.slice a n cap,.slice a' n' cap',.int .i64 f,.bool d],.slice ka kn kc] w fun e w'=>e=.returned (.bool true)∧Below w.heap.size w w':=by
 subst hn hn' hl;have st0:LV w (w.alloc (.cells #[.slice a zs.length cap,.slice a' ps.length cap',.int .i64 f,.bool d] 25)) #[.slice a zs.length cap,.slice a' ps.length cap',.int .i64 f,.bool d]:=⟨(Below.refl _ _).alloc (Nat.le_refl _) _,heap_alloc_new w _⟩
 have HS0:Hid (LV w (w.alloc (.cells #[.slice a zs.length cap,.slice a' ps.length cap',.int .i64 f,.bool d] 25)) #[.slice a zs.length cap,.slice a' ps.length cap',.int .i64 f,.bool d]):=st0;clear st0;by_cases hbig:1048576<ks.length
 ·have hb':(1048576:Int)<(ks.length:Int):=by omega
  have HB:=hid_ofV HS0.out.below;clear hm hm' ha ha' hps bz hka hkm hbig HS0;go_enter Tryz.func5,Tryz.ntmps5;go_wp2
  go_ret
  exact⟨rfl,HB.out⟩
 have hsm:¬ (1048576:Int)<(ks.length:Int):=by omega
 have HKN:Hid (ks.length≤1048576):=by show _≤_;omega
 have HZ:Hid (∀ left n,szR left n=if left<n then -1 else left-n):=fun _ _=>rfl
 clear hbig hkm;go_enter Tryz.func5,Tryz.ntmps5;go_wp2_with fail;refine(szD_any a zs.length cap a' ps.length cap' ps f d 1048576 _ rfl (by decide) (by decide) hm hm' (ha'.below HS0.out.below) hps).mono ?_;rintro e w1 ⟨rfl,hb1⟩;have st1:=LV.grow HS0.out hb1;clear HS0 hb1 hsm;by_cases hbig:(1048576:Int)<((zs.length+(ps.length+pSum ps):Nat):Int)
 ·have hr:szR 1048576 (zs.length+(ps.length+pSum ps))=-1:=by rw[HZ.out,if_pos hbig]
  rw[hr];have HB1:Hid _:=st1.below;clear st1;go_wp2
  go_ret
  exact⟨rfl,HB1.out⟩
 have hr:szR 1048576 (zs.length+(ps.length+pSum ps))=1048576-((zs.length+(ps.length+pSum ps):Nat):Int):=by rw[HZ.out,if_neg hbig]
 have hsum:zs.length+ps.length+pSum ps≤1048576:=by omega
 have hpb:∀ i,(ps.getD i (0,[])).2.length≤1048576:=fun i=>by
  by_cases hi:i<ps.length
  ·have h1:=pSum_snoc ps i hi;have h2:=pSum_take ps (i+1);omega
  ·rw[List.getD_eq_getElem?_getD,List.getElem?_eq_none (by omega)];simp
 have hneg:¬ (szR 1048576 (zs.length+(ps.length+pSum ps))<0):=by rw[hr];omega
 generalize szR 1048576 (zs.length+(ps.length+pSum ps))=left at *;clear hr hbig hm hm' hps HZ;have HSUM:=hid_ofV hsum;have HPB:=hid_ofV hpb;have HTO:Hid (∀ ww,Below w.heap.size w ww→Calls Tryz.prog 8 #[.agg #[.slice a zs.length cap,.slice a' ps.length cap',.int .i64 f,.bool d]] ww fun e w'=>∃ v,e=.returned v∧DMine ww.heap.size w'.heap.size w' v zs ps f d∧Below ww.heap.size ww w'):=fun ww b=>toD_any a zs.length cap a' ps.length cap' zs ps f d _ rfl rfl (by omega) (by omega) (ha.below b) (ha'.below b) hpb
 have HTB:Hid (∀ ww,Below w.heap.size w ww→Calls Tryz.prog 16 #[.slice ka ks.length kc] ww fun e w'=>e=.returned (.slice (some ⟨ww.heap.size,0,none⟩) ks.length ks.length)∧Own w' ww.heap.size (.slice (some ⟨ww.heap.size,0,none⟩) ks.length ks.length) ks∧Below ww.heap.size ww w'):=fun ww b=>by
  refine(toB_any ka ks.length kc ks ww rfl HKN.out (hka.below b)).mono ?_;rintro e w' ⟨rfl,h1,h2⟩;exact⟨rfl,⟨h1,_,_,rfl⟩,h2⟩
 obtain⟨R,hR⟩:∃ R,rcO zs ps f d ks=R:=⟨_,rfl⟩
 have HRO:Hid (ROk R):=by rw[←hR];exact rcO_ok bz
 have HSR:Hid (∀(ww:World) (vd:Value) (b:Option Addr) (c:Nat),DAt ww vd zs ps f d→At .u8 ww b ks→Calls Tryz.prog 23 #[vd,.slice b ks.length c] ww fun e w'=>∃ X,e=.returned (.agg X)∧RM ww.heap.size w' X R.c R.z R.p R.k R.f R.d R.r∧Below ww.heap.size ww w'):=fun ww vd b c h hb=>by
  have h':=h;obtain⟨da,dc,ca,cc,rfl,_⟩:=h';rw[←hR];exact src_any da ca dc cc zs ps f d b c ks ww h hb (by omega) (by omega) hpb bz
 have HIR:Hid (∀(ww:World) (vd:Value) (b:Option Addr) (c:Nat),DAt ww vd zs ps f d→At .u8 ww b ks→Calls Tryz.prog 24 #[vd,.slice b ks.length c] ww fun e w'=>∃ X,e=.returned (.agg X)∧RTQ ww.heap.size w' X R.c R.z R.p R.k R.f R.d R.r∧Below ww.heap.size ww w'):=fun ww vd b c h hb=>by
  have h':=h;obtain⟨da,dc,ca,cc,rfl,_⟩:=h';rw[←hR];exact irc_any da ca dc cc zs ps f d b c ks ww h hb (by omega) (by omega) hpb bz HKN.out
 have HS17:Hid (∀ X:Array Value,X.size=17→(Tryz.prog.info? 50).map (·.size)=some X.size):=fun X h=>by rw[h];kernel_rfl
 clear ha ha' hka bz hpb hsum hR;obtain⟨c0,c1,c2,c3⟩:=st1.cells;have HS1:Hid (LV w w1 #[.slice a zs.length cap,.slice a' ps.length cap',.int .i64 f,.bool d]):=st1;clear st1;go_wp2_with fail;refine(HTO.out _ HS1.out.below).mono ?_;rintro e w2 ⟨v2,rfl,D2,hb2⟩;have HD2:=hid_ofV D2.at_;have HS2:Hid (LV w w2 #[.slice a zs.length cap,.slice a' ps.length cap',.int .i64 f,.bool d]):=LV.grow HS1.out hb2;clear D2 hb2 HS1 c0 c1 c2 c3;go_wp2_with fail;refine(HTB.out _ HS2.out.below).mono ?_;rintro e w3 ⟨rfl,o3,hb3⟩;have HD3:=hid_ofV (HD2.out.below hb3);have HA3:Hid (At .u8 w3 (some ⟨w2.heap.size,0,none⟩) ks):=(own_of o3).2.2.2.1;have HS3:Hid (LV w w3 #[.slice a zs.length cap,.slice a' ps.length cap',.int .i64 f,.bool d]):=LV.grow HS2.out hb3;clear o3 hb3 HD2 HS2;generalize w2.heap.size=g2 at *;go_wp2_with fail;refine(HSR.out w3 v2 _ _ HD3.out HA3.out).mono ?_;rintro e w4 ⟨X1,rfl,R4,hb4⟩;have HZ1:=hid_ofV R4.row;have HI1:=hid_ofV (HS17.out X1 HZ1.out.1);have b5:=(Below.refl w4.heap.size w4).alloc (Nat.le_refl _) (.cells X1 50);have HS5:Hid (LV w (w4.alloc (.cells X1 50)) #[.slice a zs.length cap,.slice a' ps.length cap',.int .i64 f,.bool d]):=LV.grow (LV.grow HS3.out hb4) b5;have HM5:Hid (RM w3.heap.size (w4.alloc (.cells X1 50)) X1 R.c R.z R.p R.k R.f R.d R.r):=R4.below b5;have HR5:Hid ((w4.alloc (.cells X1 50)).heap[w4.heap.size]?=some (.cells X1 50 (0,0))):=heap_alloc_new w4 _;clear R4 hb4 b5 HS3 HA3 HD3 HSR
 go_upto_region 8 with (first
  |(refine wpList_store_row rfl 50 (.tmp 6) (.tmp 26) rfl w4.heap.size X1 rfl rfl 50 _ (heap_alloc_new w4 _) HI1.out (by rw[HZ1.out.1];rfl) HZ1.out.2 ?_)
  |fail)
 try rw[World.setRow_alloc_new]
 generalize w4.alloc (.cells X1 50)=w5 at *;generalize w4.heap.size=N0 at *;generalize w3.heap.size=lo1 at *;have HR:Hid (∀ ww,Below w5.heap.size w5 ww→ww.heap[N0]?=some (.cells X1 50 (0,0))∧RM lo1 ww X1 R.c R.z R.p R.k R.f R.d R.r∧LV w ww #[.slice a zs.length cap,.slice a' ps.length cap',.int .i64 f,.bool d]):=fun ww b=>⟨(b.block _ (Array.getElem?_eq_some_iff.1 HR5.out).1).trans HR5.out,HM5.out.below b,LV.grow HS5.out b⟩
 clear HR5 HM5;obtain⟨c0,c1,c2,c3⟩:=LV.cells HS5.out;go_wp2_with fail;refine(HTO.out _ (LV.below HS5.out)).mono ?_;rintro e w6 ⟨v6,rfl,D6,hb6⟩;have D6':=D6;obtain⟨da,dc,ca,cc,B1,rfl,_⟩:=D6';have hb7:=(Below.refl w6.heap.size w6).alloc (Nat.le_refl _) (.cells #[.slice da zs.length dc,.slice ca ps.length cc,.int .i64 f,.bool d] 40);have HD7:Hid (DMine w5.heap.size w6.heap.size (w6.alloc (.cells #[.slice da zs.length dc,.slice ca ps.length cc,.int .i64 f,.bool d] 40)) (.agg #[.slice da zs.length dc,.slice ca ps.length cc,.int .i64 f,.bool d]) zs ps f d):=D6.below hb7;have HY7:Hid ((w6.alloc (.cells #[.slice da zs.length dc,.slice ca ps.length cc,.int .i64 f,.bool d] 40)).heap[w6.heap.size]?=some (.cells #[.slice da zs.length dc,.slice ca ps.length cc,.int .i64 f,.bool d] 40 (0,0))):=heap_alloc_new w6 _;have HB7:Hid (Below w5.heap.size w5 (w6.alloc (.cells #[.slice da zs.length dc,.slice ca ps.length cc,.int .i64 f,.bool d] 40))∧w5.heap.size≤w6.heap.size):=⟨hb6.trans (hb7.mono hb6.size),hb6.size⟩
 clear D6 hb6 hb7 c0 c1 c2 c3;go_wp2_with fail;generalize w6.alloc (.cells #[.slice da zs.length dc,.slice ca ps.length cc,.int .i64 f,.bool d] 40)=w7 at *;generalize w6.heap.size=Q at *;refine(HTB.out _ (HR.out _ HB7.out.1).2.2.below).mono ?_;rintro e w8 ⟨rfl,o8,hb8⟩;have hQ7:Q<w7.heap.size:=(Array.getElem?_eq_some_iff.1 HY7.out).1;have HD8:=hid_ofV (HD7.out.below hb8);have HY8:Hid (w8.heap[Q]?=some (.cells #[.slice da zs.length dc,.slice ca ps.length cc,.int .i64 f,.bool d] 40 (0,0))):=by show _=_;rw[hb8.block _ hQ7];exact HY7.out
 have HB8:=hid_ofV (HB7.out.1.trans (hb8.mono HB7.out.1.size));have HO8:=hid_ofV o8;have HL8:Hid (w5.heap.size≤Q∧Q<w7.heap.size∧w7.heap.size<w8.heap.size):=⟨HB7.out.2,hQ7,(own_of o8).2.1⟩
 clear HD7 HY7 HB7 o8 hb8 hQ7;generalize w7.heap.size=g at *;obtain⟨c0,c1,c2,c3⟩:=row4 HY8.out;go_wp2_with fail;refine(HIR.out w8 _ _ _ HD8.out.at_ (own_of HO8.out).2.2.2.1).mono ?_;rintro e w9 ⟨X2,rfl,R9,hb9⟩;have HZ2:=hid_ofV R9.row;have HI2:=hid_ofV (HS17.out X2 HZ2.out.1);have b10:=(Below.refl w9.heap.size w9).alloc (Nat.le_refl _) (.cells X2 50);have hb10:Below w8.heap.size w8 (w9.alloc (.cells X2 50)):=hb9.trans (b10.mono hb9.size);have HQ10:Hid (QT w5 w9.heap.size w8.heap.size w9.heap.size X2 R (w9.alloc (.cells X2 50))):=⟨HB8.out.trans (hb10.mono HB8.out.size),heap_alloc_new w9 _,(RTH.start R9 hb9.size).below b10⟩
 have HD10:=hid_ofV (HD8.out.below hb10);have HY10:Hid ((w9.alloc (.cells X2 50)).heap[Q]?=some (.cells #[.slice da zs.length dc,.slice ca ps.length cc,.int .i64 f,.bool d] 40 (0,0))):=by show _=_;rw[hb10.block _ (by have:=HL8.out;omega)];exact HY8.out
 have HO10:=hid_ofV (HO8.out.grow hb10);have HL:Hid (w5.heap.size≤Q∧Q<g∧g<w8.heap.size∧w8.heap.size≤w9.heap.size):=⟨HL8.out.1,HL8.out.2.1,HL8.out.2.2,hb9.size⟩
 clear R9 hb9 b10 hb10 HB8 HD8 HY8 HO8 HL8 c0 c1 c2 c3
 go_upto_region 11 with (first
  |(refine wpList_store_row rfl 50 (.tmp 9) (.tmp 33) rfl w9.heap.size X2 rfl rfl 50 _ (heap_alloc_new w9 _) HI2.out (by rw[HZ2.out.1];rfl) HZ2.out.2 ?_)
  |fail)
 try rw[World.setRow_alloc_new]
 generalize w9.alloc (.cells X2 50)=w10 at *;generalize w9.heap.size=P at *;generalize w8.heap.size=lo at *;go_wp2_with (first
  |(refine wpList_load_row rfl 50 (.tmp 9) rfl P rfl 50 X2 (0,0) _ HQ10.out.g Tryz.underlying50 rfl HI2.out ?_)
  |(refine wpList_load_row rfl 50 (.tmp 6) rfl N0 rfl 50 X1 (0,0) _ (HR.out _ HQ10.out.bel).1 Tryz.underlying50 rfl HI1.out ?_)
  |fail)
 refine(eqQ_any HQ10.out.im.rtq (HR.out _ HQ10.out.bel).2.1 HRO.out.gle).mono ?_;rintro e w11 ⟨rfl,hb11⟩;have HQ11:=hid_ofV (HQ10.out.grow hb11);have HD11:=hid_ofV (HD10.out.below hb11);have HY11:Hid (w11.heap[Q]?=some (.cells #[.slice da zs.length dc,.slice ca ps.length cc,.int .i64 f,.bool d] 40 (0,0))):=by show _=_;rw[hb11.block _ (Array.getElem?_eq_some_iff.1 HY10.out).1];exact HY10.out
 have HO11:=hid_ofV (HO10.out.grow hb11);clear HQ10 HD10 HY10 HO10 hb11;go_wp2;refine wp_region_any (by kernel_rfl) ?_;refine wpAny_slots (frame:=(fun (a b c d e f g h i j k l m n o p q r s u v w x y z A B C D E F G H I J K L M N O P Q R S T U V W X Y Z a0 a1 a2 a3 a4 a5 a6 a7 a8 a9 b0 b1 b2 b3 b4 b5 b6 b7 b8 b9 c0 c1 c2 c3 c4 c5:Value)=>fun (t:Nat→Value)=>({ tmps:=List.toArray [a,b,c,d,e,f,g,h,i,j,k,l,m,n,o,p,q,r,s,u,v,w,x,y,z,A,B,C,D,E,F,G,H,I,J,K,L,M,t 0,t 1,t 2,t 3,t 4,N,O,P,Q,R,S,T,U,V,W,X,Y,Z,a0,a1,a2,a3,a4,a5,a6,a7,a8,a9,b0,b1,b2,b3,b4,b5,b6,b7,b8,b9,c0,c1,c2,c3,c4,c5],defers:=[] }:Act)) _ _ _ _ _ _ _ _ _ _ _ _ _ _ _ _ _ _ _ _ _ _ _ _ _ _ _ _ _ _ _ _ _ _ _ _ _ _ _ _ _ _ _ _ _ _ _ _ _ _ _ _ _ _ _ _ _ _ _ _ _ _ _ _ _ _ _ _ _ _ _ _ _ _ _ _ _)
  (Ext:=fun w'=>(QT w5 P lo P X2 R w'∧DMine w5.heap.size Q w' (.agg #[.slice da zs.length dc,.slice ca ps.length cc,.int .i64 f,.bool d]) zs ps f d∧w'.heap[Q]?=some (.cells #[.slice da zs.length dc,.slice ca ps.length cc,.int .i64 f,.bool d] 40 (0,0))∧Own w' g (.slice (some ⟨g,0,none⟩) ks.length ks.length) ks)∧LV w w' #[.slice a zs.length cap,.slice a' ps.length cap',.int .i64 f,.bool d]) (Good:=G10 zs ps f d (.agg #[.slice da zs.length dc,.slice ca ps.length cc,.int .i64 f,.bool d]) (.agg #[.slice a zs.length cap,.slice a' ps.length cap',.int .i64 f,.bool d])) (G10_mono _ _ _ _ _ _) (by kernel_rfl) (by kernel_rfl) ?hop ?hdone _ _ (fun _=>undef) _ (by simp) ?ext ?start (by simp)
 case start=>intro i hi h;exact absurd h (by rw[Array.getD_eq_getD_getElem?,Array.getElem?_replicate];split<;>simp)
 case ext=>
  have b:=(Below.refl w11.heap.size w11).drew;exact⟨⟨HQ11.out.grow b,HD11.out.below b,HY11.out,HO11.out.grow b⟩,(HR.out _ (HQ11.out.grow b).bel).2.2⟩
 case hop=>
  intro i o t w' ho hx hdep K hK;obtain⟨⟨hq,hd,hy,hk⟩,hv⟩:=hx;have hgr:∀ w'',Below w'.heap.size w' w''→(QT w5 P lo P X2 R w''∧DMine w5.heap.size Q w'' (.agg #[.slice da zs.length dc,.slice ca ps.length cc,.int .i64 f,.bool d]) zs ps f d∧w''.heap[Q]?=some (.cells #[.slice da zs.length dc,.slice ca ps.length cc,.int .i64 f,.bool d] 40 (0,0))∧Own w'' g (.slice (some ⟨g,0,none⟩) ks.length ks.length) ks)∧LV w w'' #[.slice a zs.length cap,.slice a' ps.length cap',.int .i64 f,.bool d]:=fun w'' b=>⟨⟨hq.grow b,hd.below b,by rw[b.block _ (Array.getElem?_eq_some_iff.1 hy).1];exact hy,hk.grow b⟩,hv.grow b⟩
  have hi:i<5:=(Array.getElem?_eq_some_iff.1 ho).1;obtain rfl|rfl|rfl|rfl|rfl:i=0∨i=1∨i=2∨i=3∨i=4:=by omega
  all_goals(simp at ho;subst ho)
  ·clear hdep;obtain⟨q0,q1,q2,q3⟩:=row4 hy;go_simp;exact hK w' _ rfl ⟨⟨hq,hd,hy,hk⟩,hv⟩ (Mono.refl _)
  ·clear hdep;obtain⟨q0,q1,q2,q3⟩:=hv.cells;go_simp;exact hK w' _ rfl ⟨⟨hq,hd,hy,hk⟩,hv⟩ (Mono.refl _)
  ·have d1:t 1=_:=hdep ⟨1,.data⟩ (by simp) rfl;clear hdep;go_simp;refine(HTO.out _ hv.below).mono ?_;rintro e w9 ⟨v9,rfl,D9,hb9⟩;have D9':=D9.at_;go_simp;simpa[upd,d1] using hK w9 v9 D9' (hgr _ hb9) (Mono.of_below hb9)
  ·have d0:t 0=_:=hdep ⟨0,.data⟩ (by simp) rfl;have d2:DAt w' (t 2) zs ps f d:=hdep ⟨2,.data⟩ (by simp) rfl;clear hdep;have e:=eqD_any (.agg #[.slice da zs.length dc,.slice ca ps.length cc,.int .i64 f,.bool d]) (t 2) zs ps f d w' hd.at_ d2 (by have:=HSUM.out;omega) (by have:=HSUM.out;omega) HPB.out;clear d2;go_simp;refine e.mono ?_;rintro e w9 ⟨rfl,hb9⟩;go_simp;simpa[upd,d0] using hK w9 (.bool true) rfl (hgr _ hb9) (Mono.of_below hb9)
  ·have d3:t 3=_:=hdep ⟨3,.data⟩ (by simp) rfl;clear hdep;go_simp;simpa[upd,d3] using hK w' (.bool false) rfl ⟨⟨hq,hd,hy,hk⟩,hv⟩ (Mono.refl _)
 case hdone=>
  intro t w12 hx hg;have h4:t 4=_:=hg 4 (by decide);clear hg;dsimp only;rw[h4];generalize t 0=t0;generalize t 1=t1;generalize t 2=t2;generalize t 3=t3;clear h4 HQ11 HD11 HY11 HO11;obtain⟨⟨hq,hd,hy,hk⟩,hv⟩:=hx;have HQ12:=hid_ofV hq;have HD12:=hid_ofV hd;have HY12:=hid_ofV hy;have HO12:=hid_ofV hk;clear hq hd hy hk hv;go_wp2_with fail;refine(HTB.out _ (HR.out _ HQ12.out.bel).2.2.below).mono ?_;rintro e w13 ⟨rfl,o13,hb13⟩;have HQ13:=hid_ofV (HQ12.out.grow hb13);have HD13:=hid_ofV (HD12.out.below hb13);have HY13:Hid (w13.heap[Q]?=some (.cells #[.slice da zs.length dc,.slice ca ps.length cc,.int .i64 f,.bool d] 40 (0,0))):=by show _=_;rw[hb13.block _ (Array.getElem?_eq_some_iff.1 HY12.out).1];exact HY12.out
  have HO13:=hid_ofV (HO12.out.grow hb13);have HN13:=hid_ofV (own_of o13).2.2.2.1;clear HQ12 HD12 HY12 HO12 hb13 o13;generalize w12.heap.size=g12 at *;go_wp2_with fail;refine(eqB_any _ _ ks.length ks.length ks.length ks w13 rfl HKN.out (own_of HO13.out).2.2.2.1 HN13.out).mono ?_;rintro e _ ⟨rfl,q14,rfl⟩;have b14:Below w13.heap.size w13 (w13.drewN q14):=belD (Below.refl _ _) _;have HQ14:=hid_ofV (HQ13.out.grow b14);have HD14:=hid_ofV (HD13.out.below b14);have HY14:Hid ((w13.drewN q14).heap[Q]?=some (.cells #[.slice da zs.length dc,.slice ca ps.length cc,.int .i64 f,.bool d] 40 (0,0))):=by show _=_;rw[b14.block _ (Array.getElem?_eq_some_iff.1 HY13.out).1];exact HY13.out
  have HO14:=hid_ofV (HO13.out.grow b14);clear HQ13 HD13 HY13 HO13 HN13 b14;generalize w13.drewN q14=w14 at *;obtain⟨c0,c1,c2,c3⟩:=row4 HY14.out;go_wp2_with fail;refine(markD_any (.agg #[.slice da zs.length dc,.slice ca ps.length cc,.int .i64 f,.bool d]) zs ps f d 1 w5.heap.size Q w14 HD14.out (by decide) (by have:=HSUM.out;omega)).mono ?_;rintro e w15 ⟨rfl,_,hc15⟩;have hk9:(0:Int)≤1+zs.length+ps.length+pSum ps∧1+(zs.length:Int)+ps.length+pSum ps≤1048577:=by have:=HSUM.out;omega
  generalize (1+(zs.length:Int)+ps.length+pSum ps)=k9 at *;have hP14:P<w14.heap.size:=(Array.getElem?_eq_some_iff.1 HQ14.out.g).1;have HQ15:Hid (QT w5 P lo P X2 R w15):=HQ14.out.keep hc15.os hc15.tape hc15.output hc15.size (fun k hk ho=>hc15.block k hk (by have:=HL.out;omega)) ⟨HL.out.2.2.2,by omega⟩;have HO15:Hid (Open w15 (some ⟨g,0,none⟩) ks.length):=(open9 HO14.out).keep (fun ad e=>by cases e;exact hc15.block g (by have:=HL.out;omega) (.inr (by have:=HL.out;omega))) hc15.size;clear HQ14 HD14 HY14 HO14 hc15 hP14 c0 c1 c2 c3;go_wp2_with fail;refine(markB_any (some ⟨g,0,none⟩) ks.length ks.length k9 w15 HO15.out hk9.1 (by have:=HKN.out;omega)).mono ?_;rintro e w16 ⟨rfl,_,wr16⟩;have hkk:¬ (k9+(ks.length:Int)<0):=by omega
  have hP15:P<w15.heap.size:=(Array.getElem?_eq_some_iff.1 HQ15.out.g).1;have HQ16:Hid (QT w5 P lo P X2 R w16):=HQ15.out.keep wr16.os wr16.tape wr16.output (Nat.le_of_eq wr16.size.symm) (fun k hk ho=>wr16.block k (fun ad e=>by cases e;have:=HL.out;show k≠g;omega)) ⟨HL.out.2.2.2,by omega⟩;clear HQ15 HO15 wr16 hP15;generalize (k9+(ks.length:Int))=kk at *;clear hk9;go_wp2_with (first
   |(refine wpList_wanted (by first|rfl|(simp[Region.wanted,yielded,Act.put,hkk];done)) fun _ hK=>wp_load_row 50 (.tmp 9) rfl P rfl 50 X2 (0,0) _ HQ16.out.g Tryz.underlying50 rfl HI2.out (hK _ _ ?_))
   |(refine wpList_wanted (by first|rfl|(simp[Region.wanted,yielded,Act.put,hkk];done)) fun _ hK=>wp_load_row 50 (.tmp 6) rfl N0 rfl 50 X1 (0,0) _ (HR.out _ HQ16.out.bel).1 Tryz.underlying50 rfl HI1.out (hK _ _ ?_))
   |fail)
  refine(eqQ_any HQ16.out.im.rtq (HR.out _ HQ16.out.bel).2.1 HRO.out.gle).mono ?_;rintro e w17 ⟨rfl,hb17⟩;have HQ17:=hid_ofV (HQ16.out.grow hb17);clear HQ16 hb17;go_wp2_with (first
   |(refine wpList_load_row rfl 50 (.tmp 9) rfl P rfl 50 X2 (0,0) _ HQ17.out.g Tryz.underlying50 rfl HI2.out ?_)
   |fail)
  have hP17:P<w17.heap.size:=(Array.getElem?_eq_some_iff.1 HQ17.out.g).1;refine(mkRQ_any HQ17.out.im HRO.out.r HRO.out.sum).mono ?_;rintro e w18 ⟨rfl,m18,b18,j18⟩;have HB18:Hid (Below w5.heap.size w5 w18):=HQ17.out.bel.trans (b18.mono (by have:=HL.out;omega));have HX18:Hid (w18.heap[P]?=some (.cells X2 50 (0,0))):=by show _=_;rw[j18 P (Nat.le_refl _) hP17];exact HQ17.out.g
  have hgk:¬ gQ R.z R.p R.k R.r<0:=gQ_pos _ _ _ _;have HHD:Hid (Calls Tryz.prog 22 #[.agg X2,.int .i64 1] w18 fun e w'=>e=.returned (.int .i64 (gQ R.z R.p R.k R.r))∧Below w18.heap.size w18 w'):=hdRQ_any m18 HRO.out.r HRO.out.sum;clear HQ17 m18 b18 j18 hP17;generalize gQ R.z R.p R.k R.r=K at *;go_wp2_with (first
   |(refine wpList_load_row rfl 50 (.tmp 9) rfl P rfl 50 X2 (0,0) _ HX18.out Tryz.underlying50 rfl HI2.out ?_)
   |fail)
  refine HHD.out.mono ?_;rintro e w19 ⟨rfl,b19⟩;have HB19:=hid_ofV (HB18.out.trans (b19.mono HB18.out.size));have zK:(K != K)=false:=by simp
  clear HB18 HX18 HHD b19;obtain⟨c0,c1,c2,c3⟩:=LV.cells (HR.out _ HB19.out).2.2;go_wp2_with fail;refine(HTO.out _ (HR.out _ HB19.out).2.2.below).mono ?_;rintro e w20 ⟨v20,rfl,D20,hb20⟩;have HD20:=hid_ofV D20.at_;have HB20:=hid_ofV (HB19.out.trans (hb20.mono HB19.out.size));clear D20 hb20 HB19 c0 c1 c2 c3;go_wp2_with fail;refine(HTB.out _ (HR.out _ HB20.out).2.2.below).mono ?_;rintro e w21 ⟨rfl,o21,hb21⟩;have HD21:=hid_ofV (HD20.out.below hb21);have HA21:=hid_ofV (own_of o21).2.2.2.1;have HB21:=hid_ofV (HB20.out.trans (hb21.mono HB20.out.size));clear o21 hb21 HD20 HB20;generalize w20.heap.size=g20 at *;go_wp2_with fail;refine(HIR.out w21 v20 _ _ HD21.out HA21.out).mono ?_;rintro e w22 ⟨X3,rfl,R22,hb22⟩;have HZ3:=hid_ofV R22.row;have HI3:=hid_ofV (HS17.out X3 HZ3.out.1);have b23:=(Below.refl w22.heap.size w22).alloc (Nat.le_refl _) (.cells X3 50);have HB23:Hid (Below w5.heap.size w5 (w22.alloc (.cells X3 50))):=HB21.out.trans ((hb22.trans (b23.mono hb22.size)).mono HB21.out.size);have HR23:Hid (RTQ w21.heap.size (w22.alloc (.cells X3 50)) X3 R.c R.z R.p R.k R.f R.d R.r):=R22.below b23;have HX23:Hid ((w22.alloc (.cells X3 50)).heap[w22.heap.size]?=some (.cells X3 50 (0,0))):=heap_alloc_new w22 _;clear R22 hb22 b23 HB21 HD21 HA21 HIR HTB HTO
  go_upto_region 31 with (first
   |(refine wpList_store_row rfl 50 (.tmp 13) (.tmp 77) rfl w22.heap.size X3 rfl rfl 50 _ (heap_alloc_new w22 _) HI3.out (by rw[HZ3.out.1];rfl) HZ3.out.2 ?_)
   |fail)
  try rw[World.setRow_alloc_new]
  generalize w22.alloc (.cells X3 50)=w23 at *;generalize w22.heap.size=P3 at *;go_wp2_with (first
   |(refine wpList_load_row rfl 50 (.tmp 13) rfl P3 rfl 50 X3 (0,0) _ HX23.out Tryz.underlying50 rfl HI3.out ?_)
   |(refine wpList_load_row rfl 50 (.tmp 6) rfl N0 rfl 50 X1 (0,0) _ (HR.out _ HB23.out).1 Tryz.underlying50 rfl HI1.out ?_)
   |fail)
  refine(eqQ_any HR23.out (HR.out _ HB23.out).2.1 HRO.out.gle).mono ?_;rintro e w24 ⟨rfl,hb24⟩;have HF:Hid (Below w.heap.size w w24):=(HR.out _ (HB23.out.trans (hb24.mono HB23.out.size))).2.2.below;clear hb24 HR23 HX23 HB23;go_wp2_with fail
  go_ret
  exact⟨rfl,HF.out⟩
set_option maxRecDepth 100000 in
theorem lifted (os:Os) (started:os.Started) (H:Type) (enc:TypeId×Value→H) :
  ReturnsInHanded {} Tryz.checked os 5 .any (Rows.fnExactRecoverSpec.pre6 enc Tryz.prog Tryz.f5 Rows.fnExactRecoverRow.domain false) (Rows.fnExactRecoverSpec.post enc Tryz.prog Tryz.f5 false true false false):=by
 refine returnsInHanded_of_change (C:=Tryz.checked) own started (by kernel_rfl) Tryz.func5
  (ChangeSpec.witness6 (enc:=enc) (C:=Tryz.checked) false ⟨#[],#[.agg #[.slice none 0 0,.slice none 0 0,.int .i64 0,.bool false],.slice none 0 0],[]⟩ 8 (by kernel_rfl) (by kernel_rfl) (by kernel_rfl) (by kernel_rfl)) ?_
 intro W base args ds gs before hval0 hW hcnd _;have hval:∀(j:Nat) t v,Tryz.f5.params[j]?=some t→args[j]?=some v→Value.okWide Tryz.prog W .any base t v:=hval0
 have hW':=hW;obtain⟨p,q,hA0,hV,rfl,hfz,hnd⟩:=hW;have hA:DataW.TrodAll enc Tryz.prog W 0 (fun _=>true) true Tryz.f5.params.toList args.toList ds p:=hA0;rw[Tryz.params5] at hA hval;obtain⟨v0,vs0,d0,ds0,p0,q0,hargs,rfl,rfl,h0,r0⟩:=trodAll_cons hA;obtain⟨v1,vs1,d1,ds1,p1,q1,hargs1,rfl,rfl,h1,r1⟩:=trodAll_cons r0;obtain⟨rfl,rfl,rfl⟩:=trodAll_nil r1;obtain rfl:args=#[v0,v1]:=by cases args;simp_all
 obtain⟨rfl,rfl⟩:=trodVars_none hV;have k0:=h0;have k1:=h1;have lt0:∀ x∈p0,x.block<W.heap.size:=by obtain⟨m,hm⟩:=k0;exact DataW.trod_lt m _ _ _ hm
 have lt1:∀ x∈p1,x.block<W.heap.size:=by obtain⟨m,hm⟩:=k1;exact DataW.trod_lt m _ _ _ hm
 obtain⟨a,n,cap,a',n',cap',zs,ps,f,d,rfl,hn,hn',hm,hm',ha,ha',hps,hbz,hpi,_⟩:=dev_of (hval 0 25 v0 rfl rfl) h0;obtain⟨ya0,yn0,yc0,hv2⟩:=okWide_slice Tryz.underlying22 (hval 1 22 v1 rfl rfl);have hcs:∃ ya yn yc z,v1=.slice ya yn yc∧z.length=yn∧yn≤9223372036854775807∧At .u8 W ya z:=by
  obtain⟨fuel,h2'⟩:=h1;rw[hv2] at h2';obtain⟨ya,yn,yc,z,e,g1,g2,_,g3⟩:=bytes_of (v:=.slice ya0 yn0 yc0) h2';exact⟨ya,yn,yc,z,hv2.trans e,g1,g2,g3⟩
 obtain⟨ya,yn,yc,z,rfl,hyn,hym,hy⟩:=hcs;clear hA0 hval0;refine(walk a n cap a' n' cap' zs ps f d W hn hn' hm hm' ha ha' hps hbz ya yn yc z hyn hym hy).mono fun e W' ⟨he,bel⟩=>?_
 subst he;exact⟨_,rfl,_,_,_,[],_,[],hW',trodAll_mk1 (shut_bool Tryz.underlying4 _),(trodAll_cons_mk (Below.trod laidOut (by kernel_rfl) (of_decide_eq_true (by kernel_rfl)) k0 bel lt0) (trodAll_cons_mk (Below.trod laidOut (by kernel_rfl) (of_decide_eq_true (by kernel_rfl)) k1 bel lt1) trodAll_mk0)),rfl,bel.frame _,fun h=>by cases h⟩
theorem over:Rows.fnExactRecoverRow.holds Tryz.pinned (OpenSpec.ofChange Rows.fnExactRecoverSpec):=
 OpenClaim.holds_of_wide 5 Tryz.f5 rfl rfl rfl rfl rfl rfl rfl ⟨rfl,rfl,rfl,rfl,rfl⟩ rfl rfl rfl rfl rfl (by kernel_rfl) Tryz.func5 (by kernel_rfl)
  (of_decide_eq_true (by kernel_rfl)) (by unfold Func.isWrapper;first|(rw[if_pos (by decide +kernel)];kernel_rfl)|(rw[if_neg (by decide +kernel)];exact⟨rfl,rfl⟩))
  (fun os started H enc _=>lifted os started H enc)
end Go.Proofs.YthmeoilbmfdhfaaGreat.lrv
namespace Go.Proofs.YthmeoilbmfdhfaaGreat
theorem recover_holds:Rows.FnExactRecoverSaid:=lrv.over
#print axioms recover_holds
end Go.Proofs.YthmeoilbmfdhfaaGreat
