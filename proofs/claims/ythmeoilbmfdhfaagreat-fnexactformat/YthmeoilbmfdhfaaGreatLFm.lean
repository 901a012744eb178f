import Derived.Test.YthmeoilbmfdhfaaGreatMDevHeld
import Derived.Test.YthmeoilbmfdhfaaGreatMEqSn
namespace Go.Proofs.YthmeoilbmfdhfaaGreat.lfm
open Go.ChangeShapes Go.WideShapes Go.ChangeAt Go.RowKit
set_option linter.unusedVariables false
theorem own:ownKnob Tryz.prog.godebug=none:=by kernel_rfl
theorem laidOut:laidOutB Tryz.prog=true:=by kernel_rfl
theorem open9 {w:World} {B g n c:Nat} {zs:List Int} (h:Own w B (.slice (some ⟨g,0,none⟩) n c) zs):Open w (some ⟨g,0,none⟩) n:=by
 obtain⟨g',c',e,q1,q2,q3,q4,q5⟩:=h.at_
 simp only[Value.slice.injEq,Option.some.injEq,Addr.mk.injEq] at e
 obtain⟨⟨rfl,_⟩,e2,rfl⟩:=e
 rw[e2];exact q5
set_option maxHeartbeats 8000000 in
set_option maxRecDepth 100000 in
theorem walk (n:Int) (a:Option Addr) (kn kc:Nat) (ks:List Int) (w:World) (hl:ks.length=kn) (hm:kn≤9223372036854775807) (hA:At .u8 w a ks) :
  Calls Tryz.prog 4 #[.int .i64 n,.slice a kn kc] w fun e w'=>e=.returned (.bool true)∧Below w.heap.size w w':=by
 by_cases hbig:1048576<kn
 ·have hb':(1048576:Int)<(kn:Int):=by omega
  clear hm hA hl hbig;go_enter Tryz.func4,Tryz.ntmps4;go_wp2
  go_ret
  exact⟨rfl,Below.refl _ _⟩
 have hsm:¬ (1048576:Int)<(kn:Int):=by omega
 have HKN:Hid (kn≤1048576):=by show _≤_;omega
 obtain⟨c,zs,ks2,f,d,r,⟨l1,l2,l3⟩,hS,hI⟩:=fm_both n ks
 rw[hl] at hS hI
 have HSF:Hid (∀(ww:World) (a':Option Addr) (kc':Nat),At .u8 ww a' ks→Calls Tryz.prog 15 #[.int .i64 n,.slice a' kn kc'] ww fun e w'=>∃ X,e=.returned (.agg X)∧RL ww.heap.size w' X c zs ks2 f d r∧Below ww.heap.size ww w'):=hS
 have HIF:Hid (∀(ww:World) (a':Option Addr) (kc':Nat),At .u8 ww a' ks→Calls Tryz.prog 17 #[.int .i64 n,.slice a' kn kc'] ww fun e w'=>∃ X,e=.returned (.agg X)∧RP ww.heap.size w' X c zs ks2 f d r∧Below ww.heap.size ww w'):=hI
 have HTB:Hid (∀ ww,Below w.heap.size w ww→Calls Tryz.prog 16 #[.slice a kn kc] ww fun e w'=>e=.returned (.slice (some ⟨ww.heap.size,0,none⟩) kn kn)∧Own w' ww.heap.size (.slice (some ⟨ww.heap.size,0,none⟩) kn kn) ks∧Below ww.heap.size ww w'):=fun ww b=>by
  refine(toB_any a kn kc ks ww hl HKN.out (hA.below b)).mono ?_;rintro e w' ⟨rfl,h1,h2⟩;exact⟨rfl,⟨by rw[hl];exact h1,_,_,by rw[hl]⟩,h2⟩
 have HLE:Hid (zs.length≤16384∧ks2.length≤32∧ImLe r):=⟨l1,l2,l3⟩
 have HGL:Hid (GLe zs [] ks2 r):=by
  obtain⟨i1,i2,i3,i4,i5,i6⟩:=l3;exact⟨by omega,by simp,by simp,by omega,by omega,by omega,by omega,by omega,by omega,by omega⟩
 have HLN:=hid_of hl
 have HS17:Hid (∀ X:Array Value,X.size=17→(Tryz.prog.info? 50).map (·.size)=some X.size):=fun X h=>by rw[h];kernel_rfl
 clear hA hm hl hS hI l1 l2 l3 hbig
 go_enter Tryz.func4,Tryz.ntmps4
 go_wp2_with fail
 refine(HTB.out w (Below.refl _ _)).mono ?_
 rintro e w1 ⟨rfl,o1,b1⟩
 have HA1:Hid (At .u8 w1 (some ⟨w.heap.size,0,none⟩) ks):=(own_of o1).2.2.2.1
 have HB1:=hid_of b1
 clear o1 b1 hsm
 go_wp2_with fail
 refine(HSF.out w1 _ kn HA1.out).mono ?_
 rintro e w2 ⟨X1,rfl,R1,b2⟩
 have HZ1:=hid_of R1.row
 have HS1:=hid_of (HS17.out X1 HZ1.out.1)
 have b3:=(Below.refl w2.heap.size w2).alloc (Nat.le_refl _) (.cells X1 50)
 have HQ3:Hid (FQ w w2.heap.size X1 c zs ks2 f d r (w2.alloc (.cells X1 50))):=⟨(HB1.out.trans (b2.mono HB1.out.size)).trans (b3.mono (Nat.le_trans HB1.out.size b2.size)),heap_alloc_new w2 _,R1.rb.low b3⟩
 have HP:Hid (w.heap.size≤w2.heap.size):=Nat.le_trans HB1.out.size b2.size
 have HP3:Hid (w2.heap.size<(w2.alloc (.cells X1 50)).heap.size):=by show _<_;simp
 clear HB1 HA1 R1 b2 b3 HSF
 go_upto_region 4 with (first
  |(refine wpList_store_row rfl 50 (.tmp 5) (.tmp 18) rfl w2.heap.size X1 rfl rfl 50 _ (heap_alloc_new w2 _) HS1.out (by rw[HZ1.out.1];rfl) HZ1.out.2 ?_)
  |fail)
 try rw[World.setRow_alloc_new]
 generalize w2.alloc (.cells X1 50)=w3 at *
 generalize w2.heap.size=P at *
 go_wp2_with fail
 refine(HTB.out w3 HQ3.out.bw).mono ?_
 rintro e w4 ⟨rfl,o4,b4⟩
 have HQ4:=hid_of (HQ3.out.call b4 HP.out)
 have HO4:=hid_of o4
 have HG4:Hid (P<w3.heap.size∧w3.heap.size<w4.heap.size):=⟨HP3.out,(own_of o4).2.1⟩
 clear HQ3 o4 b4 HP3
 generalize w3.heap.size=g at *
 go_wp2_with fail
 refine(HIF.out w4 _ kn (own_of HO4.out).2.2.2.1).mono ?_
 rintro e w5 ⟨X2,rfl,R5,b5⟩
 have HZ2:=hid_of R5.rl.row
 have HS2:=hid_of (HS17.out X2 HZ2.out.1)
 have b6:=(Below.refl w5.heap.size w5).alloc (Nat.le_refl _) (.cells X2 50)
 have HQ6:Hid (FQ w P X1 c zs ks2 f d r (w5.alloc (.cells X2 50))):=(HQ4.out.call b5 HP.out).call b6 HP.out
 have HR6:Hid (RP w4.heap.size (w5.alloc (.cells X2 50)) X2 c zs ks2 f d r):=R5.below b6
 have HX6:Hid ((w5.alloc (.cells X2 50)).heap[w5.heap.size]?=some (.cells X2 50 (0,0))):=heap_alloc_new w5 _
 have HO6:Hid (Own (w5.alloc (.cells X2 50)) g (.slice (some ⟨g,0,none⟩) kn kn) ks):=(HO4.out.grow b5).grow b6
 have HGH:Hid (∀ C,XR X2 c C→GH w5.heap.size C):=R5.gh
 have HG5:Hid (P<g∧g<w4.heap.size∧w4.heap.size≤w5.heap.size):=⟨HG4.out.1,HG4.out.2,b5.size⟩
 clear HQ4 HO4 R5 b5 b6 HG4
 go_upto_region 6 with (first
  |(refine wpList_store_row rfl 50 (.tmp 7) (.tmp 23) rfl w5.heap.size X2 rfl rfl 50 _ (heap_alloc_new w5 _) HS2.out (by rw[HZ2.out.1];rfl) HZ2.out.2 ?_)
  |fail)
 try rw[World.setRow_alloc_new]
 generalize w5.alloc (.cells X2 50)=w6 at *
 generalize w5.heap.size=P7 at *
 generalize w4.heap.size=lo at *
 go_wp2_with (first
  |(refine wpList_load_row rfl 50 (.tmp 7) rfl P7 rfl 50 X2 (0,0) _ HX6.out Tryz.underlying50 rfl HS2.out ?_)
  |(refine wpList_load_row rfl 50 (.tmp 5) rfl P rfl 50 X1 (0,0) _ HQ6.out.x1 Tryz.underlying50 rfl HS1.out ?_)
  |fail)
 obtain⟨l6,hl6⟩:=HQ6.out.r1.rl
 refine(eqR_any HR6.out.rl hl6 HGL.out).mono ?_
 rintro e w7 ⟨rfl,b7⟩
 have HQ7:=hid_of (HQ6.out.call b7 HP.out)
 have HR7:=hid_of (HR6.out.below b7)
 have HX7:Hid (w7.heap[P7]?=some (.cells X2 50 (0,0))):=by show _=_;rw[b7.block P7 (Array.getElem?_eq_some_iff.1 HX6.out).1];exact HX6.out
 have HO7:=hid_of (HO6.out.grow b7)
 clear HQ6 HR6 HX6 HO6 b7 hl6 l6
 go_wp2_with fail
 refine(HTB.out w7 HQ7.out.bw).mono ?_
 rintro e w8 ⟨rfl,o8,b8⟩
 have HQ8:=hid_of (HQ7.out.call b8 HP.out)
 have HR8:=hid_of (HR7.out.below b8)
 have HX8:Hid (w8.heap[P7]?=some (.cells X2 50 (0,0))):=by show _=_;rw[b8.block P7 (Array.getElem?_eq_some_iff.1 HX7.out).1];exact HX7.out
 have HO8:=hid_of (HO7.out.grow b8)
 have HN8:=hid_of (own_of o8).2.2.2.1
 clear HQ7 HR7 HX7 HO7 b8 o8
 go_wp2_with fail
 refine(eqB_any _ _ kn kn kn ks w8 HLN.out HKN.out (own_of HO8.out).2.2.2.1 HN8.out).mono ?_
 rintro e _ ⟨rfl,q9,rfl⟩
 have b9:Below w8.heap.size w8 (w8.drewN q9):=belD (Below.refl _ _) _
 have HQ9:=hid_of (HQ8.out.call b9 HP.out)
 have HR9:=hid_of (HR8.out.below b9)
 have HX9:Hid ((w8.drewN q9).heap[P7]?=some (.cells X2 50 (0,0))):=by show _=_;rw[b9.block P7 (Array.getElem?_eq_some_iff.1 HX8.out).1];exact HX8.out
 have HO9:=hid_of (HO8.out.grow b9)
 clear HQ8 HR8 HX8 HO8 HN8 b9
 generalize w8.drewN q9=w9 at *
 go_wp2_with fail
 refine(markB_any (some ⟨g,0,none⟩) kn kn 1 w9 (open9 HO9.out) (by decide) (by have:=HKN.out;omega)).mono ?_
 rintro e w10 ⟨rfl,_,wr10⟩
 have hkk:¬ (1+(kn:Int)<0):=by omega
 generalize (1+(kn:Int))=kk at *
 have bP:Below g w9 w10:=wr10.below g (fun ad e=>by cases e;exact Nat.le_refl _)
 have HQ10:=hid_of (HQ9.out.low bP HG5.out.1 HP.out)
 have HX10:Hid (w10.heap[P7]?=some (.cells X2 50 (0,0))):=by show _=_;rw[wr10.block P7 (fun ad e=>by cases e;have:=HG5.out;show P7≠g;omega)];exact HX9.out
 have HR10:Hid (RP lo w10 X2 c zs ks2 f d r):=HR9.out.keep (Nat.le_of_eq wr10.size.symm) (fun k hk _=>wr10.block k (fun ad e=>by cases e;have:=HG5.out;show k≠g;omega))
 clear HQ9 HR9 HX9 HO9 wr10 bP
 go_wp2_with (first
  |(refine wpList_wanted (by first|rfl|(simp[Region.wanted,yielded,Act.put,hkk];done)) fun _ hK=>wp_load_row 50 (.tmp 7) rfl P7 rfl 50 X2 (0,0) _ HX10.out Tryz.underlying50 rfl HS2.out (hK _ _ ?_))
  |(refine wpList_wanted (by first|rfl|(simp[Region.wanted,yielded,Act.put,hkk];done)) fun _ hK=>wp_load_row 50 (.tmp 5) rfl P rfl 50 X1 (0,0) _ HQ10.out.x1 Tryz.underlying50 rfl HS1.out (hK _ _ ?_))
  |fail)
 obtain⟨l10,hl10⟩:=HQ10.out.r1.rl
 refine(eqR_any HR10.out.rl hl10 HGL.out).mono ?_
 rintro e w11 ⟨rfl,b11⟩
 have HQ11:=hid_of (HQ10.out.call b11 HP.out)
 have HR11:=hid_of (HR10.out.below b11)
 have HX11:Hid (w11.heap[P7]?=some (.cells X2 50 (0,0))):=by show _=_;rw[b11.block P7 (Array.getElem?_eq_some_iff.1 HX10.out).1];exact HX10.out
 clear HQ10 HR10 HX10 b11 hl10 l10
 go_wp2_with (first
  |(refine wpList_load_row rfl 50 (.tmp 7) rfl P7 rfl 50 X2 (0,0) _ HX11.out Tryz.underlying50 rfl HS2.out ?_)
  |fail)
 have h7:P7<w11.heap.size:=(Array.getElem?_eq_some_iff.1 HX11.out).1
 refine(mkR_any HR11.out (by have:=HG5.out;omega) (by have:=HLE.out.1;omega) (by have:=HLE.out.2.1;omega) HLE.out.2.2 (by have:=HLE.out.1;have:=HLE.out.2.1;omega) HGH.out).mono ?_
 rintro e w12 ⟨rfl,m12,b12,j12⟩
 have HQ12:=hid_of (HQ11.out.low b12 (by have:=HG5.out;omega) HP.out)
 have HX12:Hid (w12.heap[P7]?=some (.cells X2 50 (0,0))):=by show _=_;rw[j12 P7 (Nat.le_refl _) h7];exact HX11.out
 have HM12:=hid_of m12
 have hgk:¬ gK zs ks2 r<0:=gK_pos _ _ _
 have HHD:Hid (Calls Tryz.prog 22 #[.agg X2,.int .i64 1] w12 fun e w'=>e=.returned (.int .i64 (gK zs ks2 r))∧Below w12.heap.size w12 w'):=hdR_any m12 HLE.out.2.2 (by have:=HLE.out.1;have:=HLE.out.2.1;omega)
 clear HQ11 HR11 HX11 m12 b12 j12 h7
 generalize gK zs ks2 r=K at *
 go_wp2_with (first
  |(refine wpList_load_row rfl 50 (.tmp 7) rfl P7 rfl 50 X2 (0,0) _ HX12.out Tryz.underlying50 rfl HS2.out ?_)
  |fail)
 refine HHD.out.mono ?_
 rintro e w13 ⟨rfl,b13⟩
 have HQ13:=hid_of (HQ12.out.call b13 HP.out)
 have zK:(K != K)=false:=by simp
 clear HQ12 HX12 HM12 HHD b13
 go_wp2_with fail
 refine(HTB.out w13 HQ13.out.bw).mono ?_
 rintro e w14 ⟨rfl,o14,b14⟩
 have HQ14:=hid_of (HQ13.out.call b14 HP.out)
 have HA14:=hid_of (own_of o14).2.2.2.1
 clear HQ13 o14 b14
 generalize w13.heap.size=g14 at *
 go_wp2_with fail
 refine(HIF.out w14 _ kn HA14.out).mono ?_
 rintro e w15 ⟨X3,rfl,R15,b15⟩
 have HZ3:=hid_of R15.rl.row
 have HS3:=hid_of (HS17.out X3 HZ3.out.1)
 have b16:=(Below.refl w15.heap.size w15).alloc (Nat.le_refl _) (.cells X3 50)
 have HQ16:Hid (FQ w P X1 c zs ks2 f d r (w15.alloc (.cells X3 50))):=(HQ14.out.call b15 HP.out).call b16 HP.out
 have HR16:Hid (RP w14.heap.size (w15.alloc (.cells X3 50)) X3 c zs ks2 f d r):=R15.below b16
 have HX16:Hid ((w15.alloc (.cells X3 50)).heap[w15.heap.size]?=some (.cells X3 50 (0,0))):=heap_alloc_new w15 _
 clear HQ14 HA14 R15 b15 b16 HIF HTB
 go_upto_region 23 with (first
  |(refine wpList_store_row rfl 50 (.tmp 11) (.tmp 58) rfl w15.heap.size X3 rfl rfl 50 _ (heap_alloc_new w15 _) HS3.out (by rw[HZ3.out.1];rfl) HZ3.out.2 ?_)
  |fail)
 try rw[World.setRow_alloc_new]
 generalize w15.alloc (.cells X3 50)=w16 at *
 generalize w15.heap.size=P11 at *
 go_wp2_with (first
  |(refine wpList_load_row rfl 50 (.tmp 11) rfl P11 rfl 50 X3 (0,0) _ HX16.out Tryz.underlying50 rfl HS3.out ?_)
  |(refine wpList_load_row rfl 50 (.tmp 5) rfl P rfl 50 X1 (0,0) _ HQ16.out.x1 Tryz.underlying50 rfl HS1.out ?_)
  |fail)
 obtain⟨l16,hl16⟩:=HQ16.out.r1.rl
 refine(eqR_any HR16.out.rl hl16 HGL.out).mono ?_
 rintro e w17 ⟨rfl,b17⟩
 have HF:=hid_of (HQ16.out.call b17 HP.out).bw
 clear HQ16 HR16 HX16 b17 hl16 l16
 go_wp2_with fail
 go_ret
 exact⟨rfl,HF.out⟩
set_option maxRecDepth 100000 in
theorem lifted (os:Os) (started:os.Started) (H:Type) (enc:TypeId×Value→H) :
  ReturnsInHanded {} Tryz.checked os 4 .any (Rows.fnExactFormatSpec.pre6 enc Tryz.prog Tryz.f4 Rows.fnExactFormatRow.domain false) (Rows.fnExactFormatSpec.post enc Tryz.prog Tryz.f4 false true false false):=by
 refine returnsInHanded_of_change (C:=Tryz.checked) own started (by kernel_rfl) Tryz.func4
  (ChangeSpec.witness6 (enc:=enc) (C:=Tryz.checked) false ⟨#[],#[.int .i64 0,.slice none 0 0],[]⟩ 8 (by kernel_rfl) (by kernel_rfl) (by kernel_rfl) (by kernel_rfl)) ?_
 intro W base args ds gs before hval0 hW hcnd _
 have hval:∀(j:Nat) t v,Tryz.f4.params[j]?=some t→args[j]?=some v→Value.okWide Tryz.prog W .any base t v:=hval0
 have hW':=hW
 obtain⟨p,q,hA0,hV,rfl,hfz,hnd⟩:=hW
 have hA:DataW.TrodAll enc Tryz.prog W 0 (fun _=>true) true Tryz.f4.params.toList args.toList ds p:=hA0
 rw[Tryz.params4] at hA hval
 obtain⟨v0,vs0,d0,ds0,p0,q0,hargs,rfl,rfl,h0,r0⟩:=trodAll_cons hA
 obtain⟨v1,vs1,d1,ds1,p1,q1,hargs1,rfl,rfl,h1,r1⟩:=trodAll_cons r0
 obtain⟨rfl,rfl,rfl⟩:=trodAll_nil r1
 obtain rfl:args=#[v0,v1]:=by cases args;simp_all
 obtain⟨rfl,rfl⟩:=trodVars_none hV
 have k0:=h0
 have k1:=h1
 have lt0:∀ x∈p0,x.block<W.heap.size:=by obtain⟨m,hm⟩:=k0;exact DataW.trod_lt m _ _ _ hm
 have lt1:∀ x∈p1,x.block<W.heap.size:=by obtain⟨m,hm⟩:=k1;exact DataW.trod_lt m _ _ _ hm
 obtain⟨s,rfl,rfl,rfl,w1⟩:=open_int Tryz.underlying2 (hval 0 2 v0 rfl rfl) h0
 obtain⟨ya0,yn0,yc0,hv2⟩:=okWide_slice Tryz.underlying22 (hval 1 22 v1 rfl rfl)
 have hcs:∃ ya yn yc z,v1=.slice ya yn yc∧z.length=yn∧yn≤9223372036854775807∧At .u8 W ya z:=by
  obtain⟨fuel,h2'⟩:=h1;rw[hv2] at h2';obtain⟨ya,yn,yc,z,e,g1,g2,_,g3⟩:=bytes_of (v:=.slice ya0 yn0 yc0) h2';exact⟨ya,yn,yc,z,hv2.trans e,g1,g2,g3⟩
 obtain⟨ya,yn,yc,z,rfl,hyn,hym,hy⟩:=hcs
 clear hA0 hval0
 refine(walk s ya yn yc z W hyn hym hy).mono fun e W' ⟨he,bel⟩=>?_
 subst he
 exact⟨_,rfl,_,_,_,[],_,[],hW',trodAll_mk1 (shut_bool Tryz.underlying4 _),(trodAll_cons_mk (Below.trod laidOut (by kernel_rfl) (of_decide_eq_true (by kernel_rfl)) k0 bel lt0) (trodAll_cons_mk (Below.trod laidOut (by kernel_rfl) (of_decide_eq_true (by kernel_rfl)) k1 bel lt1) trodAll_mk0)),rfl,bel.frame _,fun h=>by cases h⟩
theorem over:Rows.fnExactFormatRow.holds Tryz.pinned (OpenSpec.ofChange Rows.fnExactFormatSpec):=
 OpenClaim.holds_of_wide 4 Tryz.f4 rfl rfl rfl rfl rfl rfl rfl ⟨rfl,rfl,rfl,rfl,rfl⟩ rfl rfl rfl rfl rfl (by kernel_rfl) Tryz.func4 (by kernel_rfl)
  (of_decide_eq_true (by kernel_rfl)) (by unfold Func.isWrapper;first|(rw[if_pos (by decide +kernel)];kernel_rfl)|(rw[if_neg (by decide +kernel)];exact⟨rfl,rfl⟩))
  (fun os started H enc _=>lifted os started H enc)
end Go.Proofs.YthmeoilbmfdhfaaGreat.lfm
namespace Go.Proofs.YthmeoilbmfdhfaaGreat
theorem format_holds:Rows.FnExactFormatSaid:=lfm.over
#print axioms format_holds
end Go.Proofs.YthmeoilbmfdhfaaGreat
