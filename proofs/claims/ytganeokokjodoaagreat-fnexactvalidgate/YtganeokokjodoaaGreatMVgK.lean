import Derived.Test.YtganeokokjodoaaGreatMFrS
import Derived.Test.YtganeokokjodoaaGreatMSvG
import Derived.Deep.Cut
namespace Go.Proofs.YtganeokokjodoaaGreat
open Go.ChangeShapes Go.WideShapes Go.ChangeAt Go.RowKit
set_option linter.unusedVariables false
def GAt (w:World) (v:Value) (zs:List Int) (ps:List PD) (f:Int) (d:Bool) (ks:List Int) (r:ImR):Prop:=∃ ada adc aca acc aka akc aSD nSD acSD aSU nSU acSU aF nF acF aD nD acD aU nU acU aT acT,v=.agg #[.slice ada zs.length adc,.slice aca ps.length acc,.int .i64 f,.bool d,.slice aka ks.length akc,.bool r.ok,.int .u32 r.g,.int .u32 r.t,.slice aSD nSD acSD,.slice aSU nSU acSU,.slice aF nF acF,.slice aD nD acD,.slice aU nU acU,.int .i64 r.k,.slice aT r.n acT,.int .u32 r.nx]∧At .u8 w ada zs∧PAt w aca ps∧zs.length≤adc∧At .u8 w aka ks∧I6L w aSD aSU aF aD aU aT nSD nSU nF nD nU r
theorem GAt.below {w w':World} {v:Value} {zs:List Int} {ps:List PD} {f:Int} {d:Bool} {ks:List Int} {r:ImR} (h:GAt w v zs ps f d ks r) (b:Below w.heap.size w w'):GAt w' v zs ps f d ks r:=by
 obtain⟨ada,adc,aca,acc,aka,akc,aSD,nSD,acSD,aSU,nSU,acSU,aF,nF,acF,aD,nD,acD,aU,nU,acU,aT,acT,rfl,h1,h2,h3,h4,h5⟩:=h
 exact⟨ada,adc,aca,acc,aka,akc,aSD,nSD,acSD,aSU,nSU,acSU,aF,nF,acF,aD,nD,acD,aU,nU,acU,aT,acT,rfl,h1.below b,h2.below b,h3,h4.below b,h5.below b⟩
def GLe (zs:List Int) (ps:List PD) (ks:List Int) (r:ImR):Prop:=zs.length≤1048576∧ps.length≤1048576∧(∀ i,(ps.getD i (0,[])).2.length≤1048576)∧ks.length≤1048576∧r.sD.length≤1048576∧r.sU.length≤1048576∧r.F.length≤4194304∧r.D.length≤1048576∧r.U.length≤1048576∧r.n≤1048576
set_option maxRecDepth 100000 in
set_option maxHeartbeats 4000000 in
theorem eqG_any (v v':Value) (zs:List Int) (ps:List PD) (f:Int) (d:Bool) (ks:List Int) (r:ImR) (w:World) (h:GAt w v zs ps f d ks r) (h':GAt w v' zs ps f d ks r) (hb:GLe zs ps ks r) :
  Calls Tryz.prog 18 #[v,v'] w fun e w'=>e=.returned (.bool true)∧Below w.heap.size w w':=by
 obtain⟨ada,adc,aca,acc,aka,akc,aSD,nSD,acSD,aSU,nSU,acSU,aF,nF,acF,aD,nD,acD,aU,nU,acU,aT,acT,rfl,h1,h2,h3,h4,h5⟩:=h
 obtain⟨bda,bdc,bca,bcc,bka,bkc,bSD,mSD,bcSD,bSU,mSU,bcSU,bF,mF,bcF,bD,mD,bcD,bU,mU,bcU,bT,bcT,rfl,g1,g2,g3,g4,g5⟩:=h'
 obtain rfl:nSD=mSD:=by have:=h5.2.2.2.2.2.2.1;have:=g5.2.2.2.2.2.2.1;omega
 obtain rfl:nSU=mSU:=by have:=h5.2.2.2.2.2.2.2.1;have:=g5.2.2.2.2.2.2.2.1;omega
 obtain rfl:nF=mF:=by have:=h5.2.2.2.2.2.2.2.2.1;have:=g5.2.2.2.2.2.2.2.2.1;omega
 obtain rfl:nD=mD:=by have:=h5.2.2.2.2.2.2.2.2.2.1;have:=g5.2.2.2.2.2.2.2.2.2.1;omega
 obtain rfl:nU=mU:=by have:=h5.2.2.2.2.2.2.2.2.2.2.1;have:=g5.2.2.2.2.2.2.2.2.2.2.1;omega
 obtain⟨l1,l2,l3,l4,l5,l6,l7,l8,l9,l10⟩:=hb
 have HE0:Hid (BE w 59 #[.slice ada zs.length adc,.slice aca ps.length acc,.int .i64 f,.bool d,.slice aka ks.length akc,.bool r.ok,.int .u32 r.g,.int .u32 r.t,.slice aSD nSD acSD,.slice aSU nSU acSU,.slice aF nF acF,.slice aD nD acD,.slice aU nU acU,.int .i64 r.k,.slice aT r.n acT,.int .u32 r.nx] #[.slice bda zs.length bdc,.slice bca ps.length bcc,.int .i64 f,.bool d,.slice bka ks.length bkc,.bool r.ok,.int .u32 r.g,.int .u32 r.t,.slice bSD nSD bcSD,.slice bSU nSU bcSU,.slice bF nF bcF,.slice bD nD bcD,.slice bU nU bcU,.int .i64 r.k,.slice bT r.n bcT,.int .u32 r.nx] ((w.alloc (.cells #[.slice ada zs.length adc,.slice aca ps.length acc,.int .i64 f,.bool d,.slice aka ks.length akc,.bool r.ok,.int .u32 r.g,.int .u32 r.t,.slice aSD nSD acSD,.slice aSU nSU acSU,.slice aF nF acF,.slice aD nD acD,.slice aU nU acU,.int .i64 r.k,.slice aT r.n acT,.int .u32 r.nx] 59)).alloc (.cells #[.slice bda zs.length bdc,.slice bca ps.length bcc,.int .i64 f,.bool d,.slice bka ks.length bkc,.bool r.ok,.int .u32 r.g,.int .u32 r.t,.slice bSD nSD bcSD,.slice bSU nSU bcSU,.slice bF nF bcF,.slice bD nD bcD,.slice bU nU bcU,.int .i64 r.k,.slice bT r.n bcT,.int .u32 r.nx] 59))):=BE.start _ _ _ _
 have HD:Hid (∀ ww,Below w.heap.size w ww→DAt ww (.agg #[.slice ada zs.length adc,.slice aca ps.length acc,.int .i64 f,.bool d]) zs ps f d∧DAt ww (.agg #[.slice bda zs.length bdc,.slice bca ps.length bcc,.int .i64 f,.bool d]) zs ps f d):=fun ww b=>⟨⟨ada,adc,aca,acc,rfl,h1.below b,h2.below b,h3⟩,⟨bda,bdc,bca,bcc,rfl,g1.below b,g2.below b,g3⟩⟩
 have HK:=hid_ofV (And.intro h4 g4)
 have HI:=hid_ofV (And.intro h5 g5)
 have HP:=hid_ofV l3
 have HLe:Hid (nSD≤1048576∧nSU≤1048576∧nF≤1048576∧nD≤1048576∧nU≤1048576):=by
  obtain⟨_,_,_,_,_,_,e1,e2,e3,e4,e5,_⟩:=h5;exact⟨by omega,by omega,by omega,by omega,by omega⟩
 clear h1 h2 h3 h4 h5 g1 g2 g3 g4 g5 l3 l5 l6 l7 l8 l9
 go_enter Tryz.func18,Tryz.ntmps18
 go_upto_region 1 with fail
 generalize (w.alloc (.cells #[.slice ada zs.length adc,.slice aca ps.length acc,.int .i64 f,.bool d,.slice aka ks.length akc,.bool r.ok,.int .u32 r.g,.int .u32 r.t,.slice aSD nSD acSD,.slice aSU nSU acSU,.slice aF nF acF,.slice aD nD acD,.slice aU nU acU,.int .i64 r.k,.slice aT r.n acT,.int .u32 r.nx] 59)).alloc (.cells #[.slice bda zs.length bdc,.slice bca ps.length bcc,.int .i64 f,.bool d,.slice bka ks.length bkc,.bool r.ok,.int .u32 r.g,.int .u32 r.t,.slice bSD nSD bcSD,.slice bSU nSU bcSU,.slice bF nF bcF,.slice bD nD bcD,.slice bU nU bcU,.int .i64 r.k,.slice bT r.n bcT,.int .u32 r.nx] 59)=w0 at *
 have x0:=cell_of_row w0 w.heap.size 0 _ _ _ HE0.out.b0
 have y0:=cell_of_row w0 (w.heap.size+1) 0 _ _ _ HE0.out.b1
 have x1:=cell_of_row w0 w.heap.size 1 _ _ _ HE0.out.b0
 have y1:=cell_of_row w0 (w.heap.size+1) 1 _ _ _ HE0.out.b1
 have x2:=cell_of_row w0 w.heap.size 2 _ _ _ HE0.out.b0
 have y2:=cell_of_row w0 (w.heap.size+1) 2 _ _ _ HE0.out.b1
 have x3:=cell_of_row w0 w.heap.size 3 _ _ _ HE0.out.b0
 have y3:=cell_of_row w0 (w.heap.size+1) 3 _ _ _ HE0.out.b1
 simp at x0 y0 x1 y1 x2 y2 x3 y3
 go_wp2_with fail
 refine(eqD_any _ _ zs ps f d w0 (HD.out w0 HE0.out.below).1 (HD.out w0 HE0.out.below).2 l1 l2 HP.out).mono ?_
 rintro e w1 ⟨rfl,b1⟩
 have HE1:=hid_ofV (HE0.out.call b1)
 clear x0 y0 x1 y1 x2 y2 x3 y3
 clear b1 HE0 HD
 have x4:=cell_of_row w1 w.heap.size 4 _ _ _ HE1.out.b0
 have y4:=cell_of_row w1 (w.heap.size+1) 4 _ _ _ HE1.out.b1
 simp at x4 y4
 go_wp2_with fail
 refine(eqB_any aka bka ks.length akc bkc ks w1 rfl l4 (HK.out.1.below HE1.out.below) (HK.out.2.below HE1.out.below)).mono ?_
 rintro e _ ⟨rfl,q,rfl⟩
 have HE2:=hid_ofV (HE1.out.call (belD (Below.refl _ _) q))
 clear x4 y4
 clear HE1 HK
 generalize w1.drewN q=w2 at *
 have x5:=cell_of_row w2 w.heap.size 5 _ _ _ HE2.out.b0
 have y5:=cell_of_row w2 (w.heap.size+1) 5 _ _ _ HE2.out.b1
 have x6:=cell_of_row w2 w.heap.size 6 _ _ _ HE2.out.b0
 have y6:=cell_of_row w2 (w.heap.size+1) 6 _ _ _ HE2.out.b1
 have x7:=cell_of_row w2 w.heap.size 7 _ _ _ HE2.out.b0
 have y7:=cell_of_row w2 (w.heap.size+1) 7 _ _ _ HE2.out.b1
 have x8:=cell_of_row w2 w.heap.size 8 _ _ _ HE2.out.b0
 have y8:=cell_of_row w2 (w.heap.size+1) 8 _ _ _ HE2.out.b1
 have x9:=cell_of_row w2 w.heap.size 9 _ _ _ HE2.out.b0
 have y9:=cell_of_row w2 (w.heap.size+1) 9 _ _ _ HE2.out.b1
 have x10:=cell_of_row w2 w.heap.size 10 _ _ _ HE2.out.b0
 have y10:=cell_of_row w2 (w.heap.size+1) 10 _ _ _ HE2.out.b1
 have x11:=cell_of_row w2 w.heap.size 11 _ _ _ HE2.out.b0
 have y11:=cell_of_row w2 (w.heap.size+1) 11 _ _ _ HE2.out.b1
 have x12:=cell_of_row w2 w.heap.size 12 _ _ _ HE2.out.b0
 have y12:=cell_of_row w2 (w.heap.size+1) 12 _ _ _ HE2.out.b1
 have x13:=cell_of_row w2 w.heap.size 13 _ _ _ HE2.out.b0
 have y13:=cell_of_row w2 (w.heap.size+1) 13 _ _ _ HE2.out.b1
 have x14:=cell_of_row w2 w.heap.size 14 _ _ _ HE2.out.b0
 have y14:=cell_of_row w2 (w.heap.size+1) 14 _ _ _ HE2.out.b1
 have x15:=cell_of_row w2 w.heap.size 15 _ _ _ HE2.out.b0
 have y15:=cell_of_row w2 (w.heap.size+1) 15 _ _ _ HE2.out.b1
 simp at x5 y5 x6 y6 x7 y7 x8 y8 x9 y9 x10 y10 x11 y11 x12 y12 x13 y13 x14 y14 x15 y15
 go_wp2_with fail
 refine(eqIm_any aSD bSD aSU bSU aF bF aD bD aU bU aT bT nSD acSD bcSD nSU acSU bcSU nF acF bcF nD acD bcD nU acU bcU r.n acT bcT r.sD r.sU r.F r.D r.U r.T r.g r.t r.k r.nx r.ok w2 ?e1 ?e2 ?e3 ?e4 ?e5 ?e6 HLe.out.1 HLe.out.2.1 HLe.out.2.2.1 HLe.out.2.2.2.1 HLe.out.2.2.2.2 l10 ?f1 ?f2 ?f3 ?f4 ?f5 ?f6 ?f7 ?f8 ?f9 ?f10 ?f11 ?f12).mono ?_
 case e1=>exact HI.out.1.2.2.2.2.2.2.1
 case e2=>exact HI.out.1.2.2.2.2.2.2.2.1
 case e3=>exact HI.out.1.2.2.2.2.2.2.2.2.1
 case e4=>exact HI.out.1.2.2.2.2.2.2.2.2.2.1
 case e5=>exact HI.out.1.2.2.2.2.2.2.2.2.2.2.1
 case e6=>exact HI.out.1.2.2.2.2.2.2.2.2.2.2.2
 case f1=>exact HI.out.1.1.below HE2.out.below
 case f2=>exact HI.out.2.1.below HE2.out.below
 case f3=>exact HI.out.1.2.1.below HE2.out.below
 case f4=>exact HI.out.2.2.1.below HE2.out.below
 case f5=>exact HI.out.1.2.2.1.below HE2.out.below
 case f6=>exact HI.out.2.2.2.1.below HE2.out.below
 case f7=>exact HI.out.1.2.2.2.1.below HE2.out.below
 case f8=>exact HI.out.2.2.2.2.1.below HE2.out.below
 case f9=>exact HI.out.1.2.2.2.2.1.below HE2.out.below
 case f10=>exact HI.out.2.2.2.2.2.1.below HE2.out.below
 case f11=>exact HI.out.1.2.2.2.2.2.1.below HE2.out.below
 case f12=>exact HI.out.2.2.2.2.2.2.1.below HE2.out.below
 rintro e w3 ⟨rfl,b3⟩
 have HB3:=hid_ofV (HE2.out.below.trans (b3.mono HE2.out.below.size))
 clear x5 y5 x6 y6 x7 y7 x8 y8 x9 y9 x10 y10 x11 y11 x12 y12 x13 y13 x14 y14 x15 y15
 clear b3 HE2 HI
 go_wp2
 go_ret
 exact⟨rfl,HB3.out⟩
end Go.Proofs.YtganeokokjodoaaGreat
namespace Go.Proofs.YtganeokokjodoaaGreat
open Go.ChangeShapes Go.WideShapes Go.ChangeAt Go.RowKit
set_option linter.unusedVariables false
set_option maxRecDepth 100000 in
set_option maxHeartbeats 4000000 in
theorem toSn_any (aD aU:Option Addr) (nD cD nU cU:Nat) (D U:List Int) (gn tl:Int) (w:World) (hD:D.length=nD) (hU:U.length=nU) (mD:nD≤1048576) (mU:nU≤1048576) (AD:At .i64 w aD D) (AU:At .i64 w aU U) :
  Calls Tryz.prog 89 #[.agg #[.int .u32 gn,.int .u32 tl,.slice aD nD cD,.slice aU nU cU]] w fun e w'=>∃ gD gU,e=.returned (.agg #[.int .u32 gn,.int .u32 tl,.slice (some ⟨gD,0,none⟩) nD nD,.slice (some ⟨gU,0,none⟩) nU nU])∧w.heap.size≤gD∧gD<gU∧RowV w' gD 2 (iC D)∧RowV w' gU 2 (iC U)∧Below w.heap.size w w':=by
 have HE0:Hid (CE w 47 30 #[.int .u32 gn,.int .u32 tl,.slice aD nD cD,.slice aU nU cU] #[.int .u32 0,.int .u32 0,.slice none 0 0,.slice none 0 0] #[.int .u32 gn,.int .u32 tl,.slice none 0 0,.slice none 0 0] (((w.alloc (.cells #[.int .u32 gn,.int .u32 tl,.slice aD nD cD,.slice aU nU cU] 47)).alloc (.cells #[.int .u32 0,.int .u32 0,.slice none 0 0,.slice none 0 0] 30)).alloc (.cells #[.int .u32 gn,.int .u32 tl,.slice none 0 0,.slice none 0 0] 30))):=CE.start _ _ _ _ _ _
 have HAD:Hid (At .i64 w aD D):=AD
 have HLD:Hid (D.length=nD):=hD
 have HAU:Hid (At .i64 w aU U):=AU
 have HLU:Hid (U.length=nU):=hU
 clear AD hD AU hU
 go_enter Tryz.func89,Tryz.ntmps89
 go_wp2_with fail
 generalize (((w.alloc (.cells #[.int .u32 gn,.int .u32 tl,.slice aD nD cD,.slice aU nU cU] 47)).alloc (.cells #[.int .u32 0,.int .u32 0,.slice none 0 0,.slice none 0 0] 30)).alloc (.cells #[.int .u32 gn,.int .u32 tl,.slice none 0 0,.slice none 0 0] 30))=w0 at *
 refine(toIR_any aD nD cD D _ HLD.out mD (HAD.out.below HE0.out.below)).mono ?_
 rintro e u0 ⟨rfl,hRD,hb⟩
 have HF0:Hid (CE w 47 30 #[.int .u32 gn,.int .u32 tl,.slice aD nD cD,.slice aU nU cU] #[.int .u32 0,.int .u32 0,.slice none 0 0,.slice none 0 0] #[.int .u32 gn,.int .u32 tl,.slice none 0 0,.slice none 0 0] u0):=HE0.out.call hb
 have lt0:w.heap.size+1+1<w0.heap.size:=HE0.out.lt
 clear hb
 have oD:w.heap.size≤w0.heap.size:=by omega
 have VD:w.heap.size+1+1<w0.heap.size:=lt0
 clear HE0
 generalize w0.heap.size=gD at *
 have hw:Wr (w.heap.size+1+1) u0 (u0.setCell ⟨w.heap.size+1+1,2,none⟩ (.slice (some ⟨gD,0,none⟩) nD nD)):=((Wr.refl _ _).setCell _ _)
 have HE1:Hid (CE w 47 30 #[.int .u32 gn,.int .u32 tl,.slice aD nD cD,.slice aU nU cU] #[.int .u32 0,.int .u32 0,.slice none 0 0,.slice none 0 0] #[.int .u32 gn,.int .u32 tl,.slice (some ⟨gD,0,none⟩) nD nD,.slice none 0 0] (u0.setCell ⟨w.heap.size+1+1,2,none⟩ (.slice (some ⟨gD,0,none⟩) nD nD))):=(HF0.out.put 2 _)
 have HRD:Hid (RowV (u0.setCell ⟨w.heap.size+1+1,2,none⟩ (.slice (some ⟨gD,0,none⟩) nD nD)) gD 2 (iC D)):=hRD.wr hw VD
 have lgD:gD<(u0.setCell ⟨w.heap.size+1+1,2,none⟩ (.slice (some ⟨gD,0,none⟩) nD nD)).heap.size:=HRD.out.lt
 have v2:u0.cell? ⟨w.heap.size+1+1,2,none⟩=some (.slice none 0 0):=by rw[cell_of_row u0 _ 2 _ _ _ HF0.out.var];rfl
 have f2:=frozen_of_row u0 (w.heap.size+1+1) 2 _ _ HF0.out.var
 have x3:u0.cell? ⟨w.heap.size,3,none⟩=some (.slice aU nU cU):=by rw[cell_of_row u0 w.heap.size 3 _ _ _ HF0.out.box];rfl
 clear hw HF0 hRD
 go_wp2_with fail
 generalize (u0.setCell ⟨w.heap.size+1+1,2,none⟩ (.slice (some ⟨gD,0,none⟩) nD nD))=w1 at *
 clear v2 f2 x3
 refine(toIR_any aU nU cU U _ HLU.out mU (HAU.out.below HE1.out.below)).mono ?_
 rintro e u1 ⟨rfl,hRU,hb⟩
 have HF1:Hid (CE w 47 30 #[.int .u32 gn,.int .u32 tl,.slice aD nD cD,.slice aU nU cU] #[.int .u32 0,.int .u32 0,.slice none 0 0,.slice none 0 0] #[.int .u32 gn,.int .u32 tl,.slice (some ⟨gD,0,none⟩) nD nD,.slice none 0 0] u1):=HE1.out.call hb
 have lt1:w.heap.size+1+1<w1.heap.size:=HE1.out.lt
 have hRD:RowV u1 gD 2 (iC D):=HRD.out.below hb
 clear hb HRD
 have oU:gD<w1.heap.size:=lgD
 clear lgD
 have VU:w.heap.size+1+1<w1.heap.size:=lt1
 clear HE1
 generalize w1.heap.size=gU at *
 have hw:Wr (w.heap.size+1+1) u1 (u1.setCell ⟨w.heap.size+1+1,3,none⟩ (.slice (some ⟨gU,0,none⟩) nU nU)):=((Wr.refl _ _).setCell _ _)
 have HE2:Hid (CE w 47 30 #[.int .u32 gn,.int .u32 tl,.slice aD nD cD,.slice aU nU cU] #[.int .u32 0,.int .u32 0,.slice none 0 0,.slice none 0 0] #[.int .u32 gn,.int .u32 tl,.slice (some ⟨gD,0,none⟩) nD nD,.slice (some ⟨gU,0,none⟩) nU nU] (u1.setCell ⟨w.heap.size+1+1,3,none⟩ (.slice (some ⟨gU,0,none⟩) nU nU))):=(HF1.out.put 3 _)
 have HRD:Hid (RowV (u1.setCell ⟨w.heap.size+1+1,3,none⟩ (.slice (some ⟨gU,0,none⟩) nU nU)) gD 2 (iC D)):=hRD.wr hw VD
 have HRU:Hid (RowV (u1.setCell ⟨w.heap.size+1+1,3,none⟩ (.slice (some ⟨gU,0,none⟩) nU nU)) gU 2 (iC U)):=hRU.wr hw VU
 have v3:u1.cell? ⟨w.heap.size+1+1,3,none⟩=some (.slice none 0 0):=by rw[cell_of_row u1 _ 3 _ _ _ HF1.out.var];rfl
 have f3:=frozen_of_row u1 (w.heap.size+1+1) 3 _ _ HF1.out.var
 clear hw HF1 hRD hRU
 have HSZ:Hid ((Tryz.prog.info? 30).map (·.size)=some 4):=by show _=_;kernel_rfl
 have HVR:Hid ((u1.setCell ⟨w.heap.size+1+1,3,none⟩ (.slice (some ⟨gU,0,none⟩) nU nU)).heap[w.heap.size+1+1]?=some (.cells #[.int .u32 gn,.int .u32 tl,.slice (some ⟨gD,0,none⟩) nD nD,.slice (some ⟨gU,0,none⟩) nU nU] 30 (0,0))):=HE2.out.var
 have HRR:Hid ((u1.setCell ⟨w.heap.size+1+1,3,none⟩ (.slice (some ⟨gU,0,none⟩) nU nU)).heap[w.heap.size+1]?=some (.cells #[.int .u32 0,.int .u32 0,.slice none 0 0,.slice none 0 0] 30 (0,0))):=HE2.out.res
 go_upto_region 6 with fail
 generalize (u1.setCell ⟨w.heap.size+1+1,3,none⟩ (.slice (some ⟨gU,0,none⟩) nU nU))=wz at *
 clear v3 f3
 go_wp2_with (first
  |(refine wpList_load_row rfl 30 (.tmp 3) rfl (w.heap.size+1+1) rfl 30 _ (0,0) _ HVR.out Tryz.underlying30 rfl HSZ.out ?_)
  |(refine wpList_store_row rfl 30 (.tmp 2) (.tmp 18) rfl (w.heap.size+1) #[.int .u32 gn,.int .u32 tl,.slice (some ⟨gD,0,none⟩) nD nD,.slice (some ⟨gU,0,none⟩) nU nU] rfl rfl 30 _ HRR.out HSZ.out rfl (by simp[Value.oneCell']) ?_)
  |fail)
 refine bodyPost_ret (v:=.agg #[.int .u32 gn,.int .u32 tl,.slice (some ⟨gD,0,none⟩) nD nD,.slice (some ⟨gU,0,none⟩) nU nU]) (results_cell_row rfl _ _ (w.heap.size+1) 30 _ (0,0) _ rfl (setRow_heap _ _ _ _ _ _ HRR.out) Tryz.underlying30 rfl HSZ.out) rfl ?_
 have hwz:Wr (w.heap.size+1) wz (wz.setRow (w.heap.size+1) #[.int .u32 gn,.int .u32 tl,.slice (some ⟨gD,0,none⟩) nD nD,.slice (some ⟨gU,0,none⟩) nU nU]):=Wr.setRow _ _ _
 exact⟨gD,gU,rfl,by omega,oU,HRD.out.wr hwz (by omega),HRU.out.wr hwz (by omega),HE2.out.below.trans (hwz.below (by omega))⟩
end Go.Proofs.YtganeokokjodoaaGreat
namespace Go.Proofs.YtganeokokjodoaaGreat
open Go.ChangeShapes Go.WideShapes Go.ChangeAt Go.RowKit
set_option linter.unusedVariables false
set_option maxRecDepth 100000 in
set_option maxHeartbeats 4000000 in
theorem toSt_any (aD aU aT:Option Addr) (nD cD nU cU nT cT:Nat) (D U T:List Int) (k:Int) (w:World) (hD:D.length=nD) (hU:U.length=nU) (hT:T.length=nT*2) (mD:nD≤1048576) (mU:nU≤1048576) (mT:nT≤1048576) (AD:At .i64 w aD D) (AU:At .i64 w aU U) (AT:At .i64 w aT T) :
  Calls Tryz.prog 91 #[.agg #[.slice aD nD cD,.slice aU nU cU,.int .i64 k,.slice aT nT cT]] w fun e w'=>∃ gD gU gT,e=.returned (.agg #[.slice (some ⟨gD,0,none⟩) nD nD,.slice (some ⟨gU,0,none⟩) nU nU,.int .i64 k,.slice (some ⟨gT,0,none⟩) nT nT])∧w.heap.size≤gD∧gD<gU∧gU<gT∧RowV w' gD 2 (iC D)∧RowV w' gU 2 (iC U)∧RowV w' gT 132 (iC T)∧Below w.heap.size w w':=by
 have HE0:Hid (CE w 51 34 #[.slice aD nD cD,.slice aU nU cU,.int .i64 k,.slice aT nT cT] #[.slice none 0 0,.slice none 0 0,.int .i64 0,.slice none 0 0] #[.slice none 0 0,.slice none 0 0,.int .i64 0,.slice none 0 0] (((w.alloc (.cells #[.slice aD nD cD,.slice aU nU cU,.int .i64 k,.slice aT nT cT] 51)).alloc (.cells #[.slice none 0 0,.slice none 0 0,.int .i64 0,.slice none 0 0] 34)).alloc (.cells #[.slice none 0 0,.slice none 0 0,.int .i64 0,.slice none 0 0] 34))):=CE.start _ _ _ _ _ _
 have HAD:Hid (At .i64 w aD D):=AD
 have HLD:Hid (D.length=nD):=hD
 have HAU:Hid (At .i64 w aU U):=AU
 have HLU:Hid (U.length=nU):=hU
 have HAT:Hid (At .i64 w aT T):=AT
 have HLT:Hid (T.length=nT*2):=hT
 clear AD hD AU hU AT hT
 go_enter Tryz.func91,Tryz.ntmps91
 go_wp2_with fail
 generalize (((w.alloc (.cells #[.slice aD nD cD,.slice aU nU cU,.int .i64 k,.slice aT nT cT] 51)).alloc (.cells #[.slice none 0 0,.slice none 0 0,.int .i64 0,.slice none 0 0] 34)).alloc (.cells #[.slice none 0 0,.slice none 0 0,.int .i64 0,.slice none 0 0] 34))=w0 at *
 refine(toIR_any aD nD cD D _ HLD.out mD (HAD.out.below HE0.out.below)).mono ?_
 rintro e u0 ⟨rfl,hRD,hb⟩
 have HF0:Hid (CE w 51 34 #[.slice aD nD cD,.slice aU nU cU,.int .i64 k,.slice aT nT cT] #[.slice none 0 0,.slice none 0 0,.int .i64 0,.slice none 0 0] #[.slice none 0 0,.slice none 0 0,.int .i64 0,.slice none 0 0] u0):=HE0.out.call hb
 have lt0:w.heap.size+1+1<w0.heap.size:=HE0.out.lt
 clear hb
 have oD:w.heap.size≤w0.heap.size:=by omega
 have VD:w.heap.size+1+1<w0.heap.size:=lt0
 clear HE0
 generalize w0.heap.size=gD at *
 have hw:Wr (w.heap.size+1+1) u0 (u0.setCell ⟨w.heap.size+1+1,0,none⟩ (.slice (some ⟨gD,0,none⟩) nD nD)):=((Wr.refl _ _).setCell _ _)
 have HE1:Hid (CE w 51 34 #[.slice aD nD cD,.slice aU nU cU,.int .i64 k,.slice aT nT cT] #[.slice none 0 0,.slice none 0 0,.int .i64 0,.slice none 0 0] #[.slice (some ⟨gD,0,none⟩) nD nD,.slice none 0 0,.int .i64 0,.slice none 0 0] (u0.setCell ⟨w.heap.size+1+1,0,none⟩ (.slice (some ⟨gD,0,none⟩) nD nD))):=(HF0.out.put 0 _)
 have HRD:Hid (RowV (u0.setCell ⟨w.heap.size+1+1,0,none⟩ (.slice (some ⟨gD,0,none⟩) nD nD)) gD 2 (iC D)):=hRD.wr hw VD
 have lgD:gD<(u0.setCell ⟨w.heap.size+1+1,0,none⟩ (.slice (some ⟨gD,0,none⟩) nD nD)).heap.size:=HRD.out.lt
 have v0:u0.cell? ⟨w.heap.size+1+1,0,none⟩=some (.slice none 0 0):=by rw[cell_of_row u0 _ 0 _ _ _ HF0.out.var];rfl
 have f0:=frozen_of_row u0 (w.heap.size+1+1) 0 _ _ HF0.out.var
 have x1:u0.cell? ⟨w.heap.size,1,none⟩=some (.slice aU nU cU):=by rw[cell_of_row u0 w.heap.size 1 _ _ _ HF0.out.box];rfl
 clear hw HF0 hRD
 go_wp2_with fail
 generalize (u0.setCell ⟨w.heap.size+1+1,0,none⟩ (.slice (some ⟨gD,0,none⟩) nD nD))=w1 at *
 clear v0 f0 x1
 refine(toIR_any aU nU cU U _ HLU.out mU (HAU.out.below HE1.out.below)).mono ?_
 rintro e u1 ⟨rfl,hRU,hb⟩
 have HF1:Hid (CE w 51 34 #[.slice aD nD cD,.slice aU nU cU,.int .i64 k,.slice aT nT cT] #[.slice none 0 0,.slice none 0 0,.int .i64 0,.slice none 0 0] #[.slice (some ⟨gD,0,none⟩) nD nD,.slice none 0 0,.int .i64 0,.slice none 0 0] u1):=HE1.out.call hb
 have lt1:w.heap.size+1+1<w1.heap.size:=HE1.out.lt
 have hRD:RowV u1 gD 2 (iC D):=HRD.out.below hb
 clear hb HRD
 have oU:gD<w1.heap.size:=lgD
 clear lgD
 have VU:w.heap.size+1+1<w1.heap.size:=lt1
 clear HE1
 generalize w1.heap.size=gU at *
 have hw:Wr (w.heap.size+1+1) u1 ((u1.setCell ⟨w.heap.size+1+1,1,none⟩ (.slice (some ⟨gU,0,none⟩) nU nU)).setCell ⟨w.heap.size+1+1,2,none⟩ (.int .i64 k)):=(((Wr.refl _ _).setCell _ _).setCell _ _)
 have HE2:Hid (CE w 51 34 #[.slice aD nD cD,.slice aU nU cU,.int .i64 k,.slice aT nT cT] #[.slice none 0 0,.slice none 0 0,.int .i64 0,.slice none 0 0] #[.slice (some ⟨gD,0,none⟩) nD nD,.slice (some ⟨gU,0,none⟩) nU nU,.int .i64 k,.slice none 0 0] ((u1.setCell ⟨w.heap.size+1+1,1,none⟩ (.slice (some ⟨gU,0,none⟩) nU nU)).setCell ⟨w.heap.size+1+1,2,none⟩ (.int .i64 k))):=((HF1.out.put 1 _).put 2 _)
 have HRD:Hid (RowV ((u1.setCell ⟨w.heap.size+1+1,1,none⟩ (.slice (some ⟨gU,0,none⟩) nU nU)).setCell ⟨w.heap.size+1+1,2,none⟩ (.int .i64 k)) gD 2 (iC D)):=hRD.wr hw VD
 have HRU:Hid (RowV ((u1.setCell ⟨w.heap.size+1+1,1,none⟩ (.slice (some ⟨gU,0,none⟩) nU nU)).setCell ⟨w.heap.size+1+1,2,none⟩ (.int .i64 k)) gU 2 (iC U)):=hRU.wr hw VU
 have lgU:gU<((u1.setCell ⟨w.heap.size+1+1,1,none⟩ (.slice (some ⟨gU,0,none⟩) nU nU)).setCell ⟨w.heap.size+1+1,2,none⟩ (.int .i64 k)).heap.size:=HRU.out.lt
 have v1:u1.cell? ⟨w.heap.size+1+1,1,none⟩=some (.slice none 0 0):=by rw[cell_of_row u1 _ 1 _ _ _ HF1.out.var];rfl
 have f1:=frozen_of_row u1 (w.heap.size+1+1) 1 _ _ HF1.out.var
 have v2:u1.cell? ⟨w.heap.size+1+1,2,none⟩=some (.int .i64 0):=by rw[cell_of_row u1 _ 2 _ _ _ HF1.out.var];rfl
 have f2:=frozen_of_row u1 (w.heap.size+1+1) 2 _ _ HF1.out.var
 have x2:u1.cell? ⟨w.heap.size,2,none⟩=some (.int .i64 k):=by rw[cell_of_row u1 w.heap.size 2 _ _ _ HF1.out.box];rfl
 have x3:u1.cell? ⟨w.heap.size,3,none⟩=some (.slice aT nT cT):=by rw[cell_of_row u1 w.heap.size 3 _ _ _ HF1.out.box];rfl
 clear hw HF1 hRD hRU
 go_wp2_with fail
 generalize ((u1.setCell ⟨w.heap.size+1+1,1,none⟩ (.slice (some ⟨gU,0,none⟩) nU nU)).setCell ⟨w.heap.size+1+1,2,none⟩ (.int .i64 k))=w2 at *
 clear v1 f1 v2 f2 x2 x3
 refine(toTR_any aT nT cT T _ HLT.out mT (HAT.out.below HE2.out.below)).mono ?_
 rintro e u2 ⟨rfl,hRT,hb⟩
 have HF2:Hid (CE w 51 34 #[.slice aD nD cD,.slice aU nU cU,.int .i64 k,.slice aT nT cT] #[.slice none 0 0,.slice none 0 0,.int .i64 0,.slice none 0 0] #[.slice (some ⟨gD,0,none⟩) nD nD,.slice (some ⟨gU,0,none⟩) nU nU,.int .i64 k,.slice none 0 0] u2):=HE2.out.call hb
 have lt2:w.heap.size+1+1<w2.heap.size:=HE2.out.lt
 have hRD:RowV u2 gD 2 (iC D):=HRD.out.below hb
 have hRU:RowV u2 gU 2 (iC U):=HRU.out.below hb
 clear hb HRD HRU
 have oT:gU<w2.heap.size:=lgU
 clear lgU
 have VT:w.heap.size+1+1<w2.heap.size:=lt2
 clear HE2
 generalize w2.heap.size=gT at *
 have hw:Wr (w.heap.size+1+1) u2 (u2.setCell ⟨w.heap.size+1+1,3,none⟩ (.slice (some ⟨gT,0,none⟩) nT nT)):=((Wr.refl _ _).setCell _ _)
 have HE3:Hid (CE w 51 34 #[.slice aD nD cD,.slice aU nU cU,.int .i64 k,.slice aT nT cT] #[.slice none 0 0,.slice none 0 0,.int .i64 0,.slice none 0 0] #[.slice (some ⟨gD,0,none⟩) nD nD,.slice (some ⟨gU,0,none⟩) nU nU,.int .i64 k,.slice (some ⟨gT,0,none⟩) nT nT] (u2.setCell ⟨w.heap.size+1+1,3,none⟩ (.slice (some ⟨gT,0,none⟩) nT nT))):=(HF2.out.put 3 _)
 have HRD:Hid (RowV (u2.setCell ⟨w.heap.size+1+1,3,none⟩ (.slice (some ⟨gT,0,none⟩) nT nT)) gD 2 (iC D)):=hRD.wr hw VD
 have HRU:Hid (RowV (u2.setCell ⟨w.heap.size+1+1,3,none⟩ (.slice (some ⟨gT,0,none⟩) nT nT)) gU 2 (iC U)):=hRU.wr hw VU
 have HRT:Hid (RowV (u2.setCell ⟨w.heap.size+1+1,3,none⟩ (.slice (some ⟨gT,0,none⟩) nT nT)) gT 132 (iC T)):=hRT.wr hw VT
 have v3:u2.cell? ⟨w.heap.size+1+1,3,none⟩=some (.slice none 0 0):=by rw[cell_of_row u2 _ 3 _ _ _ HF2.out.var];rfl
 have f3:=frozen_of_row u2 (w.heap.size+1+1) 3 _ _ HF2.out.var
 clear hw HF2 hRD hRU hRT
 have HSZ:Hid ((Tryz.prog.info? 34).map (·.size)=some 4):=by show _=_;kernel_rfl
 have HVR:Hid ((u2.setCell ⟨w.heap.size+1+1,3,none⟩ (.slice (some ⟨gT,0,none⟩) nT nT)).heap[w.heap.size+1+1]?=some (.cells #[.slice (some ⟨gD,0,none⟩) nD nD,.slice (some ⟨gU,0,none⟩) nU nU,.int .i64 k,.slice (some ⟨gT,0,none⟩) nT nT] 34 (0,0))):=HE3.out.var
 have HRR:Hid ((u2.setCell ⟨w.heap.size+1+1,3,none⟩ (.slice (some ⟨gT,0,none⟩) nT nT)).heap[w.heap.size+1]?=some (.cells #[.slice none 0 0,.slice none 0 0,.int .i64 0,.slice none 0 0] 34 (0,0))):=HE3.out.res
 go_upto_region 6 with fail
 generalize (u2.setCell ⟨w.heap.size+1+1,3,none⟩ (.slice (some ⟨gT,0,none⟩) nT nT))=wz at *
 clear v3 f3
 go_wp2_with (first
  |(refine wpList_load_row rfl 34 (.tmp 3) rfl (w.heap.size+1+1) rfl 34 _ (0,0) _ HVR.out Tryz.underlying34 rfl HSZ.out ?_)
  |(refine wpList_store_row rfl 34 (.tmp 2) (.tmp 19) rfl (w.heap.size+1) #[.slice (some ⟨gD,0,none⟩) nD nD,.slice (some ⟨gU,0,none⟩) nU nU,.int .i64 k,.slice (some ⟨gT,0,none⟩) nT nT] rfl rfl 34 _ HRR.out HSZ.out rfl (by simp[Value.oneCell']) ?_)
  |fail)
 refine bodyPost_ret (v:=.agg #[.slice (some ⟨gD,0,none⟩) nD nD,.slice (some ⟨gU,0,none⟩) nU nU,.int .i64 k,.slice (some ⟨gT,0,none⟩) nT nT]) (results_cell_row rfl _ _ (w.heap.size+1) 34 _ (0,0) _ rfl (setRow_heap _ _ _ _ _ _ HRR.out) Tryz.underlying34 rfl HSZ.out) rfl ?_
 have hwz:Wr (w.heap.size+1) wz (wz.setRow (w.heap.size+1) #[.slice (some ⟨gD,0,none⟩) nD nD,.slice (some ⟨gU,0,none⟩) nU nU,.int .i64 k,.slice (some ⟨gT,0,none⟩) nT nT]):=Wr.setRow _ _ _
 exact⟨gD,gU,gT,rfl,by omega,oU,oT,HRD.out.wr hwz (by omega),HRU.out.wr hwz (by omega),HRT.out.wr hwz (by omega),HE3.out.below.trans (hwz.below (by omega))⟩
end Go.Proofs.YtganeokokjodoaaGreat
