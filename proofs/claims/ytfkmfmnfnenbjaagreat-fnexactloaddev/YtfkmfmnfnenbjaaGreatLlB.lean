import Derived.Test.YtfkmfmnfnenbjaaGreatMEqSn
import Derived.Test.YtfkmfmnfnenbjaaGreatMArgDev
namespace Go.Proofs.YtfkmfmnfnenbjaaGreat
open Go.ChangeShapes Go.WideShapes Go.ChangeAt Go.RowKit
set_option linter.unusedVariables false
def imC (r:ImR) (aSD aSU aF aD aU aT:Option Addr) (nSD cSD nSU cSU mF cF nD cD nU cU cT:Nat):Array Value:=#[.bool r.ok,.int .u32 r.g,.int .u32 r.t,.slice aSD nSD cSD,.slice aSU nSU cSU,.slice aF mF cF,.slice aD nD cD,.slice aU nU cU,.int .i64 r.k,.slice aT r.n cT,.int .u32 r.nx]
theorem imC_size (r:ImR) (aSD aSU aF aD aU aT:Option Addr) (nSD cSD nSU cSU mF cF nD cD nU cU cT:Nat):(imC r aSD aSU aF aD aU aT nSD cSD nSU cSU mF cF nD cD nU cU cT).size=11:=rfl
theorem imC_one (r:ImR) (aSD aSU aF aD aU aT:Option Addr) (nSD cSD nSU cSU mF cF nD cD nU cU cT:Nat):(imC r aSD aSU aF aD aU aT nSD cSD nSU cSU mF cF nD cD nU cU cT).all (·.oneCell')=true:=by simp[imC,Value.oneCell']
def IB (w:World) (C:Array Value) (r:ImR):Prop:=∃ aSD aSU aF aD aU aT nSD cSD nSU cSU mF cF nD cD nU cU cT,C=imC r aSD aSU aF aD aU aT nSD cSD nSU cSU mF cF nD cD nU cU cT∧I6L w aSD aSU aF aD aU aT nSD nSU mF nD nU r
theorem IB.below {w w':World} {C:Array Value} {r:ImR} (h:IB w C r) (b:Below w.heap.size w w'):IB w' C r:=by
 obtain⟨aSD,aSU,aF,aD,aU,aT,nSD,cSD,nSU,cSU,mF,cF,nD,cD,nU,cU,cT,rfl,h⟩:=h
 exact⟨aSD,aSU,aF,aD,aU,aT,nSD,cSD,nSU,cSU,mF,cF,nD,cD,nU,cU,cT,rfl,h.below b⟩
theorem IB.row {w:World} {C:Array Value} {r:ImR} (h:IB w C r):C.size=11∧C.all (·.oneCell')=true:=by
 obtain⟨aSD,aSU,aF,aD,aU,aT,nSD,cSD,nSU,cSU,mF,cF,nD,cD,nU,cU,cT,rfl,h⟩:=h
 exact⟨rfl,imC_one ..⟩
theorem ImW.ib {w:World} {v:Value} {r:ImR} (h:ImW w v r):∃ C,v=.agg C∧IB w C r:=by
 obtain⟨aSD,nSD,cSD,aSU,nSU,cSU,aF,mF,cF,aD,nD,cD,aU,nU,cU,aT,cT,rfl,h⟩:=h
 exact⟨_,rfl,aSD,aSU,aF,aD,aU,aT,nSD,cSD,nSU,cSU,mF,cF,nD,cD,nU,cU,cT,rfl,h⟩
def ImLe (r:ImR):Prop:=r.sD.length≤16∧r.sU.length≤256∧r.F.length≤1008∧r.D.length≤16∧r.U.length≤256∧r.n≤256
theorem eqIB {w:World} {C C':Array Value} {r:ImR} (h:IB w C r) (h':IB w C' r) (hb:ImLe r) :
  Calls Tryz.prog 8 #[.agg C,.agg C'] w fun e w'=>e=.returned (.bool true)∧Below w.heap.size w w':=by
 obtain⟨aSD,aSU,aF,aD,aU,aT,nSD,cSD,nSU,cSU,mF,cF,nD,cD,nU,cU,cT,rfl,a1,a2,a3,a4,a5,a6,a7,a8,a9,a10,a11,a12⟩:=h
 obtain⟨bSD,bSU,bF,bD,bU,bT,mSD,dSD,mSU,dSU,mG,dF,mD,dD,mU,dU,dT,rfl,b1,b2,b3,b4,b5,b6,b7,b8,b9,b10,b11,b12⟩:=h'
 obtain⟨h1,h2,h3,h4,h5,h6⟩:=hb
 obtain rfl:nSD=mSD:=by omega
 obtain rfl:nSU=mSU:=by omega
 obtain rfl:mF=mG:=by omega
 obtain rfl:nD=mD:=by omega
 obtain rfl:nU=mU:=by omega
 exact eqIm_any aSD bSD aSU bSU aF bF aD bD aU bU aT bT nSD cSD dSD nSU cSU dSU mF cF dF nD cD dD nU cU dU r.n cT dT r.sD r.sU r.F r.D r.U r.T r.g r.t r.k r.nx r.ok w a7 a8 a9 a10 a11 a12 (by omega) (by omega) (by omega) (by omega) (by omega) (by omega) a1 b1 a2 b2 a3 b3 a4 b4 a5 b5 a6 b6
def IG (lo hi:Nat) (w:World) (C:Array Value) (r:ImR):Prop:=∃ aSD aSU aF aD aU aT nSD cSD nSU cSU mF cF nD cD nU cU cT b1 b2,C=imC r aSD aSU aF aD aU aT nSD cSD nSU cSU mF cF nD cD nU cU cT∧I6 lo b1 b2 w aSD aSU aF aD aU aT nSD nSU mF nD nU r.n∧I6L w aSD aSU aF aD aU aT nSD nSU mF nD nU r∧(∀ j,hi≤j→NotIn j aSD∧NotIn j aSU∧NotIn j aF∧NotIn j aD∧NotIn j aU∧NotIn j aT)
theorem IG.ib {lo hi:Nat} {w:World} {C:Array Value} {r:ImR} (h:IG lo hi w C r):IB w C r:=by
 obtain⟨aSD,aSU,aF,aD,aU,aT,nSD,cSD,nSU,cSU,mF,cF,nD,cD,nU,cU,cT,b1,b2,rfl,g,h,n⟩:=h
 exact⟨aSD,aSU,aF,aD,aU,aT,nSD,cSD,nSU,cSU,mF,cF,nD,cD,nU,cU,cT,rfl,h⟩
theorem ImV.ig {lo:Nat} {w:World} {v:Value} {r:ImR} (h:ImV lo w v r):∃ C,v=.agg C∧IG lo w.heap.size w C r:=by
 obtain⟨aSD,nSD,cSD,aSU,nSU,cSU,aF,mF,cF,aD,nD,cD,aU,nU,cU,aT,cT,b1,b2,rfl,g,h⟩:=h.six
 exact⟨_,rfl,aSD,aSU,aF,aD,aU,aT,nSD,cSD,nSU,cSU,mF,cF,nD,cD,nU,cU,cT,b1,b2,rfl,g,h,fun j hj=>⟨fun ad e=>by have:=g.lSD ad e;omega,fun ad e=>by have:=g.lSU ad e;omega,fun ad e=>by have:=g.lF ad e;omega,fun ad e=>by have:=g.lD ad e;omega,fun ad e=>by have:=g.lU ad e;omega,fun ad e=>by have:=g.lT ad e;omega⟩⟩
theorem IG.keep {lo hi:Nat} {w w':World} {C:Array Value} {r:ImR} (h:IG lo hi w C r) (hs:w.heap.size≤w'.heap.size) (hb:∀ k,lo≤k→k<w.heap.size→w'.heap[k]?=w.heap[k]?):IG lo hi w' C r:=by
 obtain⟨aSD,aSU,aF,aD,aU,aT,nSD,cSD,nSU,cSU,mF,cF,nD,cD,nU,cU,cT,b1,b2,rfl,g,⟨a1,a2,a3,a4,a5,a6,hl⟩,n⟩:=h
 have h1:=g.lo1
 have h2:=g.b12
 have k1:∀ ad,aSD=some ad→ad.block<w.heap.size→w'.heap[ad.block]?=w.heap[ad.block]?:=fun ad e hl=>hb _ (by have:=g.lSD ad e;omega) hl
 have k2:∀ ad,aSU=some ad→ad.block<w.heap.size→w'.heap[ad.block]?=w.heap[ad.block]?:=fun ad e hl=>hb _ (by have:=g.lSU ad e;omega) hl
 have k3:∀ ad,aF=some ad→ad.block<w.heap.size→w'.heap[ad.block]?=w.heap[ad.block]?:=fun ad e hl=>hb _ (by have:=g.lF ad e;omega) hl
 have k4:∀ ad,aD=some ad→ad.block<w.heap.size→w'.heap[ad.block]?=w.heap[ad.block]?:=fun ad e hl=>hb _ (by have:=g.lD ad e;omega) hl
 have k5:∀ ad,aU=some ad→ad.block<w.heap.size→w'.heap[ad.block]?=w.heap[ad.block]?:=fun ad e hl=>hb _ (by have:=g.lU ad e;omega) hl
 have k6:∀ ad,aT=some ad→ad.block<w.heap.size→w'.heap[ad.block]?=w.heap[ad.block]?:=fun ad e hl=>hb _ (by have:=g.lT ad e;omega) hl
 exact⟨aSD,aSU,aF,aD,aU,aT,nSD,cSD,nSU,cSU,mF,cF,nD,cD,nU,cU,cT,b1,b2,rfl,
  ⟨g.oSD.keepT hs k1,g.oSU.keepT hs k2,g.oF.keepT hs k3,g.oD.keepT hs k4,g.oU.keepT hs k5,g.oT.keepT hs k6,fun ad e=>by have:=g.lSD ad e;omega,fun ad e=>by have:=g.lSU ad e;omega,fun ad e=>by have:=g.lF ad e;omega,fun ad e=>by have:=g.lD ad e;omega,fun ad e=>by have:=g.lU ad e;omega,fun ad e=>by have:=g.lT ad e;omega,g.sDU,g.dU,g.dT,g.uT,g.lo1,g.b12⟩,
  ⟨a1.keepT hs k1,a2.keepT hs k2,a3.keepT hs k3,a4.keepT hs k4,a5.keepT hs k5,a6.keepT hs k6,hl⟩,n⟩
theorem IG.below {lo hi:Nat} {w w':World} {C:Array Value} {r:ImR} (h:IG lo hi w C r) (b:Below w.heap.size w w'):IG lo hi w' C r:=h.keep b.size (fun k _ hk=>b.block k hk)
def imK (r:ImR):Int:=1+(r.sD.length:Int)+r.sU.length+r.F.length+r.D.length+r.U.length+r.n*2
def IM (w:World) (C:Array Value) (r:ImR):Prop:=∃ aSD aSU aF aD aU aT nSD cSD nSU cSU mF cF nD cD nU cU cT,C=imC r aSD aSU aF aD aU aT nSD cSD nSU cSU mF cF nD cD nU cU cT∧I6M w aSD aSU aF aD aU aT nSD nSU mF nD nU r.n 1∧r.sD.length=nSD∧r.sU.length=nSU∧r.F.length=mF*4∧r.D.length=nD∧r.U.length=nU
theorem markIG {lo hi:Nat} {w:World} {C:Array Value} {r:ImR} (h:IG lo hi w C r) (hlo:lo≤w.heap.size) (hb:ImLe r) :
  Calls Tryz.prog 11 #[.agg C,.int .i64 1] w fun e w'=>e=.returned (.int .i64 (imK r))∧IM w' C r∧Below lo w w'∧∀ j,hi≤j→j<w.heap.size→w'.heap[j]?=w.heap[j]?:=by
 obtain⟨aSD,aSU,aF,aD,aU,aT,nSD,cSD,nSU,cSU,mF,cF,nD,cD,nU,cU,cT,b1,b2,rfl,g,⟨_,_,_,_,_,_,e1,e2,e3,e4,e5,_⟩,n⟩:=h
 obtain⟨h1,h2,h3,h4,h5,h6⟩:=hb
 refine(markM_any r.ok r.g r.t aSD aSU aF aD aU aT nSD cSD nSU cSU mF cF nD cD nU cU r.n cT r.k r.nx 1 w g hlo (by decide) (by omega)).mono ?_
 rintro e w' ⟨rfl,p1,p2,p3⟩
 refine⟨?_,⟨aSD,aSU,aF,aD,aU,aT,nSD,cSD,nSU,cSU,mF,cF,nD,cD,nU,cU,cT,rfl,p1,e1,e2,e3,e4,e5⟩,p2,fun j hj hl=>?_⟩
 ·rw[show imK r=1+(nSD:Int)+nSU+mF*4+nD+nU+r.n*2 by unfold imK;omega]
 ·obtain⟨n1,n2,n3,n4,n5,n6⟩:=n j hj;exact p3 j hl n1 n2 n3 n4 n5 n6
theorem heldIM {w:World} {C:Array Value} {r:ImR} (h:IM w C r) (hb:ImLe r) :
  Calls Tryz.prog 12 #[.agg C,.int .i64 1] w fun e w'=>e=.returned (.int .i64 (imK r))∧Below w.heap.size w w':=by
 obtain⟨aSD,aSU,aF,aD,aU,aT,nSD,cSD,nSU,cSU,mF,cF,nD,cD,nU,cU,cT,rfl,g,e1,e2,e3,e4,e5⟩:=h
 obtain⟨h1,h2,h3,h4,h5,h6⟩:=hb
 refine(heldM_any r.ok r.g r.t aSD aSU aF aD aU aT nSD cSD nSU cSU mF cF nD cD nU cU r.n cT r.k r.nx 1 w g (by decide) (by omega)).mono ?_
 rintro e w' ⟨rfl,p⟩
 refine⟨?_,p⟩
 rw[show imK r=1+(nSD:Int)+nSU+mF*4+nD+nU+r.n*2 by unfold imK;omega]
theorem imK_pos (r:ImR):¬ imK r<0:=by unfold imK;omega
theorem sldD {w:World} {v:Value} {zs:List Int} {ps:List PD} {f:Int} {d:Bool} (h:DAt w v zs ps f d) (hL:zs.length≤1048576) (hM:ps.length≤1048576) (hps:∀ i,(ps.getD i (0,[])).2.length≤1048576) (bz:Byte zs) (bp:∀ i,Byte (ps.getD i (0,[])).2) :
  Calls Tryz.prog 5 #[v] w fun e w'=>∃ C,e=.returned (.agg C)∧IB w' C (imG zs ps f)∧Below w.heap.size w w':=by
 obtain⟨da,dc,ca,cc,rfl,h1,h2,h3⟩:=h
 refine(sld_any da ca zs.length dc ps.length cc f d zs ps w rfl rfl h1 h2 h3 hL hM hps bz bp).mono ?_
 rintro e w' ⟨v,rfl,h4,h5⟩
 obtain⟨C,rfl,h6⟩:=h4.ib
 exact⟨C,rfl,h6,h5⟩
theorem ildD {w:World} {v:Value} {zs:List Int} {ps:List PD} {f:Int} {d:Bool} (h:DAt w v zs ps f d) (hL:zs.length≤1048576) (hM:ps.length≤1048576) (hps:∀ i,(ps.getD i (0,[])).2.length≤1048576) (bz:Byte zs) (bp:∀ i,Byte (ps.getD i (0,[])).2) :
  Calls Tryz.prog 7 #[v] w fun e w'=>∃ C,e=.returned (.agg C)∧IG w.heap.size w'.heap.size w' C (imG zs ps f)∧Below w.heap.size w w':=by
 obtain⟨da,dc,ca,cc,rfl,h1,h2,h3⟩:=h
 refine(ild_any da ca zs.length dc ps.length cc f d zs ps w rfl rfl h1 h2 h3 hL hM hps bz bp).mono ?_
 rintro e w' ⟨v,rfl,h4,h5⟩
 obtain⟨C,rfl,h6⟩:=h4.ig
 exact⟨C,rfl,h6,h5⟩
theorem wpList_wanted {ops:Array Oper} {rest:List Oper} {o:Oper} {a:Act} {w:World} {Q:Exit→Act→World→Prop} (hw:Region.wanted o (yielded ops a.tmps)=true)
  (h:∀ K:Act→World→Prop,(∀ a w,wpList Tryz.prog ops Q rest a w→K a w)→o.wp Tryz.prog a w K Q):wpList Tryz.prog ops Q (o::rest) a w:=
 wpList_step fun K hK=>by rw[if_pos hw];exact h K hK
structure QS (w4:World) (B U X G lo:Nat) (CX C:Array Value) (zs:List Int) (ps:List PD) (f:Int) (d:Bool) (r:ImR) (w:World):Prop where
 bel:Below w4.heap.size w4 w
 dev:DMine B U w (.agg CX) zs ps f d
 x:w.heap[X]?=some (.cells CX 40 (0,0))
 g:w.heap[G]?=some (.cells C 36 (0,0))
 im:IG lo G w C r
theorem QS.grow {w4:World} {B U X G lo:Nat} {CX C:Array Value} {zs:List Int} {ps:List PD} {f:Int} {d:Bool} {r:ImR} {w w':World} (h:QS w4 B U X G lo CX C zs ps f d r w) (b:Below w.heap.size w w'):QS w4 B U X G lo CX C zs ps f d r w':=
 ⟨h.bel.trans (b.mono h.bel.size),h.dev.below b,by rw[b.block _ (Array.getElem?_eq_some_iff.1 h.x).1];exact h.x,by rw[b.block _ (Array.getElem?_eq_some_iff.1 h.g).1];exact h.g,h.im.below b⟩
structure QT (w4:World) (G lo:Nat) (C:Array Value) (r:ImR) (w:World):Prop where
 bel:Below w4.heap.size w4 w
 g:w.heap[G]?=some (.cells C 36 (0,0))
 im:IG lo G w C r
theorem QT.grow {w4:World} {G lo:Nat} {C:Array Value} {r:ImR} {w w':World} (h:QT w4 G lo C r w) (b:Below w.heap.size w w'):QT w4 G lo C r w':=
 ⟨h.bel.trans (b.mono h.bel.size),by rw[b.block _ (Array.getElem?_eq_some_iff.1 h.g).1];exact h.g,h.im.below b⟩
theorem QS.mark {w4:World} {B U X G lo:Nat} {CX C:Array Value} {zs:List Int} {ps:List PD} {f:Int} {d:Bool} {r:ImR} {w w':World} (h:QS w4 B U X G lo CX C zs ps f d r w) (hc:Ch B U w w') (hB:w4.heap.size≤B) (hBU:B≤U) (hU:U≤lo) (hG:lo≤G):QT w4 G lo C r w':=by
 have hg:=(Array.getElem?_eq_some_iff.1 h.g).1
 exact⟨h.bel.trans ((hc.below (by omega)).mono hB),by rw[hc.block _ hg (.inr (by omega))];exact h.g,h.im.keep hc.size (fun k h1 h2=>hc.block k h2 (.inr (by omega)))⟩
end Go.Proofs.YtfkmfmnfnenbjaaGreat
