import Derived.Test.YtilpkdnoaldfmaaGreatDoorMLdM
import Derived.Deep.AppendSrc
import Derived.Test.YtilpkdnoaldfmaaGreatDoorMDnA
import Derived.Test.YtilpkdnoaldfmaaGreatDoorMIDec
import Derived.Test.YtilpkdnoaldfmaaGreatDoorMArgDev
import Derived.Test.YtilpkdnoaldfmaaGreatDoorMRows8a
import Derived.Test.YtilpkdnoaldfmaaGreatDoorMSwH
import Derived.Test.YtilpkdnoaldfmaaGreatDoorMCatF
import Derived.Deep.Cut
import Derived.Test.YtilpkdnoaldfmaaGreatDoorMSwA
import Derived.Test.YtilpkdnoaldfmaaGreatDoorMDkJ
namespace Go.Proofs.YtilpkdnoaldfmaaGreatDoor
open Go.ChangeShapes Go.WideShapes Go.ChangeAt Go.RowKit
set_option linter.unusedVariables false
theorem apK_no {r:ApR} {F:List Int} (hr:r.ok=true):∀ i,(apK r F i).ok=false→apK r F i=apNo
 |0,h=>by rw[show apK r F 0=r from rfl,hr] at h;cases h
 |i+1,h=>by
  cases h':(apK r F i).ok with
  |false=>exact apK_stop h'
  |true=>rw[apK_go h'] at h ⊢;exact apR_no h
theorem apK_rest {r:ApR} {F:List Int} {i n:Nat} (hr:r.ok=true) (h:(apK r F i).ok=false) (hi:i≤n):apK r F n=apK r F i:=by
 by_cases e:i=n
 ·rw[e]
 ·have:=apK_end h (n-(i+1));rw[show i+1+(n-(i+1))=n by omega] at this;rw[this,apK_no hr i h]
def ImW (w:World) (v:Value) (r:ImR):Prop:=∃ aSD nSD cSD aSU nSU cSU aF mF cF aD nD cD aU nU cU aT cT,
 v=.agg #[.bool r.ok,.int .u32 r.g,.int .u32 r.t,.slice aSD nSD cSD,.slice aSU nSU cSU,.slice aF mF cF,.slice aD nD cD,.slice aU nU cU,.int .i64 r.k,.slice aT r.n cT,.int .u32 r.nx]∧
 At .i64 w aSD r.sD∧At .i64 w aSU r.sU∧FAt w aF r.F∧At .i64 w aD r.D∧At .i64 w aU r.U∧At .i64 w aT r.T∧r.sD.length=nSD∧r.sU.length=nSU∧r.F.length=mF*4∧r.D.length=nD∧r.U.length=nU∧r.T.length=r.n*2
structure I6 (lo b1 b2:Nat) (w:World) (aSD aSU aF aD aU aT:Option Addr) (nSD nSU mF nD nU nT:Nat):Prop where
 oSD:Open w aSD nSD
 oSU:Open w aSU nSU
 oF:Open w aF (mF*4)
 oD:Open w aD nD
 oU:Open w aU nU
 oT:Open w aT (nT*2)
 lSD:∀ ad,aSD=some ad→lo≤ad.block∧ad.block<w.heap.size
 lSU:∀ ad,aSU=some ad→lo≤ad.block∧ad.block<w.heap.size
 lF:∀ ad,aF=some ad→lo≤ad.block∧ad.block<w.heap.size
 lD:∀ ad,aD=some ad→lo≤ad.block∧ad.block<w.heap.size
 lU:∀ ad,aU=some ad→lo≤ad.block∧ad.block<w.heap.size
 lT:∀ ad,aT=some ad→lo≤ad.block∧ad.block<w.heap.size
 sDU:Aprt aSD aSU
 dU:Aprt aD aU
 dT:Aprt aD aT
 uT:Aprt aU aT
 xS:∀ ad,aSD=some ad∨aSU=some ad→NotIn ad.block aF∧NotIn ad.block aD∧NotIn ad.block aU∧NotIn ad.block aT
 xF:∀ ad,aF=some ad→NotIn ad.block aD∧NotIn ad.block aU∧NotIn ad.block aT
section
variable (ok:Bool) (gn tl:Int) (aSD aSU aF aD aU aT:Option Addr) (nSD cSD nSU cSU mF cF nD cD nU cU nT cT:Nat) (k0 nx k:Int) (w:World)
theorem I6.below {lo b1 b2:Nat} {w w':World} {aSD aSU aF aD aU aT:Option Addr} {nSD nSU mF nD nU nT:Nat} (h:I6 lo b1 b2 w aSD aSU aF aD aU aT nSD nSU mF nD nU nT) (b:Below w.heap.size w w'):I6 lo b1 b2 w' aSD aSU aF aD aU aT nSD nSU mF nD nU nT:=
 ⟨h.oSD.below b,h.oSU.below b,h.oF.below b,h.oD.below b,h.oU.below b,h.oT.below b,fun ad e=>by have:=h.lSD ad e;have:=b.size;omega,fun ad e=>by have:=h.lSU ad e;have:=b.size;omega,fun ad e=>by have:=h.lF ad e;have:=b.size;omega,fun ad e=>by have:=h.lD ad e;have:=b.size;omega,fun ad e=>by have:=h.lU ad e;have:=b.size;omega,fun ad e=>by have:=h.lT ad e;have:=b.size;omega,h.sDU,h.dU,h.dT,h.uT,h.xS,h.xF⟩
theorem FAt.keepT {w w':World} {a:Option Addr} {F:List Int} (h:FAt w a F) (hs:w.heap.size≤w'.heap.size) (hb:∀ ad,a=some ad→ad.block<w.heap.size→w'.heap[ad.block]?=w.heap[ad.block]?):FAt w' a F:=by
 rcases h with h|⟨b,off,e,hl,hc⟩
 ·exact .inl h
 ·have hk:=hb _ e hl;exact .inr ⟨b,off,e,by omega,fun i hi=>by rw[World.cell?_of_block (a:=⟨b,off+i,none⟩) (w:=w) hk];exact hc i hi⟩
end
end Go.Proofs.YtilpkdnoaldfmaaGreatDoor
