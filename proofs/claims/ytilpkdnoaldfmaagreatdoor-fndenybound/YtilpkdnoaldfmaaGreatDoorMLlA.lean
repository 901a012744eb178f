import Derived.Test.YtilpkdnoaldfmaaGreatDoorLdK
import Derived.Test.YtilpkdnoaldfmaaGreatDoorMLdU
import Derived.Test.YtilpkdnoaldfmaaGreatDoorMDnA
import Derived.Test.YtilpkdnoaldfmaaGreatDoorMCatC
import Derived.Test.YtilpkdnoaldfmaaGreatDoorMCatF
import Derived.Test.YtilpkdnoaldfmaaGreatDoorMMkB
import Derived.Test.YtilpkdnoaldfmaaGreatDoorMArrEq
import Derived.Test.YtilpkdnoaldfmaaGreatDoorMRows8a
import Derived.Test.YtilpkdnoaldfmaaGreatDoorMSwH
import Derived.Test.YtilpkdnoaldfmaaGreatDoorMDkJ
namespace Go.Proofs.YtilpkdnoaldfmaaGreatDoor
open Go.ChangeShapes Go.WideShapes Go.ChangeAt Go.RowKit
set_option linter.unusedVariables false
def I6L (w:World) (aSD aSU aF aD aU aT:Option Addr) (nSD nSU mF nD nU:Nat) (r:ImR):Prop:=At .i64 w aSD r.sD∧At .i64 w aSU r.sU∧FAt w aF r.F∧At .i64 w aD r.D∧At .i64 w aU r.U∧At .i64 w aT r.T∧r.sD.length=nSD∧r.sU.length=nSU∧r.F.length=mF*4∧r.D.length=nD∧r.U.length=nU∧r.T.length=r.n*2
theorem I6L.below {w w':World} {aSD aSU aF aD aU aT:Option Addr} {nSD nSU mF nD nU:Nat} {r:ImR} (h:I6L w aSD aSU aF aD aU aT nSD nSU mF nD nU r) (b:Below w.heap.size w w'):I6L w' aSD aSU aF aD aU aT nSD nSU mF nD nU r:=
 ⟨h.1.below b,h.2.1.below b,h.2.2.1.below b,h.2.2.2.1.below b,h.2.2.2.2.1.below b,h.2.2.2.2.2.1.below b,h.2.2.2.2.2.2⟩
theorem ImV.sixL {lo:Nat} {w:World} {v:Value} {r:ImR} (h:ImV lo w v r):∃ aSD nSD cSD aSU nSU cSU aF mF cF aD nD cD aU nU cU aT cT,
  v=.agg #[.bool r.ok,.int .u32 r.g,.int .u32 r.t,.slice aSD nSD cSD,.slice aSU nSU cSU,.slice aF mF cF,.slice aD nD cD,.slice aU nU cU,.int .i64 r.k,.slice aT r.n cT,.int .u32 r.nx]∧I6L w aSD aSU aF aD aU aT nSD nSU mF nD nU r:=by
 obtain⟨aSD,nSD,cSD,aSU,nSU,cSU,vF,m,aD,nD,cD,aU,nU,cU,aT,cT,b1,b2,rfl,s1,l1,l2,f1,l3,s2,h1,h2⟩:=h;have fl:=f1.len;obtain⟨aF,cF,rfl,fA,_,fL⟩:=f1.form;exact⟨aSD,nSD,cSD,aSU,nSU,cSU,aF,m,cF,aD,nD,cD,aU,nU,cU,aT,cT,rfl,s1.d.at_,s1.u.at_,fA,s2.d.at_,s2.u.at_,s2.t.at_,s1.nd,s1.nu,fl,s2.nd,s2.nu,s2.nt⟩
theorem imG_bd {zs:List Int} {ps:List PD} {f:Int} (bz:Byte zs) (bp:∀ i,Byte (ps.getD i (0,[])).2):(imG zs ps f).sD.length≤16∧(imG zs ps f).sU.length≤256∧(imG zs ps f).F.length≤1008∧(imG zs ps f).D.length≤16∧(imG zs ps f).U.length≤256∧(imG zs ps f).n≤256:=by
 have h0:imNo.sD.length≤16∧imNo.sU.length≤256∧imNo.F.length≤1008∧imNo.D.length≤16∧imNo.U.length≤256∧imNo.n≤256:=by decide
 by_cases hv:validB zs.length ps f=true
 ·rw[show imG zs ps f=imF zs ps (zs.length/64-4) from if_pos hv];have F0:DvF zs.length zs.length ps.length f zs ps:=⟨rfl,rfl,hv,Nat.le_refl _,bz,bp⟩
  have hJ:zs.length/64-4≤252:=by have:=F0.base;omega
  have HJR:=fun q=>(F0.jr q).2
  generalize zs.length/64-4=J at *;by_cases hn:(nwK zs ps 2).ok=true
  ·rw[show imF zs ps J=imR (nwK zs ps 2) (jrF zs ps J (nwK zs ps 2).t.toNat J) from if_pos hn];have hsn:=nwK_snp 2 hn;generalize nwK zs ps 2=s at *;have HFB:=jrF_frb zs ps J HJR J s.t.toNat;obtain⟨k,hk,hl⟩:=jrF_len zs ps J J s.t.toNat;generalize jrF zs ps J s.t.toNat J=F at *;by_cases ho:(imA s F).ok=true
   ·rw[show imR s F=⟨true,s.g,s.t,s.D,s.U,F,(imA s F).D,(imA s F).U,(imA s F).k,(imA s F).T,(imA s F).n,s.t+((F.length/4:Nat):Int)⟩ from if_pos ho];have hst:=(apK_st (r:=⟨true,s.D,s.U,(s.U.length:Int),[],0⟩) HFB hsn.st rfl (F.length/4) (by omega) ho).1;have q1:=hst.2.1;have q2:=hst.2.2.1.le;have q3:=hst.bd.2.2;have q4:=hsn.2.2.2.2.1;have q5:=hsn.2.2.2.2.2.le;exact⟨q4,q5,by show F.length≤1008;omega,q1,q2,q3⟩
   ·rw[show imR s F=imNo from if_neg ho];exact h0
  ·rw[show imF zs ps J=imNo from if_neg hn];exact h0
 ·rw[show imG zs ps f=imNo from if_neg hv];exact h0
section
variable {lo lo':Nat} {w w':World} {a da ka aSD aSU aF aD aU aT:Option Addr} {zs ks:List Int} {v:Value} {f:Int} {d:Bool} {r:ImR} {C:Array Value} {dc nSD nSU mF nD nU b1 b2:Nat}
theorem Mine.keep (h:Mine lo w a zs) (hs:w.heap.size≤w'.heap.size) (hb:∀ k,lo≤k→k<w.heap.size→w'.heap[k]?=w.heap[k]?):Mine lo w' a zs:=
 ⟨h.1.keep (fun ad e=>hb _ (h.2.2 ad e).1 (h.2.2 ad e).2) hs,h.2.1.keep (fun ad e=>hb _ (h.2.2 ad e).1 (h.2.2 ad e).2) hs,fun ad e=>by have:=h.2.2 ad e;omega⟩
theorem Mine.below (h:Mine lo w a zs) (b:Below w.heap.size w w'):Mine lo w' a zs:=h.keep b.size (fun k _ hk=>b.block k hk)
theorem Mine.mono (h:Mine lo w a zs) (hl:lo'≤lo):Mine lo' w a zs:=⟨h.1,h.2.1,fun ad e=>by have:=h.2.2 ad e;omega⟩
theorem Mine.nil (lo:Nat) (w:World):Mine lo w none []:=⟨.inl rfl,.inl rfl,fun _ e=>by cases e⟩
theorem Lies.below (h:Lies lo w a) (b:Below w.heap.size w w'):Lies lo w' a:=fun ad e=>by have:=h ad e;have:=b.size;omega
def DvM (lo:Nat) (w:World) (v:Value) (zs:List Int) (f:Int) (d:Bool):Prop:=∃ da dc ca cc,v=.agg #[.slice da zs.length dc,.slice ca 0 cc,.int .i64 f,.bool d]∧zs.length≤dc∧Mine lo w da zs∧Lies lo w ca
theorem DvM.below (h:DvM lo w v zs f d) (b:Below w.heap.size w w'):DvM lo w' v zs f d:=by
 obtain⟨da,dc,ca,cc,e,h1,h2,h3⟩:=h;exact⟨da,dc,ca,cc,e,h1,h2.below b,h3.below b⟩
theorem DvM.mono (h:DvM lo w v zs f d) (hl:lo'≤lo):DvM lo' w v zs f d:=by
 obtain⟨da,dc,ca,cc,e,h1,h2,h3⟩:=h;exact⟨da,dc,ca,cc,e,h1,h2.mono hl,h3.mono hl (Nat.le_refl _)⟩
theorem DvOwn.dvm (h:DvOwn w lo v zs [] f d):DvM lo w v zs f d:=by
 obtain⟨dv,cv,qs,E,rfl,h1,h2,h3,h4,h5,h6⟩:=h;have hq:qs=[]:=by cases qs with|nil=>rfl|cons a l=>simp[qps] at h3
 subst hq;have hc:∃ ca cc,cv=.slice ca 0 cc∧Lies lo w ca:=by
  rcases h2.1.2 with⟨e,_⟩|⟨g,c,cur,e,hb,hh,_⟩
  ·exact⟨none,0,e,fun _ e=>by cases e⟩
  ·exact⟨_,_,e,fun ad e=>by cases e;exact⟨Nat.le_trans h4 hb,(Array.getElem?_eq_some_iff.1 hh).1⟩⟩
 obtain⟨ca,cc,rfl,hl⟩:=hc;rcases h1 with⟨rfl,rfl⟩|h1
 ·exact⟨none,0,ca,cc,rfl,Nat.le_refl _,Mine.nil _ _,hl⟩
 ·obtain⟨g,c,rfl,q1,q2,q3,q4,q5⟩:=h1.at_;exact⟨_,c,ca,cc,rfl,q3,⟨q4,q5,fun ad e=>by cases e;exact⟨q1,q2⟩⟩,hl⟩
def KM (lo:Nat) (w:World) (v:Value) (ks:List Int):Prop:=∃ ka kc,v=.slice ka ks.length kc∧Mine lo w ka ks
theorem KM.below (h:KM lo w v ks) (b:Below w.heap.size w w'):KM lo w' v ks:=by obtain⟨ka,kc,e,h⟩:=h;exact⟨ka,kc,e,h.below b⟩
theorem KM.mono (h:KM lo w v ks) (hl:lo'≤lo):KM lo' w v ks:=by obtain⟨ka,kc,e,h⟩:=h;exact⟨ka,kc,e,h.mono hl⟩
theorem OwnN.km (h:OwnN w lo v ks):KM lo w v ks:=by
 rcases h with⟨rfl,rfl⟩|h1
 ·exact⟨none,0,rfl,Mine.nil _ _⟩
 ·obtain⟨g,c,rfl,q1,q2,q3,q4,q5⟩:=h1.at_;exact⟨_,c,rfl,⟨q4,q5,fun ad e=>by cases e;exact⟨q1,q2⟩⟩⟩
def N6 (j:Nat) (aSD aSU aF aD aU aT:Option Addr):Prop:=NotIn j aSD∧NotIn j aSU∧NotIn j aF∧NotIn j aD∧NotIn j aU∧NotIn j aT
theorem I6.keep (g:I6 lo b1 b2 w aSD aSU aF aD aU aT nSD nSU mF nD nU r.n) (hs:w.heap.size≤w'.heap.size) (hb:∀ k,lo≤k→k<w.heap.size→w'.heap[k]?=w.heap[k]?):I6 lo b1 b2 w' aSD aSU aF aD aU aT nSD nSU mF nD nU r.n:=by
 exact⟨g.oSD.keepT hs fun ad e hl=>hb _ (by have:=g.lSD ad e;omega) hl,g.oSU.keepT hs fun ad e hl=>hb _ (by have:=g.lSU ad e;omega) hl,g.oF.keepT hs fun ad e hl=>hb _ (by have:=g.lF ad e;omega) hl,g.oD.keepT hs fun ad e hl=>hb _ (by have:=g.lD ad e;omega) hl,g.oU.keepT hs fun ad e hl=>hb _ (by have:=g.lU ad e;omega) hl,g.oT.keepT hs fun ad e hl=>hb _ (by have:=g.lT ad e;omega) hl,fun ad e=>by have:=g.lSD ad e;omega,fun ad e=>by have:=g.lSU ad e;omega,fun ad e=>by have:=g.lF ad e;omega,fun ad e=>by have:=g.lD ad e;omega,fun ad e=>by have:=g.lU ad e;omega,fun ad e=>by have:=g.lT ad e;omega,g.sDU,g.dU,g.dT,g.uT,g.xS,g.xF⟩
def L6 (lo:Nat) (w:World) (aSD aSU aF aD aU aT:Option Addr):Prop:=Lies lo w aSD∧Lies lo w aSU∧Lies lo w aF∧Lies lo w aD∧Lies lo w aU∧Lies lo w aT
theorem I6.l6 (g:I6 lo b1 b2 w aSD aSU aF aD aU aT nSD nSU mF nD nU r.n):L6 lo w aSD aSU aF aD aU aT:=by
 exact⟨fun ad e=>by have:=g.lSD ad e;omega,fun ad e=>by have:=g.lSU ad e;omega,fun ad e=>by have:=g.lF ad e;omega,fun ad e=>by have:=g.lD ad e;omega,fun ad e=>by have:=g.lU ad e;omega,fun ad e=>by have:=g.lT ad e;omega⟩
theorem L6.size (h:L6 lo w aSD aSU aF aD aU aT) (hs:w.heap.size≤w'.heap.size) (hl:lo'≤lo):L6 lo' w' aSD aSU aF aD aU aT:=
 ⟨h.1.mono hl hs,h.2.1.mono hl hs,h.2.2.1.mono hl hs,h.2.2.2.1.mono hl hs,h.2.2.2.2.1.mono hl hs,h.2.2.2.2.2.mono hl hs⟩
theorem I6L.keep (h:I6L w aSD aSU aF aD aU aT nSD nSU mF nD nU r) (l:L6 lo w aSD aSU aF aD aU aT) (hs:w.heap.size≤w'.heap.size) (hb:∀ k,lo≤k→k<w.heap.size→w'.heap[k]?=w.heap[k]?):I6L w' aSD aSU aF aD aU aT nSD nSU mF nD nU r:=by
 obtain⟨a1,a2,a3,a4,a5,a6,hl⟩:=h;obtain⟨l1,l2,l3,l4,l5,l6⟩:=l;exact⟨a1.keepT hs fun ad e hl=>hb _ (l1 ad e).1 hl,a2.keepT hs fun ad e hl=>hb _ (l2 ad e).1 hl,a3.keepT hs fun ad e hl=>hb _ (l3 ad e).1 hl,a4.keepT hs fun ad e hl=>hb _ (l4 ad e).1 hl,a5.keepT hs fun ad e hl=>hb _ (l5 ad e).1 hl,a6.keepT hs fun ad e hl=>hb _ (l6 ad e).1 hl,hl⟩
def GL (lo:Nat) (w:World) (C:Array Value) (zs ks:List Int) (f:Int) (d:Bool) (r:ImR):Prop:=∃ da dc ca cc ka kc aSD nSD cSD aSU nSU cSU aF mF cF aD nD cD aU nU cU aT cT,C=#[.slice da zs.length dc,.slice ca 0 cc,.int .i64 f,.bool d,.slice ka ks.length kc,.bool r.ok,.int .u32 r.g,.int .u32 r.t,.slice aSD nSD cSD,.slice aSU nSU cSU,.slice aF mF cF,.slice aD nD cD,.slice aU nU cU,.int .i64 r.k,.slice aT r.n cT,.int .u32 r.nx]∧(zs.length≤dc∧mF≤cF)∧Mine lo w da zs∧Mine lo w ka ks∧I6L w aSD aSU aF aD aU aT nSD nSU mF nD nU r∧L6 lo w aSD aSU aF aD aU aT
theorem GL.keep (h:GL lo w C zs ks f d r) (hs:w.heap.size≤w'.heap.size) (hb:∀ k,lo≤k→k<w.heap.size→w'.heap[k]?=w.heap[k]?):GL lo w' C zs ks f d r:=by
 obtain⟨da,dc,ca,cc,ka,kc,aSD,nSD,cSD,aSU,nSU,cSU,aF,mF,cF,aD,nD,cD,aU,nU,cU,aT,cT,e,h1,h2,h3,h4,h5⟩:=h;exact⟨da,dc,ca,cc,ka,kc,aSD,nSD,cSD,aSU,nSU,cSU,aF,mF,cF,aD,nD,cD,aU,nU,cU,aT,cT,e,h1,h2.keep hs hb,h3.keep hs hb,h4.keep h5 hs hb,h5.size hs (Nat.le_refl _)⟩
theorem GL.below (h:GL lo w C zs ks f d r) (b:Below w.heap.size w w'):GL lo w' C zs ks f d r:=h.keep b.size (fun k _ hk=>b.block k hk)
theorem GL.gat (h:GL lo w C zs ks f d r):GAt w (.agg C) zs [] f d ks r:=by
 obtain⟨da,dc,ca,cc,ka,kc,aSD,nSD,cSD,aSU,nSU,cSU,aF,mF,cF,aD,nD,cD,aU,nU,cU,aT,cT,e,h1,h2,h3,h4,h5⟩:=h;exact⟨da,dc,ca,cc,ka,kc,aSD,nSD,cSD,aSU,nSU,cSU,aF,mF,cF,aD,nD,cD,aU,nU,cU,aT,cT,congrArg _ e,h2.1,.inl rfl,h1.1,h3.1,h4⟩
theorem GL.row (h:GL lo w C zs ks f d r):C.size=16∧C.all (·.oneCell')=true:=by
 obtain⟨da,dc,ca,cc,ka,kc,aSD,nSD,cSD,aSU,nSU,cSU,aF,mF,cF,aD,nD,cD,aU,nU,cU,aT,cT,rfl,_⟩:=h;exact⟨rfl,by simp[Value.oneCell']⟩
def GX (lo:Nat) (w:World) (r:ImR) (da ka aSD aSU aF aD aU aT:Option Addr) (nSD nSU mF nD nU:Nat):Prop:=(∃ b1 b2,I6 lo b1 b2 w aSD aSU aF aD aU aT nSD nSU mF nD nU r.n)∧(∀ ad,da=some ad→NotIn ad.block ka∧N6 ad.block aSD aSU aF aD aU aT)∧(∀ ad,ka=some ad→N6 ad.block aSD aSU aF aD aU aT)
def GP (lo:Nat) (w:World) (C:Array Value) (zs ks:List Int) (f:Int) (d:Bool) (r:ImR):Prop:=∃ da dc ca cc ka kc aSD nSD cSD aSU nSU cSU aF mF cF aD nD cD aU nU cU aT cT,C=#[.slice da zs.length dc,.slice ca 0 cc,.int .i64 f,.bool d,.slice ka ks.length kc,.bool r.ok,.int .u32 r.g,.int .u32 r.t,.slice aSD nSD cSD,.slice aSU nSU cSU,.slice aF mF cF,.slice aD nD cD,.slice aU nU cU,.int .i64 r.k,.slice aT r.n cT,.int .u32 r.nx]∧(zs.length≤dc∧mF≤cF)∧Mine lo w da zs∧Mine lo w ka ks∧I6L w aSD aSU aF aD aU aT nSD nSU mF nD nU r∧GX lo w r da ka aSD aSU aF aD aU aT nSD nSU mF nD nU
theorem GP.gl (h:GP lo w C zs ks f d r):GL lo w C zs ks f d r:=by
 obtain⟨da,dc,ca,cc,ka,kc,aSD,nSD,cSD,aSU,nSU,cSU,aF,mF,cF,aD,nD,cD,aU,nU,cU,aT,cT,e,h1,h2,h3,h4,⟨b1,b2,h5⟩,_⟩:=h;exact⟨da,dc,ca,cc,ka,kc,aSD,nSD,cSD,aSU,nSU,cSU,aF,mF,cF,aD,nD,cD,aU,nU,cU,aT,cT,e,h1,h2,h3,h4,h5.l6⟩
theorem GP.keep (h:GP lo w C zs ks f d r) (hs:w.heap.size≤w'.heap.size) (hb:∀ k,lo≤k→k<w.heap.size→w'.heap[k]?=w.heap[k]?):GP lo w' C zs ks f d r:=by
 obtain⟨da,dc,ca,cc,ka,kc,aSD,nSD,cSD,aSU,nSU,cSU,aF,mF,cF,aD,nD,cD,aU,nU,cU,aT,cT,e,h1,h2,h3,h4,⟨b1,b2,h5⟩,h6,h7⟩:=h;exact⟨da,dc,ca,cc,ka,kc,aSD,nSD,cSD,aSU,nSU,cSU,aF,mF,cF,aD,nD,cD,aU,nU,cU,aT,cT,e,h1,h2.keep hs hb,h3.keep hs hb,h4.keep h5.l6 hs hb,⟨b1,b2,h5.keep hs hb⟩,h6,h7⟩
theorem GP.below (h:GP lo w C zs ks f d r) (b:Below w.heap.size w w'):GP lo w' C zs ks f d r:=h.keep b.size (fun k _ hk=>b.block k hk)
end
def In6 (ad:Addr) (aSD aSU aF aD aU aT:Option Addr):Prop:=aSD=some ad∨aSU=some ad∨aF=some ad∨aD=some ad∨aU=some ad∨aT=some ad
theorem I6.keep6 {lo b1 b2 nSD nSU mF nD nU nT:Nat} {aSD aSU aF aD aU aT:Option Addr} {w w':World} (g:I6 lo b1 b2 w aSD aSU aF aD aU aT nSD nSU mF nD nU nT) (hs:w.heap.size≤w'.heap.size) (hb:∀ ad,In6 ad aSD aSU aF aD aU aT→w'.heap[ad.block]?=w.heap[ad.block]?):I6 lo b1 b2 w' aSD aSU aF aD aU aT nSD nSU mF nD nU nT:=
 ⟨g.oSD.keepT hs fun ad e _=>hb _ (.inl e),g.oSU.keepT hs fun ad e _=>hb _ (.inr (.inl e)),g.oF.keepT hs fun ad e _=>hb _ (.inr (.inr (.inl e))),g.oD.keepT hs fun ad e _=>hb _ (.inr (.inr (.inr (.inl e)))),g.oU.keepT hs fun ad e _=>hb _ (.inr (.inr (.inr (.inr (.inl e))))),g.oT.keepT hs fun ad e _=>hb _ (.inr (.inr (.inr (.inr (.inr e))))),fun ad e=>by have:=g.lSD ad e;omega,fun ad e=>by have:=g.lSU ad e;omega,fun ad e=>by have:=g.lF ad e;omega,fun ad e=>by have:=g.lD ad e;omega,fun ad e=>by have:=g.lU ad e;omega,fun ad e=>by have:=g.lT ad e;omega,g.sDU,g.dU,g.dT,g.uT,g.xS,g.xF⟩
theorem N6.ne {j:Nat} {aSD aSU aF aD aU aT:Option Addr} {ad:Addr} (h:N6 j aSD aSU aF aD aU aT) (i:In6 ad aSD aSU aF aD aU aT):j≠ad.block:=by
 obtain⟨h1,h2,h3,h4,h5,h6⟩:=h;rcases i with e|e|e|e|e|e
 ·exact h1 ad e
 ·exact h2 ad e
 ·exact h3 ad e
 ·exact h4 ad e
 ·exact h5 ad e
 ·exact h6 ad e
theorem I6.in6 {lo b1 b2 nSD nSU mF nD nU nT:Nat} {aSD aSU aF aD aU aT:Option Addr} {w:World} (g:I6 lo b1 b2 w aSD aSU aF aD aU aT nSD nSU mF nD nU nT) {ad:Addr} (i:In6 ad aSD aSU aF aD aU aT):lo≤ad.block∧ad.block<w.heap.size:=by
 rcases i with e|e|e|e|e|e
 ·have:=g.lSD ad e;omega
 ·have:=g.lSU ad e;omega
 ·have:=g.lF ad e;omega
 ·have:=g.lD ad e;omega
 ·have:=g.lU ad e;omega
 ·have:=g.lT ad e;omega
section
variable {lo lo':Nat} {w w':World} {zs ks:List Int} {v vd vk vi:Value} {f:Int} {d:Bool} {r:ImR}
end
end Go.Proofs.YtilpkdnoaldfmaaGreatDoor
