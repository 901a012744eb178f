import Derived.Test.YtilpkdnoaldfmaaGreatDoorLdK
import Derived.Test.YtilpkdnoaldfmaaGreatDoorMLdU
import Derived.Test.YtilpkdnoaldfmaaGreatDoorMDnA
import Derived.Test.YtilpkdnoaldfmaaGreatDoorMCatC
import Derived.Test.YtilpkdnoaldfmaaGreatDoorMCatF
import Derived.Test.YtilpkdnoaldfmaaGreatDoorMMkB
import Derived.Test.YtilpkdnoaldfmaaGreatDoorMArrEq
import Derived.Test.YtilpkdnoaldfmaaGreatDoorMRows8a
import Derived.Test.YtilpkdnoaldfmaaGreatDoorMSwH
import Derived.Test.YtilpkdnoaldfmaaGreatDoorMDkJ
namespace Go.Proofs.YtilpkdnoaldfmaaGreatDoor
open Go.ChangeShapes Go.WideShapes Go.ChangeAt Go.RowKit
set_option linter.unusedVariables false
def I6L (w:World) (aSD aSU aF aD aU aT:Option Addr) (nSD nSU mF nD nU:Nat) (r:ImR):Prop:=At .i64 w aSD r.sD∧At .i64 w aSU r.sU∧FAt w aF r.F∧At .i64 w aD r.D∧At .i64 w aU r.U∧At .i64 w aT r.T∧r.sD.length=nSD∧r.sU.length=nSU∧r.F.length=mF*4∧r.D.length=nD∧r.U.length=nU∧r.T.length=r.n*2
theorem I6L.below {w w':World} {aSD aSU aF aD aU aT:Option Addr} {nSD nSU mF nD nU:Nat} {r:ImR} (h:I6L w aSD aSU aF aD aU aT nSD nSU mF nD nU r) (b:Below w.heap.size w w'):I6L w' aSD aSU aF aD aU aT nSD nSU mF nD nU r:=
 ⟨h.1.below b,h.2.1.below b,h.2.2.1.below b,h.2.2.2.1.below b,h.2.2.2.2.1.below b,h.2.2.2.2.2.1.below b,h.2.2.2.2.2.2⟩
theorem ImV.sixL {lo:Nat} {w:World} {v:Value} {r:ImR} (h:ImV lo w v r):∃ aSD nSD cSD aSU nSU cSU aF mF cF aD nD cD aU nU cU aT cT,
  v=.agg #[.bool r.ok,.int .u32 r.g,.int .u32 r.t,.slice aSD nSD cSD,.slice aSU nSU cSU,.slice aF mF cF,.slice aD nD cD,.slice aU nU cU,.int .i64 r.k,.slice aT r.n cT,.int .u32 r.nx]∧I6L w aSD aSU aF aD aU aT nSD nSU mF nD nU r:=by
 obtain⟨aSD,nSD,cSD,aSU,nSU,cSU,vF,m,aD,nD,cD,aU,nU,cU,aT,cT,b1,b2,rfl,s1,l1,l2,f1,l3,s2,h1,h2⟩:=h;have fl:=f1.len;obtain⟨aF,cF,rfl,fA,_,fL⟩:=f1.form;exact⟨aSD,nSD,cSD,aSU,nSU,cSU,aF,m,cF,aD,nD,cD,aU,nU,cU,aT,cT,rfl,s1.d.at_,s1.u.at_,fA,s2.d.at_,s2.u.at_,s2.t.at_,s1.nd,s1.nu,fl,s2.nd,s2.nu,s2.nt⟩
theorem imG_bd {zs:List Int} {ps:List PD} {f:Int} (bz:Byte zs) (bp:∀ i,Byte (ps.getD i (0,[])).2):(imG zs ps f).sD.length≤16∧(imG zs ps f).sU.length≤256∧(imG zs ps f).F.length≤1008∧(imG zs ps f).D.length≤16∧(imG zs ps f).U.length≤256∧(imG zs ps f).n≤256:=by
 have h0:imNo.sD.length≤16∧imNo.sU.length≤256∧imNo.F.length≤1008∧imNo.D.length≤16∧imNo.U.length≤256∧imNo.n≤256:=by decide
 by_cases hv:validB zs.length ps f=true
 ·rw[show imG zs ps f=imF zs ps (zs.length/64-4) from if_pos hv];have F0:DvF zs.length zs.length ps.length f zs ps:=⟨rfl,rfl,hv,Nat.le_refl _,bz,bp⟩
  have hJ:zs.length/64-4≤252:=by have:=F0.base;omega
  have HJR:=fun q=>(F0.jr q).2
  generalize zs.length/64-4=J at *;by_cases hn:(nwK zs ps 2).ok=true
  ·rw[show imF zs ps J=imR (nwK zs ps 2) (jrF zs ps J (nwK zs ps 2).t.toNat J) from if_pos hn];have hsn:=nwK_snp 2 hn;generalize nwK zs ps 2=s at *;have HFB:=jrF_frb zs ps J HJR J s.t.toNat;obtain⟨k,hk,hl⟩:=jrF_len zs ps J J s.t.toNat;generalize jrF zs ps J s.t.toNat J=F at *;by_cases ho:(imA s F).ok=true
   ·rw[show imR s F=⟨true,s.g,s.t,s.D,s.U,F,(imA s F).D,(imA s F).U,(imA s F).k,(imA s F).T,(imA s F).n,s.t+((F.length/4:Nat):Int)⟩ from if_pos ho];have hst:=(apK_st (r:=⟨true,s.D,s.U,(s.U.length:Int),[],0⟩) HFB hsn.st rfl (F.length/4) (by omega) ho).1;have q1:=hst.2.1;have q2:=hst.2.2.1.le;have q3:=hst.bd.2.2;have q4:=hsn.2.2.2.2.1;have q5:=hsn.2.2.2.2.2.le;exact⟨q4,q5,by show F.length≤1008;omega,q1,q2,q3⟩
   ·rw[show imR s F=imNo from if_neg ho];exact h0
  ·rw[show imF zs ps J=imNo from if_neg hn];exact h0
 ·rw[show imG zs ps f=imNo from if_neg hv];exact h0
theorem FO.open_ {B:Nat} {w:World} {a:Option Addr} {n c:Nat} {F:List Int} (h:FO B w (.slice a n c) F n):Open w a (n*4):=by
 rcases h.2 with⟨h',h0⟩|⟨g,cap,cur,h',hb,hh,hc,hm,hs,ht⟩
 ·subst h0;exact .inl (Nat.zero_mul _)
 ·cases h';have hlt:=(Array.getElem?_eq_some_iff.1 hh).1;refine .inr ⟨g,0,rfl,hlt,fun i hi=>?_⟩;rw[Nat.zero_add];refine⟨?_,frozen_of_row _ _ _ _ _ hh⟩;rw[cell_of_row w g i _ _ _ hh];have:i<cur.size:=by have:=Nat.mul_le_mul_right 4 hc;omega
  simp[this]
theorem ImV.six2 {lo:Nat} {w:World} {v:Value} {r:ImR} (h:ImV lo w v r):∃ aSD nSD cSD aSU nSU cSU aF mF cF aD nD cD aU nU cU aT cT b1 b2,
  v=.agg #[.bool r.ok,.int .u32 r.g,.int .u32 r.t,.slice aSD nSD cSD,.slice aSU nSU cSU,.slice aF mF cF,.slice aD nD cD,.slice aU nU cU,.int .i64 r.k,.slice aT r.n cT,.int .u32 r.nx]∧
  I6 lo b1 b2 w aSD aSU aF aD aU aT nSD nSU mF nD nU r.n∧I6L w aSD aSU aF aD aU aT nSD nSU mF nD nU r∧mF≤cF:=by
 obtain⟨aSD,nSD,cSD,aSU,nSU,cSU,vF,m,aD,nD,cD,aU,nU,cU,aT,cT,b1,b2,rfl,s1,l1,l2,f1,l3,s2,h1,h2⟩:=h;have fl:=f1.len;obtain⟨aF,cF,rfl,fA,fc,fL⟩:=f1.form;refine⟨aSD,nSD,cSD,aSU,nSU,cSU,aF,m,cF,aD,nD,cD,aU,nU,cU,aT,cT,b1,b2,rfl,⟨s1.d.open_ s1.nd,s1.u.open_ s1.nu,f1.open_,s2.d.open_ s2.nd,s2.u.open_ s2.nu,s2.t.open_ s2.nt,s1.ld,s1.lu,fun ad e=>⟨Nat.le_trans h1 (fL ad e).1,(fL ad e).2⟩,fun ad e=>⟨by have:=s2.ld ad e;omega,(s2.ld ad e).2⟩,fun ad e=>⟨by have:=s2.lu ad e;omega,(s2.lu ad e).2⟩,fun ad e=>⟨by have:=s2.lt ad e;omega,(s2.lt ad e).2⟩,s1.du,s2.du,s2.dt,s2.ut,fun ad e=>?_,fun ad e=>?_⟩,⟨s1.d.at_,s1.u.at_,fA,s2.d.at_,s2.u.at_,s2.t.at_,s1.nd,s1.nu,fl,s2.nd,s2.nu,s2.nt⟩,fc⟩
 ·have q:ad.block<b1:=by rcases e with e|e;exact l1 ad e;exact l2 ad e
  exact⟨fun x hx=>by have:=(fL x hx).1;omega,fun x hx=>by have:=s2.ld x hx;omega,fun x hx=>by have:=s2.lu x hx;omega,fun x hx=>by have:=s2.lt x hx;omega⟩
 ·have q:ad.block<b2:=l3 _ (by subst e;rfl);exact⟨fun x hx=>by have:=s2.ld x hx;omega,fun x hx=>by have:=s2.lu x hx;omega,fun x hx=>by have:=s2.lt x hx;omega⟩
theorem ImV.six {lo:Nat} {w:World} {v:Value} {r:ImR} (h:ImV lo w v r):∃ aSD nSD cSD aSU nSU cSU aF mF cF aD nD cD aU nU cU aT cT b1 b2,
  v=.agg #[.bool r.ok,.int .u32 r.g,.int .u32 r.t,.slice aSD nSD cSD,.slice aSU nSU cSU,.slice aF mF cF,.slice aD nD cD,.slice aU nU cU,.int .i64 r.k,.slice aT r.n cT,.int .u32 r.nx]∧
  I6 lo b1 b2 w aSD aSU aF aD aU aT nSD nSU mF nD nU r.n∧I6L w aSD aSU aF aD aU aT nSD nSU mF nD nU r:=by
 obtain⟨aSD,nSD,cSD,aSU,nSU,cSU,aF,mF,cF,aD,nD,cD,aU,nU,cU,aT,cT,b1,b2,h1,h2,h3,_⟩:=h.six2;exact⟨aSD,nSD,cSD,aSU,nSU,cSU,aF,mF,cF,aD,nD,cD,aU,nU,cU,aT,cT,b1,b2,h1,h2,h3⟩
def ImLe (r:ImR):Prop:=r.sD.length≤16∧r.sU.length≤256∧r.F.length≤1008∧r.D.length≤16∧r.U.length≤256∧r.n≤256
def GAt (w:World) (v:Value) (zs:List Int) (ps:List PD) (f:Int) (d:Bool) (ks:List Int) (r:ImR):Prop:=∃ ada adc aca acc aka akc aSD nSD acSD aSU nSU acSU aF nF acF aD nD acD aU nU acU aT acT,v=.agg #[.slice ada zs.length adc,.slice aca ps.length acc,.int .i64 f,.bool d,.slice aka ks.length akc,.bool r.ok,.int .u32 r.g,.int .u32 r.t,.slice aSD nSD acSD,.slice aSU nSU acSU,.slice aF nF acF,.slice aD nD acD,.slice aU nU acU,.int .i64 r.k,.slice aT r.n acT,.int .u32 r.nx]∧At .u8 w ada zs∧PAt w aca ps∧zs.length≤adc∧At .u8 w aka ks∧I6L w aSD aSU aF aD aU aT nSD nSU nF nD nU r
def GLe (zs:List Int) (ps:List PD) (ks:List Int) (r:ImR):Prop:=zs.length≤1048576∧ps.length≤1048576∧(∀ i,(ps.getD i (0,[])).2.length≤1048576)∧ks.length≤1048576∧r.sD.length≤1048576∧r.sU.length≤1048576∧r.F.length≤4194304∧r.D.length≤1048576∧r.U.length≤1048576∧r.n≤1048576
section
variable {lo lo':Nat} {w w':World} {a da ka aSD aSU aF aD aU aT:Option Addr} {zs ks:List Int} {v:Value} {f:Int} {d:Bool} {r:ImR} {C:Array Value} {dc nSD nSU mF nD nU b1 b2:Nat}
theorem Mine.keep (h:Mine lo w a zs) (hs:w.heap.size≤w'.heap.size) (hb:∀ k,lo≤k→k<w.heap.size→w'.heap[k]?=w.heap[k]?):Mine lo w' a zs:=
 ⟨h.1.keep (fun ad e=>hb _ (h.2.2 ad e).1 (h.2.2 ad e).2) hs,h.2.1.keep (fun ad e=>hb _ (h.2.2 ad e).1 (h.2.2 ad e).2) hs,fun ad e=>by have:=h.2.2 ad e;omega⟩
theorem Mine.below (h:Mine lo w a zs) (b:Below w.heap.size w w'):Mine lo w' a zs:=h.keep b.size (fun k _ hk=>b.block k hk)
theorem Mine.mono (h:Mine lo w a zs) (hl:lo'≤lo):Mine lo' w a zs:=⟨h.1,h.2.1,fun ad e=>by have:=h.2.2 ad e;omega⟩
theorem Mine.nil (lo:Nat) (w:World):Mine lo w none []:=⟨.inl rfl,.inl rfl,fun _ e=>by cases e⟩
theorem Lies.below (h:Lies lo w a) (b:Below w.heap.size w w'):Lies lo w' a:=fun ad e=>by have:=h ad e;have:=b.size;omega
def DvM (lo:Nat) (w:World) (v:Value) (zs:List Int) (f:Int) (d:Bool):Prop:=∃ da dc ca cc,v=.agg #[.slice da zs.length dc,.slice ca 0 cc,.int .i64 f,.bool d]∧zs.length≤dc∧Mine lo w da zs∧Lies lo w ca
theorem DvM.below (h:DvM lo w v zs f d) (b:Below w.heap.size w w'):DvM lo w' v zs f d:=by
 obtain⟨da,dc,ca,cc,e,h1,h2,h3⟩:=h;exact⟨da,dc,ca,cc,e,h1,h2.below b,h3.below b⟩
theorem DvM.mono (h:DvM lo w v zs f d) (hl:lo'≤lo):DvM lo' w v zs f d:=by
 obtain⟨da,dc,ca,cc,e,h1,h2,h3⟩:=h;exact⟨da,dc,ca,cc,e,h1,h2.mono hl,h3.mono hl (Nat.le_refl _)⟩
theorem DvOwn.dvm (h:DvOwn w lo v zs [] f d):DvM lo w v zs f d:=by
 obtain⟨dv,cv,qs,E,rfl,h1,h2,h3,h4,h5,h6⟩:=h;have hq:qs=[]:=by cases qs with|nil=>rfl|cons a l=>simp[qps] at h3
 subst hq;have hc:∃ ca cc,cv=.slice ca 0 cc∧Lies lo w ca:=by
  rcases h2.1.2 with⟨e,_⟩|⟨g,c,cur,e,hb,hh,_⟩
  ·exact⟨none,0,e,fun _ e=>by cases e⟩
  ·exact⟨_,_,e,fun ad e=>by cases e;exact⟨Nat.le_trans h4 hb,(Array.getElem?_eq_some_iff.1 hh).1⟩⟩
 obtain⟨ca,cc,rfl,hl⟩:=hc;rcases h1 with⟨rfl,rfl⟩|h1
 ·exact⟨none,0,ca,cc,rfl,Nat.le_refl _,Mine.nil _ _,hl⟩
 ·obtain⟨g,c,rfl,q1,q2,q3,q4,q5⟩:=h1.at_;exact⟨_,c,ca,cc,rfl,q3,⟨q4,q5,fun ad e=>by cases e;exact⟨q1,q2⟩⟩,hl⟩
def KM (lo:Nat) (w:World) (v:Value) (ks:List Int):Prop:=∃ ka kc,v=.slice ka ks.length kc∧Mine lo w ka ks
theorem KM.below (h:KM lo w v ks) (b:Below w.heap.size w w'):KM lo w' v ks:=by obtain⟨ka,kc,e,h⟩:=h;exact⟨ka,kc,e,h.below b⟩
theorem KM.mono (h:KM lo w v ks) (hl:lo'≤lo):KM lo' w v ks:=by obtain⟨ka,kc,e,h⟩:=h;exact⟨ka,kc,e,h.mono hl⟩
theorem OwnN.km (h:OwnN w lo v ks):KM lo w v ks:=by
 rcases h with⟨rfl,rfl⟩|h1
 ·exact⟨none,0,rfl,Mine.nil _ _⟩
 ·obtain⟨g,c,rfl,q1,q2,q3,q4,q5⟩:=h1.at_;exact⟨_,c,rfl,⟨q4,q5,fun ad e=>by cases e;exact⟨q1,q2⟩⟩⟩
def N6 (j:Nat) (aSD aSU aF aD aU aT:Option Addr):Prop:=NotIn j aSD∧NotIn j aSU∧NotIn j aF∧NotIn j aD∧NotIn j aU∧NotIn j aT
theorem I6.keep (g:I6 lo b1 b2 w aSD aSU aF aD aU aT nSD nSU mF nD nU r.n) (hs:w.heap.size≤w'.heap.size) (hb:∀ k,lo≤k→k<w.heap.size→w'.heap[k]?=w.heap[k]?):I6 lo b1 b2 w' aSD aSU aF aD aU aT nSD nSU mF nD nU r.n:=by
 exact⟨g.oSD.keepT hs fun ad e hl=>hb _ (by have:=g.lSD ad e;omega) hl,g.oSU.keepT hs fun ad e hl=>hb _ (by have:=g.lSU ad e;omega) hl,g.oF.keepT hs fun ad e hl=>hb _ (by have:=g.lF ad e;omega) hl,g.oD.keepT hs fun ad e hl=>hb _ (by have:=g.lD ad e;omega) hl,g.oU.keepT hs fun ad e hl=>hb _ (by have:=g.lU ad e;omega) hl,g.oT.keepT hs fun ad e hl=>hb _ (by have:=g.lT ad e;omega) hl,fun ad e=>by have:=g.lSD ad e;omega,fun ad e=>by have:=g.lSU ad e;omega,fun ad e=>by have:=g.lF ad e;omega,fun ad e=>by have:=g.lD ad e;omega,fun ad e=>by have:=g.lU ad e;omega,fun ad e=>by have:=g.lT ad e;omega,g.sDU,g.dU,g.dT,g.uT,g.xS,g.xF⟩
def L6 (lo:Nat) (w:World) (aSD aSU aF aD aU aT:Option Addr):Prop:=Lies lo w aSD∧Lies lo w aSU∧Lies lo w aF∧Lies lo w aD∧Lies lo w aU∧Lies lo w aT
theorem I6.l6 (g:I6 lo b1 b2 w aSD aSU aF aD aU aT nSD nSU mF nD nU r.n):L6 lo w aSD aSU aF aD aU aT:=by
 exact⟨fun ad e=>by have:=g.lSD ad e;omega,fun ad e=>by have:=g.lSU ad e;omega,fun ad e=>by have:=g.lF ad e;omega,fun ad e=>by have:=g.lD ad e;omega,fun ad e=>by have:=g.lU ad e;omega,fun ad e=>by have:=g.lT ad e;omega⟩
theorem L6.size (h:L6 lo w aSD aSU aF aD aU aT) (hs:w.heap.size≤w'.heap.size) (hl:lo'≤lo):L6 lo' w' aSD aSU aF aD aU aT:=
 ⟨h.1.mono hl hs,h.2.1.mono hl hs,h.2.2.1.mono hl hs,h.2.2.2.1.mono hl hs,h.2.2.2.2.1.mono hl hs,h.2.2.2.2.2.mono hl hs⟩
theorem I6L.keep (h:I6L w aSD aSU aF aD aU aT nSD nSU mF nD nU r) (l:L6 lo w aSD aSU aF aD aU aT) (hs:w.heap.size≤w'.heap.size) (hb:∀ k,lo≤k→k<w.heap.size→w'.heap[k]?=w.heap[k]?):I6L w' aSD aSU aF aD aU aT nSD nSU mF nD nU r:=by
 obtain⟨a1,a2,a3,a4,a5,a6,hl⟩:=h;obtain⟨l1,l2,l3,l4,l5,l6⟩:=l;exact⟨a1.keepT hs fun ad e hl=>hb _ (l1 ad e).1 hl,a2.keepT hs fun ad e hl=>hb _ (l2 ad e).1 hl,a3.keepT hs fun ad e hl=>hb _ (l3 ad e).1 hl,a4.keepT hs fun ad e hl=>hb _ (l4 ad e).1 hl,a5.keepT hs fun ad e hl=>hb _ (l5 ad e).1 hl,a6.keepT hs fun ad e hl=>hb _ (l6 ad e).1 hl,hl⟩
def GL (lo:Nat) (w:World) (C:Array Value) (zs ks:List Int) (f:Int) (d:Bool) (r:ImR):Prop:=∃ da dc ca cc ka kc aSD nSD cSD aSU nSU cSU aF mF cF aD nD cD aU nU cU aT cT,C=#[.slice da zs.length dc,.slice ca 0 cc,.int .i64 f,.bool d,.slice ka ks.length kc,.bool r.ok,.int .u32 r.g,.int .u32 r.t,.slice aSD nSD cSD,.slice aSU nSU cSU,.slice aF mF cF,.slice aD nD cD,.slice aU nU cU,.int .i64 r.k,.slice aT r.n cT,.int .u32 r.nx]∧(zs.length≤dc∧mF≤cF)∧Mine lo w da zs∧Mine lo w ka ks∧I6L w aSD aSU aF aD aU aT nSD nSU mF nD nU r∧L6 lo w aSD aSU aF aD aU aT
theorem GL.keep (h:GL lo w C zs ks f d r) (hs:w.heap.size≤w'.heap.size) (hb:∀ k,lo≤k→k<w.heap.size→w'.heap[k]?=w.heap[k]?):GL lo w' C zs ks f d r:=by
 obtain⟨da,dc,ca,cc,ka,kc,aSD,nSD,cSD,aSU,nSU,cSU,aF,mF,cF,aD,nD,cD,aU,nU,cU,aT,cT,e,h1,h2,h3,h4,h5⟩:=h;exact⟨da,dc,ca,cc,ka,kc,aSD,nSD,cSD,aSU,nSU,cSU,aF,mF,cF,aD,nD,cD,aU,nU,cU,aT,cT,e,h1,h2.keep hs hb,h3.keep hs hb,h4.keep h5 hs hb,h5.size hs (Nat.le_refl _)⟩
theorem GL.below (h:GL lo w C zs ks f d r) (b:Below w.heap.size w w'):GL lo w' C zs ks f d r:=h.keep b.size (fun k _ hk=>b.block k hk)
theorem GL.gat (h:GL lo w C zs ks f d r):GAt w (.agg C) zs [] f d ks r:=by
 obtain⟨da,dc,ca,cc,ka,kc,aSD,nSD,cSD,aSU,nSU,cSU,aF,mF,cF,aD,nD,cD,aU,nU,cU,aT,cT,e,h1,h2,h3,h4,h5⟩:=h;exact⟨da,dc,ca,cc,ka,kc,aSD,nSD,cSD,aSU,nSU,cSU,aF,mF,cF,aD,nD,cD,aU,nU,cU,aT,cT,congrArg _ e,h2.1,.inl rfl,h1.1,h3.1,h4⟩
theorem GL.row (h:GL lo w C zs ks f d r):C.size=16∧C.all (·.oneCell')=true:=by
 obtain⟨da,dc,ca,cc,ka,kc,aSD,nSD,cSD,aSU,nSU,cSU,aF,mF,cF,aD,nD,cD,aU,nU,cU,aT,cT,rfl,_⟩:=h;exact⟨rfl,by simp[Value.oneCell']⟩
def GX (lo:Nat) (w:World) (r:ImR) (da ka aSD aSU aF aD aU aT:Option Addr) (nSD nSU mF nD nU:Nat):Prop:=(∃ b1 b2,I6 lo b1 b2 w aSD aSU aF aD aU aT nSD nSU mF nD nU r.n)∧(∀ ad,da=some ad→NotIn ad.block ka∧N6 ad.block aSD aSU aF aD aU aT)∧(∀ ad,ka=some ad→N6 ad.block aSD aSU aF aD aU aT)
def GP (lo:Nat) (w:World) (C:Array Value) (zs ks:List Int) (f:Int) (d:Bool) (r:ImR):Prop:=∃ da dc ca cc ka kc aSD nSD cSD aSU nSU cSU aF mF cF aD nD cD aU nU cU aT cT,C=#[.slice da zs.length dc,.slice ca 0 cc,.int .i64 f,.bool d,.slice ka ks.length kc,.bool r.ok,.int .u32 r.g,.int .u32 r.t,.slice aSD nSD cSD,.slice aSU nSU cSU,.slice aF mF cF,.slice aD nD cD,.slice aU nU cU,.int .i64 r.k,.slice aT r.n cT,.int .u32 r.nx]∧(zs.length≤dc∧mF≤cF)∧Mine lo w da zs∧Mine lo w ka ks∧I6L w aSD aSU aF aD aU aT nSD nSU mF nD nU r∧GX lo w r da ka aSD aSU aF aD aU aT nSD nSU mF nD nU
theorem GP.gl (h:GP lo w C zs ks f d r):GL lo w C zs ks f d r:=by
 obtain⟨da,dc,ca,cc,ka,kc,aSD,nSD,cSD,aSU,nSU,cSU,aF,mF,cF,aD,nD,cD,aU,nU,cU,aT,cT,e,h1,h2,h3,h4,⟨b1,b2,h5⟩,_⟩:=h;exact⟨da,dc,ca,cc,ka,kc,aSD,nSD,cSD,aSU,nSU,cSU,aF,mF,cF,aD,nD,cD,aU,nU,cU,aT,cT,e,h1,h2,h3,h4,h5.l6⟩
theorem GP.keep (h:GP lo w C zs ks f d r) (hs:w.heap.size≤w'.heap.size) (hb:∀ k,lo≤k→k<w.heap.size→w'.heap[k]?=w.heap[k]?):GP lo w' C zs ks f d r:=by
 obtain⟨da,dc,ca,cc,ka,kc,aSD,nSD,cSD,aSU,nSU,cSU,aF,mF,cF,aD,nD,cD,aU,nU,cU,aT,cT,e,h1,h2,h3,h4,⟨b1,b2,h5⟩,h6,h7⟩:=h;exact⟨da,dc,ca,cc,ka,kc,aSD,nSD,cSD,aSU,nSU,cSU,aF,mF,cF,aD,nD,cD,aU,nU,cU,aT,cT,e,h1,h2.keep hs hb,h3.keep hs hb,h4.keep h5.l6 hs hb,⟨b1,b2,h5.keep hs hb⟩,h6,h7⟩
theorem GP.below (h:GP lo w C zs ks f d r) (b:Below w.heap.size w w'):GP lo w' C zs ks f d r:=h.keep b.size (fun k _ hk=>b.block k hk)
end
def In6 (ad:Addr) (aSD aSU aF aD aU aT:Option Addr):Prop:=aSD=some ad∨aSU=some ad∨aF=some ad∨aD=some ad∨aU=some ad∨aT=some ad
theorem I6.keep6 {lo b1 b2 nSD nSU mF nD nU nT:Nat} {aSD aSU aF aD aU aT:Option Addr} {w w':World} (g:I6 lo b1 b2 w aSD aSU aF aD aU aT nSD nSU mF nD nU nT) (hs:w.heap.size≤w'.heap.size) (hb:∀ ad,In6 ad aSD aSU aF aD aU aT→w'.heap[ad.block]?=w.heap[ad.block]?):I6 lo b1 b2 w' aSD aSU aF aD aU aT nSD nSU mF nD nU nT:=
 ⟨g.oSD.keepT hs fun ad e _=>hb _ (.inl e),g.oSU.keepT hs fun ad e _=>hb _ (.inr (.inl e)),g.oF.keepT hs fun ad e _=>hb _ (.inr (.inr (.inl e))),g.oD.keepT hs fun ad e _=>hb _ (.inr (.inr (.inr (.inl e)))),g.oU.keepT hs fun ad e _=>hb _ (.inr (.inr (.inr (.inr (.inl e))))),g.oT.keepT hs fun ad e _=>hb _ (.inr (.inr (.inr (.inr (.inr e))))),fun ad e=>by have:=g.lSD ad e;omega,fun ad e=>by have:=g.lSU ad e;omega,fun ad e=>by have:=g.lF ad e;omega,fun ad e=>by have:=g.lD ad e;omega,fun ad e=>by have:=g.lU ad e;omega,fun ad e=>by have:=g.lT ad e;omega,g.sDU,g.dU,g.dT,g.uT,g.xS,g.xF⟩
theorem N6.ne {j:Nat} {aSD aSU aF aD aU aT:Option Addr} {ad:Addr} (h:N6 j aSD aSU aF aD aU aT) (i:In6 ad aSD aSU aF aD aU aT):j≠ad.block:=by
 obtain⟨h1,h2,h3,h4,h5,h6⟩:=h;rcases i with e|e|e|e|e|e
 ·exact h1 ad e
 ·exact h2 ad e
 ·exact h3 ad e
 ·exact h4 ad e
 ·exact h5 ad e
 ·exact h6 ad e
theorem I6.in6 {lo b1 b2 nSD nSU mF nD nU nT:Nat} {aSD aSU aF aD aU aT:Option Addr} {w:World} (g:I6 lo b1 b2 w aSD aSU aF aD aU aT nSD nSU mF nD nU nT) {ad:Addr} (i:In6 ad aSD aSU aF aD aU aT):lo≤ad.block∧ad.block<w.heap.size:=by
 rcases i with e|e|e|e|e|e
 ·have:=g.lSD ad e;omega
 ·have:=g.lSU ad e;omega
 ·have:=g.lF ad e;omega
 ·have:=g.lD ad e;omega
 ·have:=g.lU ad e;omega
 ·have:=g.lT ad e;omega
theorem wp_appFr (w:World) {o:Oper} {a:Act} {K:Act→World→Prop} {Q:Exit→Act→World→Prop} (s x:Operand) (hop:o.op=Op.call { callee:=Callee.builtin Builtin.append,args:=#[s,x],argTypes:=#[31,31] })
  (S:Nat) (v:Value) (hs:a.eval s=v) (hem:EmS S 92 w v) (xa:Option Addr) (n c:Nat) (F:List Int) (hx:a.eval x=.slice xa n c) (hl:F.length=n*4) (hA:FAt w xa F) (hb:n≤1048576) (hSw:S≤w.heap.size)
  (h:∀ v' w',FO S w' v' F n→Below w.heap.size w w'→K (a.put o.dst v') w'):o.wp Tryz.prog a w K Q:=by
 obtain⟨B,rfl,hB,hrow⟩:=hem;have hown:=EmS.owns 4 hB hrow;by_cases h0:n=0
 ·subst h0;have hz:F=[]:=List.eq_nil_of_length_eq_zero (by omega);have hk:=h (.slice (some ⟨B,0,none⟩) 0 0) w (by unfold FO;rw[hz];exact hown) (Below.refl _ _);have hr:=run_appG0 31 92 _ 4 24 Tryz.infoFr Tryz.underlying31 w o.type ⟨B,0,none⟩ xa c;unfold Oper.wp execOp;simp only[hop,resolve,invoke,builtin,Sem.run_bind,Sem.run_pure,Result.andThen_ok,List.map_toArray,List.map_cons,List.map_nil,hs,hx,hr];exact hk
 ·have hz0':0<F.length:=by omega
  obtain⟨b,off,rfl,hbl,hc⟩:=hA.get hz0';obtain⟨i0,hi,hz0,hz1,hz2⟩:=info_parts Tryz.infoFr;have hnews:∀ j u,(fC F).toList[j]?=some u→w.cell? ((⟨b,off,none⟩:Addr).add j)=some u:=by
   intro j u hu;rw[fC_list] at hu;have hj:j<F.length:=by have:=(List.getElem?_eq_some_iff.1 hu).1;simpa using this
   rw[Addr.add_lit,hc j hj];simp[hj] at hu;simp[hj,hu]
  have hlen:(fC F).toList.length=n*4:=by rw[fC_list];simp[hl]
  have hone:∀ v∈(fC F).toList,v.oneCell'=true:=fun v hv=>by
   rw[fC_list] at hv;obtain⟨i,_,rfl⟩:=List.mem_map.1 hv;rfl
  have hfit:Builtin.nextslicecap (0+n) 0*i0.bytes≤281474976710656:=by rw[Nat.zero_add,nextslicecap_zero (by omega),hz2];omega
  have hg:=run_append_grow (P:=Tryz.prog) w 31 o.type 92 i0 _ Tryz.underlying31 hi hz0 ⟨B,0,none⟩ 0 0 [] (by simp) (fun j v hv=>by simp at hv) ⟨b,off,none⟩ n c (fC F).toList (by rw[hlen,hz1]) hnews (by omega) (by omega) hfit;obtain⟨v',w',hr,h2,h3,h4⟩:=run_append_own (P:=Tryz.prog) w S 31 o.type 92 i0 _ 4 24 Tryz.underlying31 hi hz0 hz1 hz2 rfl (by decide) _ 0 [] hown ⟨b,off,none⟩ n c (fC F).toList hlen hnews hone (by unfold maxLen;omega) (by rw[Nat.zero_add];omega) hSw;have he:=hr.symm.trans hg;injection he with e1 e2
  have hBl:Below w.heap.size w w':=by rw[e2];exact(Below.refl _ _).drew.alloc (Nat.le_refl _) _
  have hk:=h v' w' (by unfold FO;simpa using h2) hBl;unfold Oper.wp execOp;simp only[hop,resolve,invoke,builtin,Sem.run_bind,Sem.run_pure,Result.andThen_ok,List.map_toArray,List.map_cons,List.map_nil,hs,hx,hr];exact hk
structure BG2 (w:World) (t0 t1:TypeId) (c0 c1:Array Value) (wr:World):Prop where
 below:Below w.heap.size w wr
 b0:wr.heap[w.heap.size]?=some (.cells c0 t0 (0,0))
 b1:wr.heap[w.heap.size+1]?=some (.cells c1 t1 (0,0))
theorem BG2.start (w:World) (t0 t1:TypeId) (c0 c1:Array Value):BG2 w t0 t1 c0 c1 ((w.alloc (.cells c0 t0)).alloc (.cells c1 t1)):=by
 refine⟨((Below.refl _ _).alloc (Nat.le_refl _) _).alloc (by simp) _,?_,?_⟩
 ·rw[Below.heap_alloc _ _ w.heap.size (by simp)];exact heap_alloc_new w _
 ·have:=heap_alloc_new (w.alloc (.cells c0 t0)) (.cells c1 t1)
  rwa [show(w.alloc (.cells c0 t0)).heap.size=w.heap.size+1 by simp] at this
section
variable {lo lo':Nat} {w w':World} {zs ks:List Int} {v vd vk vi:Value} {f:Int} {d:Bool} {r:ImR}
def GPv (lo:Nat) (w:World) (v:Value) (zs ks:List Int) (f:Int) (d:Bool) (r:ImR):Prop:=∃ C,v=.agg C∧GP lo w C zs ks f d r
theorem GPv.below (h:GPv lo w v zs ks f d r) (b:Below w.heap.size w w'):GPv lo w' v zs ks f d r:=by obtain⟨C,e,h⟩:=h;exact⟨C,e,h.below b⟩
theorem I6.low {aSD aSU aF aD aU aT:Option Addr} {nSD nSU mF nD nU nT b1 b2:Nat} (g:I6 lo b1 b2 w aSD aSU aF aD aU aT nSD nSU mF nD nU nT) (hl:lo'≤lo):I6 lo' b1 b2 w aSD aSU aF aD aU aT nSD nSU mF nD nU nT:=
 ⟨g.oSD,g.oSU,g.oF,g.oD,g.oU,g.oT,fun ad e=>by have:=g.lSD ad e;omega,fun ad e=>by have:=g.lSU ad e;omega,fun ad e=>by have:=g.lF ad e;omega,fun ad e=>by have:=g.lD ad e;omega,fun ad e=>by have:=g.lU ad e;omega,fun ad e=>by have:=g.lT ad e;omega,g.sDU,g.dU,g.dT,g.uT,g.xS,g.xF⟩
theorem GP.mono {C:Array Value} (h:GP lo w C zs ks f d r) (hl:lo'≤lo):GP lo' w C zs ks f d r:=by
 obtain⟨da,dc,ca,cc,ka,kc,aSD,nSD,cSD,aSU,nSU,cSU,aF,mF,cF,aD,nD,cD,aU,nU,cU,aT,cT,e,h1,h2,h3,h4,⟨b1,b2,h5⟩,h6,h7⟩:=h;exact⟨da,dc,ca,cc,ka,kc,aSD,nSD,cSD,aSU,nSU,cSU,aF,mF,cF,aD,nD,cD,aU,nU,cU,aT,cT,e,h1,h2.mono hl,h3.mono hl,h4,⟨b1,b2,h5.low hl⟩,h6,h7⟩
def ImY (lo:Nat) (w:World) (v:Value) (r:ImR):Prop:=∃ aSD nSD cSD aSU nSU cSU aF mF cF aD nD cD aU nU cU aT cT b1 b2,v=.agg #[.bool r.ok,.int .u32 r.g,.int .u32 r.t,.slice aSD nSD cSD,.slice aSU nSU cSU,.slice aF mF cF,.slice aD nD cD,.slice aU nU cU,.int .i64 r.k,.slice aT r.n cT,.int .u32 r.nx]∧I6 lo b1 b2 w aSD aSU aF aD aU aT nSD nSU mF nD nU r.n∧I6L w aSD aSU aF aD aU aT nSD nSU mF nD nU r∧mF≤cF
theorem ImY.below (h:ImY lo w v r) (b:Below w.heap.size w w'):ImY lo w' v r:=by
 obtain⟨aSD,nSD,cSD,aSU,nSU,cSU,aF,mF,cF,aD,nD,cD,aU,nU,cU,aT,cT,b1,b2,e,h1,h2,h3⟩:=h;exact⟨aSD,nSD,cSD,aSU,nSU,cSU,aF,mF,cF,aD,nD,cD,aU,nU,cU,aT,cT,b1,b2,e,h1.below b,h2.below b,h3⟩
theorem ImY.of (h:ImV lo w v r) (hl:lo'≤lo):ImY lo' w v r:=by
 obtain⟨aSD,nSD,cSD,aSU,nSU,cSU,aF,mF,cF,aD,nD,cD,aU,nU,cU,aT,cT,b1,b2,e,h1,h2,h3⟩:=h.six2;exact⟨aSD,nSD,cSD,aSU,nSU,cSU,aF,mF,cF,aD,nD,cD,aU,nU,cU,aT,cT,b1,b2,e,h1.low hl,h2,h3⟩
theorem has_slice {cs:Array Value} {a:Option Addr} {n c:Nat} {ad:Addr} (i:Nat) (hc:cs.toList[i]?=some (.slice a n c)) (h:a=some ad):Value.has (.agg cs) ad.block:=.inr ⟨cs,rfl,_,List.mem_of_getElem? hc,ad,h,rfl⟩
theorem DvM.fresh {w0:World} (h:DvM w0.heap.size w v zs f d):FreshH w0 w v:=by
 obtain⟨da,dc,ca,cc,rfl,h1,h2,h3⟩:=h;intro k hk;obtain⟨x,hx,ad,hA,rfl⟩:=has_agg.1 hk;simp at hx;rcases hx with rfl|rfl|rfl|rfl
 ·exact h2.2.2 ad hA
 ·exact h3 ad hA
 all_goals cases hA
theorem KM.fresh {w0:World} (h:KM w0.heap.size w v ks):FreshH w0 w v:=by
 obtain⟨ka,kc,rfl,h1⟩:=h;intro k hk;rcases hk with⟨ad,hA,rfl⟩|⟨cs,e,_⟩
 ·exact h1.2.2 ad hA
 ·cases e
theorem ImV.fresh {w0:World} (h:ImV w0.heap.size w v r):FreshH w0 w v:=by
 obtain⟨aSD,nSD,cSD,aSU,nSU,cSU,aF,mF,cF,aD,nD,cD,aU,nU,cU,aT,cT,b1,b2,rfl,g,h2⟩:=h.six;obtain⟨l1,l2,l3,l4,l5,l6⟩:=g.l6;intro k hk;obtain⟨x,hx,ad,hA,rfl⟩:=has_agg.1 hk;simp at hx;rcases hx with rfl|rfl|rfl|rfl|rfl|rfl|rfl|rfl|rfl|rfl|rfl
 ·cases hA
 ·cases hA
 ·cases hA
 ·exact l1 ad hA
 ·exact l2 ad hA
 ·exact l3 ad hA
 ·exact l4 ad hA
 ·exact l5 ad hA
 ·cases hA
 ·exact l6 ad hA
 ·cases hA
theorem gp_make (h1:DvM lo w vd zs f d) (h2:KM lo w vk ks) (h3:ImY lo w vi r) (a1:ApVH vd vk) (a2:ApVH vd vi) (a3:ApVH vk vi) :
  ∃ da dc ca cc ka kc aSD nSD cSD aSU nSU cSU aF mF cF aD nD cD aU nU cU aT cT,vd=.agg #[.slice da zs.length dc,.slice ca 0 cc,.int .i64 f,.bool d]∧vk=.slice ka ks.length kc∧vi=.agg #[.bool r.ok,.int .u32 r.g,.int .u32 r.t,.slice aSD nSD cSD,.slice aSU nSU cSU,.slice aF mF cF,.slice aD nD cD,.slice aU nU cU,.int .i64 r.k,.slice aT r.n cT,.int .u32 r.nx]∧GP lo w #[.slice da zs.length dc,.slice ca 0 cc,.int .i64 f,.bool d,.slice ka ks.length kc,.bool r.ok,.int .u32 r.g,.int .u32 r.t,.slice aSD nSD cSD,.slice aSU nSU cSU,.slice aF mF cF,.slice aD nD cD,.slice aU nU cU,.int .i64 r.k,.slice aT r.n cT,.int .u32 r.nx] zs ks f d r:=by
 obtain⟨da,dc,ca,cc,rfl,q1,q2,q3⟩:=h1;obtain⟨ka,kc,rfl,q4⟩:=h2;obtain⟨aSD,nSD,cSD,aSU,nSU,cSU,aF,mF,cF,aD,nD,cD,aU,nU,cU,aT,cT,b1,b2,rfl,q5,q6,q7⟩:=h3;refine⟨da,dc,ca,cc,ka,kc,aSD,nSD,cSD,aSU,nSU,cSU,aF,mF,cF,aD,nD,cD,aU,nU,cU,aT,cT,rfl,rfl,rfl,da,dc,ca,cc,ka,kc,aSD,nSD,cSD,aSU,nSU,cSU,aF,mF,cF,aD,nD,cD,aU,nU,cU,aT,cT,rfl,⟨q1,q7⟩,q2,q4,q6,⟨b1,b2,q5⟩,fun ad e=>?_,fun ad e=>?_⟩
 ·have hd:Value.has (.agg #[.slice da zs.length dc,.slice ca 0 cc,.int .i64 f,.bool d]) ad.block:=has_slice 0 rfl e;refine⟨fun x hx e2=>a1 _ hd (.inl ⟨x,hx,e2.symm⟩),?_⟩;exact⟨fun x hx e2=>a2 _ hd (by rw[e2];exact has_slice 3 rfl hx),fun x hx e2=>a2 _ hd (by rw[e2];exact has_slice 4 rfl hx),fun x hx e2=>a2 _ hd (by rw[e2];exact has_slice 5 rfl hx),fun x hx e2=>a2 _ hd (by rw[e2];exact has_slice 6 rfl hx),fun x hx e2=>a2 _ hd (by rw[e2];exact has_slice 7 rfl hx),fun x hx e2=>a2 _ hd (by rw[e2];exact has_slice 9 rfl hx)⟩
 ·have hd:Value.has (.slice ka ks.length kc) ad.block:=.inl ⟨ad,e,rfl⟩;exact⟨fun x hx e2=>a3 _ hd (by rw[e2];exact has_slice 3 rfl hx),fun x hx e2=>a3 _ hd (by rw[e2];exact has_slice 4 rfl hx),fun x hx e2=>a3 _ hd (by rw[e2];exact has_slice 5 rfl hx),fun x hx e2=>a3 _ hd (by rw[e2];exact has_slice 6 rfl hx),fun x hx e2=>a3 _ hd (by rw[e2];exact has_slice 7 rfl hx),fun x hx e2=>a3 _ hd (by rw[e2];exact has_slice 9 rfl hx)⟩
end
set_option maxRecDepth 100000 in
set_option maxHeartbeats 8000000 in
theorem igt_any (vd:Value) (zs ks:List Int) (f:Int) (d:Bool) (r:ImR) (za:Option Addr) (zc:Nat) (w:World) (h1:DAt w vd zs [] f d) (h2:At .u8 w za ks) (hr:imG zs [] f=r) (bz:Byte zs) (hz:zs.length≤1048576) (hk:ks.length≤1048576) :
  Calls Tryz.prog 12 #[vd,.slice za ks.length zc] w fun e w'=>∃ C,e=.returned (.agg C)∧GP w.heap.size w' C zs ks f d r∧Below w.heap.size w w':=by
 have HCD:Hid (∀ ww,Below w.heap.size w ww→Calls Tryz.prog 29 #[vd] ww fun e w'=>∃ v,e=.returned v∧DvOwn w' ww.heap.size v zs [] f d∧Below ww.heap.size ww w'):=fun ww b=>icp_any vd zs [] f d ww (h1.below b) hz (by simp) (by simp)
 have HCK:Hid (∀ ww,Below w.heap.size w ww→Calls Tryz.prog 19 #[.slice za ks.length zc] ww fun e w'=>∃ v,e=.returned v∧OwnN w' ww.heap.size v ks∧Below ww.heap.size ww w'):=fun ww b=>clone2_any za ks.length zc ks ww rfl hk (h2.below b)
 have HCI:Hid (∀ ww,Below w.heap.size w ww→Calls Tryz.prog 30 #[vd] ww fun e w'=>∃ v,e=.returned v∧ImV ww.heap.size w' v r∧Below ww.heap.size ww w'):=fun ww b=>by
  rw[←hr];obtain⟨xa,xc,ya,yc,rfl,x1,x2,x3⟩:=h1;exact ild_any xa ya zs.length xc 0 yc f d zs [] ww rfl rfl (x1.below b) (.inl rfl) x3 hz (by simp) (by simp) bz (by simp[Byte])
 obtain⟨xa,xc,ya,yc,rfl,x1,x2,x3⟩:=h1;have HSD:Hid ((Tryz.prog.info? 27).map (·.size)=some 4):=by show _=_;kernel_rfl
 have HSG:Hid ((Tryz.prog.info? 38).map (·.size)=some 16):=by show _=_;kernel_rfl
 have HW:Hid (BG2 w 27 38 #[.slice xa zs.length xc,.slice ya 0 yc,.int .i64 f,.bool d] #[.slice none 0 0,.slice none 0 0,.int .i64 0,.bool false,.slice none 0 0,.bool false,.int .u32 0,.int .u32 0,.slice none 0 0,.slice none 0 0,.slice none 0 0,.slice none 0 0,.slice none 0 0,.int .i64 0,.slice none 0 0,.int .u32 0] ((w.alloc (.cells #[.slice xa zs.length xc,.slice ya 0 yc,.int .i64 f,.bool d] 27)).alloc (.cells #[.slice none 0 0,.slice none 0 0,.int .i64 0,.bool false,.slice none 0 0,.bool false,.int .u32 0,.int .u32 0,.slice none 0 0,.slice none 0 0,.slice none 0 0,.slice none 0 0,.slice none 0 0,.int .i64 0,.slice none 0 0,.int .u32 0] 38))):=BG2.start _ _ _ _ _;clear x1 x2 x3 h2 hz hk bz hr;go_enter Tryz.func12,Tryz.ntmps12;go_wp2_with fail;generalize ((w.alloc (.cells #[.slice xa zs.length xc,.slice ya 0 yc,.int .i64 f,.bool d] 27)).alloc (.cells #[.slice none 0 0,.slice none 0 0,.int .i64 0,.bool false,.slice none 0 0,.bool false,.int .u32 0,.int .u32 0,.slice none 0 0,.slice none 0 0,.slice none 0 0,.slice none 0 0,.slice none 0 0,.int .i64 0,.slice none 0 0,.int .u32 0] 38))=w1 at *;refine wp_region_any (by kernel_rfl) ?_;refine wpAny_slotsF 7 (fun _ a b=>Below a.heap.size a b) (frame:=(fun (a b c d e:Value)=>fun (t:Nat→Value)=>({ tmps:=List.toArray [a,b,c,d,e,t 0,t 1,t 2,t 3,t 4,t 5,t 6],defers:=[] }:Act)) _ _ _ _ _)
  (Ext:=fun L u w'=>ApH w1 [1,3,5] L u w') (Good:=fun i L w' v=>if i=0 then v=.agg #[.slice xa zs.length xc,.slice ya 0 yc,.int .i64 f,.bool d] else if i=1 then DvM w1.heap.size w' v zs f d else if i=2 then v=.slice za ks.length zc else if i=3 then KM w1.heap.size w' v ks else if i=4 then v=.agg #[.slice xa zs.length xc,.slice ya 0 yc,.int .i64 f,.bool d] else if i=5 then ImY w1.heap.size w' v r else if i=6 then GPv w1.heap.size w' v zs ks f d r else True) (Fin:=fun _ ww=>∃ C,ww.heap[w.heap.size+1]?=some (.cells C 38 (0,0))∧GP w.heap.size ww C zs ks f d r∧C.size=16∧Below w.heap.size w ww) rfl (by kernel_rfl) ?hstab (by kernel_rfl) ?hop ?hend ?hdone _ _ ((fun (x0 x1 x2 x3 x4 x5 x6:Value)=>fun (i:Nat)=>if i=0 then x0 else if i=1 then x1 else if i=2 then x2 else if i=3 then x3 else if i=4 then x4 else if i=5 then x5 else if i=6 then x6 else undef) _ _ _ _ _ _ _) _ (by simp) ?none ?ext (by simp)
 case none=>intro i;rw[Array.getD_eq_getD_getElem?,Array.getElem?_replicate];split<;>rfl
 case ext=>exact ApH.start w1 [1,3,5] _ _ (fun i=>by rw[Array.getD_eq_getD_getElem?,Array.getElem?_replicate];split<;>rfl) ⟨rfl,rfl,rfl,Nat.le_refl _,fun _ _=>rfl⟩
 case hstab=>
  intro j L w9 w' i v _ hM _ _ h;by_cases h1:j=1
  ·subst h1;simp at h ⊢;exact h.below hM
  by_cases h3:j=3
  ·subst h3;simp at h ⊢;exact h.below hM
  by_cases h5:j=5
  ·subst h5;simp at h ⊢;exact h.below hM
  by_cases h6:j=6
  ·subst h6;simp at h ⊢;exact h.below hM
  simp only[if_neg h1,if_neg h3,if_neg h5,if_neg h6] at h ⊢;exact h
 case hop=>
  intro i o L t w' hi ho hLi hx hdep K hK;obtain rfl|rfl|rfl|rfl|rfl|rfl|rfl:i=0∨i=1∨i=2∨i=3∨i=4∨i=5∨i=6:=by omega
  all_goals(simp at ho;subst ho)
  ·clear hdep;have hK':=hK w' (.agg #[.slice xa zs.length xc,.slice ya 0 yc,.int .i64 f,.bool d]) (by simp) (hx.step 0 _ (Below.refl _ _) (fun h=>absurd h (by decide))) (Below.refl _ _);clear hK;rw[if_pos (by rfl)];refine wp_load_row 27 (.tmp 2) rfl (w.heap.size) rfl 27 _ (0,0) _ ((hx.below.block _ (Array.getElem?_eq_some_iff.1 HW.out.b0).1).trans HW.out.b0) Tryz.underlying27 rfl HSD.out ?_;simpa[upd,Act.put] using hK'
  ·have d0:t 0=.agg #[.slice xa zs.length xc,.slice ya 0 yc,.int .i64 f,.bool d]:=by simpa using(hdep ⟨0,.data⟩ (by simp) rfl).2
   clear hdep;have bw:Below w.heap.size w w':=HW.out.below.trans (hx.below.mono HW.out.below.size);have hsz:w1.heap.size≤w'.heap.size:=hx.below.size;have A:=HCD.out w' bw;have hK':∀ ww v,DvM w1.heap.size ww v zs f d→FreshH w' ww v→Below w'.heap.size w' ww→K _ ww:=fun ww v hv hf hb=>hK ww v (by simpa using hv) (hx.step 1 v hb (fun _=>hf)) hb
   clear hK;rw[if_pos (by rfl)];go_simp;try simp only[d0]
   refine A.mono ?_;rintro e w9 ⟨v9,rfl,h9,hb9⟩;have hK2:=hK' w9 v9 (h9.dvm.mono hsz) h9.dvm.fresh hb9;clear hK' A h9 hb9;go_simp;simpa[upd,d0] using hK2
  ·clear hdep;have hK':=hK w' (.slice za ks.length zc) (by simp) (hx.step 2 _ (Below.refl _ _) (fun h=>absurd h (by decide))) (Below.refl _ _);clear hK;rw[if_pos (by rfl)];go_simp;simpa[upd] using hK'
  ·have d2:t 2=.slice za ks.length zc:=by simpa using(hdep ⟨2,.data⟩ (by simp) rfl).2
   clear hdep;have bw:Below w.heap.size w w':=HW.out.below.trans (hx.below.mono HW.out.below.size);have hsz:w1.heap.size≤w'.heap.size:=hx.below.size;have A:=HCK.out w' bw;have hK':∀ ww v,KM w1.heap.size ww v ks→FreshH w' ww v→Below w'.heap.size w' ww→K _ ww:=fun ww v hv hf hb=>hK ww v (by simpa using hv) (hx.step 3 v hb (fun _=>hf)) hb
   clear hK;rw[if_pos (by rfl)];go_simp;try simp only[d2]
   refine A.mono ?_;rintro e w9 ⟨v9,rfl,h9,hb9⟩;have hK2:=hK' w9 v9 (h9.km.mono hsz) h9.km.fresh hb9;clear hK' A h9 hb9;go_simp;simpa[upd,d2] using hK2
  ·clear hdep;have hK':=hK w' (.agg #[.slice xa zs.length xc,.slice ya 0 yc,.int .i64 f,.bool d]) (by simp) (hx.step 4 _ (Below.refl _ _) (fun h=>absurd h (by decide))) (Below.refl _ _);clear hK;rw[if_pos (by rfl)];refine wp_load_row 27 (.tmp 2) rfl (w.heap.size) rfl 27 _ (0,0) _ ((hx.below.block _ (Array.getElem?_eq_some_iff.1 HW.out.b0).1).trans HW.out.b0) Tryz.underlying27 rfl HSD.out ?_;simpa[upd,Act.put] using hK'
  ·have d4:t 4=.agg #[.slice xa zs.length xc,.slice ya 0 yc,.int .i64 f,.bool d]:=by simpa using(hdep ⟨4,.data⟩ (by simp) rfl).2
   clear hdep;have bw:Below w.heap.size w w':=HW.out.below.trans (hx.below.mono HW.out.below.size);have hsz:w1.heap.size≤w'.heap.size:=hx.below.size;have A:=HCI.out w' bw;have hK':∀ ww v,ImY w1.heap.size ww v r→FreshH w' ww v→Below w'.heap.size w' ww→K _ ww:=fun ww v hv hf hb=>hK ww v (by simpa using hv) (hx.step 5 v hb (fun _=>hf)) hb
   clear hK;rw[if_pos (by rfl)];go_simp;try simp only[d4]
   refine A.mono ?_;rintro e w9 ⟨v9,rfl,h9,hb9⟩;have hK2:=hK' w9 v9 (ImY.of h9 hsz) h9.fresh hb9;clear hK' A h9 hb9;go_simp;simpa[upd,d4] using hK2
  ·have l1:L 1=true:=(hdep ⟨1,.data⟩ (by simp) rfl).1;have f1:DvM w1.heap.size w' (t 1) zs f d:=by simpa using(hdep ⟨1,.data⟩ (by simp) rfl).2
   have l3:L 3=true:=(hdep ⟨3,.data⟩ (by simp) rfl).1;have f3:KM w1.heap.size w' (t 3) ks:=by simpa using(hdep ⟨3,.data⟩ (by simp) rfl).2
   have l5:L 5=true:=(hdep ⟨5,.data⟩ (by simp) rfl).1;have f5:ImY w1.heap.size w' (t 5) r:=by simpa using(hdep ⟨5,.data⟩ (by simp) rfl).2
   clear hdep;have a1:=hx.ap 1 (by decide) 3 (by decide) (by decide) l1 l3;have a2:=hx.ap 1 (by decide) 5 (by decide) (by decide) l1 l5;have a3:=hx.ap 3 (by decide) 5 (by decide) (by decide) l3 l5;obtain⟨da,dc,ca,cc,ka,kc,aSD,nSD,cSD,aSU,nSU,cSU,aF,mF,cF,aD,nD,cD,aU,nU,cU,aT,cT,e1,e3,e5,hg⟩:=gp_make f1 f3 f5 a1 a2 a3;have hsv:GPv w1.heap.size w' (.agg #[.slice da zs.length dc,.slice ca 0 cc,.int .i64 f,.bool d,.slice ka ks.length kc,.bool r.ok,.int .u32 r.g,.int .u32 r.t,.slice aSD nSD cSD,.slice aSU nSU cSU,.slice aF mF cF,.slice aD nD cD,.slice aU nU cU,.int .i64 r.k,.slice aT r.n cT,.int .u32 r.nx]) zs ks f d r:=⟨_,rfl,hg⟩
   have hK':=hK w' _ (by simpa using hsv) (hx.step 6 _ (Below.refl _ _) (fun h=>absurd h (by decide))) (Below.refl _ _);clear hK hg hsv a1 a2 a3 f1 f3 f5;rw[if_pos (by rfl)];go_simp;simpa[upd,e1,e3,e5] using hK'
 case hend=>
  intro o L t w' ho hx hg K hK;simp at ho;subst ho;have f6:GPv w1.heap.size w' (t 6) zs ks f d r:=by simpa using(hg 6 (by decide)).2
  clear hg;obtain⟨C,e6,j0⟩:=f6;have hrs:=(hx.below.block _ (Array.getElem?_eq_some_iff.1 HW.out.b1).1).trans HW.out.b1;have hz:=j0.gl.row;have hK':∀ ww,Wr (w.heap.size+1) w' ww→ww.heap[w.heap.size+1]?=some (.cells C 38 (0,0))→K _ ww:=fun ww hw hr=>hK ww undef ⟨C,hr,(j0.keep (Nat.le_of_eq hw.size.symm) (fun k hk _=>hw.block k (by have:=(Array.getElem?_eq_some_iff.1 HW.out.b1).1;omega))).mono (by have:=HW.out.below.size;omega),hz.1,(HW.out.below.trans (hx.below.mono HW.out.below.size)).trans (hw.below (by omega))⟩
  clear hK j0;rw[if_pos (by rfl)];refine wp_store_row 38 (.tmp 4) (.tmp 11) rfl (w.heap.size+1) C rfl e6 38 _ hrs (by rw[hz.1];exact HSG.out) (by rw[hz.1];rfl) hz.2 ?_;have hK2:=hK' _ (Wr.setRow _ _ _) (setRow_heap _ _ _ _ _ _ hrs);clear hK';simpa[upd,Act.put] using hK2
 case hdone=>
  intro t w9 hf;obtain⟨C,hr,hI,hz,hb9⟩:=hf;have HR9:Hid (w9.heap[w.heap.size+1]?=some (.cells C 38 (0,0))):=hr;have HF:Hid (GP w.heap.size w9 C zs ks f d r∧Below w.heap.size w w9):=⟨hI,hb9⟩
  have HS9:Hid ((Tryz.prog.info? 38).map (·.size)=some C.size):=by show _=_;rw[hz];exact HSG.out
  clear hr hI hz hb9;go_wp2_with fail;exact bodyPost_ret (v:=.agg C) (results_cell_row rfl _ _ (w.heap.size+1) 38 _ (0,0) _ rfl HR9.out Tryz.underlying38 rfl HS9.out) rfl ⟨_,rfl,HF.out.1,HF.out.2⟩
end Go.Proofs.YtilpkdnoaldfmaaGreatDoor
