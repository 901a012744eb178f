import Derived.Test.YtilpkdnoaldfmaaGreatDoorLdG
import Derived.Test.YtilpkdnoaldfmaaGreatDoorMIDec
import Derived.Test.YtilpkdnoaldfmaaGreatDoorMRows8
import Derived.Test.YtilpkdnoaldfmaaGreatDoorMMkB
import Derived.Laws.BytesArg
import Derived.Test.YtilpkdnoaldfmaaGreatDoorMCnC
import Derived.Test.YtilpkdnoaldfmaaGreatDoorMCatC
import Derived.Test.YtilpkdnoaldfmaaGreatDoorMRows8a
import Derived.Test.YtilpkdnoaldfmaaGreatDoorMSwH
import Derived.Test.YtilpkdnoaldfmaaGreatDoorMSwA
import Derived.Test.YtilpkdnoaldfmaaGreatDoorMArgDev
import Derived.Deep.Cut
namespace Go.Proofs.YtilpkdnoaldfmaaGreatDoor
open Go.ChangeShapes Go.WideShapes Go.ChangeAt Go.RowKit
set_option linter.unusedVariables false
structure ImR where
 ok:Bool
 g:Int
 t:Int
 sD:List Int
 sU:List Int
 F:List Int
 D:List Int
 U:List Int
 k:Int
 T:List Int
 n:Nat
 nx:Int
def imNo:ImR:=⟨false,0,0,[],[],[],[],[],0,[],0,0⟩
noncomputable def imA (s:DkR) (F:List Int):ApR:=apK ⟨true,s.D,s.U,(s.U.length:Int),[],0⟩ F (F.length/4)
open Classical in
noncomputable def imR (s:DkR) (F:List Int):ImR:=
 if(imA s F).ok=true then ⟨true,s.g,s.t,s.D,s.U,F,(imA s F).D,(imA s F).U,(imA s F).k,(imA s F).T,(imA s F).n,s.t+((F.length/4:Nat):Int)⟩ else imNo
open Classical in
noncomputable def imF (zs:List Int) (ps:List PD) (J:Nat):ImR:=if(nwK zs ps 2).ok=true then imR (nwK zs ps 2) (jrF zs ps J (nwK zs ps 2).t.toNat J) else imNo
open Classical in
noncomputable def imG (zs:List Int) (ps:List PD) (f:Int):ImR:=if validB zs.length ps f=true then imF zs ps (zs.length/64-4) else imNo
theorem dkF_snp {zs:List Int} (h:(dkF zs).ok=true):SnP (dkF zs).g (dkF zs).t (dkF zs).D (dkF zs).U:=by
 by_cases hc:zs.length=128∧zs.getD 6 0≤16∧dkE zs=zs
 ·rw[dkF_yes hc.1 hc.2.1 hc.2.2];by_cases hp:SnP (num4 zs 0) (num4 zs 8) (dkD zs (dkN zs)) (dkU zs)
  ·exact hp
  ·have e:dkE zs=[]:=by unfold dkE snE;rw[snB_no hp];rfl
   rw[hc.2.2] at e;rw[e] at hc;simp at hc
 ·exfalso
  have e:dkF zs=dkNo:=by unfold dkF;rw[if_neg hc]
  rw[e] at h;cases h
theorem slF_snp {zs:List Int} {ps:List PD} {i:Nat} (h:(slF zs ps i).ok=true):SnP (slF zs ps i).g (slF zs ps i).t (slF zs ps i).D (slF zs ps i).U:=by
 unfold slF at h ⊢;split at h
 ·next hc=>rw[if_pos hc];exact dkF_snp hc.1
 ·cases h
theorem nwK_snp {zs:List Int} {ps:List PD}:∀ q,(nwK zs ps q).ok=true→SnP (nwK zs ps q).g (nwK zs ps q).t (nwK zs ps q).D (nwK zs ps q).U
 |0,h=>by cases h
 |q+1,h=>by
  unfold nwK at h ⊢;split at h
  ·next hc=>rw[if_pos hc];exact slF_snp hc.1
  ·next hc=>rw[if_neg hc];exact nwK_snp q h
theorem SnP.st {gn tl:Int} {D U:List Int} (h:SnP gn tl D U):StP D U (U.length:Int) [] 0:=
 ⟨h.2.2.2.1,h.2.2.2.2.1,h.2.2.2.2.2,by omega,by simp,fun i hi=>absurd hi (by omega)⟩
theorem jrF_frb (zs:List Int) (ps:List PD) (J:Nat) (hb:∀ q,Byte (jrT zs ps J q)):∀ n q,FrB (jrF zs ps J q n)
 |0,q=>fun i hi=>by simp[jrF] at hi
 |n+1,q=>by
  unfold jrF;split
  ·intro i hi;have ih:=jrF_frb zs ps J hb n (q+1);cases i with
   |zero=>
    have u2:=num4_u32 _ (hb q) 8;have u3:=num4_u32 _ (hb q) 12;exact⟨u2,u3⟩
   |succ i=>
    have hi':i*4+3<(jrF zs ps J (q+1) n).length:=by rw[List.length_append,fr4_len] at hi;omega
    have e:∀ j,(fr4 (jrT zs ps J q)++jrF zs ps J (q+1) n).getD (j+4) 0=(jrF zs ps J (q+1) n).getD j 0:=fun j=>by
     rw[List.getD,List.getD,List.getElem?_append_right (by rw[fr4_len];omega),fr4_len,Nat.add_sub_cancel]
    rw[show(i+1)*4+2=i*4+2+4 by omega,show(i+1)*4+3=i*4+3+4 by omega,e,e];exact ih i hi'
  ·intro i hi;simp at hi
def ImV (lo:Nat) (w:World) (v:Value) (r:ImR):Prop:=∃ aSD nSD cSD aSU nSU cSU vF m aD nD cD aU nU cU aT cT b1 b2,
 v=.agg #[.bool r.ok,.int .u32 r.g,.int .u32 r.t,.slice aSD nSD cSD,.slice aSU nSU cSU,vF,.slice aD nD cD,.slice aU nU cU,.int .i64 r.k,.slice aT r.n cT,.int .u32 r.nx]∧
 S3 lo w aSD aSU none nSD nSU 0 r.sD r.sU []∧(∀ ad,aSD=some ad→ad.block<b1)∧(∀ ad,aSU=some ad→ad.block<b1)∧FO b1 w vF r.F m∧(∀ k,vF.ownBlock=some k→k<b2)∧S3 b2 w aD aU aT nD nU r.n r.D r.U r.T∧lo≤b1∧b1≤b2
theorem S3.nil (lo:Nat) (w:World):S3 lo w none none none 0 0 0 [] [] []:=⟨.inl rfl,.inl rfl,.inl rfl,rfl,rfl,rfl,fun _ h=>(by cases h),fun _ h=>(by cases h),fun _ h=>(by cases h),fun _ _ h=>(by cases h),fun _ _ h=>(by cases h),fun _ _ h=>(by cases h)⟩
theorem FO.nil (B:Nat) (w:World):FO B w (.slice none 0 0) [] 0:=⟨rfl,.inl ⟨rfl,rfl⟩⟩
theorem ImV.no (lo:Nat) (w:World):ImV lo w (.agg #[.bool false,.int .u32 0,.int .u32 0,.slice none 0 0,.slice none 0 0,.slice none 0 0,.slice none 0 0,.slice none 0 0,.int .i64 0,.slice none 0 0,.int .u32 0]) imNo:=
 ⟨none,0,0,none,0,0,.slice none 0 0,0,none,0,0,none,0,0,none,0,lo,lo,rfl,S3.nil _ _,fun _ h=>(by cases h),fun _ h=>(by cases h),FO.nil _ _,fun _ h=>(by cases h),S3.nil _ _,Nat.le_refl _,Nat.le_refl _⟩
end Go.Proofs.YtilpkdnoaldfmaaGreatDoor
