import Derived.Test.YthmeoilbmfdhfaaGreatMWri
import Derived.Test.YthmeoilbmfdhfaaGreatMCgB
import Derived.Defers
import Derived.Recover
import Derived.WalkLawsBesides
import Derived.Test.YthmeoilbmfdhfaaGreatMLlB
import Derived.Deep.WholeRow
namespace Go.Proofs.YthmeoilbmfdhfaaGreat
open Go.ChangeShapes Go.WideShapes Go.ChangeAt Go.RowKit
set_option linter.unusedVariables false
section
variable {lo lo':Nat} {w w':World} {C X:Array Value} {zs ks:List Int} {ps:List PD} {f c:Int} {d:Bool} {r:ImR} {v vd vk vi:Value}
def DvP (lo:Nat) (w:World) (v:Value) (zs:List Int) (ps:List PD) (f:Int) (d:Bool):Prop:=∃ da dc ca cc B1 U,v=.agg #[.slice da zs.length dc,.slice ca ps.length cc,.int .i64 f,.bool d]∧zs.length≤dc∧Mine lo w da zs∧PMine B1 U w ca ps∧lo≤B1∧U≤w.heap.size
theorem DMine.dvp {U:Nat} (h:DMine lo U w v zs ps f d) (hl:lo'≤lo):DvP lo' w v zs ps f d:=by
 obtain⟨da,dc,ca,cc,B1,e,h1,h2,h3,h4,h5,h6,h7,h8⟩:=h;exact⟨da,dc,ca,cc,B1,U,e,h8,⟨h1,h2,fun ad e=>by have:=h3 ad e;omega⟩,h7,by omega,h6⟩
theorem DvOwn.dvp (h:DvOwn w lo v zs ps f d) (hl:lo'≤lo):DvP lo' w v zs ps f d:=h.mine.dvp hl
theorem DvP.below (h:DvP lo w v zs ps f d) (b:Below w.heap.size w w'):DvP lo w' v zs ps f d:=by
 obtain⟨da,dc,ca,cc,B1,U,e,h1,h2,h3,h4,h5⟩:=h;exact⟨da,dc,ca,cc,B1,U,e,h1,h2.below b,h3.below b,h4,by have:=b.size;omega⟩
def GM (lo:Nat) (w:World) (C:Array Value) (zs:List Int) (ps:List PD) (ks:List Int) (f:Int) (d:Bool) (r:ImR):Prop:=∃ da dc ca cc ka kc aSD nSD cSD aSU nSU cSU aF mF cF aD nD cD aU nU cU aT cT B1 U,C=#[.slice da zs.length dc,.slice ca ps.length cc,.int .i64 f,.bool d,.slice ka ks.length kc,.bool r.ok,.int .u32 r.g,.int .u32 r.t,.slice aSD nSD cSD,.slice aSU nSU cSU,.slice aF mF cF,.slice aD nD cD,.slice aU nU cU,.int .i64 r.k,.slice aT r.n cT,.int .u32 r.nx]∧(zs.length≤dc∧mF≤cF)∧Mine lo w da zs∧Mine lo w ka ks∧I6L w aSD aSU aF aD aU aT nSD nSU mF nD nU r∧L6 lo w aSD aSU aF aD aU aT∧PMine B1 U w ca ps∧lo≤B1∧U≤w.heap.size
theorem GM.keep (h:GM lo w C zs ps ks f d r) (hs:w.heap.size≤w'.heap.size) (hb:∀ k,lo≤k→k<w.heap.size→w'.heap[k]?=w.heap[k]?):GM lo w' C zs ps ks f d r:=by
 obtain⟨da,dc,ca,cc,ka,kc,aSD,nSD,cSD,aSU,nSU,cSU,aF,mF,cF,aD,nD,cD,aU,nU,cU,aT,cT,B1,U,e,h1,h2,h3,h4,h5,h8,h9,h10⟩:=h;exact⟨da,dc,ca,cc,ka,kc,aSD,nSD,cSD,aSU,nSU,cSU,aF,mF,cF,aD,nD,cD,aU,nU,cU,aT,cT,B1,U,e,h1,h2.keep hs hb,h3.keep hs hb,h4.keep h5 hs hb,h5.size hs (Nat.le_refl _),h8.keep (fun k hk hk'=>hb k (by omega) (by omega)) hs,h9,by omega⟩
theorem GM.below (h:GM lo w C zs ps ks f d r) (b:Below w.heap.size w w'):GM lo w' C zs ps ks f d r:=h.keep b.size (fun k _ hk=>b.block k hk)
theorem GM.mono (h:GM lo w C zs ps ks f d r) (hl:lo'≤lo):GM lo' w C zs ps ks f d r:=by
 obtain⟨da,dc,ca,cc,ka,kc,aSD,nSD,cSD,aSU,nSU,cSU,aF,mF,cF,aD,nD,cD,aU,nU,cU,aT,cT,B1,U,e,h1,h2,h3,h4,h5,h8,h9,h10⟩:=h;exact⟨da,dc,ca,cc,ka,kc,aSD,nSD,cSD,aSU,nSU,cSU,aF,mF,cF,aD,nD,cD,aU,nU,cU,aT,cT,B1,U,e,h1,h2.mono hl,h3.mono hl,h4,h5.size (Nat.le_refl _) hl,h8,by omega,h10⟩
theorem GM.gat (h:GM lo w C zs ps ks f d r):GAt w (.agg C) zs ps f d ks r:=by
 obtain⟨da,dc,ca,cc,ka,kc,aSD,nSD,cSD,aSU,nSU,cSU,aF,mF,cF,aD,nD,cD,aU,nU,cU,aT,cT,B1,U,e,h1,h2,h3,h4,h5,h8,h9,h10⟩:=h;exact⟨da,dc,ca,cc,ka,kc,aSD,nSD,cSD,aSU,nSU,cSU,aF,mF,cF,aD,nD,cD,aU,nU,cU,aT,cT,congrArg _ e,h2.1,h8.at_,h1.1,h3.1,h4⟩
theorem GM.row (h:GM lo w C zs ps ks f d r):C.size=16∧C.all (·.oneCell')=true:=by
 obtain⟨da,dc,ca,cc,ka,kc,aSD,nSD,cSD,aSU,nSU,cSU,aF,mF,cF,aD,nD,cD,aU,nU,cU,aT,cT,B1,U,rfl,_⟩:=h;exact⟨rfl,by simp[Value.oneCell']⟩
def GMv (lo:Nat) (w:World) (v:Value) (zs:List Int) (ps:List PD) (ks:List Int) (f:Int) (d:Bool) (r:ImR):Prop:=∃ C,v=.agg C∧GM lo w C zs ps ks f d r
theorem GMv.below (h:GMv lo w v zs ps ks f d r) (b:Below w.heap.size w w'):GMv lo w' v zs ps ks f d r:=by obtain⟨C,e,h⟩:=h;exact⟨C,e,h.below b⟩
def RM (lo:Nat) (w:World) (X:Array Value) (c:Int) (zs:List Int) (ps:List PD) (ks:List Int) (f:Int) (d:Bool) (r:ImR):Prop:=∃ C,X=#[.int .i64 c]++C∧GM lo w C zs ps ks f d r
theorem RM.keep (h:RM lo w X c zs ps ks f d r) (hs:w.heap.size≤w'.heap.size) (hb:∀ k,lo≤k→k<w.heap.size→w'.heap[k]?=w.heap[k]?):RM lo w' X c zs ps ks f d r:=by obtain⟨C,e,h⟩:=h;exact⟨C,e,h.keep hs hb⟩
theorem RM.below (h:RM lo w X c zs ps ks f d r) (b:Below w.heap.size w w'):RM lo w' X c zs ps ks f d r:=h.keep b.size (fun k _ hk=>b.block k hk)
theorem RM.mono (h:RM lo w X c zs ps ks f d r) (hl:lo'≤lo):RM lo' w X c zs ps ks f d r:=by obtain⟨C,e,h⟩:=h;exact⟨C,e,h.mono hl⟩
theorem RM.row (h:RM lo w X c zs ps ks f d r):X.size=17∧X.all (·.oneCell')=true:=by
 obtain⟨C,rfl,h⟩:=h;refine⟨by rw[Array.size_append,h.row.1];rfl,?_⟩;rw[Array.all_append,h.row.2];simp[Value.oneCell']
def RMv (lo:Nat) (w:World) (v:Value) (c:Int) (zs:List Int) (ps:List PD) (ks:List Int) (f:Int) (d:Bool) (r:ImR):Prop:=∃ X,v=.agg X∧RM lo w X c zs ps ks f d r
theorem RMv.below (h:RMv lo w v c zs ps ks f d r) (b:Below w.heap.size w w'):RMv lo w' v c zs ps ks f d r:=by obtain⟨C,e,h⟩:=h;exact⟨C,e,h.below b⟩
theorem gm_make (h1:DvP lo w vd zs ps f d) (h2:KM lo w vk ks) (h3:ImX lo w vi r):∃ C,GM lo w C zs ps ks f d r∧∃ da dc ca cc ka kc aSD nSD cSD aSU nSU cSU aF mF cF aD nD cD aU nU cU aT cT,vd=.agg #[.slice da zs.length dc,.slice ca ps.length cc,.int .i64 f,.bool d]∧vk=.slice ka ks.length kc∧vi=.agg #[.bool r.ok,.int .u32 r.g,.int .u32 r.t,.slice aSD nSD cSD,.slice aSU nSU cSU,.slice aF mF cF,.slice aD nD cD,.slice aU nU cU,.int .i64 r.k,.slice aT r.n cT,.int .u32 r.nx]∧C=#[.slice da zs.length dc,.slice ca ps.length cc,.int .i64 f,.bool d,.slice ka ks.length kc,.bool r.ok,.int .u32 r.g,.int .u32 r.t,.slice aSD nSD cSD,.slice aSU nSU cSU,.slice aF mF cF,.slice aD nD cD,.slice aU nU cU,.int .i64 r.k,.slice aT r.n cT,.int .u32 r.nx]:=by
 obtain⟨da,dc,ca,cc,B1,U,rfl,q1,q2,q3,q4,q5⟩:=h1;obtain⟨ka,kc,rfl,q6⟩:=h2;obtain⟨aSD,nSD,cSD,aSU,nSU,cSU,aF,mF,cF,aD,nD,cD,aU,nU,cU,aT,cT,rfl,q7,q8,q9⟩:=h3;exact⟨_,⟨da,dc,ca,cc,ka,kc,aSD,nSD,cSD,aSU,nSU,cSU,aF,mF,cF,aD,nD,cD,aU,nU,cU,aT,cT,B1,U,rfl,⟨q1,q9⟩,q2,q6,q7,q8,q3,q4,q5⟩,da,dc,ca,cc,ka,kc,aSD,nSD,cSD,aSU,nSU,cSU,aF,mF,cF,aD,nD,cD,aU,nU,cU,aT,cT,rfl,rfl,rfl,rfl⟩
theorem GM.no (lo:Nat) (w:World) (hl:lo≤w.heap.size):GM lo w #[.slice none 0 0,.slice none 0 0,.int .i64 0,.bool false,.slice none 0 0,.bool false,.int .u32 0,.int .u32 0,.slice none 0 0,.slice none 0 0,.slice none 0 0,.slice none 0 0,.slice none 0 0,.int .i64 0,.slice none 0 0,.int .u32 0] [] [] [] 0 false imNo:=
 ⟨none,0,none,0,none,0,none,0,0,none,0,0,none,0,0,none,0,0,none,0,0,none,0,_,_,rfl,⟨Nat.le_refl _,Nat.le_refl _⟩,Mine.nil _ _,Mine.nil _ _,⟨.inl rfl,.inl rfl,.inl rfl,.inl rfl,.inl rfl,.inl rfl,rfl,rfl,rfl,rfl,rfl,rfl⟩,⟨fun _ e=>(by cases e),fun _ e=>(by cases e),fun _ e=>(by cases e),fun _ e=>(by cases e),fun _ e=>(by cases e),fun _ e=>(by cases e)⟩,.inl rfl,hl,Nat.le_refl _⟩
end
set_option maxRecDepth 100000 in
set_option maxHeartbeats 8000000 in
theorem sgm_any (vd vi:Value) (zs:List Int) (ps:List PD) (ks:List Int) (f:Int) (d:Bool) (r:ImR) (za:Option Addr) (zc:Nat) (w:World) (h1:DAt w vd zs ps f d) (h2:At .u8 w za ks) (h3:ImW w vi r) (hb:ImLe r) (hz:zs.length≤1048576) (hn:ps.length≤1048576) (hps:∀ i,(ps.getD i (0,[])).2.length≤1048576) (hk:ks.length≤1048576) :
  Calls Tryz.prog 56 #[vd,.slice za ks.length zc,vi] w fun e w'=>∃ C,e=.returned (.agg C)∧GM w.heap.size w' C zs ps ks f d r∧Below w.heap.size w w':=by
 have HCD:Hid (∀ ww,Below w.heap.size w ww→Calls Tryz.prog 102 #[vd] ww fun e w'=>∃ v,e=.returned v∧DvOwn w' ww.heap.size v zs ps f d∧Below ww.heap.size ww w'):=fun ww b=>scp_any vd zs ps f d ww (h1.below b) hz hn hps
 have HCI:Hid (∀ ww,Below w.heap.size w ww→Calls Tryz.prog 105 #[vi] ww fun e w'=>∃ v',e=.returned v'∧ImX ww.heap.size w' v' r∧Below ww.heap.size ww w'):=fun ww b=>cpI_any vi r ww (ImW.belowF h3 b) hb
 have HK:Hid (At .u8 w za ks):=h2;have HLK:Hid (ks.length≤1048576):=hk;obtain⟨xa,xc,ya,yc,rfl,x1,x2,x3⟩:=h1;obtain⟨aSD,nSD,cSD,aSU,nSU,cSU,aF,mF,cF,aD,nD,cD,aU,nU,cU,aT,cT,rfl,_⟩:=h3;have HSD:Hid ((Tryz.prog.info? 40).map (·.size)=some 4):=by show _=_;kernel_rfl
 have HSI:Hid ((Tryz.prog.info? 36).map (·.size)=some 11):=by show _=_;kernel_rfl
 have HSG:Hid ((Tryz.prog.info? 48).map (·.size)=some 16):=by show _=_;kernel_rfl
 have HW:Hid (B3 w 40 36 48 #[.slice xa zs.length xc,.slice ya ps.length yc,.int .i64 f,.bool d] #[.bool r.ok,.int .u32 r.g,.int .u32 r.t,.slice aSD nSD cSD,.slice aSU nSU cSU,.slice aF mF cF,.slice aD nD cD,.slice aU nU cU,.int .i64 r.k,.slice aT r.n cT,.int .u32 r.nx] #[.slice none 0 0,.slice none 0 0,.int .i64 0,.bool false,.slice none 0 0,.bool false,.int .u32 0,.int .u32 0,.slice none 0 0,.slice none 0 0,.slice none 0 0,.slice none 0 0,.slice none 0 0,.int .i64 0,.slice none 0 0,.int .u32 0] (((w.alloc (.cells #[.slice xa zs.length xc,.slice ya ps.length yc,.int .i64 f,.bool d] 40)).alloc (.cells #[.bool r.ok,.int .u32 r.g,.int .u32 r.t,.slice aSD nSD cSD,.slice aSU nSU cSU,.slice aF mF cF,.slice aD nD cD,.slice aU nU cU,.int .i64 r.k,.slice aT r.n cT,.int .u32 r.nx] 36)).alloc (.cells #[.slice none 0 0,.slice none 0 0,.int .i64 0,.bool false,.slice none 0 0,.bool false,.int .u32 0,.int .u32 0,.slice none 0 0,.slice none 0 0,.slice none 0 0,.slice none 0 0,.slice none 0 0,.int .i64 0,.slice none 0 0,.int .u32 0] 48))):=B3.start _ _ _ _ _ _ _;clear x1 x2 x3 h2 hb hz hk hn hps;go_enter Tryz.func56,Tryz.ntmps56;go_wp2_with fail;generalize (((w.alloc (.cells #[.slice xa zs.length xc,.slice ya ps.length yc,.int .i64 f,.bool d] 40)).alloc (.cells #[.bool r.ok,.int .u32 r.g,.int .u32 r.t,.slice aSD nSD cSD,.slice aSU nSU cSU,.slice aF mF cF,.slice aD nD cD,.slice aU nU cU,.int .i64 r.k,.slice aT r.n cT,.int .u32 r.nx] 36)).alloc (.cells #[.slice none 0 0,.slice none 0 0,.int .i64 0,.bool false,.slice none 0 0,.bool false,.int .u32 0,.int .u32 0,.slice none 0 0,.slice none 0 0,.slice none 0 0,.slice none 0 0,.slice none 0 0,.int .i64 0,.slice none 0 0,.int .u32 0] 48))=w1 at *;refine wp_region_any (by kernel_rfl) ?_;refine wpAny_slotsF 8 (fun _ a b=>Below a.heap.size a b) (frame:=(fun (a b c d e f g:Value)=>fun (t:Nat→Value)=>({ tmps:=List.toArray [a,b,c,d,e,f,g,t 0,t 1,t 2,t 3,t 4,t 5,t 6,t 7],defers:=[] }:Act)) _ _ _ _ _ _ _)
  (Ext:=fun L u w'=>ApH w1 [] L u w') (Good:=fun i L w' v=>if i=0 then v=.agg #[.slice xa zs.length xc,.slice ya ps.length yc,.int .i64 f,.bool d] else if i=1 then DvP w1.heap.size w' v zs ps f d else if i=2 then EmS w1.heap.size 5 w' v else if i=3 then v=.slice za ks.length zc else if i=4 then KM w1.heap.size w' v ks else if i=5 then v=.agg #[.bool r.ok,.int .u32 r.g,.int .u32 r.t,.slice aSD nSD cSD,.slice aSU nSU cSU,.slice aF mF cF,.slice aD nD cD,.slice aU nU cU,.int .i64 r.k,.slice aT r.n cT,.int .u32 r.nx] else if i=6 then ImX w1.heap.size w' v r else if i=7 then GMv w1.heap.size w' v zs ps ks f d r else True) (Fin:=fun _ ww=>∃ C,ww.heap[w.heap.size+2]?=some (.cells C 48 (0,0))∧GM w.heap.size ww C zs ps ks f d r∧C.size=16∧Below w.heap.size w ww) rfl (by kernel_rfl) ?hstab (by kernel_rfl) ?hop ?hend ?hdone _ _ ((fun (x0 x1 x2 x3 x4 x5 x6 x7:Value)=>fun (i:Nat)=>if i=0 then x0 else if i=1 then x1 else if i=2 then x2 else if i=3 then x3 else if i=4 then x4 else if i=5 then x5 else if i=6 then x6 else if i=7 then x7 else undef) _ _ _ _ _ _ _ _) _ (by simp) ?none ?ext (by simp)
 case none=>intro i;rw[Array.getD_eq_getD_getElem?,Array.getElem?_replicate];split<;>rfl
 case ext=>exact ApH.start w1 [] _ _ (fun i=>by rw[Array.getD_eq_getD_getElem?,Array.getElem?_replicate];split<;>rfl) ⟨rfl,rfl,rfl,Nat.le_refl _,fun _ _=>rfl⟩
 case hstab=>
  intro j L w9 w' i v _ hM _ _ h;by_cases h1:j=1
  ·subst h1;simp at h ⊢;exact h.below hM
  by_cases h2:j=2
  ·subst h2;simp at h ⊢;exact h.below hM
  by_cases h4:j=4
  ·subst h4;simp at h ⊢;exact h.below hM
  by_cases h6:j=6
  ·subst h6;simp at h ⊢;exact h.below hM
  by_cases h7:j=7
  ·subst h7;simp at h ⊢;exact h.below hM
  simp only[if_neg h1,if_neg h2,if_neg h4,if_neg h6,if_neg h7] at h ⊢;exact h
 case hop=>
  intro i o L t w' hi ho hLi hx hdep K hK;obtain rfl|rfl|rfl|rfl|rfl|rfl|rfl|rfl:i=0∨i=1∨i=2∨i=3∨i=4∨i=5∨i=6∨i=7:=by omega
  all_goals(simp at ho;subst ho)
  all_goals try(have hK':=hK w' _ rfl (hx.step _ _ (Below.refl _ _) (fun h=>absurd h (by decide))) (Below.refl _ _);clear hK;simp[Region.binds] at hdep;rw[if_pos (by rfl)];go_simp;simpa[upd,hdep] using hK')
  ·clear hdep;have hK':=hK w' (.agg #[.slice xa zs.length xc,.slice ya ps.length yc,.int .i64 f,.bool d]) (by simp) (hx.step 0 _ (Below.refl _ _) (fun h=>absurd h (by decide))) (Below.refl _ _);clear hK;rw[if_pos (by rfl)];refine wp_load_row 40 (.tmp 3) rfl (w.heap.size) rfl 40 _ (0,0) _ ((hx.below.block _ (Array.getElem?_eq_some_iff.1 HW.out.b0).1).trans HW.out.b0) Tryz.underlying40 rfl HSD.out ?_;simpa[upd,Act.put] using hK'
  ·have d0:t 0=.agg #[.slice xa zs.length xc,.slice ya ps.length yc,.int .i64 f,.bool d]:=by simpa using(hdep ⟨0,.data⟩ (by simp) rfl).2
   clear hdep;have bw:Below w.heap.size w w':=HW.out.below.trans (hx.below.mono HW.out.below.size);have hsz:w1.heap.size≤w'.heap.size:=hx.below.size;have A:=HCD.out w' bw;have hK':∀ ww v,DvP w1.heap.size ww v zs ps f d→Below w'.heap.size w' ww→K _ ww:=fun ww v hv hb=>hK ww v (by simpa using hv) (hx.step 1 v hb (fun h=>absurd h (by decide))) hb
   clear hK;rw[if_pos (by rfl)];go_simp;try simp only[d0]
   refine A.mono ?_;rintro e w9 ⟨v9,rfl,h9,hb9⟩;have hK2:=hK' w9 v9 (h9.dvp hsz) hb9;clear hK' A h9 hb9;go_simp;simpa[upd,d0] using hK2
  ·clear hdep;have hsz:w1.heap.size≤w'.heap.size:=hx.below.size;have bb:Below w'.heap.size w' (w'.alloc (.cells #[] 5)):=(Below.refl _ _).alloc (Nat.le_refl _) _;have hK':=hK (w'.alloc (.cells #[] 5)) (.slice (some ⟨w'.heap.size,0,none⟩) 0 0) (by simpa using EmS.new 5 w' hsz) (hx.step 2 _ bb (fun h=>absurd h (by decide))) bb;clear hK bb;rw[if_pos (by rfl)];go_simp;simpa[upd] using hK'
  ·have f2:EmS w1.heap.size 5 w' (t 2):=by simpa using(hdep ⟨2,.data⟩ (by simp) rfl).2
   have d3:t 3=.slice za ks.length zc:=by simpa using(hdep ⟨3,.data⟩ (by simp) rfl).2
   clear hdep;have bw:Below w.heap.size w w':=HW.out.below.trans (hx.below.mono HW.out.below.size);have hsz:w1.heap.size≤w'.heap.size:=hx.below.size;obtain⟨B,eB,hB,hrow⟩:=f2;have hK':∀ ww v,KM w1.heap.size ww v ks→Below w'.heap.size w' ww→K _ ww:=fun ww v hv hb=>hK ww v (by simpa using hv) (hx.step 4 v hb (fun h=>absurd h (by decide))) hb
   clear hK;rw[if_pos (by rfl)];refine wp_appE w' (.tmp 9) (.tmp 10) rfl w1.heap.size B eB ⟨EmS.owns 1 hB hrow,B,0,rfl⟩ za ks.length zc ks d3 rfl (HK.out.below bw) HLK.out hsz ?_;intro v' ww h1 h2;have hK2:=hK' ww v' (OwnN.km (.inr h1)) h2;clear hK' h1 h2;simpa[upd,Act.put] using hK2
  ·clear hdep;have hK':=hK w' (.agg #[.bool r.ok,.int .u32 r.g,.int .u32 r.t,.slice aSD nSD cSD,.slice aSU nSU cSU,.slice aF mF cF,.slice aD nD cD,.slice aU nU cU,.int .i64 r.k,.slice aT r.n cT,.int .u32 r.nx]) (by simp) (hx.step 5 _ (Below.refl _ _) (fun h=>absurd h (by decide))) (Below.refl _ _);clear hK;rw[if_pos (by rfl)];refine wp_load_row 36 (.tmp 5) rfl (w.heap.size+1) rfl 36 _ (0,0) _ ((hx.below.block _ (Array.getElem?_eq_some_iff.1 HW.out.b1).1).trans HW.out.b1) Tryz.underlying36 rfl HSI.out ?_;simpa[upd,Act.put] using hK'
  ·have d5:t 5=.agg #[.bool r.ok,.int .u32 r.g,.int .u32 r.t,.slice aSD nSD cSD,.slice aSU nSU cSU,.slice aF mF cF,.slice aD nD cD,.slice aU nU cU,.int .i64 r.k,.slice aT r.n cT,.int .u32 r.nx]:=by simpa using(hdep ⟨5,.data⟩ (by simp) rfl).2
   clear hdep;have bw:Below w.heap.size w w':=HW.out.below.trans (hx.below.mono HW.out.below.size);have hsz:w1.heap.size≤w'.heap.size:=hx.below.size;have A:=HCI.out w' bw;have hK':∀ ww v,ImX w1.heap.size ww v r→Below w'.heap.size w' ww→K _ ww:=fun ww v hv hb=>hK ww v (by simpa using hv) (hx.step 6 v hb (fun h=>absurd h (by decide))) hb
   clear hK;rw[if_pos (by rfl)];go_simp;try simp only[d5]
   refine A.mono ?_;rintro e w9 ⟨v9,rfl,h9,hb9⟩;have hK2:=hK' w9 v9 (h9.mono hsz) hb9;clear hK' A h9 hb9;go_simp;simpa[upd,d5] using hK2
  ·have f1:DvP w1.heap.size w' (t 1) zs ps f d:=by simpa using(hdep ⟨1,.data⟩ (by simp) rfl).2
   have f4:KM w1.heap.size w' (t 4) ks:=by simpa using(hdep ⟨4,.data⟩ (by simp) rfl).2
   have f6:ImX w1.heap.size w' (t 6) r:=by simpa using(hdep ⟨6,.data⟩ (by simp) rfl).2
   clear hdep;obtain⟨C9,hg,da,dc,ca,cc,ka,kc,pSD,kSD,qSD,pSU,kSU,qSU,pF,kF,qF,pD,kD,qD,pU,kU,qU,pT,qT,e1,e4,e6,eC⟩:=gm_make f1 f4 f6;have hsv:GMv w1.heap.size w' (.agg C9) zs ps ks f d r:=⟨_,rfl,hg⟩
   have hK':=hK w' _ (by simpa using hsv) (hx.step 7 _ (Below.refl _ _) (fun h=>absurd h (by decide))) (Below.refl _ _);clear hK hg hsv f1 f4 f6;subst eC;rw[if_pos (by rfl)];go_simp;simpa[upd,e1,e4,e6] using hK'
 case hend=>
  intro o L t w' ho hx hg K hK;simp at ho;subst ho;have f7:GMv w1.heap.size w' (t 7) zs ps ks f d r:=by simpa using(hg 7 (by decide)).2
  clear hg;obtain⟨C,e7,j0⟩:=f7;have hrs:=(hx.below.block _ (Array.getElem?_eq_some_iff.1 HW.out.b2).1).trans HW.out.b2;have hz:=j0.row;have hK':∀ ww,Wr (w.heap.size+2) w' ww→ww.heap[w.heap.size+2]?=some (.cells C 48 (0,0))→K _ ww:=fun ww hw hr=>hK ww undef ⟨C,hr,(j0.keep (Nat.le_of_eq hw.size.symm) (fun k hk _=>hw.block k (by have:=(Array.getElem?_eq_some_iff.1 HW.out.b2).1;omega))).mono (by have:=HW.out.below.size;omega),hz.1,(HW.out.below.trans (hx.below.mono HW.out.below.size)).trans (hw.below (by omega))⟩
  clear hK j0;rw[if_pos (by rfl)];refine wp_store_row 48 (.tmp 6) (.tmp 14) rfl (w.heap.size+2) C rfl e7 48 _ hrs (by rw[hz.1];exact HSG.out) (by rw[hz.1];rfl) hz.2 ?_;have hK2:=hK' _ (Wr.setRow _ _ _) (setRow_heap _ _ _ _ _ _ hrs);clear hK';simpa[upd,Act.put] using hK2
 case hdone=>
  intro t w9 hf;obtain⟨C,hr,hI,hz,hb9⟩:=hf;have HR9:Hid (w9.heap[w.heap.size+2]?=some (.cells C 48 (0,0))):=hr;have HF:Hid (GM w.heap.size w9 C zs ps ks f d r∧Below w.heap.size w w9):=⟨hI,hb9⟩
  have HS9:Hid ((Tryz.prog.info? 48).map (·.size)=some C.size):=by show _=_;rw[hz];exact HSG.out
  clear hr hI hz hb9;go_wp2_with fail;exact bodyPost_ret (v:=.agg C) (results_cell_row rfl _ _ (w.heap.size+2) 48 _ (0,0) _ rfl HR9.out Tryz.underlying48 rfl HS9.out) rfl ⟨_,rfl,HF.out.1,HF.out.2⟩
theorem Tryz.infoPL:(Tryz.prog.info? 190).map (fun i=>(i.zero,i.size,i.bytes))=some (some (.agg #[]),0,0):=by kernel_rfl
theorem run_taNil (xT:TypeId) (w:World):(Instr.typeAssert Value.nilIface xT 190 true).run Tryz.prog w=.ok (.tuple #[.agg #[],.bool false]) w:=by
 obtain⟨i0,hi,hz0,hz1,hz2⟩:=info_parts Tryz.infoPL;simp[Instr.typeAssert,run_underlying Tryz.underlying190,zeroValue,typeInfo,hi,hz0]
theorem run_taYes (xT:TypeId) (w:World):(Instr.typeAssert (.iface 190 (.agg #[])) xT 190 true).run Tryz.prog w=.ok (.tuple #[.agg #[],.bool true]) w:=by
 simp[Instr.typeAssert,run_underlying Tryz.underlying190]
set_option maxHeartbeats 400000 in
set_option maxRecDepth 100000 in
theorem ipl_nil (w:World):Calls Tryz.prog 154 #[.nilIface] w fun e w'=>e=.returned (.bool false)∧Below w.heap.size w w':=by
 have h1:=run_taNil;go_enter Tryz.func154,Tryz.ntmps154;go_wp2
 go_ret
 exact⟨rfl,(Below.refl _ _).alloc (Nat.le_refl _) _⟩
set_option maxHeartbeats 400000 in
set_option maxRecDepth 100000 in
theorem ipl_loss (w:World):Calls Tryz.prog 154 #[lossV] w fun e w'=>e=.returned (.bool true)∧Below w.heap.size w w':=by
 unfold lossV;have h1:=run_taYes;go_enter Tryz.func154,Tryz.ntmps154;go_wp2
 go_ret
 exact⟨rfl,(Below.refl _ _).alloc (Nat.le_refl _) _⟩
theorem arr16 {C:Array Value} (h:C.size=16):∃ c0 c1 c2 c3 c4 c5 c6 c7 c8 c9 c10 c11 c12 c13 c14 c15,C=#[c0,c1,c2,c3,c4,c5,c6,c7,c8,c9,c10,c11,c12,c13,c14,c15]:=by
 match C,h with
 |⟨[c0,c1,c2,c3,c4,c5,c6,c7,c8,c9,c10,c11,c12,c13,c14,c15]⟩,_=>exact⟨c0,c1,c2,c3,c4,c5,c6,c7,c8,c9,c10,c11,c12,c13,c14,c15,rfl⟩
set_option maxRecDepth 100000 in
theorem builtR (c:Int) (C:Array Value) (h:C.size=16):Tryz.prog.built 50 [(0,.int .i64 c),(1,.agg C)]=some (#[.int .i64 c]++C):=by
 obtain⟨c0,c1,c2,c3,c4,c5,c6,c7,c8,c9,c10,c11,c12,c13,c14,c15,rfl⟩:=arr16 h
 kernel_rfl
theorem wp_bR {o:Oper} {a:Act} {w:World} {K:Act→World→Prop} {Q:Exit→Act→World→Prop} (x y:Operand) (ho:o.op=.build 50 #[(0,x),(1,y)]) (c:Int) (C:Array Value) (hx:a.eval x=.int .i64 c) (hy:a.eval y=.agg C) (hC:C.size=16) (h:K (a.put o.dst (.agg (#[.int .i64 c]++C))) w):o.wp Tryz.prog a w K Q:=by
 have e:Tryz.prog.built 50 (#[(0,x),(1,y)].map fun (i,x)=>(i,a.eval x)).toList=some (#[.int .i64 c]++C):=by
  rw[←builtR c C hC,←hx,←hy];simp
 exact wp_build 50 _ ho (by rw[e];rfl) (by rw[e];exact h)
theorem wpList_bR {ops:Array Oper} {rest:List Oper} {o:Oper} {a:Act} {w:World} {Q:Exit→Act→World→Prop} (hg:o.guard=none) (x y:Operand) (ho:o.op=.build 50 #[(0,x),(1,y)]) (c:Int) (C:Array Value) (hx:a.eval x=.int .i64 c) (hy:a.eval y=.agg C) (hC:C.size=16) (h:wpList Tryz.prog ops Q rest (a.put o.dst (.agg (#[.int .i64 c]++C))) w):wpList Tryz.prog ops Q (o::rest) a w:=
 wpList_plain hg fun _ hK=>wp_bR x y ho c C hx hy hC (hK _ _ h)
theorem Tryz.sizeG:(Tryz.prog.info? 48).map (·.size)=some 16:=by kernel_rfl
theorem Tryz.sizeR:(Tryz.prog.info? 50).map (·.size)=some 17:=by kernel_rfl
def zrR:Array Value:=#[.int .i64 0,.slice none 0 0,.slice none 0 0,.int .i64 0,.bool false,.slice none 0 0,.bool false,.int .u32 0,.int .u32 0,.slice none 0 0,.slice none 0 0,.slice none 0 0,.slice none 0 0,.slice none 0 0,.int .i64 0,.slice none 0 0,.int .u32 0]
theorem rtq_of {lo:Nat} {w:World} {C:Array Value} {c:Int} {zs ks:List Int} {ps:List PD} {f:Int} {d:Bool} {r:ImR} (h:GTQ lo w C zs ps ks f d r):∃ X,#[.int .i64 c]++C=X∧RTQ lo w X c zs ps ks f d r:=⟨_,rfl,C,rfl,h⟩
theorem RTQ.put {lo R:Nat} {w:World} {X:Array Value} {c:Int} {zs ks:List Int} {ps:List PD} {f:Int} {d:Bool} {r:ImR} (h:RTQ lo w X c zs ps ks f d r) (hR:R<lo):RTQ R (w.setRow R X) X c zs ps ks f d r:=by
 have hw:=Wr.setRow R w X;exact(h.keep (Nat.le_of_eq hw.size.symm) (fun k hk _=>hw.block k (by omega))).mono (by omega)
set_option maxRecDepth 100000 in
set_option maxHeartbeats 2000000 in
theorem unt_any {lo:Nat} (G:Nat) (C:Array Value) (c:Int) (zs ks:List Int) (f:Int) (d:Bool) (r:ImR) (w:World) (hG:w.heap[G]?=some (.cells C 48 (0,0))) (h:GL lo w C zs ks f d r) (hb:ImLe r) (hz:zs.length≤1048576) (hk:ks.length≤1048576) :
  Calls Tryz.prog 116 #[.pointer (some ⟨G,0,none⟩),.int .i64 c] w fun e w'=>∃ X,e=.returned (.agg X)∧RTQ w.heap.size w' X c zs [] ks f d r∧Below w.heap.size w w':=by
 have HO0:Hid (OE w 50 zrR (w.alloc (.cells zrR 50))):=OE.start _ _ _;have HG:=hid_ofV (And.intro hG h.row.1);have HSG:Hid ((Tryz.prog.info? 48).map (·.size)=some C.size):=by show _=_;rw[h.row.1];exact Tryz.sizeG
 have HCP:=hid_ofV (fun ww (b:Below w.heap.size w ww)=>cpG_any C zs ks f d r ww (h.below b) hb hz hk);have HL:Hid (G<w.heap.size):=(Array.getElem?_eq_some_iff.1 hG).1;clear hG h hb hz hk;go_enter Tryz.func116,Tryz.ntmps116
 go_upto_region 1 with fail
 change Code.wp _ _ _ _ (w.alloc (.cells zrR 50));generalize w.alloc (.cells zrR 50)=w1 at *;have HG1:Hid (w1.heap[G]?=some (.cells C 48 (0,0))):=by show _=_;rw[HO0.out.below.block _ HL.out];exact HG.out.1
 go_wp2_with (first
  |(refine wpList_load_row rfl 48 (.tmp 7) rfl G rfl 48 C (0,0) _ HG1.out Tryz.underlying48 rfl HSG.out ?_)
  |fail)
 refine(HCP.out w1 HO0.out.below).mono ?_;rintro e w2 ⟨C',rfl,g2,hb2⟩;have HO2:=hid_ofV (HO0.out.call hb2);obtain⟨X,hX,hR⟩:=rtq_of (c:=c) (g2.1.gq hb2.size);have HR:=hid_ofV hR;have HX:=hid_ofV (And.intro hX (And.intro g2.1.gl.row.1 HO0.out.lt));have HSX:Hid ((Tryz.prog.info? 50).map (·.size)=some X.size∧zrR.size=X.size∧X.all (·.oneCell')=true):=⟨by rw[hR.row.1];exact Tryz.sizeR,by rw[hR.row.1];rfl,hR.row.2⟩
 clear HO0 HG HSG HCP HL HG1 hb2 g2 hX hR;go_wp2_with (first
  |(refine wpList_bR rfl (.tmp 5) (.tmp 9) rfl c C' rfl rfl HX.out.2.1 ?_;rw[HX.out.1])
  |(refine wpList_store_row rfl 50 (.tmp 4) (.tmp 10) rfl w.heap.size X rfl rfl 50 _ HO2.out.b0 HSX.out.1 HSX.out.2.1 HSX.out.2.2 ?_)
  |fail)
 (try simp only[Exit.inBlock,Exit.then])
 exact bodyPost_ret (v:=.agg X) (results_cell_row rfl _ _ w.heap.size 50 _ (0,0) _ rfl (setRow_heap _ _ _ _ _ _ HO2.out.b0) Tryz.underlying50 rfl HSX.out.1) rfl ⟨_,rfl,HR.out.put HX.out.2.2,HO2.out.below.trans ((Wr.setRow _ _ _).below (Nat.le_refl _))⟩
end Go.Proofs.YthmeoilbmfdhfaaGreat
