import Derived.Test.YthmeoilbmfdhfaaGreatMGqA
open Go.Value renaming slice->UD,int->UE,bool->UF,agg->UN
open Go.IntKind renaming i64->UO,u32->UG
open Go.Obj renaming cells->UP
open Go.Ending renaming returned->UQ
open Go.Ground renaming data->UR
open Option renaming some->UI,none->UJ
open Go renaming World->UK,Value->UL
namespace Go.Proofs.YthmeoilbmfdhfaaGreat
set_option maxHeartbeats 8000000
set_option maxRecDepth 100000
open Go.ChangeShapes Go.WideShapes Go.ChangeAt Go.RowKit
set_option linter.unusedVariables false
section
variable {lo lo':Nat} {w w':UK} {C X:Array UL} {zs ks:List Int} {ps:List PD} {f c:Int} {d:Bool} {r:Dt} {v vd vk vi:UL}
def Ra (lo:Nat) (w:UK) (v:UL) (zs:List Int) (ps:List PD) (f:Int) (d:Bool):Prop:=∃ da dc ca cc B1 U,v=UN #[UD da zs.length dc,UD ca ps.length cc,UE UO f,UF d]/\zs.length<=dc/\EF lo w da zs/\Dq B1 U w ca ps/\lo<=B1/\U<=w.heap.size
theorem FH.dvp {U:Nat} (h:FH lo U w v zs ps f d) (hl:lo'<=lo):Ra lo' w v zs ps f d:=by
 obtain⟨da,dc,ca,cc,B1,e,h1,h2,h3,h4,h5,h6,h7,h8⟩:=h;exact⟨da,dc,ca,cc,B1,U,e,h8,⟨h1,h2,λad e=>AG (h3 ad e)⟩,h7,AK,h6⟩
theorem DR.dvp (h:DR w lo v zs ps f d) (hl:lo'<=lo):Ra lo' w v zs ps f d:=h.mine.dvp hl
theorem Ra.below (h:Ra lo w v zs ps f d) (b:Below w.heap.size w w'):Ra lo w' v zs ps f d:=by
 obtain⟨da,dc,ca,cc,B1,U,e,h1,h2,h3,h4,h5⟩:=h;exact⟨da,dc,ca,cc,B1,U,e,h1,h2.below b,h3.below b,h4,AG b.size⟩
def GM (lo:Nat) (w:UK) (C:Array UL) (zs:List Int) (ps:List PD) (ks:List Int) (f:Int) (d:Bool) (r:Dt):Prop:=∃ da dc ca cc ka kc aSD nSD cSD aSU nSU cSU aF mF cF aD nD cD aU nU cU aT cT B1 U,C=#[UD da zs.length dc,UD ca ps.length cc,UE UO f,UF d,UD ka ks.length kc,UF r.ok,UE UG r.g,UE UG r.t,UD aSD nSD cSD,UD aSU nSU cSU,UD aF mF cF,UD aD nD cD,UD aU nU cU,UE UO r.k,UD aT r.n cT,UE UG r.nx]/\(zs.length<=dc/\mF<=cF)/\EF lo w da zs/\EF lo w ka ks/\KO w aSD aSU aF aD aU aT nSD nSU mF nD nU r/\L6 lo w aSD aSU aF aD aU aT/\Dq B1 U w ca ps/\lo<=B1/\U<=w.heap.size
theorem GM.keep (h:GM lo w C zs ps ks f d r) (hs:w.heap.size<=w'.heap.size) (hb:∀ k,lo<=k->k<w.heap.size->w'.heap[k]?=w.heap[k]?):GM lo w' C zs ps ks f d r:=by
 obtain⟨da,dc,ca,cc,ka,kc,aSD,nSD,cSD,aSU,nSU,cSU,aF,mF,cF,aD,nD,cD,aU,nU,cU,aT,cT,B1,U,e,h1,h2,h3,h4,h5,h8,h9,h10⟩:=h;exact⟨da,dc,ca,cc,ka,kc,aSD,nSD,cSD,aSU,nSU,cSU,aF,mF,cF,aD,nD,cD,aU,nU,cU,aT,cT,B1,U,e,h1,h2.keep hs hb,h3.keep hs hb,h4.keep h5 hs hb,h5.size hs Cw,h8.keep (λk hk hk'=>hb k AK AK) hs,h9,AK⟩
theorem GM.below (h:GM lo w C zs ps ks f d r) (b:Below w.heap.size w w'):GM lo w' C zs ps ks f d r:=h.keep b.size (λk _ hk=>b.block k hk)
theorem GM.mono (h:GM lo w C zs ps ks f d r) (hl:lo'<=lo):GM lo' w C zs ps ks f d r:=by
 obtain⟨da,dc,ca,cc,ka,kc,aSD,nSD,cSD,aSU,nSU,cSU,aF,mF,cF,aD,nD,cD,aU,nU,cU,aT,cT,B1,U,e,h1,h2,h3,h4,h5,h8,h9,h10⟩:=h;exact⟨da,dc,ca,cc,ka,kc,aSD,nSD,cSD,aSU,nSU,cSU,aF,mF,cF,aD,nD,cD,aU,nU,cU,aT,cT,B1,U,e,h1,h2.mono hl,h3.mono hl,h4,h5.size Cw hl,h8,AK,h10⟩
theorem GM.gat (h:GM lo w C zs ps ks f d r):Mo w (UN C) zs ps f d ks r:=by
 obtain⟨da,dc,ca,cc,ka,kc,aSD,nSD,cSD,aSU,nSU,cSU,aF,mF,cF,aD,nD,cD,aU,nU,cU,aT,cT,B1,U,e,h1,h2,h3,h4,h5,h8,h9,h10⟩:=h;exact⟨da,dc,ca,cc,ka,kc,aSD,nSD,cSD,aSU,nSU,cSU,aF,mF,cF,aD,nD,cD,aU,nU,cU,aT,cT,congrArg _ e,h2.1,h8.at_,h1.1,h3.1,h4⟩
theorem GM.row (h:GM lo w C zs ps ks f d r):C.size=16/\C.all (·.oneCell')=true:=by
 obtain⟨da,dc,ca,cc,ka,kc,aSD,nSD,cSD,aSU,nSU,cSU,aF,mF,cF,aD,nD,cD,aU,nU,cU,aT,cT,B1,U,rfl,_⟩:=h;exact⟨rfl,by simp[Value.oneCell']⟩
def Rb (lo:Nat) (w:UK) (v:UL) (zs:List Int) (ps:List PD) (ks:List Int) (f:Int) (d:Bool) (r:Dt):Prop:=∃ C,v=UN C/\GM lo w C zs ps ks f d r
theorem Rb.below (h:Rb lo w v zs ps ks f d r) (b:Below w.heap.size w w'):Rb lo w' v zs ps ks f d r:=by obtain⟨C,e,h⟩:=h;exact⟨C,e,h.below b⟩
def RM (lo:Nat) (w:UK) (X:Array UL) (c:Int) (zs:List Int) (ps:List PD) (ks:List Int) (f:Int) (d:Bool) (r:Dt):Prop:=∃ C,X=#[UE UO c]++C/\GM lo w C zs ps ks f d r
theorem RM.keep (h:RM lo w X c zs ps ks f d r) (hs:w.heap.size<=w'.heap.size) (hb:∀ k,lo<=k->k<w.heap.size->w'.heap[k]?=w.heap[k]?):RM lo w' X c zs ps ks f d r:=by obtain⟨C,e,h⟩:=h;exact⟨C,e,h.keep hs hb⟩
theorem RM.below (h:RM lo w X c zs ps ks f d r) (b:Below w.heap.size w w'):RM lo w' X c zs ps ks f d r:=h.keep b.size (λk _ hk=>b.block k hk)
theorem RM.mono (h:RM lo w X c zs ps ks f d r) (hl:lo'<=lo):RM lo' w X c zs ps ks f d r:=by obtain⟨C,e,h⟩:=h;exact⟨C,e,h.mono hl⟩
theorem RM.row (h:RM lo w X c zs ps ks f d r):X.size=17/\X.all (·.oneCell')=true:=by
 obtain⟨C,rfl,h⟩:=h;refine⟨by rw[Array.size_append,h.row.1];rfl,?_⟩;rw[Array.all_append,h.row.2];simp[Value.oneCell']
def Sq (lo:Nat) (w:UK) (v:UL) (c:Int) (zs:List Int) (ps:List PD) (ks:List Int) (f:Int) (d:Bool) (r:Dt):Prop:=∃ X,v=UN X/\RM lo w X c zs ps ks f d r
theorem Sq.below (h:Sq lo w v c zs ps ks f d r) (b:Below w.heap.size w w'):Sq lo w' v c zs ps ks f d r:=by obtain⟨C,e,h⟩:=h;exact⟨C,e,h.below b⟩
theorem Rc (h1:Ra lo w vd zs ps f d) (h2:KM lo w vk ks) (h3:Mq lo w vi r):∃ C,GM lo w C zs ps ks f d r/\∃ da dc ca cc ka kc aSD nSD cSD aSU nSU cSU aF mF cF aD nD cD aU nU cU aT cT,vd=UN #[UD da zs.length dc,UD ca ps.length cc,UE UO f,UF d]/\vk=UD ka ks.length kc/\vi=UN #[UF r.ok,UE UG r.g,UE UG r.t,UD aSD nSD cSD,UD aSU nSU cSU,UD aF mF cF,UD aD nD cD,UD aU nU cU,UE UO r.k,UD aT r.n cT,UE UG r.nx]/\C=#[UD da zs.length dc,UD ca ps.length cc,UE UO f,UF d,UD ka ks.length kc,UF r.ok,UE UG r.g,UE UG r.t,UD aSD nSD cSD,UD aSU nSU cSU,UD aF mF cF,UD aD nD cD,UD aU nU cU,UE UO r.k,UD aT r.n cT,UE UG r.nx]:=by
 obtain⟨da,dc,ca,cc,B1,U,rfl,q1,q2,q3,q4,q5⟩:=h1;obtain⟨ka,kc,rfl,q6⟩:=h2;obtain⟨aSD,nSD,cSD,aSU,nSU,cSU,aF,mF,cF,aD,nD,cD,aU,nU,cU,aT,cT,rfl,q7,q8,q9⟩:=h3;exact⟨_,⟨da,dc,ca,cc,ka,kc,aSD,nSD,cSD,aSU,nSU,cSU,aF,mF,cF,aD,nD,cD,aU,nU,cU,aT,cT,B1,U,rfl,⟨q1,q9⟩,q2,q6,q7,q8,q3,q4,q5⟩,da,dc,ca,cc,ka,kc,aSD,nSD,cSD,aSU,nSU,cSU,aF,mF,cF,aD,nD,cD,aU,nU,cU,aT,cT,rfl,rfl,rfl,rfl⟩
theorem GM.no (lo:Nat) (w:UK) (hl:lo<=w.heap.size):GM lo w Ci [] [] [] 0 false Et:=
 ⟨UJ,0,UJ,0,UJ,0,UJ,0,0,UJ,0,0,UJ,0,0,UJ,0,0,UJ,0,0,UJ,0,_,_,rfl,⟨AY _,AY _⟩,EF.nil _ _,EF.nil _ _,⟨.inl rfl,.inl rfl,.inl rfl,.inl rfl,.inl rfl,.inl rfl,rfl,rfl,rfl,rfl,rfl,rfl⟩,⟨λ_ e=>(by cases e),λ_ e=>(by cases e),λ_ e=>(by cases e),λ_ e=>(by cases e),λ_ e=>(by cases e),λ_ e=>(by cases e)⟩,.inl rfl,hl,AY _⟩
end
theorem In (vd vi:UL) (zs:List Int) (ps:List PD) (ks:List Int) (f:Int) (d:Bool) (r:Dt) (za:Option Addr) (zc:Nat) (w:UK) (h1:Ei w vd zs ps f d) (h2:At .u8 w za ks) (h3:ME w vi r) (hb:Eu r) (hz:zs.length<=1048576) (hn:ps.length<=1048576) (hps:∀ i,(ps.getD i (0,[])).2.length<=1048576) (hk:ks.length<=1048576) :
  Calls Tryz.prog 56 #[vd,UD za ks.length zc,vi] w λe w'=>∃ C,e=UQ (UN C)/\GM w.heap.size w' C zs ps ks f d r/\Below w.heap.size w w':=by
 have HCD:AP (∀ ww,Below w.heap.size w ww->Calls Tryz.prog 102 #[vd] ww λe w'=>∃ v,e=UQ v/\DR w' ww.heap.size v zs ps f d/\Below ww.heap.size ww w'):=λww b=>Il vd zs ps f d ww (h1.below b) hz hn hps
 have HCI:AP (∀ ww,Below w.heap.size w ww->Calls Tryz.prog 105 #[vi] ww λe w'=>∃ v',e=UQ v'/\Mq ww.heap.size w' v' r/\Below ww.heap.size ww w'):=λww b=>RN vi r ww (ME.belowF h3 b) hb
 have HK:AP (At .u8 w za ks):=h2;have HLK:AP (ks.length<=1048576):=hk;obtain⟨xa,xc,ya,yc,rfl,x1,x2,x3⟩:=h1;obtain⟨aSD,nSD,cSD,aSU,nSU,cSU,aF,mF,cF,aD,nD,cD,aU,nU,cU,aT,cT,rfl,_⟩:=h3;have HSD:AP ((Tryz.prog.info? 40).map (·.size)=UI 4):=by show _=_;kernel_rfl
 have HSI:AP ((Tryz.prog.info? 36).map (·.size)=UI 11):=by show _=_;kernel_rfl
 have HSG:AP ((Tryz.prog.info? 48).map (·.size)=UI 16):=by show _=_;kernel_rfl
 have HW:AP (B3 w 40 36 48 #[UD xa zs.length xc,UD ya ps.length yc,UE UO f,UF d] #[UF r.ok,UE UG r.g,UE UG r.t,UD aSD nSD cSD,UD aSU nSU cSU,UD aF mF cF,UD aD nD cD,UD aU nU cU,UE UO r.k,UD aT r.n cT,UE UG r.nx] Ci (((w.alloc (UP #[UD xa zs.length xc,UD ya ps.length yc,UE UO f,UF d] 40)).alloc (UP #[UF r.ok,UE UG r.g,UE UG r.t,UD aSD nSD cSD,UD aSU nSU cSU,UD aF mF cF,UD aD nD cD,UD aU nU cU,UE UO r.k,UD aT r.n cT,UE UG r.nx] 36)).alloc (UP Ci 48))):=B3.start _ _ _ _ _ _ _;clear x1 x2 x3 h2 hb hz hk hn hps;go_enter Tryz.func56,Tryz.ntmps56;go_wp2_with fail;generalize (((w.alloc (UP #[UD xa zs.length xc,UD ya ps.length yc,UE UO f,UF d] 40)).alloc (UP #[UF r.ok,UE UG r.g,UE UG r.t,UD aSD nSD cSD,UD aSU nSU cSU,UD aF mF cF,UD aD nD cD,UD aU nU cU,UE UO r.k,UD aT r.n cT,UE UG r.nx] 36)).alloc (UP Ci 48))=w1 at *;refine Ae AN ?_;refine DF 8 (λ_ a b=>Below a.heap.size a b) (frame:=(λ(a b c d e f g:UL)=>λ(t:Nat->UL)=>({ tmps:=List.toArray [a,b,c,d,e,f,g,t 0,t 1,t 2,t 3,t 4,t 5,t 6,t 7],defers:=[] }:Act)) _ _ _ _ _ _ _)
  (Ext:=λL u w'=>Fo w1 [] L u w') (Good:=λi L w' v=>if i=0 then v=UN #[UD xa zs.length xc,UD ya ps.length yc,UE UO f,UF d] else if i=1 then Ra w1.heap.size w' v zs ps f d else if i=2 then E3 w1.heap.size 5 w' v else if i=3 then v=UD za ks.length zc else if i=4 then KM w1.heap.size w' v ks else if i=5 then v=UN #[UF r.ok,UE UG r.g,UE UG r.t,UD aSD nSD cSD,UD aSU nSU cSU,UD aF mF cF,UD aD nD cD,UD aU nU cU,UE UO r.k,UD aT r.n cT,UE UG r.nx] else if i=6 then Mq w1.heap.size w' v r else if i=7 then Rb w1.heap.size w' v zs ps ks f d r else True) (Fin:=λ_ ww=>∃ C,ww.heap[w.heap.size+2]?=UI (UP C 48 (0,0))/\GM w.heap.size ww C zs ps ks f d r/\C.size=16/\Below w.heap.size w ww) rfl AN ?hstab AN ?hop ?hend ?hdone _ _ ((λ(x0 x1 x2 x3 x4 x5 x6 x7:UL)=>λ(i:Nat)=>if i=0 then x0 else if i=1 then x1 else if i=2 then x2 else if i=3 then x3 else if i=4 then x4 else if i=5 then x5 else if i=6 then x6 else if i=7 then x7 else undef) _ _ _ _ _ _ _ _) _ AM ?none ?ext AM
 case none=>exact λ_=>FJ
 case ext=>exact Fo.start w1 [] _ _ (λ_=>FJ) ⟨rfl,rfl,rfl,AY _,λ_ _=>rfl⟩
 case hstab=>
  intro j L w9 w' i v _ hM _ _ h;by_cases h1:j=1
  ·subst h1;simp at h |-;exact h.below hM
  by_cases h2:j=2
  ·subst h2;simp at h |-;exact h.below hM
  by_cases h4:j=4
  ·subst h4;simp at h |-;exact h.below hM
  by_cases h6:j=6
  ·subst h6;simp at h |-;exact h.below hM
  by_cases h7:j=7
  ·subst h7;simp at h |-;exact h.below hM
  simp only[if_neg h1,if_neg h2,if_neg h4,if_neg h6,if_neg h7] at h |-;exact h
 case hop=>
  intro i o L t w' hi ho hLi hx hdep K hK;obtain rfl|rfl|rfl|rfl|rfl|rfl|rfl|rfl:i=0\/i=1\/i=2\/i=3\/i=4\/i=5\/i=6\/i=7:=AK
  all_goals(simp at ho;subst ho)
  all_goals try(have hK':=hK w' _ rfl (hx.step _ _ Cs C7) Cs;clear hK;simp[Region.binds] at hdep;rw[AR AO];go_simp;simpa[Cr,hdep] using hK')
  ·clear hdep;have hK':=hK w' (UN #[UD xa zs.length xc,UD ya ps.length yc,UE UO f,UF d]) AM (hx.step 0 _ Cs C7) Cs;clear hK;rw[AR AO];refine BL 40 (.tmp 3) rfl (w.heap.size) rfl 40 _ (0,0) _ ((hx.below.block _ (AQ.1 HW.o.b0).1).trans HW.o.b0) Tryz.underlying40 rfl HSD.o ?_;simpa[Cr,Act.put] using hK'
  ·have d0:t 0=UN #[UD xa zs.length xc,UD ya ps.length yc,UE UO f,UF d]:=by simpa using(hdep ⟨0,UR⟩ AM rfl).2
   clear hdep;have bw:Below w.heap.size w w':=HW.o.below.trans (hx.below.mono HW.o.below.size);have hsz:w1.heap.size<=w'.heap.size:=hx.below.size;have A:=HCD.o w' bw;have hK':∀ ww v,Ra w1.heap.size ww v zs ps f d->Below w'.heap.size w' ww->K _ ww:=λww v hv hb=>hK ww v (by simpa using hv) (hx.step 1 v hb C7) hb
   clear hK;rw[AR AO];go_simp;try simp only[d0]
   refine A.mono ?_;rintro e w9 ⟨v9,rfl,h9,hb9⟩;have hK2:=hK' w9 v9 (h9.dvp hsz) hb9;clear hK' A h9 hb9;go_simp;simpa[Cr,d0] using hK2
  ·clear hdep;have hsz:w1.heap.size<=w'.heap.size:=hx.below.size;have bb:Below w'.heap.size w' (w'.alloc (UP #[] 5)):=Cs.alloc Cw _;have hK':=hK (w'.alloc (UP #[] 5)) (UD (UI ⟨w'.heap.size,0,UJ⟩) 0 0) (by simpa using E3.new 5 w' hsz) (hx.step 2 _ bb C7) bb;clear hK bb;rw[AR AO];go_simp;simpa[Cr] using hK'
  ·have f2:E3 w1.heap.size 5 w' (t 2):=by simpa using(hdep ⟨2,UR⟩ AM rfl).2
   have d3:t 3=UD za ks.length zc:=by simpa using(hdep ⟨3,UR⟩ AM rfl).2
   clear hdep;have bw:Below w.heap.size w w':=HW.o.below.trans (hx.below.mono HW.o.below.size);have hsz:w1.heap.size<=w'.heap.size:=hx.below.size;obtain⟨B,eB,hB,hrow⟩:=f2;have hK':∀ ww v,KM w1.heap.size ww v ks->Below w'.heap.size w' ww->K _ ww:=λww v hv hb=>hK ww v (by simpa using hv) (hx.step 4 v hb C7) hb
   clear hK;rw[AR AO];refine Ik w' (.tmp 9) (.tmp 10) rfl w1.heap.size B eB ⟨E3.owns 1 hB hrow,B,0,rfl⟩ za ks.length zc ks d3 rfl (HK.o.below bw) HLK.o hsz ?_;intro v' ww h1 h2;have hK2:=hK' ww v' (Dd.km (.inr h1)) h2;clear hK' h1 h2;simpa[Cr,Act.put] using hK2
  ·clear hdep;have hK':=hK w' (UN #[UF r.ok,UE UG r.g,UE UG r.t,UD aSD nSD cSD,UD aSU nSU cSU,UD aF mF cF,UD aD nD cD,UD aU nU cU,UE UO r.k,UD aT r.n cT,UE UG r.nx]) AM (hx.step 5 _ Cs C7) Cs;clear hK;rw[AR AO];refine BL 36 (.tmp 5) rfl (w.heap.size+1) rfl 36 _ (0,0) _ ((hx.below.block _ (AQ.1 HW.o.b1).1).trans HW.o.b1) Tryz.underlying36 rfl HSI.o ?_;simpa[Cr,Act.put] using hK'
  ·have d5:t 5=UN #[UF r.ok,UE UG r.g,UE UG r.t,UD aSD nSD cSD,UD aSU nSU cSU,UD aF mF cF,UD aD nD cD,UD aU nU cU,UE UO r.k,UD aT r.n cT,UE UG r.nx]:=by simpa using(hdep ⟨5,UR⟩ AM rfl).2
   clear hdep;have bw:Below w.heap.size w w':=HW.o.below.trans (hx.below.mono HW.o.below.size);have hsz:w1.heap.size<=w'.heap.size:=hx.below.size;have A:=HCI.o w' bw;have hK':∀ ww v,Mq w1.heap.size ww v r->Below w'.heap.size w' ww->K _ ww:=λww v hv hb=>hK ww v (by simpa using hv) (hx.step 6 v hb C7) hb
   clear hK;rw[AR AO];go_simp;try simp only[d5]
   refine A.mono ?_;rintro e w9 ⟨v9,rfl,h9,hb9⟩;have hK2:=hK' w9 v9 (h9.mono hsz) hb9;clear hK' A h9 hb9;go_simp;simpa[Cr,d5] using hK2
  ·have f1:Ra w1.heap.size w' (t 1) zs ps f d:=by simpa using(hdep ⟨1,UR⟩ AM rfl).2
   have f4:KM w1.heap.size w' (t 4) ks:=by simpa using(hdep ⟨4,UR⟩ AM rfl).2
   have f6:Mq w1.heap.size w' (t 6) r:=by simpa using(hdep ⟨6,UR⟩ AM rfl).2
   clear hdep;obtain⟨C9,hg,da,dc,ca,cc,ka,kc,pSD,kSD,qSD,pSU,kSU,qSU,pF,kF,qF,pD,kD,qD,pU,kU,qU,pT,qT,e1,e4,e6,eC⟩:=Rc f1 f4 f6;have hsv:Rb w1.heap.size w' (UN C9) zs ps ks f d r:=⟨_,rfl,hg⟩
   have hK':=hK w' _ (by simpa using hsv) (hx.step 7 _ Cs C7) Cs;clear hK hg hsv f1 f4 f6;subst eC;rw[AR AO];go_simp;simpa[Cr,e1,e4,e6] using hK'
 case hend=>
  intro o L t w' ho hx hg K hK;simp at ho;subst ho;have f7:Rb w1.heap.size w' (t 7) zs ps ks f d r:=by simpa using(hg 7 AL).2
  clear hg;obtain⟨C,e7,j0⟩:=f7;have hrs:=(hx.below.block _ (AQ.1 HW.o.b2).1).trans HW.o.b2;have hz:=j0.row;have hK':∀ ww,Wr (w.heap.size+2) w' ww->ww.heap[w.heap.size+2]?=UI (UP C 48 (0,0))->K _ ww:=λww hw hr=>hK ww undef ⟨C,hr,(j0.keep (Aw hw.size.symm) (λk hk _=>hw.block k (AG (AQ.1 HW.o.b2).1))).mono (AG HW.o.below.size),hz.1,(HW.o.below.trans (hx.below.mono HW.o.below.size)).trans (hw.below AK)⟩
  clear hK j0;rw[AR AO];refine A8 48 (.tmp 6) (.tmp 14) rfl (w.heap.size+2) C rfl e7 48 _ hrs (by rw[hz.1];exact HSG.o) (by rw[hz.1];rfl) hz.2 ?_;have hK2:=hK' _ (Wr.setRow _ _ _) (AB hrs);clear hK';simpa[Cr,Act.put] using hK2
 case hdone=>
  intro t w9 hf;obtain⟨C,hr,hI,hz,hb9⟩:=hf;have HR9:AP (w9.heap[w.heap.size+2]?=UI (UP C 48 (0,0))):=hr;have HF:AP (GM w.heap.size w9 C zs ps ks f d r/\Below w.heap.size w w9):=⟨hI,hb9⟩
  have HS9:AP ((Tryz.prog.info? 48).map (·.size)=UI C.size):=by show _=_;rw[hz];exact HSG.o
  clear hr hI hz hb9;go_wp2_with fail;exact AZ (v:=UN C) (AW rfl _ _ (w.heap.size+2) 48 _ (0,0) _ rfl HR9.o Tryz.underlying48 rfl HS9.o) rfl ⟨_,rfl,HF.o.1,HF.o.2⟩
def N5 (w:UK) (v:UL) (r:Dt):Prop:=ME w v r
theorem N5.below {w w':UK} {v:UL} {r:Dt} (h:N5 w v r) (b:Below w.heap.size w w'):N5 w' v r:=ME.belowF h b
theorem Pw (C:Array UL) (vd:UL) (z0:List Int) (p0:List PD) (f0:Int) (d0:Bool) (zs:List Int) (ps:List PD) (ks:List Int) (f c:Int) (r:Dt) (w:UK) (hg:Mo w (UN C) z0 p0 f0 d0 ks r) (hD:Ei w vd zs ps f true) (hle:Eu r) (hz:zs.length<=1048576) (hn:ps.length<=1048576) (hps:∀ i,(ps.getD i (0,[])).2.length<=1048576) (bz:Cu zs) (bp:∀ i,Cu (ps.getD i (0,[])).2) (hk:ks.length<=1048576) :
  Calls Tryz.prog 114 #[UN C,vd,UE UO c] w λe w'=>∃ X,e=UQ (UN X)/\RM w.heap.size w' X 11 zs ps ks f true r/\Below w.heap.size w w':=by
 obtain⟨da,dc,ca,cc,ka,kc,aSD,nSD,cSD,aSU,nSU,cSU,aF,mF,cF,aD,nD,cD,aU,nU,cU,aT,cT,e,g1,g2,g3,g4,g5⟩:=hg;simp only[Value.agg.injEq] at e;subst e;obtain⟨xa,xc,ya,yc,rfl,x1,x2,x3⟩:=hD;have HGT:AP (∀ ww,Below w.heap.size w ww->∀ vi q,N5 ww vi q->Eu q->Calls Tryz.prog 56 #[UN #[UD xa zs.length xc,UD ya ps.length yc,UE UO f,UF true],UD ka ks.length kc,vi] ww λe w'=>∃ C,e=UQ (UN C)/\GM ww.heap.size w' C zs ps ks f true q/\Below ww.heap.size ww w'):=λww b vi q hvi hq=>In _ vi zs ps ks f true q ka kc ww ⟨xa,xc,ya,yc,rfl,x1.below b,x2.below b,x3⟩ (g4.below b) hvi hq hz hn hps hk
 have HIM:AP (N5 w (UN #[UF r.ok,UE UG r.g,UE UG r.t,UD aSD nSD cSD,UD aSU nSU cSU,UD aF mF cF,UD aD nD cD,UD aU nU cU,UE UO r.k,UD aT r.n cT,UE UG r.nx]) r):=⟨aSD,nSD,cSD,aSU,nSU,cSU,aF,mF,cF,aD,nD,cD,aU,nU,cU,aT,cT,rfl,g5⟩
 have HLE:=Cq hle;have HW:AP (B3 w 48 40 50 #[UD da z0.length dc,UD ca p0.length cc,UE UO f0,UF d0,UD ka ks.length kc,UF r.ok,UE UG r.g,UE UG r.t,UD aSD nSD cSD,UD aSU nSU cSU,UD aF mF cF,UD aD nD cD,UD aU nU cU,UE UO r.k,UD aT r.n cT,UE UG r.nx] #[UD xa zs.length xc,UD ya ps.length yc,UE UO f,UF true] ER (((w.alloc (UP #[UD da z0.length dc,UD ca p0.length cc,UE UO f0,UF d0,UD ka ks.length kc,UF r.ok,UE UG r.g,UE UG r.t,UD aSD nSD cSD,UD aSU nSU cSU,UD aF mF cF,UD aD nD cD,UD aU nU cU,UE UO r.k,UD aT r.n cT,UE UG r.nx] 48)).alloc (UP #[UD xa zs.length xc,UD ya ps.length yc,UE UO f,UF true] 40)).alloc (UP ER 50))):=B3.start _ _ _ _ _ _ _;have HSI:AP ((Tryz.prog.info? 36).map (·.size)=UI 11):=by show _=_;kernel_rfl
 clear x1 x2 x3 g1 g2 g3 g4 g5 hle hz hn hps bz bp hk;go_enter Tryz.func114,Tryz.ntmps114
 go_upto_region 1 with fail
 change Code.wp _ _ _ _ (((w.alloc (UP #[UD da z0.length dc,UD ca p0.length cc,UE UO f0,UF d0,UD ka ks.length kc,UF r.ok,UE UG r.g,UE UG r.t,UD aSD nSD cSD,UD aSU nSU cSU,UD aF mF cF,UD aD nD cD,UD aU nU cU,UE UO r.k,UD aT r.n cT,UE UG r.nx] 48)).alloc (UP #[UD xa zs.length xc,UD ya ps.length yc,UE UO f,UF true] 40)).alloc (UP ER 50));generalize (((w.alloc (UP #[UD da z0.length dc,UD ca p0.length cc,UE UO f0,UF d0,UD ka ks.length kc,UF r.ok,UE UG r.g,UE UG r.t,UD aSD nSD cSD,UD aSU nSU cSU,UD aF mF cF,UD aD nD cD,UD aU nU cU,UE UO r.k,UD aT r.n cT,UE UG r.nx] 48)).alloc (UP #[UD xa zs.length xc,UD ya ps.length yc,UE UO f,UF true] 40)).alloc (UP ER 50))=w1 at *;have k3:w1.cell? ⟨w.heap.size+1,3,UJ⟩=UI (UF true):=by rw[AA HW.o.b1 _];rfl
 have k4:w1.cell? ⟨w.heap.size,4,UJ⟩=UI (UD ka ks.length kc):=by rw[AA HW.o.b0 _];rfl
 have HRG:AP (w1.rangeAt w.heap.size 5 [UF r.ok,UE UG r.g,UE UG r.t,UD aSD nSD cSD,UD aSU nSU cSU,UD aF mF cF,UD aD nD cD,UD aU nU cU,UE UO r.k,UD aT r.n cT,UE UG r.nx]):=FP HW.o.b0 5 _ rfl;go_wp2_with (first
  |(refine Ab rfl 40 (.tmp 4) rfl (w.heap.size+1) rfl 40 _ (0,0) _ HW.o.b1 Tryz.underlying40 rfl Tryz.sizeDv ?_)
  |(refine wpList_load_mid rfl 36 (.tmp 12) rfl w.heap.size 5 rfl _ _ HRG.o Tryz.underlying36 rfl HSI.o ?_)
  |fail)
 refine(HGT.o w1 HW.o.below _ r (HIM.o.below HW.o.below) HLE.o).mono ?_;rintro e w3 ⟨C9,rfl,g9,b9⟩;clear k3 k4;have hz9:=g9.row;have HR3:AP (w3.heap[w.heap.size+2]?=UI (UP ER 50 (0,0))):=(b9.block _ (AQ.1 HW.o.b2).1).trans HW.o.b2;obtain⟨X9,hX⟩:∃ X9:Array UL,#[UE UO 11]++C9=X9:=⟨_,rfl⟩
 have hR9:RM w1.heap.size w3 X9 11 zs ps ks f true r:=⟨C9,hX.symm,g9⟩
 have HX9:AP (C9.size=16/\(Tryz.prog.info? 50).map (·.size)=UI X9.size/\ER.size=X9.size/\X9.all (·.oneCell')=true):=⟨hz9.1,by rw[hR9.row.1];exact Tryz.sizeR,by rw[hR9.row.1];rfl,hR9.row.2⟩
 have HF:AP (RM w1.heap.size w3 X9 11 zs ps ks f true r/\Below w.heap.size w w3/\w.heap.size+2<w1.heap.size):=⟨hR9,HW.o.below.trans (b9.mono HW.o.below.size),(AQ.1 HW.o.b2).1⟩
 clear g9 hR9 hz9 b9;go_wp2_with (first
  |(refine EK rfl _ (.tmp 14) rfl 11 C9 rfl rfl HX9.o.1 ?_;rw[hX])
  |(refine AC 50 (.tmp 6) (.tmp 15) (w.heap.size+2) X9 50 HR3.o HX9.o.2.1 HX9.o.2.2.1 HX9.o.2.2.2 ?_)
  |fail)
 (try simp only[Exit.inBlock,Exit.then])
 exact AZ (v:=UN X9) (AW rfl _ _ (w.heap.size+2) 50 _ (0,0) _ rfl (AB HR3.o) Tryz.underlying50 rfl HX9.o.2.1) rfl ⟨_,rfl,(HF.o.1.keep (Aw (Wr.setRow _ _ _).size.symm) (λk hk _=>(Wr.setRow _ _ _).block k (AG HF.o.2.2))).mono (AG HF.o.2.2),HF.o.2.1.trans ((Wr.setRow _ _ _).below AK)⟩
theorem Px (C:Array UL) (vd:UL) (z0:List Int) (p0:List PD) (f0:Int) (d0:Bool) (zs:List Int) (ps:List PD) (ks:List Int) (f c:Int) (r:Dt) (w:UK) (hg:Mo w (UN C) z0 p0 f0 d0 ks r) (hD:Ei w vd zs ps f false) (hle:Eu r) (hz:zs.length<=1048576) (hn:ps.length<=1048576) (hps:∀ i,(ps.getD i (0,[])).2.length<=1048576) (bz:Cu zs) (bp:∀ i,Cu (ps.getD i (0,[])).2) (hk:ks.length<=1048576) :
  Calls Tryz.prog 114 #[UN C,vd,UE UO c] w λe w'=>∃ X,e=UQ (UN X)/\RM w.heap.size w' X c zs ps ks f false (Ez zs ps f)/\Below w.heap.size w w':=by
 obtain⟨da,dc,ca,cc,ka,kc,aSD,nSD,cSD,aSU,nSU,cSU,aF,mF,cF,aD,nD,cD,aU,nU,cU,aT,cT,e,g1,g2,g3,g4,g5⟩:=hg;simp only[Value.agg.injEq] at e;subst e;obtain⟨xa,xc,ya,yc,rfl,x1,x2,x3⟩:=hD;have HGT:AP (∀ ww,Below w.heap.size w ww->∀ vi q,N5 ww vi q->Eu q->Calls Tryz.prog 56 #[UN #[UD xa zs.length xc,UD ya ps.length yc,UE UO f,UF false],UD ka ks.length kc,vi] ww λe w'=>∃ C,e=UQ (UN C)/\GM ww.heap.size w' C zs ps ks f false q/\Below ww.heap.size ww w'):=λww b vi q hvi hq=>In _ vi zs ps ks f false q ka kc ww ⟨xa,xc,ya,yc,rfl,x1.below b,x2.below b,x3⟩ (g4.below b) hvi hq hz hn hps hk
 have HLD:AP (∀ ww,Below w.heap.size w ww->Calls Tryz.prog 7 #[UN #[UD xa zs.length xc,UD ya ps.length yc,UE UO f,UF false]] ww λe w'=>∃ v,e=UQ v/\N5 w' v (Ez zs ps f)/\Below ww.heap.size ww w'):=λww b=>Mn xa ya _ xc _ yc f false zs ps ww rfl rfl (x1.below b) (x2.below b) x3 hz hn hps bz bp
 have HLE:AP (Eu (Ez zs ps f)):=I7 bz bp;have HW:AP (B3 w 48 40 50 #[UD da z0.length dc,UD ca p0.length cc,UE UO f0,UF d0,UD ka ks.length kc,UF r.ok,UE UG r.g,UE UG r.t,UD aSD nSD cSD,UD aSU nSU cSU,UD aF mF cF,UD aD nD cD,UD aU nU cU,UE UO r.k,UD aT r.n cT,UE UG r.nx] #[UD xa zs.length xc,UD ya ps.length yc,UE UO f,UF false] ER (((w.alloc (UP #[UD da z0.length dc,UD ca p0.length cc,UE UO f0,UF d0,UD ka ks.length kc,UF r.ok,UE UG r.g,UE UG r.t,UD aSD nSD cSD,UD aSU nSU cSU,UD aF mF cF,UD aD nD cD,UD aU nU cU,UE UO r.k,UD aT r.n cT,UE UG r.nx] 48)).alloc (UP #[UD xa zs.length xc,UD ya ps.length yc,UE UO f,UF false] 40)).alloc (UP ER 50))):=B3.start _ _ _ _ _ _ _;clear x1 x2 x3 g1 g2 g3 g4 g5 hle hz hn hps bz bp hk;go_enter Tryz.func114,Tryz.ntmps114
 go_upto_region 1 with fail
 change Code.wp _ _ _ _ (((w.alloc (UP #[UD da z0.length dc,UD ca p0.length cc,UE UO f0,UF d0,UD ka ks.length kc,UF r.ok,UE UG r.g,UE UG r.t,UD aSD nSD cSD,UD aSU nSU cSU,UD aF mF cF,UD aD nD cD,UD aU nU cU,UE UO r.k,UD aT r.n cT,UE UG r.nx] 48)).alloc (UP #[UD xa zs.length xc,UD ya ps.length yc,UE UO f,UF false] 40)).alloc (UP ER 50));generalize (((w.alloc (UP #[UD da z0.length dc,UD ca p0.length cc,UE UO f0,UF d0,UD ka ks.length kc,UF r.ok,UE UG r.g,UE UG r.t,UD aSD nSD cSD,UD aSU nSU cSU,UD aF mF cF,UD aD nD cD,UD aU nU cU,UE UO r.k,UD aT r.n cT,UE UG r.nx] 48)).alloc (UP #[UD xa zs.length xc,UD ya ps.length yc,UE UO f,UF false] 40)).alloc (UP ER 50))=w1 at *;have k3:w1.cell? ⟨w.heap.size+1,3,UJ⟩=UI (UF false):=by rw[AA HW.o.b1 _];rfl
 have k4:∀ w',Below w1.heap.size w1 w'->w'.cell? ⟨w.heap.size,4,UJ⟩=UI (UD ka ks.length kc):=λw' b=>by rw[Bg w' w.heap.size 4 _ _ _ ((b.block _ (AQ.1 HW.o.b0).1).trans HW.o.b0)];rfl
 go_wp2_with fail;clear k3;refine Ae AN ?_;refine DF 8 (λ_ a b=>Below a.heap.size a b) (frame:=(λ(a b c d e f g h i j k l m n o p:UL)=>λ(t:Nat->UL)=>({ tmps:=List.toArray [a,b,c,d,e,f,g,h,i,j,k,l,m,n,o,p,t 0,t 1,t 2,t 3,t 4,t 5,t 6,t 7],defers:=[] }:Act)) _ _ _ _ _ _ _ _ _ _ _ _ _ _ _ _)
  (Ext:=λL u w'=>Fo w1 [] L u w') (Good:=λi L w' v=>if i=0 then v=UE UO c else if i=1 then v=UN #[UD xa zs.length xc,UD ya ps.length yc,UE UO f,UF false] else if i=2 then v=.pointer (UI ⟨w.heap.size,4,UJ⟩) else if i=3 then v=UD ka ks.length kc else if i=4 then v=UN #[UD xa zs.length xc,UD ya ps.length yc,UE UO f,UF false] else if i=5 then N5 w' v (Ez zs ps f) else if i=6 then Rb w1.heap.size w' v zs ps ks f false (Ez zs ps f) else if i=7 then Sq w1.heap.size w' v c zs ps ks f false (Ez zs ps f) else True) (Fin:=λ_ ww=>∃ X,ww.heap[w.heap.size+2]?=UI (UP X 50 (0,0))/\RM w.heap.size ww X c zs ps ks f false (Ez zs ps f)/\X.size=17/\Below w.heap.size w ww) rfl AN ?hstab AN ?hop ?hend ?hdone _ _ ((λ(x0 x1 x2 x3 x4 x5 x6 x7:UL)=>λ(i:Nat)=>if i=0 then x0 else if i=1 then x1 else if i=2 then x2 else if i=3 then x3 else if i=4 then x4 else if i=5 then x5 else if i=6 then x6 else if i=7 then x7 else undef) _ _ _ _ _ _ _ _) _ AM ?none ?ext AM
 case none=>exact λ_=>FJ
 case ext=>exact Fo.start w1 [] _ _ (λ_=>FJ) ⟨rfl,rfl,rfl,AY _,λ_ _=>rfl⟩
 case hstab=>
  intro j L w9 w' i v _ hM _ _ h;by_cases h5:j=5
  ·subst h5;simp at h |-;exact h.below hM
  by_cases h6:j=6
  ·subst h6;simp at h |-;exact h.below hM
  by_cases h7:j=7
  ·subst h7;simp at h |-;exact h.below hM
  simp only[if_neg h5,if_neg h6,if_neg h7] at h |-;exact h
 case hop=>
  intro i o L t w' hi ho hLi hx hdep K hK;obtain rfl|rfl|rfl|rfl|rfl|rfl|rfl|rfl:i=0\/i=1\/i=2\/i=3\/i=4\/i=5\/i=6\/i=7:=AK
  all_goals(simp at ho;subst ho)
  all_goals try(have hK':=hK w' _ rfl (hx.step _ _ Cs C7) Cs;clear hK;simp[Region.binds] at hdep;rw[AR AO];go_simp;simpa[Cr,hdep] using hK')
  ·clear hdep;have hK':=hK w' (UN #[UD xa zs.length xc,UD ya ps.length yc,UE UO f,UF false]) AM (hx.step 1 _ Cs C7) Cs;clear hK;rw[AR AO];refine BL 40 (.tmp 4) rfl (w.heap.size+1) rfl 40 _ (0,0) _ ((hx.below.block _ (AQ.1 HW.o.b1).1).trans HW.o.b1) Tryz.underlying40 rfl Tryz.sizeDv ?_;simpa[Cr,Act.put] using hK'
  ·have d2:t 2=.pointer (UI ⟨w.heap.size,4,UJ⟩):=by simpa using(hdep ⟨2,UR⟩ AM rfl).2
   clear hdep;have hk9:=k4 w' hx.below;have hK':=hK w' (UD ka ks.length kc) AM (hx.step 3 _ Cs C7) Cs;clear hK;rw[AR AO];go_simp;simpa[Cr,d2] using hK'
  ·clear hdep;have hK':=hK w' (UN #[UD xa zs.length xc,UD ya ps.length yc,UE UO f,UF false]) AM (hx.step 4 _ Cs C7) Cs;clear hK;rw[AR AO];refine BL 40 (.tmp 4) rfl (w.heap.size+1) rfl 40 _ (0,0) _ ((hx.below.block _ (AQ.1 HW.o.b1).1).trans HW.o.b1) Tryz.underlying40 rfl Tryz.sizeDv ?_;simpa[Cr,Act.put] using hK'
  ·have d4:t 4=UN #[UD xa zs.length xc,UD ya ps.length yc,UE UO f,UF false]:=by simpa using(hdep ⟨4,UR⟩ AM rfl).2
   clear hdep;have bw:Below w.heap.size w w':=HW.o.below.trans (hx.below.mono HW.o.below.size);have A:=HLD.o w' bw;have hK':∀ ww v,N5 ww v (Ez zs ps f)->Below w'.heap.size w' ww->K _ ww:=λww v hv hb=>hK ww v (by simpa using hv) (hx.step 5 v hb C7) hb
   clear hK;rw[AR AO];go_simp;try simp only[d4]
   refine A.mono ?_;rintro e w9 ⟨v9,rfl,h9,hb9⟩;have hK2:=hK' w9 v9 h9 hb9;clear hK' A h9 hb9;go_simp;simpa[Cr,d4] using hK2
  ·have d1:t 1=UN #[UD xa zs.length xc,UD ya ps.length yc,UE UO f,UF false]:=by simpa using(hdep ⟨1,UR⟩ AM rfl).2
   have d3:t 3=UD ka ks.length kc:=by simpa using(hdep ⟨3,UR⟩ AM rfl).2
   have f5:N5 w' (t 5) (Ez zs ps f):=by simpa using(hdep ⟨5,UR⟩ AM rfl).2
   clear hdep;have bw:Below w.heap.size w w':=HW.o.below.trans (hx.below.mono HW.o.below.size);have hsz:w1.heap.size<=w'.heap.size:=hx.below.size;have A:=HGT.o w' bw (t 5) (Ez zs ps f) f5 HLE.o;have hK':∀ ww v,Rb w1.heap.size ww v zs ps ks f false (Ez zs ps f)->Below w'.heap.size w' ww->K _ ww:=λww v hv hb=>hK ww v (by simpa using hv) (hx.step 6 v hb C7) hb
   clear hK;rw[AR AO];go_simp;try simp only[d1,d3]
   refine A.mono ?_;rintro e w9 ⟨C9,rfl,h9,hb9⟩;have hK2:=hK' w9 (UN C9) ⟨C9,rfl,h9.mono hsz⟩ hb9;clear hK' A h9 hb9;go_simp;simpa[Cr,d1,d3] using hK2
  ·have d0:t 0=UE UO c:=by simpa using(hdep ⟨0,UR⟩ AM rfl).2
   have f6:Rb w1.heap.size w' (t 6) zs ps ks f false (Ez zs ps f):=by simpa using(hdep ⟨6,UR⟩ AM rfl).2
   clear hdep;obtain⟨C,e6,hG⟩:=f6;have hsv:Sq w1.heap.size w' (UN (#[UE UO c]++C)) c zs ps ks f false (Ez zs ps f):=⟨_,rfl,C,rfl,hG⟩
   have hK':=hK w' _ (by simpa using hsv) (hx.step 7 _ Cs C7) Cs;clear hK hsv;rw[AR AO];refine Rw _ _ rfl c C d0 e6 hG.row.1 ?_;clear hG;simpa[Cr,Act.put] using hK'
 case hend=>
  intro o L t w' ho hx hg K hK;simp at ho;subst ho;have f7:Sq w1.heap.size w' (t 7) c zs ps ks f false (Ez zs ps f):=by simpa using(hg 7 AL).2
  clear hg;obtain⟨X,e7,j0⟩:=f7;have hz:=j0.row;have hrs:=(hx.below.block _ (AQ.1 HW.o.b2).1).trans HW.o.b2;have hK':∀ ww,Wr (w.heap.size+2) w' ww->ww.heap[w.heap.size+2]?=UI (UP X 50 (0,0))->K _ ww:=λww hw hr=>hK ww undef ⟨X,hr,(j0.keep (Aw hw.size.symm) (λk hk _=>hw.block k (AG (AQ.1 HW.o.b2).1))).mono (AG HW.o.below.size),hz.1,(HW.o.below.trans (hx.below.mono HW.o.below.size)).trans (hw.below AK)⟩
  clear hK j0;rw[AR AO];refine A8 50 (.tmp 6) (.tmp 23) rfl (w.heap.size+2) X rfl e7 50 _ hrs (by rw[hz.1];exact Tryz.sizeR) (by rw[hz.1];rfl) hz.2 ?_;have hK2:=hK' _ (Wr.setRow _ _ _) (AB hrs);clear hK';simpa[Cr,Act.put] using hK2
 case hdone=>
  intro t w9 hf;obtain⟨X,hr,hI,hz,hb9⟩:=hf;have HR9:AP (w9.heap[w.heap.size+2]?=UI (UP X 50 (0,0))):=hr;have HF:AP (RM w.heap.size w9 X c zs ps ks f false (Ez zs ps f)/\Below w.heap.size w w9):=⟨hI,hb9⟩
  have HS9:AP ((Tryz.prog.info? 50).map (·.size)=UI X.size):=by show _=_;rw[hz];exact Tryz.sizeR
  clear hr hI hz hb9 k4;go_wp2_with fail;exact AZ (v:=UN X) (AW rfl _ _ (w.heap.size+2) 50 _ (0,0) _ rfl HR9.o Tryz.underlying50 rfl HS9.o) rfl ⟨_,rfl,HF.o.1,HF.o.2⟩
theorem Rd (C:Array UL) (vd:UL) (z0:List Int) (p0:List PD) (f0:Int) (d0:Bool) (o:DO) (ks:List Int) (c:Int) (r:Dt) (w:UK) (hg:Mo w (UN C) z0 p0 f0 d0 ks r) (hD:Ei w vd o.1 o.2.1 o.2.2.1 o.2.2.2) (hle:Eu r) (hz:o.1.length<=1048576) (hn:o.2.1.length<=1048576) (hps:∀ i,(o.2.1.getD i (0,[])).2.length<=1048576) (bz:Cu o.1) (bp:∀ i,Cu (o.2.1.getD i (0,[])).2) (hk:ks.length<=1048576) :
  Calls Tryz.prog 114 #[UN C,vd,UE UO c] w λe w'=>∃ X,e=UQ (UN X)/\RM w.heap.size w' X (TM c o) o.1 o.2.1 ks o.2.2.1 o.2.2.2 (SR r o)/\Below w.heap.size w w':=by
 obtain⟨zs,ps,f,d⟩:=o;cases d with
 |true=>exact Pw C vd z0 p0 f0 d0 zs ps ks f c r w hg hD hle hz hn hps bz bp hk
 |false=>exact Px C vd z0 p0 f0 d0 zs ps ks f c r w hg hD hle hz hn hps bz bp hk
end Go.Proofs.YthmeoilbmfdhfaaGreat
