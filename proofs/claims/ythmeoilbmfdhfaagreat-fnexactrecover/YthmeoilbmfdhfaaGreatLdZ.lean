import Derived.Test.YthmeoilbmfdhfaaGreatMLdM
import Derived.Test.YthmeoilbmfdhfaaGreatLdY
open Go.Value renaming slice->UD,int->UE,pointer->UM,bool->UF,agg->UN
open Go.IntKind renaming i64->UO,u32->UG
open Go.Obj renaming cells->UP
open Go.Ending renaming returned->UQ
open Go.Operand renaming tmp->UT
open Option renaming some->UI,none->UJ
open Go renaming World->UK
namespace Go.Proofs.YthmeoilbmfdhfaaGreat
set_option maxHeartbeats 8000000
set_option maxRecDepth 100000
open Go.ChangeShapes Go.WideShapes Go.ChangeAt Go.RowKit
set_option linter.unusedVariables false
def ME (w:UK) (v:Value) (r:Dt):Prop:=∃ aSD nSD cSD aSU nSU cSU aF mF cF aD nD cD aU nU cU aT cT,
 v=UN #[UF r.ok,UE UG r.g,UE UG r.t,UD aSD nSD cSD,UD aSU nSU cSU,UD aF mF cF,UD aD nD cD,UD aU nU cU,UE UO r.k,UD aT r.n cT,UE UG r.nx]/\
 At UO w aSD r.sD/\At UO w aSU r.sU/\FC w aF r.F/\At UO w aD r.D/\At UO w aU r.U/\At UO w aT r.T/\r.sD.length=nSD/\r.sU.length=nSU/\r.F.length=mF*4/\r.D.length=nD/\r.U.length=nU/\r.T.length=r.n*2
theorem ME.no (w:UK):ME w (UN Cg) Et:=
 ⟨UJ,0,0,UJ,0,0,UJ,0,0,UJ,0,0,UJ,0,0,UJ,0,rfl,.inl rfl,.inl rfl,.inl rfl,.inl rfl,.inl rfl,.inl rfl,rfl,rfl,rfl,rfl,rfl,rfl⟩
theorem At.wrL {R:Nat} {w w0 w':UK} {a:Option Addr} {zs:List Int} (h:At UO w a zs) (l:De (R+1) w0 a) (hw:Wr R w w'):At UO w' a zs:=
 h.keepT (by rw[hw.size];exact AY _) (λad e _=>hw.block _ (AG (l ad e).1))
theorem FW.fatS {lo:Nat} {w:UK} {g m c:Nat} {F:List Int} (h:FW lo w (UD (UI ⟨g,0,UJ⟩) m c) F):FC w (UI ⟨g,0,UJ⟩) F:=by
 obtain⟨g',m',c',e,h1,h2,h3,h4,h5⟩:=h;injection e with e1
 injection e1 with e1
 injection e1 with e1
 subst e1;exact .inr ⟨g,0,rfl,h4,λi hi=>by rw[Ak];exact h5 i hi⟩
theorem Pg {zs:List Int} {ps:List PD} {A B:K6} (hA:Gx zs ps 0=A) (hB:Gx zs ps 1=B):((!A.ok && !B.ok)=true->(Eb zs ps 2).ok=false)/\((!A.ok && !B.ok)=false->(Eb zs ps 2).ok=true/\Eb zs ps 2=if(!A.ok || (B.ok && decide (A.g<B.g)))=true then B else A):=by
 have h1:Eb zs ps 1=if A.ok=true then A else Fg:=by
  show(if _ then _ else _)=_
  rw[hA];cases h:A.ok with
  |false=>simp[Eb]
  |true=>rw[AR ⟨rfl,.inl rfl⟩];simp
 have h2:Eb zs ps 2=if B.ok=true/\((Eb zs ps 1).ok=false\/(Eb zs ps 1).g<B.g) then B else Eb zs ps 1:=by
  show(if _ then _ else _)=_
  rw[hB]
 rw[h2,h1];cases ha:A.ok<;>cases hb:B.ok<;>simp[ha,hb,Fg]
 by_cases hg:A.g<B.g
 ·simp[hg,hb]
 ·simp[hg,ha]
theorem EY.wr {w wr w':UK} {cs zr:Array Value} {T:TypeId} {R:Nat} (h:EY w cs zr T wr) (hw:Wr R wr w') (hR:w.heap.size+2<=R):EY w cs zr T w':=
 ⟨h.bel.trans (hw.below AK),by rw[hw.block _ AK];exact h.dev,by rw[hw.block _ AK];exact h.res⟩
theorem Ph {lo:Nat} {w:UK} {k:Int} {D U:List Int} {pD pU pT:Option Addr} {lD qD lU qU qT:Nat} (i1:Iow lo w (UD pD lD qD) D) (i2:Iow lo w (UD pU lU qU) U) (i3:DN lo w (UD pT 0 qT) [] 0):El lo w (UN #[UF true,UD pD lD qD,UD pU lU qU,UE UO k,UD pT 0 qT]) ⟨true,D,U,k,[],0⟩:=by
 obtain⟨h1,h2,h3⟩:=i1.sat;obtain⟨h4,h5,h6⟩:=i2.sat;obtain⟨h7,h8,h9⟩:=i3.tapV.sat;obtain⟨c1,c2⟩:=i3.cap;exact⟨pD,lD,qD,pU,lU,qU,pT,0,qT,rfl,h1.at_,h4.at_,h7.at_,h2,h5,rfl,h3,h6,h9,c1,c2⟩
def Tq (lo NC:Nat) (w:UK) (s:K6):Prop:=∃ aD nD cD aU nU cU,w.heap[NC]?=UI (UP #[UE UG s.g,UE UG s.t,UD aD nD cD,UD aU nU cU] 30 (0,0))/\At UO w aD s.D/\At UO w aU s.U/\s.D.length=nD/\s.U.length=nU/\De lo w aD/\De lo w aU
theorem Mn (a x:Option Addr) (Ln c m cx:Nat) (f:Int) (d:Bool) (zs:List Int) (ps:List PD) (w:UK) (hl:zs.length=Ln) (hm:ps.length=m) (hA:At .u8 w a zs) (hP:FY w x ps) (hc:Ln<=c) (hL:Ln<=1048576) (hM:m<=1048576) (hps:∀ i,(ps.getD i (0,[])).2.length<=1048576) (bz:Cu zs) (bp:∀ i,Cu (ps.getD i (0,[])).2) :
  Calls Tryz.prog 7 #[UN #[UD a Ln c,UD x m cx,UE UO f,UF d]] w λe w'=>∃ v,e=UQ v/\ME w' v (Ez zs ps f)/\Below w.heap.size w w':=by
 have HE0:=Cp (EY.start w #[UD a Ln c,UD x m cx,UE UO f,UF d] Cg 36);have HSD:AP ((Tryz.prog.info? 40).map (·.size)=UI 4):=by show _=_;kernel_rfl
 have HSI:AP ((Tryz.prog.info? 36).map (·.size)=UI 11):=by show _=_;kernel_rfl
 have HSR:AP ((Tryz.prog.info? 63).map (·.size)=UI 5):=by show _=_;kernel_rfl
 have HSN:AP ((Tryz.prog.info? 30).map (·.size)=UI 4):=by show _=_;kernel_rfl
 have HSS:AP ((Tryz.prog.info? 34).map (·.size)=UI 4):=by show _=_;kernel_rfl
 have HSA:AP ((Tryz.prog.info? 68).map (·.size)=UI 5):=by show _=_;kernel_rfl
 have HV:=Cp (λww (b:Below w.heap.size w ww)=>Fv (UN #[UD a Ln c,UD x m cx,UE UO f,UF d]) zs ps f d ww ⟨a,c,x,cx,by rw[hl,hm],hA.below b,hP.below b,by rw[hl];exact hc⟩ AK AK hps);have HFF:=Cp (λ(hv:C5 Ln ps f=true)=>(⟨hl,hm,hv,hc,bz,bp⟩:JF Ln c m f zs ps));have HIG:AP (Ez zs ps f=if C5 Ln ps f=true then Pa zs ps (Ln/64-4) else Et):=by show _=_;unfold Ez;rw[hl]
 have HAP:=Cp (Ac hA (Ac hP hps));clear hA hP hps bz bp;go_enter Tryz.func7,Tryz.ntmps7
 go_upto_region 1 with fail
 generalize (w.alloc (UP #[UD a Ln c,UD x m cx,UE UO f,UF d] 40)).alloc (UP Cg 36)=w0 at *;go_wp2_with (first
  |(refine Ab rfl 40 (UT 1) rfl w.heap.size rfl 40 _ (0,0) _ HE0.o.dev Tryz.underlying40 rfl HSD.o ?_)
  |fail)
 refine(HV.o w0 HE0.o.bel).mono ?_;rintro e w1 ⟨rfl,b1⟩;rw[hl];have HE1:=Cp (HE0.o.below b1);clear HE0 HV b1;cases hv:C5 Ln ps f with
 |false=>
  have HI:AP (Ez zs ps f=Et):=by show _=_;rw[HIG.o,hv];rfl
  clear HIG HFF HAP;go_wp2_with (first
   |(refine AC 36 (UT 2) (UT 11) (w.heap.size+1) Cg 36 HE1.o.res HSI.o rfl (by simp[Value.oneCell']) ?_)
   |fail)
  (try simp only[Exit.inBlock,Exit.then])
  exact AZ (v:=UN Cg) (AW rfl _ _ (w.heap.size+1) 36 _ (0,0) _ rfl (AB HE1.o.res) Tryz.underlying36 rfl HSI.o) rfl ⟨_,rfl,by rw[HI.o];exact ME.no _,HE1.o.bel.trans ((Wr.setRow _ _ _).below (Br _))⟩
 |true=>
  have F0:=HFF.o hv;have HI:AP (Ez zs ps f=Pa zs ps (Ln/64-4)):=by show _=_;rw[HIG.o,AR hv]
  have HSL:AP (∀ ww,Below w.heap.size w ww->(Calls Tryz.prog 28 #[UN #[UD a Ln c,UD x m cx,UE UO f,UF d],UE UO 0] ww λe w'=>∃ v,e=UQ v/\I0 ww.heap.size w' v (Gx zs ps 0)/\Below ww.heap.size ww w')/\(Calls Tryz.prog 28 #[UN #[UD a Ln c,UD x m cx,UE UO f,UF d],UE UO 1] ww λe w'=>∃ v,e=UQ v/\I0 ww.heap.size w' v (Gx zs ps 1)/\Below ww.heap.size ww w')):=
   λww b=>⟨LL a x Ln c m cx f d zs ps ww F0 (HAP.o.1.below b) (HAP.o.2.1.below b) hL HAP.o.2.2 0 AL,LL a x Ln c m cx f d zs ps ww F0 (HAP.o.1.below b) (HAP.o.2.1.below b) hL HAP.o.2.2 1 AL⟩
  have HJ:AP (∀ ww,Calls Tryz.prog 30 #[UN #[UD a Ln c,UD x m cx,UE UO f,UF d]] ww λe w'=>e=UQ (UE UO ((Ln/64-4:Nat):Int))/\Below ww.heap.size ww w'):=λww=>I5 a x Ln c m cx f d ww hL (AG F0.base) (AG F0.base)
  have HRD0:AP (∀ ww (q:Nat),q<4294967296->Below w.heap.size w ww->Calls Tryz.prog 29 #[UN #[UD a Ln c,UD x m cx,UE UO f,UF d],UE UG (q:Int),UE UO ((Ln/64-4:Nat):Int)] ww λe w'=>∃ v,e=UQ v/\FW ww.heap.size w' v (Fa zs ps (Ln/64-4) q (Ln/64-4))/\Below ww.heap.size ww w'):=
   λww q hq b=>Mk a x Ln c m cx f d zs ps F0 hL HAP.o.2.2 (Ln/64-4) q ww (AG F0.base) hq (HAP.o.1.below b) (HAP.o.2.1.below b)
  have HJR:=Cp (λq=>(F0.jr q).2);have hJ2:Ln/64-4<=252:=AG F0.base
  have HNW:=Cp (Hz (zs:=zs) (ps:=ps) 2);have HPK:AP (∀ A B,Gx zs ps 0=A->Gx zs ps 1=B->_):=λA B h1 h2=>Pg (zs:=zs) (ps:=ps) (A:=A) (B:=B) h1 h2
  have HIF:AP (Pa zs ps (Ln/64-4)=if(Eb zs ps 2).ok=true then Nr (Eb zs ps 2) (Fa zs ps (Ln/64-4) (Eb zs ps 2).t.toNat (Ln/64-4)) else Et):=rfl;clear HFF HIG F0 hv HAP hL hc hM;generalize Ln/64-4=J at *;have hz1:=HE1.o.lt;go_wp2_with (first
   |(refine Ab rfl 40 (UT 1) rfl w.heap.size rfl 40 _ (0,0) _ HE1.o.dev Tryz.underlying40 rfl HSD.o ?_)
   |fail)
  refine(HSL.o w1 HE1.o.bel).1.mono ?_;rintro e w2 ⟨v2,rfl,hv2,b2⟩;have HE2:=Cp (HE1.o.below b2);obtain⟨rA,hrA⟩:∃ r,Gx zs ps 0=r:=⟨_,rfl⟩
  rw[hrA] at hv2;obtain⟨okA,gA,tA,DA,UA⟩:=rA;obtain⟨aDA,nDA,cDA,aUA,nUA,cUA,rfl,kA1,kA2,kA3,kA4,kA5,kA6⟩:=hv2;dsimp only at kA1 kA2 kA3 kA4;have bA:Below w2.heap.size w2 (w2.alloc (UP #[UF okA,UE UG gA,UE UG tA,UD aDA nDA cDA,UD aUA nUA cUA] 63)):=Cs.alloc Cw _;have HRA:AP ((w2.alloc (UP #[UF okA,UE UG gA,UE UG tA,UD aDA nDA cDA,UD aUA nUA cUA] 63)).heap[w2.heap.size]?=UI (UP #[UF okA,UE UG gA,UE UG tA,UD aDA nDA cDA,UD aUA nUA cUA] 63 (0,0))):=AV w2 _;have HE3:=Cp (HE2.o.below bA);have HLA:AP (At UO (w2.alloc (UP #[UF okA,UE UG gA,UE UG tA,UD aDA nDA cDA,UD aUA nUA cUA] 63)) aDA DA/\At UO (w2.alloc (UP #[UF okA,UE UG gA,UE UG tA,UD aDA nDA cDA,UD aUA nUA cUA] 63)) aUA UA/\De (w.heap.size+2) (w2.alloc (UP #[UF okA,UE UG gA,UE UG tA,UD aDA nDA cDA,UD aUA nUA cUA] 63)) aDA/\De (w.heap.size+2) (w2.alloc (UP #[UF okA,UE UG gA,UE UG tA,UD aDA nDA cDA,UD aUA nUA cUA] 63)) aUA):=⟨kA1.below bA,kA2.below bA,kA5.mono AK bA.size,kA6.mono AK bA.size⟩
  have HNA:=Cp (Ac kA3 kA4);have HSA0:=Cp hrA;have hz2:=HE2.o.lt;have hzA:w2.heap.size<(w2.alloc (UP #[UF okA,UE UG gA,UE UG tA,UD aDA nDA cDA,UD aUA nUA cUA] 63)).heap.size:=AM
  clear kA1 kA2 kA3 kA4 kA5 kA6 b2 bA HE1 HE2 hrA
  go_upto_region 4 with (first
   |(refine AC 63 (UT 3) (UT 13) w2.heap.size #[UF okA,UE UG gA,UE UG tA,UD aDA nDA cDA,UD aUA nUA cUA] 63 (AV w2 _) HSR.o rfl (Er _ _ _ _ _ _ _ _ _) ?_)
   |fail)
  try rw[World.setRow_alloc_new]
  generalize w2.alloc (UP #[UF okA,UE UG gA,UE UG tA,UD aDA nDA cDA,UD aUA nUA cUA] 63)=w3 at *;generalize w2.heap.size=NA at *;go_wp2_with (first
   |(refine Ab rfl 40 (UT 1) rfl w.heap.size rfl 40 _ (0,0) _ HE3.o.dev Tryz.underlying40 rfl HSD.o ?_)
   |fail)
  refine(HSL.o w3 HE3.o.bel).2.mono ?_;rintro e w4 ⟨v4,rfl,hv4,b4⟩;have HE4:=Cp (HE3.o.below b4);obtain⟨rB,hrB⟩:∃ r,Gx zs ps 1=r:=⟨_,rfl⟩
  rw[hrB] at hv4;obtain⟨okB,gB,tB,DB,UB⟩:=rB;obtain⟨aDB,nDB,cDB,aUB,nUB,cUB,rfl,kB1,kB2,kB3,kB4,kB5,kB6⟩:=hv4;dsimp only at kB1 kB2 kB3 kB4;have bB:Below w4.heap.size w4 (w4.alloc (UP #[UF okB,UE UG gB,UE UG tB,UD aDB nDB cDB,UD aUB nUB cUB] 63)):=Cs.alloc Cw _;have b34:=b4.trans (bB.mono b4.size);have hz3:=HE3.o.lt;have HRB:AP ((w4.alloc (UP #[UF okB,UE UG gB,UE UG tB,UD aDB nDB cDB,UD aUB nUB cUB] 63)).heap[w4.heap.size]?=UI (UP #[UF okB,UE UG gB,UE UG tB,UD aDB nDB cDB,UD aUB nUB cUB] 63 (0,0))):=AV w4 _;have HRA5:AP ((w4.alloc (UP #[UF okB,UE UG gB,UE UG tB,UD aDB nDB cDB,UD aUB nUB cUB] 63)).heap[NA]?=UI (UP #[UF okA,UE UG gA,UE UG tA,UD aDA nDA cDA,UD aUA nUA cUA] 63 (0,0))):=by show _=_;rw[b34.block _ hzA];exact HRA.o
  have HE5:=Cp (HE4.o.below bB);have HL5:AP ((At UO (w4.alloc (UP #[UF okB,UE UG gB,UE UG tB,UD aDB nDB cDB,UD aUB nUB cUB] 63)) aDA DA/\At UO (w4.alloc (UP #[UF okB,UE UG gB,UE UG tB,UD aDB nDB cDB,UD aUB nUB cUB] 63)) aUA UA/\De (w.heap.size+2) (w4.alloc (UP #[UF okB,UE UG gB,UE UG tB,UD aDB nDB cDB,UD aUB nUB cUB] 63)) aDA/\De (w.heap.size+2) (w4.alloc (UP #[UF okB,UE UG gB,UE UG tB,UD aDB nDB cDB,UD aUB nUB cUB] 63)) aUA)/\(At UO (w4.alloc (UP #[UF okB,UE UG gB,UE UG tB,UD aDB nDB cDB,UD aUB nUB cUB] 63)) aDB DB/\At UO (w4.alloc (UP #[UF okB,UE UG gB,UE UG tB,UD aDB nDB cDB,UD aUB nUB cUB] 63)) aUB UB/\De (w.heap.size+2) (w4.alloc (UP #[UF okB,UE UG gB,UE UG tB,UD aDB nDB cDB,UD aUB nUB cUB] 63)) aDB/\De (w.heap.size+2) (w4.alloc (UP #[UF okB,UE UG gB,UE UG tB,UD aDB nDB cDB,UD aUB nUB cUB] 63)) aUB)):=
   ⟨⟨HLA.o.1.below b34,HLA.o.2.1.below b34,HLA.o.2.2.1.mono Cw b34.size,HLA.o.2.2.2.mono Cw b34.size⟩,kB1.below bB,kB2.below bB,kB5.mono AK bB.size,kB6.mono AK bB.size⟩
  have HNB:=Cp (Ac kB3 kB4);have HPK2:=Cp (HPK.o _ _ HSA0.o hrB);have hz4:=HE4.o.lt;have hzB:w4.heap.size<(w4.alloc (UP #[UF okB,UE UG gB,UE UG tB,UD aDB nDB cDB,UD aUB nUB cUB] 63)).heap.size:=AM
  have hAB:NA<w4.heap.size:=AG b4.size
  clear kB1 kB2 kB3 kB4 kB5 kB6 b4 bB b34 HE3 HE4 HLA HRA HSL HPK hrB HSA0 hz3 hzA
  go_upto_region 5 with (first
   |(refine AC 63 (UT 4) (UT 15) w4.heap.size #[UF okB,UE UG gB,UE UG tB,UD aDB nDB cDB,UD aUB nUB cUB] 63 (AV w4 _) HSR.o rfl (Er _ _ _ _ _ _ _ _ _) ?_)
   |fail)
  try rw[World.setRow_alloc_new]
  generalize w4.alloc (UP #[UF okB,UE UG gB,UE UG tB,UD aDB nDB cDB,UD aUB nUB cUB] 63)=w5 at *;generalize w4.heap.size=NB at *;try dsimp only at HPK2
  try dsimp only[Act.put]
  go_cut [23] from 24 (λv ww=>v=UF (!okA && !okB)/\ww=w5)
  case first=>
   have a0:=AA HRA5.o 0;have b0:=AA HRB.o 0;simp at a0 b0;cases okA
   ·cases okB;all_goals
     go_wp2
     go_meet
     case rel=>exact⟨rfl,rfl⟩
   ·go_wp2
    go_meet
    case rel=>exact⟨rfl,rfl⟩
  case rest=>
   obtain⟨rfl,rfl⟩:=hcut;cases hnn:(!okA && !okB) with
   |true=>
    have HI2:AP (Ez zs ps f=Et):=by show _=_;rw[HI.o,HIF.o,AS (by rw[HPK2.o.1 hnn];simp)]
    clear HI HIF HPK2 HNW HRD0;go_wp2_with (first
     |(refine AC 36 (UT 2) (UT 24) (w.heap.size+1) Cg 36 HE5.o.res HSI.o rfl (by simp[Value.oneCell']) ?_)
     |fail)
    (try simp only[Exit.inBlock,Exit.then])
    exact AZ (v:=UN Cg) (AW rfl _ _ (w.heap.size+1) 36 _ (0,0) _ rfl (AB HE5.o.res) Tryz.underlying36 rfl HSI.o) rfl ⟨_,rfl,by rw[HI2.o];exact ME.no _,HE5.o.bel.trans ((Wr.setRow _ _ _).below (Br _))⟩
   |false=>
    obtain⟨hno,hpk⟩:=HPK2.o.2 hnn;have HNO:=Cp hno;have HPK3:=Cp hpk;have HRM:=λj v=>(λhj=>by
     have hj4:j<4:=by have:=(Af.1 hj).1;simpa using this
     rw[AA HRA5.o (1+j)];obtain rfl|rfl|rfl|rfl:j=0\/j=1\/j=2\/j=3:=AK
     all_goals(simp at hj;subst hj;rfl):([UE UG gA,UE UG tA,UD aDA nDA cDA,UD aUA nUA cUA]:List Value)[j]?=UI v->wc.cell? ⟨NA,1+j,UJ⟩=UI v)
    have HRM':AP (wc.rangeAt NA 1 [UE UG gA,UE UG tA,UD aDA nDA cDA,UD aUA nUA cUA]):=HRM;have bC:Below wc.heap.size wc (wc.alloc (UP #[UE UG gA,UE UG tA,UD aDA nDA cDA,UD aUA nUA cUA] 30)):=Cs.alloc Cw _;have HE6:=Cp (HE5.o.below bC);have HRC6:AP ((wc.alloc (UP #[UE UG gA,UE UG tA,UD aDA nDA cDA,UD aUA nUA cUA] 30)).heap[wc.heap.size]?=UI (UP #[UE UG gA,UE UG tA,UD aDA nDA cDA,UD aUA nUA cUA] 30 (0,0))):=AV wc _;have hNA:=(AQ.1 HRA5.o).1;have HRA6:AP ((wc.alloc (UP #[UE UG gA,UE UG tA,UD aDA nDA cDA,UD aUA nUA cUA] 30)).heap[NA]?=UI (UP #[UF okA,UE UG gA,UE UG tA,UD aDA nDA cDA,UD aUA nUA cUA] 63 (0,0))):=by show _=_;rw[bC.block _ hNA];exact HRA5.o
    have HRB6:AP ((wc.alloc (UP #[UE UG gA,UE UG tA,UD aDA nDA cDA,UD aUA nUA cUA] 30)).heap[NB]?=UI (UP #[UF okB,UE UG gB,UE UG tB,UD aDB nDB cDB,UD aUB nUB cUB] 63 (0,0))):=by show _=_;rw[bC.block _ hzB];exact HRB.o
    have HSBA:AP (Tq (w.heap.size+2) wc.heap.size (wc.alloc (UP #[UE UG gA,UE UG tA,UD aDA nDA cDA,UD aUA nUA cUA] 30)) ⟨okA,gA,tA,DA,UA⟩):=⟨aDA,nDA,cDA,aUA,nUA,cUA,HRC6.o,HL5.o.1.1.below bC,HL5.o.1.2.1.below bC,HNA.o.1,HNA.o.2,HL5.o.1.2.2.1.mono Cw bC.size,HL5.o.1.2.2.2.mono Cw bC.size⟩
    have HSBB:AP (∀ ww,Wr wc.heap.size (wc.alloc (UP #[UE UG gA,UE UG tA,UD aDA nDA cDA,UD aUA nUA cUA] 30)) ww->ww.heap[wc.heap.size]?=UI (UP #[UE UG gB,UE UG tB,UD aDB nDB cDB,UD aUB nUB cUB] 30 (0,0))->Tq (w.heap.size+2) wc.heap.size ww ⟨okB,gB,tB,DB,UB⟩):=λww hw hr=>⟨aDB,nDB,cDB,aUB,nUB,cUB,hr,(HL5.o.2.1.below bC).keepT (by rw[hw.size];exact AY _) (λad e _=>hw.block _ (AG (HL5.o.2.2.2.1 ad e).2)),(HL5.o.2.2.1.below bC).keepT (by rw[hw.size];exact AY _) (λad e _=>hw.block _ (AG (HL5.o.2.2.2.2 ad e).2)),HNB.o.1,HNB.o.2,HL5.o.2.2.2.1.mono Cw (by rw[hw.size];exact bC.size),HL5.o.2.2.2.2.mono Cw (by rw[hw.size];exact bC.size)⟩
    have hNC:w.heap.size+2<=wc.heap.size:=AG HE5.o.lt
    clear HRM bC HE5 HRA5 HRB HL5 HPK2 HNA HNB hno hpk
    go_upto_region 8 with (first
     |(refine wpList_load_mid rfl 30 (UT 25) rfl NA 1 rfl [UE UG gA,UE UG tA,UD aDA nDA cDA,UD aUA nUA cUA] _ HRM'.o Tryz.underlying30 rfl HSN.o ?_)
     |(refine AC 30 (UT 5) (UT 26) wc.heap.size #[UE UG gA,UE UG tA,UD aDA nDA cDA,UD aUA nUA cUA] 30 (AV wc _) HSN.o rfl (by simp[Value.oneCell']) ?_)
     |fail)
    try rw[World.setRow_alloc_new]
    generalize wc.alloc (UP #[UE UG gA,UE UG tA,UD aDA nDA cDA,UD aUA nUA cUA] 30)=w6 at *;generalize wc.heap.size=NC at *;clear HRM';try dsimp only[Act.put]
    go_cut [42] from 43 (λv ww=>v=UF (!okA || (okB && decide (gA<gB)))/\ww=w6)
    case first=>
     have a0:=AA HRA6.o 0;have b0:=AA HRB6.o 0;have a1:=AA HRA6.o 1;have b1:=AA HRB6.o 1;simp at a0 b0 a1 b1;cases okA
     ·go_wp2
      go_meet
      case rel=>exact⟨rfl,rfl⟩
     ·cases okB
      ·go_wp2
       go_meet
       case rel=>exact⟨rfl,rfl⟩
      ·by_cases hg:gA<gB;all_goals
        go_wp2
        go_meet
        case rel=>exact⟨by simp[hg],rfl⟩
    case rest=>
     obtain⟨rfl,hwc⟩:=hcut;obtain rfl:wc=w6:=hwc
     go_upto_if 42 with fail
     generalize hpk:(!okA || (okB && decide (gA<gB)))=pk at *;try dsimp only[Act.put]
     go_cut [] from 43 (λww=>EY w #[UD a Ln c,UD x m cx,UE UO f,UF d] Cg 36 ww/\Tq (w.heap.size+2) NC ww (Eb zs ps 2))
     case first=>
      cases pk with
      |false=>
       have hs:=HPK3.o;rw[AS AM] at hs;have HS:=Cp hs;clear hs;go_wp2
       go_meet
       case rel=>exact⟨HE6.o,by rw[HS.o];exact HSBA.o⟩
      |true=>
       have hs:=HPK3.o;rw[AR rfl] at hs;have HS:=Cp hs;clear hs;have HRM:AP (wc.rangeAt NB 1 [UE UG gB,UE UG tB,UD aDB nDB cDB,UD aUB nUB cUB]):=λj v hj=>by
        have hj4:j<4:=by have:=(Af.1 hj).1;simpa using this
        rw[AA HRB6.o (1+j)];obtain rfl|rfl|rfl|rfl:j=0\/j=1\/j=2\/j=3:=AK
        all_goals(simp at hj;subst hj;rfl)
       go_wp2_with (first
        |(refine wpList_load_mid rfl 30 (UT 43) rfl NB 1 rfl [UE UG gB,UE UG tB,UD aDB nDB cDB,UD aUB nUB cUB] _ HRM.o Tryz.underlying30 rfl HSN.o ?_)
        |(refine AC 30 (UT 5) (UT 44) NC #[UE UG gB,UE UG tB,UD aDB nDB cDB,UD aUB nUB cUB] 30 HRC6.o HSN.o rfl (by simp[Value.oneCell']) ?_)
        |fail)
       go_meet
       case rel=>exact⟨HE6.o.wr (Wr.setRow _ _ _) hNC,by rw[HS.o];exact HSBB.o _ (Wr.setRow _ _ _) (AB HRC6.o)⟩
     case rest=>
      clear HE6 HRC6 HRA6 HRB6 HSBA HSBB HPK3 hpk
      rename UK=>w7
      obtain⟨hE7,hS7⟩:=hcut;have HE7:=Cp hE7;have hsn:=HNW.o HNO.o;have HI2:AP (Ez zs ps f=Nr (Eb zs ps 2) (Fa zs ps J (Eb zs ps 2).t.toNat J)):=by show _=_;rw[HI.o,HIF.o,AR HNO.o]
      have HOK:=HNO.o;obtain⟨s,hs⟩:∃ s,Eb zs ps 2=s:=⟨_,rfl⟩
      rw[hs] at hS7 hsn HI2 HOK;obtain⟨so,sg,st,sD,sU⟩:=s;dsimp only at hS7 hsn HOK;subst HOK;obtain⟨aD,nD,cD,aU,nU,cU,hRC,k1,k2,k3,k4,k5,k6⟩:=hS7;dsimp only at hRC k1 k2 k3 k4;have HRC:=Cp hRC;have HLC:=Cp (AQ.1 hRC).1;have HL7:=Cp (Ac k1 (Ac k2 (Ac k5 k6)));obtain⟨q1,q2,q3,q4,q5,q6⟩:=hsn;have hst0:0<=st:=AK
      have HLN:AP (sD.length=nD/\sU.length=nU/\nD<=16/\nU<=256):=⟨k3,k4,AK,AG q6.le⟩
      have HFB:=Cp (H3 zs ps J HJR.o J st.toNat);have HFN:=Cp (Gw zs ps J J st.toNat);have HSTP:JE sD sU (nU:Int) [] 0:=by rw[<-k4];exact Jb.st ⟨q1,q2,q3,q4,q5,q6⟩
      have HST:=Cp HSTP;have HRD:AP (∀ ww,Below w.heap.size w ww->Calls Tryz.prog 29 #[UN #[UD a Ln c,UD x m cx,UE UO f,UF d],UE UG st,UE UO (J:Int)] ww λe w'=>∃ v,e=UQ v/\FW ww.heap.size w' v (Fa zs ps J st.toNat J)/\Below ww.heap.size ww w'):=λww b=>by
       have:=HRD0.o ww st.toNat AK b;rw[Bm hst0] at this;exact this
      have HAS:=Cp (Gj (r:=⟨true,sD,sU,(nU:Int),[],0⟩) HFB.o HSTP rfl);dsimp only at HI2;clear hE7 hRC k1 k2 k3 k4 k5 k6 HSTP HRD0 HNW HNO HI HIF hs HJR q1 q2 q4 q5 q6;generalize Fa zs ps J st.toNat J=F at *
      go_upto_region 10 with fail
      refine Ae AN ?_;refine C3 (λ_ a b=>Below a.heap.size a b) (frame:=(λ(a b c d e f g h i j k l m n o p q r s u v w x y z A B C D E F G H I J K L M N O P Q R S T U V W X Y Z a0 a1 a2 a3 a4 a5 a6 a7 a8 a9 b0 b1:Value)=>λ(t:Nat->Value)=>({ tmps:=List.toArray [a,b,c,d,e,f,t 6,g,h,i,j,k,l,m,n,o,p,q,r,s,u,v,w,x,y,z,A,B,C,D,E,F,G,H,I,J,K,L,M,N,O,P,Q,R,S,t 0,t 1,t 2,t 3,t 4,t 5,T,U,V,W,X,Y,Z,a0,a1,a2,a3,a4,a5,a6,a7,a8,a9,b0,b1],defers:=[] }:Act)) _ _ _ _ _ _ _ _ _ _ _ _ _ _ _ _ _ _ _ _ _ _ _ _ _ _ _ _ _ _ _ _ _ _ _ _ _ _ _ _ _ _ _ _ _ _ _ _ _ _ _ _ _ _ _ _ _ _ _ _ _ _ _)
       (Ext:=λL u w'=>IV w7 [] L u w') (Good:=λi L w' v=>if i=0 then v=UN #[UD a Ln c,UD x m cx,UE UO f,UF d] else if i=1 then v=UM (UI ⟨NC,1,UJ⟩) else if i=2 then v=UE UG st else if i=3 then v=UN #[UD a Ln c,UD x m cx,UE UO f,UF d] else if i=4 then v=UE UO (J:Int) else if i=5 then FW (w.heap.size+2) w' v F else if i=6 then FW (w.heap.size+2) w' v F else True) ?hstab AN ?hop ?hdone _ _ ((λ(x0 x1 x2 x3 x4 x5 x6:Value)=>λ(i:Nat)=>if i=0 then x0 else if i=1 then x1 else if i=2 then x2 else if i=3 then x3 else if i=4 then x4 else if i=5 then x5 else if i=6 then x6 else undef) _ _ _ _ _ _ _) _ AM ?ext ?start AM
      case start=>intro i hi h;exact absurd h E0
      case ext=>exact(IV.start w7 [] _ _ (λ_=>FJ)).drew
      case hstab=>
       intro j L w9 w' i v hM _ _ h;by_cases h5:j=5
       ·subst h5;simp at h |-;exact h.below hM
       by_cases h6:j=6
       ·subst h6;simp at h |-;exact h.below hM
       simp only[if_neg h5,if_neg h6] at h |-;exact h
      case hop=>
       intro i o L t w' ho hLi hx hdep K hK;have hi:i<7:=(AQ.1 ho).1;obtain rfl|rfl|rfl|rfl|rfl|rfl|rfl:i=0\/i=1\/i=2\/i=3\/i=4\/i=5\/i=6:=AK
       all_goals(simp at ho;subst ho)
       ·clear hdep;have hr:w'.heap[w.heap.size]?=UI (UP #[UD a Ln c,UD x m cx,UE UO f,UF d] 40 (0,0)):=by rw[hx.below.block _ (AG HE7.o.lt)];exact HE7.o.dev
        have hK':=hK w' (UN #[UD a Ln c,UD x m cx,UE UO f,UF d]) AM (hx.step 0 _ Cs C7) Cs;clear hK;rw[AR AO];refine BL 40 (UT 1) rfl (w.heap.size) rfl 40 _ (0,0) _ hr Tryz.underlying40 rfl HSD.o ?_;simpa[Cr,Act.put] using hK'
       ·clear hdep;have hK':=hK w' (UM (UI ⟨NC,1,UJ⟩)) AM (hx.step 1 _ Cs C7) Cs;clear hK;rw[AR AO];go_simp;simpa[Cr] using hK'
       ·have d1:t 1=UM (UI ⟨NC,1,UJ⟩):=by simpa using(hdep ⟨1,.data⟩ AM rfl).2
        clear hdep;have cc:w'.cell? ⟨NC,1,UJ⟩=UI (UE UG st):=by rw[hx.below.cell (p:=⟨NC,1,UJ⟩) HLC.o,AA HRC.o _];rfl
        have hK':=hK w' (UE UG st) AM (hx.step 2 _ Cs C7) Cs;clear hK;rw[AR AO];go_simp;simpa[Cr,d1] using hK'
       ·clear hdep;have hr:w'.heap[w.heap.size]?=UI (UP #[UD a Ln c,UD x m cx,UE UO f,UF d] 40 (0,0)):=by rw[hx.below.block _ (AG HE7.o.lt)];exact HE7.o.dev
        have hK':=hK w' (UN #[UD a Ln c,UD x m cx,UE UO f,UF d]) AM (hx.step 3 _ Cs C7) Cs;clear hK;rw[AR AO];refine BL 40 (UT 1) rfl (w.heap.size) rfl 40 _ (0,0) _ hr Tryz.underlying40 rfl HSD.o ?_;simpa[Cr,Act.put] using hK'
       ·have d3:t 3=UN #[UD a Ln c,UD x m cx,UE UO f,UF d]:=by simpa using(hdep ⟨3,.data⟩ AM rfl).2
        clear hdep;have A:=HJ.o w';have hK':∀ ww,Below w'.heap.size w' ww->K _ ww:=λww hb=>hK ww (UE UO (J:Int)) AM (hx.step 4 _ hb C7) hb
        clear hK;rw[AR AO];go_simp;try simp only[d3]
        refine A.mono ?_;rintro e w9 ⟨rfl,hb9⟩;have hK2:=hK' w9 hb9;clear hK' A hb9;go_simp;simpa[Cr,d3] using hK2
       ·have d0:t 0=UN #[UD a Ln c,UD x m cx,UE UO f,UF d]:=by simpa using(hdep ⟨0,.data⟩ AM rfl).2
        have d2:t 2=UE UG st:=by simpa using(hdep ⟨2,.data⟩ AM rfl).2
        have d4:t 4=UE UO (J:Int):=by simpa using(hdep ⟨4,.data⟩ AM rfl).2
        clear hdep;have bw:Below w.heap.size w w':=HE7.o.bel.trans (hx.below.mono HE7.o.bel.size);have hz:=HE7.o.lt;have hz2:=hx.below.size;have A:=HRD.o w' bw;have hK':∀ ww v,FW (w.heap.size+2) ww v F->Below w'.heap.size w' ww->K _ ww:=λww v hv hb=>hK ww v (by simpa using hv) (hx.step 5 v hb C7) hb
        clear hK;rw[AR AO];go_simp;try simp only[d0,d2,d4]
        refine A.mono ?_;rintro e w9 ⟨v9,rfl,p9,hb9⟩;have hK2:=hK' w9 v9 (p9.mono AK) hb9;clear hK' A p9 hb9;go_simp;simpa[Cr,d0,d2,d4] using hK2
       ·have f5:FW (w.heap.size+2) w' (t 5) F:=by simpa using(hdep ⟨5,.data⟩ AM rfl).2
        clear hdep;have hK':=hK w' (t 5) (by simpa using f5) (hx.step 6 _ Cs C7) Cs;clear hK;rw[AR AO];go_simp;simpa[Cr] using hK'
      case hdone=>
       intro L t w8 hx hg;have f6:FW (w.heap.size+2) w8 (t 6) F:=by simpa using hg 6 AL
       have HE8:=Cp (HE7.o.below hx.below);have HC8:AP (w8.heap[NC]?=UI (UP #[UE UG sg,UE UG st,UD aD nD cD,UD aU nU cU] 30 (0,0))/\At UO w8 aD sD/\At UO w8 aU sU/\De (w.heap.size+2) w8 aD/\De (w.heap.size+2) w8 aU):=⟨by rw[hx.below.block _ HLC.o];exact HRC.o,HL7.o.1.below hx.below,HL7.o.2.1.below hx.below,HL7.o.2.2.1.mono Cw hx.below.size,HL7.o.2.2.2.mono Cw hx.below.size⟩
       obtain⟨gF,mF,cF,e6,hgF,hFl,hFc,hFlt,hFcell⟩:=f6;have HFF:AP (FW (w.heap.size+2) w8 (UD (UI ⟨gF,0,UJ⟩) mF cF) F):=⟨gF,mF,cF,rfl,hgF,hFl,hFc,hFlt,hFcell⟩
       have hmF:mF<=252:=by
        obtain⟨k,hk,e⟩:=HFN.o;omega
       dsimp only;rw[e6];have HFL:=Cp hFl;clear e6 hg hx hFl hFc hFcell HRD HJ HRC HLC HE7 HL7 HFN;have A:=Cp (Mg sg st aD aU nD cD nU cU sD sU w8 HLN.o.1 HLN.o.2.1 (AG HLN.o.2.2.1) (AG HLN.o.2.2.2) HC8.o.2.1 HC8.o.2.2.1);go_wp2_with (first
        |(refine Ab rfl 30 (UT 5) rfl NC rfl 30 _ (0,0) _ HC8.o.1 Tryz.underlying30 rfl HSN.o ?_)
        |fail)
       refine A.o.mono ?_;rintro e w9 ⟨cs,rfl,hcp,b9⟩;obtain⟨pD,lD,qD,pU,lU,qU,pT,qT,rfl,i1,i2,i3⟩:=hcp;have hz8:=HE8.o.lt;have HWV:AP (El w8.heap.size w9 (UN #[UF true,UD pD lD qD,UD pU lU qU,UE UO (nU:Int),UD pT 0 qT]) ⟨true,sD,sU,nU,[],0⟩):=Ph i1 i2 i3;have HE9:=Cp (HE8.o.below b9);have HC9:AP (w9.heap[NC]?=UI (UP #[UE UG sg,UE UG st,UD aD nD cD,UD aU nU cU] 30 (0,0))/\At UO w9 aD sD/\At UO w9 aU sU/\De (w.heap.size+2) w9 aD/\De (w.heap.size+2) w9 aU):=⟨by rw[b9.block _ (AQ.1 HC8.o.1).1];exact HC8.o.1,HC8.o.2.1.below b9,HC8.o.2.2.1.below b9,HC8.o.2.2.2.1.mono Cw b9.size,HC8.o.2.2.2.2.mono Cw b9.size⟩
       have HF9:=Cp (HFF.o.below b9);have hz9:=b9.size;have B:=Cp (RJ pD pU pT lD qD lU qU 0 qT sD sU (nU:Int) [] (UI ⟨gF,0,UJ⟩) mF cF F w9 w8.heap.size _ rfl HWV.o hz9 HST.o rfl (HF9.o.fatS) HFL.o AK HFB.o);clear A b9 i1 i2 i3 HE8 HC8 HFF HWV;go_wp2_with fail;refine B.o.mono ?_;rintro e w10 ⟨v10,rfl,hv10,b10⟩;have HR1:AP (I4 ⟨true,sg,st,sD,sU⟩ F=EE ⟨true,sD,sU,(nU:Int),[],0⟩ F mF):=by
        show EE _ _ _=_
        rw[HFL.o,Nat.mul_div_cancel _ AL,HLN.o.2.1]
       have hstR:=HAS.o mF (by rw[HFL.o];exact AY _);obtain⟨r1,hr1⟩:∃ r,EE ⟨true,sD,sU,(nU:Int),[],0⟩ F mF=r:=⟨_,rfl⟩
       rw[hr1] at hv10 HR1 hstR;obtain⟨bD,mD,kD,bU,mU,kU,bT,mT,kT,rfl,g1,g2,g3,g4,g5,g6,t1,t2,t3,c1,c2⟩:=hv10;have HE10:=Cp (HE9.o.below b10);have HC10:AP (w10.heap[NC]?=UI (UP #[UE UG sg,UE UG st,UD aD nD cD,UD aU nU cU] 30 (0,0))/\At UO w10 aD sD/\At UO w10 aU sU/\De (w.heap.size+2) w10 aD/\De (w.heap.size+2) w10 aU):=⟨by rw[b10.block _ (AQ.1 HC9.o.1).1];exact HC9.o.1,HC9.o.2.1.below b10,HC9.o.2.2.1.below b10,HC9.o.2.2.2.1.mono Cw b10.size,HC9.o.2.2.2.2.mono Cw b10.size⟩
       have HF10:=Cp (HF9.o.below b10);have HG:=Cp (Ac (Ac g1 (Ac g2 g3)) (Ac (Ac g4 (Ac g5 g6)) (Ac t1 (Ac t2 t3))));have HSTR:=Cp hstR;clear B b10 g1 g2 g3 g4 g5 g6 t1 t2 t3 c1 c2 HE9 HC9 HF9 hr1 hstR HAS
       go_upto_region 12 with (first
        |(refine AC 68 (UT 7) (UT 54) w10.heap.size #[UF r1.ok,UD bD mD kD,UD bU mU kU,UE UO r1.k,UD bT mT kT] 68 (AV w10 _) HSA.o rfl (by simp[Value.oneCell']) ?_)
        |fail)
       try rw[World.setRow_alloc_new]
       have bb:Below w10.heap.size w10 (w10.alloc (UP #[UF r1.ok,UD bD mD kD,UD bU mU kU,UE UO r1.k,UD bT mT kT] 68)):=Cs.alloc Cw _;have HRT:AP ((w10.alloc (UP #[UF r1.ok,UD bD mD kD,UD bU mU kU,UE UO r1.k,UD bT mT kT] 68)).heap[w10.heap.size]?=UI (UP #[UF r1.ok,UD bD mD kD,UD bU mU kU,UE UO r1.k,UD bT mT kT] 68 (0,0))):=AV w10 _;have HE11:=Cp (HE10.o.below bb);have HR11:=Cp (show(w10.alloc (UP #[UF r1.ok,UD bD mD kD,UD bU mU kU,UE UO r1.k,UD bT mT kT] 68)).heap[NC]?=UI (UP #[UE UG sg,UE UG st,UD aD nD cD,UD aU nU cU] 30 (0,0)) by rw[bb.block _ (AQ.1 HC10.o.1).1];exact HC10.o.1);have HV11:AP (At UO (w10.alloc (UP #[UF r1.ok,UD bD mD kD,UD bU mU kU,UE UO r1.k,UD bT mT kT] 68)) aD sD/\At UO (w10.alloc (UP #[UF r1.ok,UD bD mD kD,UD bU mU kU,UE UO r1.k,UD bT mT kT] 68)) aU sU/\FW (w.heap.size+2) (w10.alloc (UP #[UF r1.ok,UD bD mD kD,UD bU mU kU,UE UO r1.k,UD bT mT kT] 68)) (UD (UI ⟨gF,0,UJ⟩) mF cF) F/\At UO (w10.alloc (UP #[UF r1.ok,UD bD mD kD,UD bU mU kU,UE UO r1.k,UD bT mT kT] 68)) bD r1.D/\At UO (w10.alloc (UP #[UF r1.ok,UD bD mD kD,UD bU mU kU,UE UO r1.k,UD bT mT kT] 68)) bU r1.U/\At UO (w10.alloc (UP #[UF r1.ok,UD bD mD kD,UD bU mU kU,UE UO r1.k,UD bT mT kT] 68)) bT r1.T):=⟨HC10.o.2.1.below bb,HC10.o.2.2.1.below bb,HF10.o.below bb,HG.o.1.1.below bb,HG.o.1.2.1.below bb,HG.o.1.2.2.below bb⟩
       have HLI:AP (De (w.heap.size+2) w10 aD/\De (w.heap.size+2) w10 aU/\De (w.heap.size+2) w10 bD/\De (w.heap.size+2) w10 bU/\De (w.heap.size+2) w10 bT):=⟨HC10.o.2.2.2.1,HC10.o.2.2.2.2,HG.o.2.2.1.mono AK Cw,HG.o.2.2.2.1.mono AK Cw,HG.o.2.2.2.2.mono AK Cw⟩
       have HLE:=Cp HG.o.2.1;clear HG HE10 HC10 HF10 bb;generalize w10.alloc (UP #[UF r1.ok,UD bD mD kD,UD bU mU kU,UE UO r1.k,UD bT mT kT] 68)=w11 at *;generalize w10.heap.size=NT at *;cases hok:r1.ok with
       |false=>
        have HI3:AP (Ez zs ps f=Et):=by show _=_;rw[HI2.o];unfold Nr;rw[AS (by rw[HR1.o,hok];simp)]
        have cT:=AA HRT.o 0;simp[hok] at cT;clear HI2 HR1 HSTR HLE HV11 HLI HRT HR11;go_wp2_with (first
         |(refine AC 36 (UT 2) (UT 58) (w.heap.size+1) Cg 36 HE11.o.res HSI.o rfl (by simp[Value.oneCell']) ?_)
         |fail)
        (try simp only[Exit.inBlock,Exit.then])
        exact AZ (v:=UN Cg) (AW rfl _ _ (w.heap.size+1) 36 _ (0,0) _ rfl (AB HE11.o.res) Tryz.underlying36 rfl HSI.o) rfl ⟨_,rfl,by rw[HI3.o];exact ME.no _,HE11.o.bel.trans ((Wr.setRow _ _ _).below (Br _))⟩
       |true=>
        obtain⟨hs1,hs2⟩:=HSTR.o hok;have hmT:r1.n=mT:=AG HLE.o.2.2
        have HI3:AP (Ez zs ps f=⟨true,sg,st,sD,sU,F,r1.D,r1.U,r1.k,r1.T,mT,st+mF⟩):=by
         show _=_
         rw[HI2.o];unfold Nr;rw[AR (by rw[HR1.o,hok]),HR1.o,HFL.o,Nat.mul_div_cancel _ AL,hmT]
        have cT:=AA HRT.o 0;simp[hok] at cT;have hra:w11.rangeAt NT 1 [UD bD mD kD,UD bU mU kU,UE UO r1.k,UD bT mT kT]:=λj v hj=>by
         have hj4:j<4:=by have:=(Af.1 hj).1;simpa using this
         rw[AA HRT.o (1+j)];obtain rfl|rfl|rfl|rfl:j=0\/j=1\/j=2\/j=3:=AK
         all_goals(simp at hj;subst hj;rfl)
        have HRA:=Cp hra;have c1:=AA HR11.o 1;simp at c1;have ew:(st+(mF:Int))%4294967296=st+mF:=AK
        have ew0:(mF:Int)%4294967296=mF:=AK
        have HO:=Cp hok;clear HI2 HR1 HSTR hra hs1 hs2 hmT hok;go_wp2_with (first
         |(refine Ab rfl 30 (UT 5) rfl NC rfl 30 _ (0,0) _ HR11.o Tryz.underlying30 rfl HSN.o ?_)
         |(refine wpList_load_mid rfl 34 (UT 61) rfl NT 1 rfl [UD bD mD kD,UD bU mU kU,UE UO r1.k,UD bT mT kT] _ HRA.o Tryz.underlying34 rfl HSS.o ?_)
         |(refine AC 36 (UT 2) (UT 69) (w.heap.size+1) #[UF true,UE UG sg,UE UG st,UD aD nD cD,UD aU nU cU,UD (UI ⟨gF,0,UJ⟩) mF cF,UD bD mD kD,UD bU mU kU,UE UO r1.k,UD bT mT kT,UE UG (st+mF)] 36 HE11.o.res HSI.o rfl (by simp[Value.oneCell']) ?_)
         |fail)
        (try simp only[Exit.inBlock,Exit.then])
        refine AZ (v:=UN #[UF true,UE UG sg,UE UG st,UD aD nD cD,UD aU nU cU,UD (UI ⟨gF,0,UJ⟩) mF cF,UD bD mD kD,UD bU mU kU,UE UO r1.k,UD bT mT kT,UE UG (st+mF)]) (AW rfl _ _ (w.heap.size+1) 36 _ (0,0) _ rfl (AB HE11.o.res) Tryz.underlying36 rfl HSI.o) rfl ⟨_,rfl,?_,HE11.o.bel.trans ((Wr.setRow _ _ _).below (Br _))⟩;rw[HI3.o];have hw:=Wr.setRow (w.heap.size+1) w11 #[UF true,UE UG sg,UE UG st,UD aD nD cD,UD aU nU cU,UD (UI ⟨gF,0,UJ⟩) mF cF,UD bD mD kD,UD bU mU kU,UE UO r1.k,UD bT mT kT,UE UG (st+mF)];obtain⟨v1,v2,v3,v4,v5,v6⟩:=HV11.o;obtain⟨l1,l2,l3,l4,l5⟩:=HLI.o;obtain⟨gF',mF',cF',e',h1,h2,h3,h4,h5⟩:=v3;injection e' with e1 e2 e3
        injection e1 with e1
        injection e1 with e1
        subst e1 e2 e3;exact⟨aD,nD,cD,aU,nU,cU,UI ⟨gF,0,UJ⟩,mF,cF,bD,mD,kD,bU,mU,kU,bT,kT,rfl,v1.wrL l1 hw,v2.wrL l2 hw,.inr ⟨gF,0,rfl,by rw[hw.size];exact h4,λi hi=>by rw[Ak,Aa (a:=⟨gF,i,UJ⟩) (w:=w11) (hw.block gF AK)];exact h5 i hi⟩,v4.wrL l3 hw,v5.wrL l4 hw,v6.wrL l5 hw,HLN.o.1,HLN.o.2.1,HFL.o,HLE.o.1,HLE.o.2.1,HLE.o.2.2⟩
end Go.Proofs.YthmeoilbmfdhfaaGreat
