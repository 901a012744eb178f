import Derived.Test.YthmeoilbmfdhfaaGreatMCmP
open Go.Value renaming slice->UD,int->UE,pointer->UM,bool->UF,agg->UN
open Go.IntKind renaming i64->UO,u32->UG
open Go.Obj renaming cells->UP
open Go.Ending renaming returned->UQ
open Go.Ground renaming data->UR
open Go.Operand renaming tmp->UT
open Option renaming some->UI,none->UJ
open Go renaming World->UK,Value->UL
namespace Go.Proofs.YthmeoilbmfdhfaaGreat
set_option maxHeartbeats 16000000
set_option maxRecDepth 100000
open Go.ChangeShapes Go.WideShapes Go.ChangeAt Go.RowKit
set_option linter.unusedVariables false
theorem SZ (w:UK) (g c:Nat) (hc:128<=c):(Instr.sliceAt 22 (UD (UI ⟨g,0,UJ⟩) 128 c) UJ (UI (UE UO 64)) UJ).run Tryz.prog w=.ok (UD (UI ⟨g,0,UJ⟩) 64 c) w:=by
 have h2:(64:Int)<=(c:Int):=AK
 unfold Instr.sliceAt;simp[run_underlying Tryz.underlying22,go_sem,Instr.sliceBounds,h2,Addr.add];try omega
theorem Sa (w:UK) (g c:Nat) (hc:128<=c):(Instr.sliceAt 22 (UD (UI ⟨g,0,UJ⟩) 128 c) (UI (UE UO 64)) UJ UJ).run Tryz.prog w=.ok (UD (UI ⟨g,64,UJ⟩) 64 (c-64)) w:=by
 have h4:¬ (c=64):=AK
 unfold Instr.sliceAt;simp[run_underlying Tryz.underlying22,go_sem,Instr.sliceBounds,h4,Addr.add];try omega
theorem Sc (w:UK) (o:Bool) (aD aU aT:Option Addr) (nD cD nU cU nT cT:Nat) (k:Int):(Instr.field 68 (UN #[UF o,UD aD nD cD,UD aU nU cU,UE UO k,UD aT nT cT]) 1).run Tryz.prog w=.ok (UN #[UD aD nD cD,UD aU nU cU,UE UO k,UD aT nT cT]) w:=AN
structure CX (w:UK) (M:Nat) (C I:Array UL) (wr:UK):Prop where
 below:Below w.heap.size w wr
 b0:wr.heap[w.heap.size]?=UI (UP C 48 (0,0))
 b1:wr.heap[w.heap.size+1]?=UI (UP ER 50 (0,0))
 bm:wr.heap[M]?=UI (UP I 36 (0,0))
 lm:w.heap.size+1<M
section
variable {w wr w':UK} {M:Nat} {C I:Array UL}
theorem CX.lt (h:CX w M C I wr):M<wr.heap.size:=(AQ.1 h.bm).1
theorem CX.call (h:CX w M C I wr) (b:Below wr.heap.size wr w'):CX w M C I w':=by
 have:=h.lt;have:=h.lm;exact⟨h.below.trans (b.mono h.below.size),by rw[b.block _ AK];exact h.b0,by rw[b.block _ AK];exact h.b1,by rw[b.block _ AK];exact h.bm,h.lm⟩
theorem CX.put {Q:Nat} (h:CX w M C I wr) (hw:Wr Q wr w') (hQ:M<Q):CX w M C I w':=by
 have:=h.lm;exact⟨h.below.trans (hw.below AK),by rw[hw.block _ AK];exact h.b0,by rw[hw.block _ AK];exact h.b1,by rw[hw.block _ AK];exact h.bm,h.lm⟩
end
section
variable {lo:Nat} {w w' W:UK} {v:UL} {k:Int} {D U:List Int} {T:TypeId} {Z:Array UL} {L:Nat->Bool} {u:Nat->UL}
def Sr (lo:Nat) (w:UK) (v:UL) (k:Int) (D U:List Int):Prop:=∃ cs,v=UN cs/\FB lo k D U [] 0 w cs
theorem Sr.below (h:Sr lo w v k D U) (b:Below w.heap.size w w'):Sr lo w' v k D U:=by obtain⟨cs,e,h⟩:=h;exact⟨cs,e,h.below b⟩
structure Ss (w:UK) (v:UL):Prop
theorem Ss.below (h:Ss w v) (b:Below w.heap.size w w'):Ss w' v:=⟨⟩
def Rl (lo:Nat) (T:TypeId) (Z:Array UL) (w:UK) (v:UL):Prop:=∃ q,v=UM (UI ⟨q,0,UJ⟩)/\lo<=q/\w.heap[q]?=UI (UP Z T (0,0))
theorem Rl.below (h:Rl lo T Z w v) (b:Below w.heap.size w w'):Rl lo T Z w' v:=by
 obtain⟨q,e,h1,h2⟩:=h;exact⟨q,e,h1,by rw[b.block q (AQ.1 h2).1];exact h2⟩
def UC (w:UK) (ST:Array UL) (a:GN):Prop:=∃ aD nD cD aU nU cU aT nT cT,ST=#[UD aD nD cD,UD aU nU cU,UE UO a.k,UD aT nT cT]/\At UO w aD a.D/\At UO w aU a.U/\a.D.length=nD/\a.U.length=nU
structure N9 (W:UK) (L:Nat->Bool) (u:Nat->UL) (w:UK):Prop extends Fo W [11,13] L u w where
 fld:L 12=true->L 11=true/\∃ a b c d e,u 11=UN #[a,b,c,d,e]/\u 12=UN #[b,c,d,e]
theorem N9.start (W:UK) (L:Nat->Bool) (u:Nat->UL) (h:∀ i,L i=false) {w:UK} (b:Below W.heap.size W w):N9 W L u w:=⟨Fo.start W _ L u h b,λe=>by rw[h] at e;cases e⟩
theorem N9.step (h:N9 W L u w) (i:Nat) (v:UL) (b:Below w.heap.size w w') (hv:i∈[11,13]->DU w w' v) (h1:i≠11/\i≠12:=by decide):N9 W (Ct L i) (Cr u i v) w':=
 ⟨h.toFo.step i v b hv,by
  simp only[Ct,Cr,if_neg (show ¬ 12=i from λe=>h1.2 e.symm),if_neg (show ¬ 11=i from λe=>h1.1 e.symm)];exact h.fld⟩
theorem N9.s11 (h:N9 W L u w) (hL:L 11=false) (v:UL) (b:Below w.heap.size w w') (hv:DU w w' v):N9 W (Ct L 11) (Cr u 11 v) w':=
 ⟨h.toFo.step 11 v b (λ_=>hv),λe=>by
  simp[Ct] at e;have:=(h.fld e).1;rw[hL] at this;cases this⟩
theorem N9.s12 (h:N9 W L u w) (hL:L 11=true) {a b c d e:UL} (hu:u 11=UN #[a,b,c,d,e]):N9 W (Ct L 12) (Cr u 12 (UN #[b,c,d,e])) w:=
 ⟨h.toFo.step 12 _ Cs C7,λ_=>⟨by simp[Ct,hL],a,b,c,d,e,by simp[Cr,hu],by simp[Cr]⟩⟩
theorem Fj.fresh {w0:UK} {zs:List Int} {ps:List PD} {f:Int} {d:Bool} (h:Fj w0.heap.size w v zs ps f d):DU w0 w v:=by
 obtain⟨da,dc,ca,cc,E,rfl,h1,h2,h3,h4,h5,⟨qs,hP,hq⟩,h7⟩:=h;intro k hk;obtain⟨x,hx,ad,hA,rfl⟩:=F6.1 hk;simp at hx;rcases hx with rfl|rfl|rfl|rfl
 ·have:=h3 ad hA;omega
 ·obtain⟨q1,q2,_⟩:=DI hP.row ad.block (by rw[show ca=UI ad from hA];rfl);omega
 all_goals cases hA
theorem El.frs {r:GN} (h:El w.heap.size w' v r):DU w w' v:=by
 obtain⟨aD,nD,cD,aU,nU,cU,aT,nT,cT,rfl,_,_,_,_,_,_,l1,l2,l3,_⟩:=h;intro k hk;obtain⟨x,hx,ad,hA,rfl⟩:=F6.1 hk;simp at hx;rcases hx with rfl|rfl|rfl|rfl|rfl
 ·cases hA
 ·exact l1 ad hA
 ·exact l2 ad hA
 ·cases hA
 ·exact l3 ad hA
theorem Rm {a:Option Addr} {zs:List Int} {kd:IntKind} (h:At kd w a zs) (m:Nat):At kd w a (zs.take m):=by
 rcases h with h|⟨b,o,e,hl,hc⟩
 ·left;rw[h];simp
 ·exact .inr ⟨b,o,e,hl,λi hi=>by rw[Az] at hi;rw[hc i AK];simp[List.getD,List.getElem?_take_of_lt (show i<m by omega)]⟩
theorem Rn {b o:Nat} {zs:List Int} {kd:IntKind} (h:At kd w (UI ⟨b,o,UJ⟩) zs) (m:Nat):At kd w (UI ⟨b,o+m,UJ⟩) (zs.drop m):=by
 rcases h with h|⟨b',o',e,hl,hc⟩
 ·left;rw[h];simp
 ·cases e;exact .inr ⟨b,o+m,rfl,hl,λi hi=>by rw[Bj] at hi;rw[Ap,hc (m+i) AK];simp[List.getD]⟩
end
theorem Ro {lo:Nat} (C:Array UL) (zs ks:List Int) (f:Int) (r:Dt) (n:Nat) (w:UK) (h:GM lo w C zs [] ks f false r) (hI:QD zs f r n) (hle:Eu r) (bz:Cu zs) (hk:ks.length<=1048576) :
  Calls Tryz.prog 63 #[UN C] w λe w'=>∃ X,e=UQ (UN X)/\RM w.heap.size w' X (JH zs f r) (FI zs f r).1 (FI zs f r).2.1 ks (FI zs f r).2.2.1 (FI zs f r).2.2.2 (JG zs f r)/\Below w.heap.size w w':=by
 have HGA:=Cq h.gat;obtain⟨da,dc,ca,cc,ka,kc,aSD,nSD,cSD,aSU,nSU,cSU,aF,mF,cF,aD,nD,cD,aU,nU,cU,aT,cT,B1,U,rfl,⟨c1,c2⟩,h1,h2,h4,h5,h8,h9,h10⟩:=h;simp only[List.length_nil] at *;have hz:zs.length<=1048576:=by have:=hI.v;unfold EA at this;omega
 have HVB:=Cq hI.v;have HZL:=Cq hz;have HBZ:=Cq bz;have HLL:=Cq (Ac hle hk);have HGN:=Cq hI.g0;have HDA:AP (Ei w (UN #[UD da zs.length dc,UD ca 0 cc,UE UO f,UF false]) zs [] f false):=⟨da,dc,ca,cc,rfl,h1.1,h8.at_,c1⟩
 have HIM:AP (N5 w (UN #[UF r.ok,UE UG r.g,UE UG r.t,UD aSD nSD cSD,UD aSU nSU cSU,UD aF mF cF,UD aD nD cD,UD aU nU cU,UE UO r.k,UD aT r.n cT,UE UG r.nx]) r):=⟨aSD,nSD,cSD,aSU,nSU,cSU,aF,mF,cF,aD,nD,cD,aU,nU,cU,aT,cT,rfl,h4⟩
 have HGT:AP (∀ ww,Below w.heap.size w ww->Calls Tryz.prog 56 #[UN #[UD da zs.length dc,UD ca 0 cc,UE UO f,UF false],UD ka ks.length kc,UN #[UF r.ok,UE UG r.g,UE UG r.t,UD aSD nSD cSD,UD aSU nSU cSU,UD aF mF cF,UD aD nD cD,UD aU nU cU,UE UO r.k,UD aT r.n cT,UE UG r.nx]] ww λe w'=>∃ C,e=UQ (UN C)/\GM ww.heap.size w' C zs [] ks f false r/\Below ww.heap.size ww w'):=λww b=>In _ _ zs [] ks f false r ka kc ww (HDA.o.below b) (h2.1.below b) (HIM.o.below b) hle hz AM AM hk
 obtain⟨mm,hmn,hcm⟩:=hI.cut;have hmF:mF=n:=AI hI.len h4.2.2.2.2.2.2.2.2.1
 have hnU:r.sU.length=nSU:=h4.2.2.2.2.2.2.2.1;have hnD:r.sD.length=nSD:=h4.2.2.2.2.2.2.1;have HCT:AP (∀ ww,Below w.heap.size w ww->Calls Tryz.prog 113 #[UN #[UF r.ok,UE UG r.g,UE UG r.t,UD aSD nSD cSD,UD aSU nSU cSU,UD aF mF cF,UD aD nD cD,UD aU nU cU,UE UO r.k,UD aT r.n cT,UE UG r.nx]] ww λe w'=>e=UQ (UE UG (GR r))/\Below ww.heap.size ww w'):=λww b=>by
  have:=Qe aSD aSU aF aD aU aT nSD cSD nSU cSU mF cF nD cD nU cU r.n cT r.sD r.sU r.F r.D r.U r.T r.g r.t r.k r.nx r.ok ww h4.2.2.2.2.2.2.2.2.1 (by have:=hI.nJ;have:=hI.v;unfold EA at this;omega) (by have:=hle;unfold Eu at this;omega) (h4.2.2.1.below b);rw[show GR r=JK r.ok nSU r.F mF r.k r.nx by unfold GR;rw[hnU,show r.F.length/4=mF by have:=hI.len;omega]];exact this
 have HW:AP (SM w 48 50 #[UD da zs.length dc,UD ca 0 cc,UE UO f,UF false,UD ka ks.length kc,UF r.ok,UE UG r.g,UE UG r.t,UD aSD nSD cSD,UD aSU nSU cSU,UD aF mF cF,UD aD nD cD,UD aU nU cU,UE UO r.k,UD aT r.n cT,UE UG r.nx] ER ((w.alloc (UP #[UD da zs.length dc,UD ca 0 cc,UE UO f,UF false,UD ka ks.length kc,UF r.ok,UE UG r.g,UE UG r.t,UD aSD nSD cSD,UD aSU nSU cSU,UD aF mF cF,UD aD nD cD,UD aU nU cU,UE UO r.k,UD aT r.n cT,UE UG r.nx] 48)).alloc (UP ER 50))):=SM.start _ _ _ _ _;have HSI:AP ((Tryz.prog.info? 36).map (·.size)=UI 11):=by show _=_;kernel_rfl
 have HSN:AP ((Tryz.prog.info? 30).map (·.size)=UI 4):=by show _=_;kernel_rfl
 have HSS:AP ((Tryz.prog.info? 34).map (·.size)=UI 4):=by show _=_;kernel_rfl
 have HI:=Cq hI;have H4:=Cq h4;have HNN:AP (mF=n/\r.sU.length=nSU/\r.sD.length=nSD/\mm<=n/\mF<=cF):=⟨hmF,hnU,hnD,hmn,c2⟩
 obtain⟨cu,hcu⟩:∃ cu,GR r=cu:=⟨_,rfl⟩
 rw[hcu] at HCT hcm;have HCU:=Cq hcu;have HCM:=Cq hcm;clear h1 h2 h4 h5 h8 h9 h10 c1 c2 hz hI hle bz hk hmF hnU hnD hmn hcu hcm;go_enter Tryz.func63,Tryz.ntmps63
 go_upto_region 1 with fail
 change Code.wp _ _ _ _ ((w.alloc (UP #[UD da zs.length dc,UD ca 0 cc,UE UO f,UF false,UD ka ks.length kc,UF r.ok,UE UG r.g,UE UG r.t,UD aSD nSD cSD,UD aSU nSU cSU,UD aF mF cF,UD aD nD cD,UD aU nU cU,UE UO r.k,UD aT r.n cT,UE UG r.nx] 48)).alloc (UP ER 50));generalize ((w.alloc (UP #[UD da zs.length dc,UD ca 0 cc,UE UO f,UF false,UD ka ks.length kc,UF r.ok,UE UG r.g,UE UG r.t,UD aSD nSD cSD,UD aSU nSU cSU,UD aF mF cF,UD aD nD cD,UD aU nU cU,UE UO r.k,UD aT r.n cT,UE UG r.nx] 48)).alloc (UP ER 50))=w1 at *;have HRG:AP (w1.rangeAt w.heap.size 5 [UF r.ok,UE UG r.g,UE UG r.t,UD aSD nSD cSD,UD aSU nSU cSU,UD aF mF cF,UD aD nD cD,UD aU nU cU,UE UO r.k,UD aT r.n cT,UE UG r.nx]):=FP HW.o.b0 5 _ rfl;have HZ1:AP ((w1.alloc (UP Cg 36)).heap[w1.heap.size]?=UI (UP Cg 36 (0,0))):=AV w1 _
 go_upto_region 2 with (first
  |(refine wpList_load_mid rfl 36 (UT 9) rfl w.heap.size 5 rfl _ _ HRG.o Tryz.underlying36 rfl HSI.o ?_)
  |(refine AC 36 (UT 3) (UT 10) w1.heap.size #[UF r.ok,UE UG r.g,UE UG r.t,UD aSD nSD cSD,UD aSU nSU cSU,UD aF mF cF,UD aD nD cD,UD aU nU cU,UE UO r.k,UD aT r.n cT,UE UG r.nx] 36 HZ1.o HSI.o rfl (by simp[Value.oneCell']) ?_)
  |fail)
 rw[World.setRow_alloc_new];clear HZ1 HRG;have b2:Below w1.heap.size w1 (w1.alloc (UP #[UF r.ok,UE UG r.g,UE UG r.t,UD aSD nSD cSD,UD aSU nSU cSU,UD aF mF cF,UD aD nD cD,UD aU nU cU,UE UO r.k,UD aT r.n cT,UE UG r.nx] 36)):=Cs.alloc Cw _;have l1:=(AQ.1 HW.o.b1).1;have HX2:AP (CX w w1.heap.size #[UD da zs.length dc,UD ca 0 cc,UE UO f,UF false,UD ka ks.length kc,UF r.ok,UE UG r.g,UE UG r.t,UD aSD nSD cSD,UD aSU nSU cSU,UD aF mF cF,UD aD nD cD,UD aU nU cU,UE UO r.k,UD aT r.n cT,UE UG r.nx] #[UF r.ok,UE UG r.g,UE UG r.t,UD aSD nSD cSD,UD aSU nSU cSU,UD aF mF cF,UD aD nD cD,UD aU nU cU,UE UO r.k,UD aT r.n cT,UE UG r.nx] (w1.alloc (UP #[UF r.ok,UE UG r.g,UE UG r.t,UD aSD nSD cSD,UD aSU nSU cSU,UD aF mF cF,UD aD nD cD,UD aU nU cU,UE UO r.k,UD aT r.n cT,UE UG r.nx] 36))):=⟨HW.o.below.trans (b2.mono HW.o.below.size),by rw[b2.block _ AK];exact HW.o.b0,by rw[b2.block _ l1];exact HW.o.b1,AV w1 _,l1⟩
 clear b2 l1 HW;generalize w1.alloc (UP #[UF r.ok,UE UG r.g,UE UG r.t,UD aSD nSD cSD,UD aSU nSU cSU,UD aF mF cF,UD aD nD cD,UD aU nU cU,UE UO r.k,UD aT r.n cT,UE UG r.nx] 36)=w2 at *;generalize w1.heap.size=M at *;go_wp2_with (first
  |(refine Ab rfl 36 (UT 3) rfl M rfl 36 _ (0,0) _ HX2.o.bm Tryz.underlying36 rfl HSI.o ?_)
  |fail)
 refine(HCT.o w2 HX2.o.below).mono ?_;rintro e w4 ⟨rfl,b4⟩;have HX4:=Cq (HX2.o.call b4);clear b4 HX2 HCT;have k2:w4.cell? ⟨M,2,UJ⟩=UI (UE UG r.t):=by rw[AA HX4.o.bm 2];rfl
 by_cases hc:cu=r.t
 ·have HO:AP (JH zs f r=9/\FI zs f r=(zs,[],f,false)/\JG zs f r=r):=⟨by unfold JH;rw[AR (by rw[HCU.o];exact hc)],(Fk (.inl (by rw[HCU.o];exact hc))).1,(Fk (zs:=zs) (f:=f) (.inl (by rw[HCU.o];exact hc))).2⟩
  go_upto_region 4 with fail
  clear k2 hc;have k4:w4.cell? ⟨w.heap.size,4,UJ⟩=UI (UD ka ks.length kc):=by rw[AA HX4.o.b0 _];rfl
  have HRD:AP (w4.rangeAt w.heap.size 0 [UD da zs.length dc,UD ca 0 cc,UE UO f,UF false]):=FP HX4.o.b0 0 _ rfl;go_wp2_with (first
   |(refine wpList_load_mid rfl 40 (UT 18) rfl w.heap.size 0 rfl _ _ HRD.o Tryz.underlying40 rfl Tryz.sizeDv ?_)
   |(refine Ab rfl 36 (UT 3) rfl M rfl 36 _ (0,0) _ HX4.o.bm Tryz.underlying36 rfl HSI.o ?_)
   |fail)
  refine(HGT.o w4 HX4.o.below).mono ?_;rintro e w9 ⟨C9,rfl,g9,b9⟩;clear k4;have HR9:AP (w9.heap[w.heap.size+1]?=UI (UP ER 50 (0,0))):=(b9.block _ (AQ.1 HX4.o.b1).1).trans HX4.o.b1;obtain⟨X9,hX⟩:∃ X9:Array UL,#[UE UO 9]++C9=X9:=⟨_,rfl⟩
  have hR9:RM w4.heap.size w9 X9 9 zs [] ks f false r:=⟨C9,hX.symm,g9⟩
  have HX9:AP (C9.size=16/\(Tryz.prog.info? 50).map (·.size)=UI X9.size/\ER.size=X9.size/\X9.all (·.oneCell')=true):=⟨g9.row.1,by rw[hR9.row.1];exact Tryz.sizeR,by rw[hR9.row.1];rfl,hR9.row.2⟩
  have HF:AP (RM w4.heap.size w9 X9 9 zs [] ks f false r/\Below w.heap.size w w9/\w.heap.size+1<w4.heap.size):=⟨hR9,HX4.o.below.trans (b9.mono HX4.o.below.size),(AQ.1 HX4.o.b1).1⟩
  clear g9 hR9 b9;go_wp2_with (first
   |(refine EK rfl _ (UT 23) rfl 9 C9 rfl rfl HX9.o.1 ?_;rw[hX])
   |(refine AC 50 (UT 2) (UT 24) (w.heap.size+1) X9 50 HR9.o HX9.o.2.1 HX9.o.2.2.1 HX9.o.2.2.2 ?_)
   |fail)
  (try simp only[Exit.inBlock,Exit.then])
  have hw9:=Wr.setRow (w.heap.size+1) w9 X9;have hfin:RM w.heap.size (w9.setRow (w.heap.size+1) X9) X9 (JH zs f r) (FI zs f r).1 (FI zs f r).2.1 ks (FI zs f r).2.2.1 (FI zs f r).2.2.2 (JG zs f r):=by
   rw[HO.o.1,HO.o.2.1,HO.o.2.2];exact(HF.o.1.keep (Aw hw9.size.symm) (λk hk _=>hw9.block k (AG HF.o.2.2))).mono (AG HF.o.2.2)
  have hbel:Below w.heap.size w (w9.setRow (w.heap.size+1) X9):=HF.o.2.1.trans (hw9.below AK);have hres:=CY w9 (w.heap.size+1) _ X9 _ _ HR9.o;clear hw9;exact AZ (v:=UN X9) (AW rfl _ _ (w.heap.size+1) 50 _ (0,0) _ rfl hres Tryz.underlying50 rfl HX9.o.2.1) rfl ⟨X9,rfl,hfin,hbel⟩
 have k1:w4.cell? ⟨M,1,UJ⟩=UI (UE UG r.g):=by rw[AA HX4.o.bm 1];rfl
 by_cases hg:r.g=4000000000
 ·have HO:AP (JH zs f r=8/\FI zs f r=(zs,[],f,false)/\JG zs f r=r):=⟨by unfold JH;rw[AS (by rw[HCU.o];exact hc),AR hg],(Fk (.inr hg)).1,(Fk (zs:=zs) (f:=f) (.inr hg)).2⟩
  go_upto_region 6 with fail
  clear k1 k2 hg hc;have k4:w4.cell? ⟨w.heap.size,4,UJ⟩=UI (UD ka ks.length kc):=by rw[AA HX4.o.b0 _];rfl
  have HRD:AP (w4.rangeAt w.heap.size 0 [UD da zs.length dc,UD ca 0 cc,UE UO f,UF false]):=FP HX4.o.b0 0 _ rfl;go_wp2_with (first
   |(refine wpList_load_mid rfl 40 (UT 29) rfl w.heap.size 0 rfl _ _ HRD.o Tryz.underlying40 rfl Tryz.sizeDv ?_)
   |(refine Ab rfl 36 (UT 3) rfl M rfl 36 _ (0,0) _ HX4.o.bm Tryz.underlying36 rfl HSI.o ?_)
   |fail)
  refine(HGT.o w4 HX4.o.below).mono ?_;rintro e w9 ⟨C9,rfl,g9,b9⟩;clear k4;have HR9:AP (w9.heap[w.heap.size+1]?=UI (UP ER 50 (0,0))):=(b9.block _ (AQ.1 HX4.o.b1).1).trans HX4.o.b1;obtain⟨X9,hX⟩:∃ X9:Array UL,#[UE UO 8]++C9=X9:=⟨_,rfl⟩
  have hR9:RM w4.heap.size w9 X9 8 zs [] ks f false r:=⟨C9,hX.symm,g9⟩
  have HX9:AP (C9.size=16/\(Tryz.prog.info? 50).map (·.size)=UI X9.size/\ER.size=X9.size/\X9.all (·.oneCell')=true):=⟨g9.row.1,by rw[hR9.row.1];exact Tryz.sizeR,by rw[hR9.row.1];rfl,hR9.row.2⟩
  have HF:AP (RM w4.heap.size w9 X9 8 zs [] ks f false r/\Below w.heap.size w w9/\w.heap.size+1<w4.heap.size):=⟨hR9,HX4.o.below.trans (b9.mono HX4.o.below.size),(AQ.1 HX4.o.b1).1⟩
  clear g9 hR9 b9;go_wp2_with (first
   |(refine EK rfl _ (UT 34) rfl 8 C9 rfl rfl HX9.o.1 ?_;rw[hX])
   |(refine AC 50 (UT 2) (UT 35) (w.heap.size+1) X9 50 HR9.o HX9.o.2.1 HX9.o.2.2.1 HX9.o.2.2.2 ?_)
   |fail)
  (try simp only[Exit.inBlock,Exit.then])
  have hw9:=Wr.setRow (w.heap.size+1) w9 X9;have hfin:RM w.heap.size (w9.setRow (w.heap.size+1) X9) X9 (JH zs f r) (FI zs f r).1 (FI zs f r).2.1 ks (FI zs f r).2.2.1 (FI zs f r).2.2.2 (JG zs f r):=by
   rw[HO.o.1,HO.o.2.1,HO.o.2.2];exact(HF.o.1.keep (Aw hw9.size.symm) (λk hk _=>hw9.block k (AG HF.o.2.2))).mono (AG HF.o.2.2)
  have hbel:Below w.heap.size w (w9.setRow (w.heap.size+1) X9):=HF.o.2.1.trans (hw9.below AK);have hres:=CY w9 (w.heap.size+1) _ X9 _ _ HR9.o;clear hw9;exact AZ (v:=UN X9) (AW rfl _ _ (w.heap.size+1) 50 _ (0,0) _ rfl hres Tryz.underlying50 rfl HX9.o.2.1) rfl ⟨X9,rfl,hfin,hbel⟩
 have hE:=M0 (zs:=zs) (f:=f) (r:=r) (by rw[HCU.o];exact hc) hg;have HO:AP (JH zs f r=TM 9 (KG zs f r)/\FI zs f r=KG zs f r/\JG zs f r=SR r (KG zs f r)):=⟨hE.2.2,hE.1,hE.2.1⟩
 have hm0:0<mm:=AG HCM.o
 obtain⟨fb,fo,rfl,hfb,hfc⟩:=H4.o.2.2.1.get (AI HI.o.len HNN.o);have hT:=HI.o.top;have hT1:=HI.o.t1;have HMM:AP (mm<=cF/\mm*4<=r.F.length/\(cu-r.t)%4294967296=(mm:Int)/\mm<=1000):=by
  have:=HCM.o;have:=HNN.o;have:=HI.o.len;have hv:=HVB.o;unfold EA at hv;have:=HI.o.nJ;exact⟨AK,AK,AK,AK⟩
 have hsp:=HI.o.snp hg;have HSP:AP (Jb (r.g+1) cu (G2 r).D (G2 r).U/\(G2 r).D.length<=16/\(G2 r).U.length<=256):=by
  have h:=hsp.1;rw[HCU.o] at h;exact⟨h,h.2.2.2.2.1,h.2.2.2.2.2.le⟩
 have HUT:AP (D8 cu):=by have:=HCM.o;have:=HNN.o;exact⟨AK,AK⟩
 have HSO:AP (∀ ww,Below w.heap.size w ww->Calls Tryz.prog 32 #[UN #[UE UG r.g,UE UG r.t,UD aSD nSD cSD,UD aSU nSU cSU]] ww λe w'=>∃ cs,e=UQ (UN cs)/\FB ww.heap.size (nSU:Int) r.sD r.sU [] 0 w' cs/\Below ww.heap.size ww w'):=λww b=>Mg r.g r.t aSD aSU nSD cSD nSU cSU r.sD r.sU ww HNN.o.2.2.1 HNN.o.2.1 (by have:=HLL.o.1;have:=HNN.o;unfold Eu at *;omega) (by have:=HLL.o.1;have:=HNN.o;unfold Eu at *;omega) (H4.o.1.below b) (H4.o.2.1.below b)
 have HTH:AP (∀ ww,Below w.heap.size w ww->w4.heap.size<=ww.heap.size->∀ cs,FB w4.heap.size (nSU:Int) r.sD r.sU [] 0 ww cs->Calls Tryz.prog 31 #[UN cs,UD (UI ⟨fb,fo,UJ⟩) mm cF] ww λe w'=>∃ v,e=UQ v/\El w4.heap.size w' v (G2 r)/\DU ww w' v/\Below ww.heap.size ww w'):=λww b hs cs hcp=>by
  obtain⟨pD,lD,qD,pU,lU,qU,pT,qT,rfl,i1,i2,i3⟩:=hcp;have e:G2 r=EE ⟨true,r.sD,r.sU,(nSU:Int),[],0⟩ (r.F.take (mm*4)) mm:=by
   unfold G2;rw[HCU.o,show(cu-r.t).toNat=mm by have:=HCM.o;omega,HNN.o.2.1,JA mm Cw]
  have hst:=HI.o.st;rw[HNN.o.2.1] at hst;refine(Mm pD pU pT lD qD lU qU 0 qT r.sD r.sU (nSU:Int) [] (UI ⟨fb,fo,UJ⟩) mm cF (r.F.take (mm*4)) ww w4.heap.size _ rfl (Ph i1 i2 i3) hs hst rfl ((H4.o.2.2.1.below b).take _) (by rw[Az];have:=HMM.o;omega) HMM.o.2.2.2 (HI.o.fr.take _)).mono ?_;rintro e9 w9 ⟨v9,h1,h2,h3⟩;rw[KD hm0,<-e] at h2;exact⟨v9,h1,h2.monoY hs,h2.frs,h3⟩
 clear hE hsp hT hT1 hm0 hfb hfc HGT;have hc':(cu == r.t)=false:=by simp[hc]
 have hg':(r.g == 4000000000)=false:=by simp[hg]
 clear hc hg
 go_upto_region 7 with fail
 clear k1 k2;refine Ae AN ?_;refine DF 14 (λ_ a b=>Below a.heap.size a b) (frame:=(λ(a b c d e f g h i j k l m n o p q r s u v w x y z A B C D E F G H I J K L M N O P Q R S T U V W X Y Z a0 a1 a2 a3 a4 a5 a6 a7 a8 a9 b0 b1 b2 b3 b4 b5 b6 b7 b8 b9:UL)=>λ(t:Nat->UL)=>({ tmps:=List.toArray [a,b,c,d,e,t 13,f,g,h,i,j,k,l,m,n,o,p,q,r,s,u,v,w,x,y,z,A,B,C,D,E,F,G,H,I,J,t 0,t 1,t 2,t 3,t 4,t 5,t 6,t 7,t 8,t 9,t 10,t 11,t 12,K,L,M,N,O,P,Q,R,S,T,U,V,W,X,Y,Z,a0,a1,a2,a3,a4,a5,a6,a7,a8,a9,b0,b1,b2,b3,b4,b5,b6,b7,b8,b9],defers:=[] }:Act)) _ _ _ _ _ _ _ _ _ _ _ _ _ _ _ _ _ _ _ _ _ _ _ _ _ _ _ _ _ _ _ _ _ _ _ _ _ _ _ _ _ _ _ _ _ _ _ _ _ _ _ _ _ _ _ _ _ _ _ _ _ _ _ _ _ _ _ _ _ _ _)
  (Ext:=λL u w'=>N9 w4 L u w') (Good:=λi L w' v=>if i=0 then v=UM (UI ⟨M,1,UJ⟩) else if i=1 then v=UN #[UE UG r.g,UE UG r.t,UD aSD nSD cSD,UD aSU nSU cSU] else if i=2 then Sr w4.heap.size w' v (nSU:Int) r.sD r.sU else if i=3 then v=UM (UI ⟨M,5,UJ⟩) else if i=4 then v=UD (UI ⟨fb,fo,UJ⟩) mF cF else if i=5 then v=UE UG cu else if i=6 then v=UM (UI ⟨M,1,UJ⟩) else if i=7 then v=UM (UI ⟨M,2,UJ⟩) else if i=8 then v=UE UG r.t else if i=9 then v=UE UG mm else if i=10 then v=UD (UI ⟨fb,fo,UJ⟩) mm cF else if i=11 then El w4.heap.size w' v (G2 r) else if i=12 then Ss w' v else if i=13 then Rl w4.heap.size 34 Cf w' v else True) (Fin:=λu ww=>∃ Sb ST,u 13=UM (UI ⟨Sb,0,UJ⟩)/\ww.heap[Sb]?=UI (UP ST 34 (0,0))/\UC ww ST (G2 r)/\Below w4.heap.size w4 ww) rfl AN ?hstab AN ?hop ?hend ?hdone _ _ ((λ(x0 x1 x2 x3 x4 x5 x6 x7 x8 x9 x10 x11 x12 x13:UL)=>λ(i:Nat)=>if i=0 then x0 else if i=1 then x1 else if i=2 then x2 else if i=3 then x3 else if i=4 then x4 else if i=5 then x5 else if i=6 then x6 else if i=7 then x7 else if i=8 then x8 else if i=9 then x9 else if i=10 then x10 else if i=11 then x11 else if i=12 then x12 else if i=13 then x13 else undef) _ _ _ _ _ _ _ _ _ _ _ _ _ _) _ AM ?none ?ext AM
 case none=>exact λ_=>FJ
 case ext=>exact N9.start w4 _ _ (λ_=>FJ) ⟨rfl,rfl,rfl,AY _,λ_ _=>rfl⟩
 case hstab=>
  intro j L w9 w' i v _ hM _ _ h;by_cases h2:j=2
  ·subst h2;simp at h |-;exact h.below hM
  by_cases h11:j=11
  ·subst h11;simp at h |-;exact h.below hM
  by_cases h12:j=12
  ·subst h12;simp at h |-;exact h.below hM
  by_cases h13:j=13
  ·subst h13;simp at h |-;exact h.below hM
  simp only[if_neg h2,if_neg h11,if_neg h12,if_neg h13] at h |-;exact h
 case hop=>
  intro i o L t w' hi ho hLi hx hdep K hK;have cX:∀ q9:Nat,w'.cell? ⟨M,q9,UJ⟩=(#[UF r.ok,UE UG r.g,UE UG r.t,UD aSD nSD cSD,UD aSU nSU cSU,UD (UI ⟨fb,fo,UJ⟩) mF cF,UD aD nD cD,UD aU nU cU,UE UO r.k,UD aT r.n cT,UE UG r.nx]:Array UL)[q9]?:=λq9=>by rw[Bg w' M q9 _ _ _ ((hx.below.block _ (AQ.1 HX4.o.bm).1).trans HX4.o.bm)]
  have hwS:IntKind.u32.wrap (cu-r.t)=(mm:Int):=by rw[<-HMM.o.2.2.1];exact IntKind.wrap_u32 _
  have hsl:=Mx w' fb fo mF cF mm HMM.o.1;obtain rfl|rfl|rfl|rfl|rfl|rfl|rfl|rfl|rfl|rfl|rfl|rfl|rfl|rfl:i=0\/i=1\/i=2\/i=3\/i=4\/i=5\/i=6\/i=7\/i=8\/i=9\/i=10\/i=11\/i=12\/i=13:=AK
  all_goals(simp at ho;subst ho)
  all_goals try(have hK':=hK w' _ rfl (hx.step _ _ Cs C7) Cs;clear hK;simp[Region.binds] at hdep;rw[AR AO];go_simp;simpa[hc',hg',Cr,hdep,hwS,hsl] using hK')
  ·have d1:t 1=UN #[UE UG r.g,UE UG r.t,UD aSD nSD cSD,UD aSU nSU cSU]:=by simpa using(hdep ⟨1,UR⟩ AM rfl).2
   clear hdep;have bw:Below w.heap.size w w':=HX4.o.below.trans (hx.below.mono HX4.o.below.size);have hsz:w4.heap.size<=w'.heap.size:=hx.below.size;have A:=HSO.o w' bw;have hK':∀ ww v,Sr w4.heap.size ww v (nSU:Int) r.sD r.sU->Below w'.heap.size w' ww->K _ ww:=λww v hv hb=>hK ww v (by simpa using hv) (hx.step 2 v hb C7) hb
   clear hK;rw[AR AO];go_simp;try simp only[d1]
   refine A.mono ?_;rintro e w9 ⟨cs9,rfl,h9,hb9⟩;have hK2:=hK' w9 (UN cs9) ⟨cs9,rfl,h9.mono hsz⟩ hb9;clear hK' A h9 hb9;go_simp;simpa[hc',hg',Cr,d1,hwS,hsl] using hK2
  ·have f2:Sr w4.heap.size w' (t 2) (nSU:Int) r.sD r.sU:=by simpa using(hdep ⟨2,UR⟩ AM rfl).2
   have d10:t 10=UD (UI ⟨fb,fo,UJ⟩) mm cF:=by simpa using(hdep ⟨10,UR⟩ AM rfl).2
   clear hdep;obtain⟨cs,e2,hcp⟩:=f2;have hsz:w4.heap.size<=w'.heap.size:=hx.below.size;have bw:Below w.heap.size w w':=HX4.o.below.trans (hx.below.mono HX4.o.below.size);have A:=HTH.o w' bw hsz cs hcp;have hK':∀ ww v,El w4.heap.size ww v (G2 r)->DU w' ww v->Below w'.heap.size w' ww->K _ ww:=λww v hv hf hb=>hK ww v (by simpa using hv) (hx.s11 hLi v hb hf) hb
   clear hK hcp;rw[AR AO];go_simp;try simp only[e2,d10]
   refine A.mono ?_;rintro e w9 ⟨v9,rfl,h9,hf9,hb9⟩;have hK2:=hK' w9 v9 h9 hf9 hb9;clear hK' A h9 hf9 hb9;go_simp;simpa[hc',hg',Cr,e2,d10] using hK2
  ·have l11:L 11=true:=(hdep ⟨11,UR⟩ AM rfl).1;have f11:El w4.heap.size w' (t 11) (G2 r):=by simpa using(hdep ⟨11,UR⟩ AM rfl).2
   clear hdep;obtain⟨bD,mD,kD,bU,mU,kU,bT,mT,kT,e11,_⟩:=f11;have hfd:=Sc w' (G2 r).ok bD bU bT mD kD mU kU mT kT (G2 r).k;have hK':=hK w' (UN #[UD bD mD kD,UD bU mU kU,UE UO (G2 r).k,UD bT mT kT]) (by simpa using Ss.mk) (hx.s12 l11 e11) Cs;clear hK;rw[AR AO];go_simp;simpa[hc',hg',Cr,e11,hfd] using hK'
  ·clear hdep;have hsz:w4.heap.size<=w'.heap.size:=hx.below.size;have bb:Below w'.heap.size w' (w'.alloc (UP Cf 34)):=Cs.alloc Cw _;have hnw:Rl w4.heap.size 34 Cf (w'.alloc (UP Cf 34)) (UM (UI ⟨w'.heap.size,0,UJ⟩)):=⟨w'.heap.size,rfl,hsz,AV w' _⟩
   have hfr:DU w' (w'.alloc (UP Cf 34)) (UM (UI ⟨w'.heap.size,0,UJ⟩)):=λk hk=>by rw[Hj.1 hk];exact⟨AY _,AM⟩
   have hK':=hK (w'.alloc (UP Cf 34)) (UM (UI ⟨w'.heap.size,0,UJ⟩)) (by simpa using hnw) (hx.step 13 _ bb (λ_=>hfr)) bb;clear hK bb hnw hfr;rw[AR AO];go_simp;simpa[hc',hg',Cr] using hK'
 case hend=>
  intro o L t w' ho hx hg K hK;simp at ho;subst ho;have l11:L 11=true:=(hg 11 AL).1;have f11:El w4.heap.size w' (t 11) (G2 r):=by simpa using(hg 11 AL).2
  have l12:L 12=true:=(hg 12 AL).1;have f12:Ss w' (t 12):=by simpa using(hg 12 AL).2
  have l13:L 13=true:=(hg 13 AL).1;have f13:Rl w4.heap.size 34 Cf w' (t 13):=by simpa using(hg 13 AL).2
  clear hg;have hap:=hx.ap 11 AL 13 AL AL l11 l13;obtain⟨_,a9,b9,c9,d9,g9,e11,e12⟩:=hx.fld l12;obtain⟨bD,mD,kD,bU,mU,kU,bT,mT,kT,e11',q1,q2,q3,q4,q5,q6,_⟩:=f11;rw[e11] at e11';simp only[Value.agg.injEq,Array.mk.injEq,List.cons.injEq] at e11';obtain⟨rfl,rfl,rfl,rfl,rfl,_⟩:=e11';obtain⟨q,e13,hq,hbx⟩:=f13;have hn1:∀ ad,bD=UI ad->ad.block≠q:=λad e h=>by
   rw[e11,e13] at hap;exact hap ad.block (DH 1 rfl e) (Hj.2 h)
  have hn2:∀ ad,bU=UI ad->ad.block≠q:=λad e h=>by
   rw[e11,e13] at hap;exact hap ad.block (DH 2 rfl e) (Hj.2 h)
  have hK':∀ ww,Wr q w' ww->ww.heap[q]?=UI (UP #[UD bD mD kD,UD bU mU kU,UE UO (G2 r).k,UD bT mT kT] 34 (0,0))->K _ ww:=λww hw hr=>hK ww undef ⟨q,_,by simp[Cr];exact e13,hr,⟨bD,mD,kD,bU,mU,kU,bT,mT,kT,rfl,q1.keep (λad e=>hw.block _ (hn1 ad e)) (Aw hw.size.symm),q2.keep (λad e=>hw.block _ (hn2 ad e)) (Aw hw.size.symm),q4,q5⟩,hx.below.trans (hw.below hq)⟩
  clear hK q1 q2 q3 hn1 hn2;rw[AR AO];refine A8 34 (UT 5) (UT 48) rfl q _ e13 e12 34 _ hbx HSS.o rfl (by simp[Value.oneCell']) ?_;have hK2:=hK' _ (Wr.setRow _ _ _) (AB hbx);clear hK';simpa[hc',hg',Cr,Act.put] using hK2
 case hdone=>
  intro t w5 hf;obtain⟨Sb,ST,eS,hr,⟨bD,mD,kD,bU,mU,kU,bT,mT,kT,rfl,q1,q2,q4,q5⟩,b5⟩:=hf;have HX5:AP (CX w M #[UD da zs.length dc,UD ca 0 cc,UE UO f,UF false,UD ka ks.length kc,UF r.ok,UE UG r.g,UE UG r.t,UD aSD nSD cSD,UD aSU nSU cSU,UD (UI ⟨fb,fo,UJ⟩) mF cF,UD aD nD cD,UD aU nU cU,UE UO r.k,UD aT r.n cT,UE UG r.nx] #[UF r.ok,UE UG r.g,UE UG r.t,UD aSD nSD cSD,UD aSU nSU cSU,UD (UI ⟨fb,fo,UJ⟩) mF cF,UD aD nD cD,UD aU nU cU,UE UO r.k,UD aT r.n cT,UE UG r.nx] w5):=HX4.o.call b5;have k1:w5.cell? ⟨M,1,UJ⟩=UI (UE UG r.g):=by rw[AA HX5.o.bm 1];rfl
  have s0:w5.cell? ⟨Sb,0,UJ⟩=UI (UD bD mD kD):=by rw[AA hr 0];rfl
  have s1:w5.cell? ⟨Sb,1,UJ⟩=UI (UD bU mU kU):=by rw[AA hr 1];rfl
  have hwG:(r.g+1)%4294967296=r.g+1:=AG HGN.o
  have HES:AP (Calls Tryz.prog 52 #[UN #[UE UG (r.g+1),UE UG cu,UD bD mD kD,UD bU mU kU]] w5 λe w'=>∃ v,e=UQ v/\DT w' w5.heap.size v (Le r)/\Below w5.heap.size w5 w'):=by
   show Calls _ _ _ _ _
   have hs:=HSP.o;rw[show Le r=Gz (r.g+1) cu (G2 r).D (G2 r).U by unfold Le;rw[HCU.o]];exact Kx (r.g+1) cu bD bU mD kD mU kU (G2 r).D (G2 r).U w5 q4 q5 (AG hs.2.1) (AG hs.2.2) q1 q2 ⟨AG HGN.o,AG HGN.o⟩ HUT.o hs.1
  simp only[eS];clear eS hr q1 q2 q4 q5 b5 HSO HTH;go_wp2_with fail;refine HES.o.mono ?_;rintro e w6 ⟨v6,rfl,ho6,b6⟩;obtain⟨g,gc,rfl,hg1,hg2,hg3,hg4,_⟩:=ho6.at_;have hL6:(Le r).length=128:=Gr;rw[hL6];have HX6:AP (CX w M #[UD da zs.length dc,UD ca 0 cc,UE UO f,UF false,UD ka ks.length kc,UF r.ok,UE UG r.g,UE UG r.t,UD aSD nSD cSD,UD aSU nSU cSU,UD (UI ⟨fb,fo,UJ⟩) mF cF,UD aD nD cD,UD aU nU cU,UE UO r.k,UD aT r.n cT,UE UG r.nx] #[UF r.ok,UE UG r.g,UE UG r.t,UD aSD nSD cSD,UD aSU nSU cSU,UD (UI ⟨fb,fo,UJ⟩) mF cF,UD aD nD cD,UD aU nU cU,UE UO r.k,UD aT r.n cT,UE UG r.nx] w6):=HX5.o.call b6;have HGC:AP (128<=gc):=by rw[hL6] at hg3;exact hg3
  obtain⟨z0,hz0⟩:∃ z0,(Le r).take 64=z0:=⟨_,rfl⟩
  obtain⟨z1,hz1⟩:∃ z1,(Le r).drop 64=z1:=⟨_,rfl⟩
  obtain⟨sl,hsl⟩:∃ sl:Int,(r.g+1)%2=sl:=⟨_,rfl⟩
  obtain⟨s,hs⟩:∃ s:Nat,((r.g+1)%2*2).toNat=s:=⟨_,rfl⟩
  have hsl2:0<=sl/\sl<2/\(s:Int)=2*sl:=AG HGN.o
  have HZZ:AP (z0.length=64/\z1.length=64):=⟨by rw[<-hz0,Az,hL6];rfl,by rw[<-hz1,Bj,hL6]⟩
  have HBY:AP (Cu z0/\Cu z1):=by have:=JB HSP.o.1 ⟨AG HGN.o,AG HGN.o⟩ HUT.o;have hb:Cu (Le r):=by unfold Le;rw[HCU.o];exact this
                                 exact⟨by rw[<-hz0];exact hb.take _,by rw[<-hz1];exact hb.drop _⟩
  have HB0:AP (At .u8 w6 (UI ⟨g,0,UJ⟩) z0):=by rw[<-hz0];exact Rm hg4 64
  have HB1:AP (At .u8 w6 (UI ⟨g,64,UJ⟩) z1):=by rw[<-hz1];exact Rn hg4 64
  have HST2:AP ((s+2)*64<=zs.length):=by have:=HVB.o;unfold EA at this;show _<=_;omega
  have HM1:AP (Io zs.length (zs,[],f,false)/\Io zs.length (dW (zs,[],f,false) (s:Int) z0)):=⟨Io.start HBZ.o HVB.o.2.2.2.2.2,(Io.start HBZ.o HVB.o.2.2.2.2.2).w (.inl rfl) _ HZZ.o.1 HBY.o.1⟩
  have HMD:=Cq (Io.mid HVB.o HBZ.o (by have:=HST2.o;omega:(s+1)*64<=zs.length) HZZ.o.1 HBY.o.1);have HM2:AP (Io zs.length (dY (dW (zs,[],f,false) (s:Int) z0))/\Io zs.length (dW (dY (dW (zs,[],f,false) (s:Int) z0)) ((s:Int)+1) z1)):=⟨HMD.o.1,HMD.o.1.w HMD.o.2 _ HZZ.o.2 HBY.o.2⟩
  have HCE:AP ((dY (dW (dY (dW (zs,[],f,false) (s:Int) z0)) ((s:Int)+1) z1))=KG zs f r/\Io zs.length (KG zs f r)):=by
   have e:(dY (dW (dY (dW (zs,[],f,false) (s:Int) z0)) ((s:Int)+1) z1))=KG zs f r:=by rw[Ry HVB.o HST2.o HZZ.o.1 HZZ.o.2];unfold KG;rw[hz0,hz1,hs]
   exact⟨e,by rw[<-e,Ry HVB.o HST2.o HZZ.o.1 HZZ.o.2];exact Io.fin HVB.o HBZ.o HST2.o HZZ.o.1 HBY.o.1 HZZ.o.2 HBY.o.2⟩
  have HW1:AP (∀ ww,Below w.heap.size w ww->Below w6.heap.size w6 ww->Calls Tryz.prog 54 #[UN #[UD da zs.length dc,UD ca 0 cc,UE UO f,UF false],UE UO (s:Int),UD (UI ⟨g,0,UJ⟩) 64 gc] ww λe w'=>∃ r,e=UQ r/\Ei w' r (dW (zs,[],f,false) (s:Int) z0).1 (dW (zs,[],f,false) (s:Int) z0).2.1 (dW (zs,[],f,false) (s:Int) z0).2.2.1 (dW (zs,[],f,false) (s:Int) z0).2.2.2/\Below ww.heap.size ww w'):=λww b b'=>T1 (o:=(zs,[],f,false)) (HDA.o.below b) HM1.o.1 HZL.o _ (HB0.o.below b') HZZ.o.1
  have HY1:AP (∀ ww v,Ei ww v (dW (zs,[],f,false) (s:Int) z0).1 (dW (zs,[],f,false) (s:Int) z0).2.1 (dW (zs,[],f,false) (s:Int) z0).2.2.1 (dW (zs,[],f,false) (s:Int) z0).2.2.2->Calls Tryz.prog 53 #[v] ww λe w'=>∃ r,e=UQ r/\Fj ww.heap.size w' r (dY (dW (zs,[],f,false) (s:Int) z0)).1 (dY (dW (zs,[],f,false) (s:Int) z0)).2.1 (dY (dW (zs,[],f,false) (s:Int) z0)).2.2.1 (dY (dW (zs,[],f,false) (s:Int) z0)).2.2.2/\Below ww.heap.size ww w'):=λww v h=>TN h HM1.o.2 HZL.o
  have k16:w6.cell? ⟨M,1,UJ⟩=UI (UE UG r.g):=by rw[AA HX6.o.bm 1];rfl
  have hwM:IntKind.i64.wrap (2*sl)=(s:Int):=by rw[As];omega
  have hwA:IntKind.i64.wrap ((s:Int)+1)=(s:Int)+1:=by rw[As];omega
  have hwR:(r.g+1).tmod 2=sl:=by rw[<-hsl];exact CJ (AG HGN.o)
  have hwL:IntKind.i64.wrap sl=sl:=by rw[As];omega
  have hwE:sl%4294967296=sl:=AK
  clear ho6 b6 hg1 hg2 hg3 hg4 hL6 hz0 hz1 hs hsl2 k1 s0 s1 HES HMD HX5
  go_upto_region 10 with fail
  clear k16 hwG hwR hwL hwE;go_wp2_with fail;refine Ae AN ?_;refine DF 9 (λ_ a b=>Below a.heap.size a b) (frame:=(λ(a b c d e f g h i j k l m n o p q r s u v w x y z A B C D E F G H I J K L M N O P Q R S T U V W X Y Z a0 a1 a2 a3 a4 a5 a6 a7 a8 a9 b0 b1 b2 b3 b4 b5 b6 b7 b8 b9 c0 c1 c2 c3 c4:UL)=>λ(t:Nat->UL)=>({ tmps:=List.toArray [a,b,c,d,e,f,g,h,t 8,i,j,k,l,m,n,o,p,q,r,s,u,v,w,x,y,z,A,B,C,D,E,F,G,H,I,J,K,L,M,N,O,P,Q,R,S,T,U,V,W,X,Y,Z,a0,a1,a2,a3,a4,a5,a6,a7,a8,a9,b0,b1,b2,b3,t 0,t 1,t 2,t 3,t 4,t 5,t 6,t 7,b4,b5,b6,b7,b8,b9,c0,c1,c2,c3,c4],defers:=[] }:Act)) _ _ _ _ _ _ _ _ _ _ _ _ _ _ _ _ _ _ _ _ _ _ _ _ _ _ _ _ _ _ _ _ _ _ _ _ _ _ _ _ _ _ _ _ _ _ _ _ _ _ _ _ _ _ _ _ _ _ _ _ _ _ _ _ _ _ _ _ _ _ _ _ _ _ _ _)
   (Ext:=λL u w'=>Fo w6 [7,8] L u w') (Good:=λi L w' v=>if i=0 then v=UM (UI ⟨w.heap.size,0,UJ⟩) else if i=1 then v=UN #[UD da zs.length dc,UD ca 0 cc,UE UO f,UF false] else if i=2 then v=UE UO sl else if i=3 then v=UE UO (s:Int) else if i=4 then v=UD (UI ⟨g,0,UJ⟩) 128 gc else if i=5 then v=UD (UI ⟨g,0,UJ⟩) 64 gc else if i=6 then Ei w' v (dW (zs,[],f,false) (s:Int) z0).1 (dW (zs,[],f,false) (s:Int) z0).2.1 (dW (zs,[],f,false) (s:Int) z0).2.2.1 (dW (zs,[],f,false) (s:Int) z0).2.2.2 else if i=7 then Fj w6.heap.size w' v (dY (dW (zs,[],f,false) (s:Int) z0)).1 (dY (dW (zs,[],f,false) (s:Int) z0)).2.1 (dY (dW (zs,[],f,false) (s:Int) z0)).2.2.1 (dY (dW (zs,[],f,false) (s:Int) z0)).2.2.2 else if i=8 then Rl w6.heap.size 40 Cd w' v else True) (Fin:=λu ww=>∃ Q V,u 8=UM (UI ⟨Q,0,UJ⟩)/\ww.heap[Q]?=UI (UP V 40 (0,0))/\Ei ww (UN V) (dY (dW (zs,[],f,false) (s:Int) z0)).1 (dY (dW (zs,[],f,false) (s:Int) z0)).2.1 (dY (dW (zs,[],f,false) (s:Int) z0)).2.2.1 (dY (dW (zs,[],f,false) (s:Int) z0)).2.2.2/\V.size=4/\w6.heap.size<=Q/\Below w6.heap.size w6 ww) rfl AN ?hstab AN ?hop ?hend ?hdone _ _ ((λ(x0 x1 x2 x3 x4 x5 x6 x7 x8:UL)=>λ(i:Nat)=>if i=0 then x0 else if i=1 then x1 else if i=2 then x2 else if i=3 then x3 else if i=4 then x4 else if i=5 then x5 else if i=6 then x6 else if i=7 then x7 else if i=8 then x8 else undef) _ _ _ _ _ _ _ _ _) _ AM ?none ?ext AM
  case none=>exact λ_=>FJ
  case ext=>exact Fo.start w6 [7,8] _ _ (λ_=>FJ) ⟨rfl,rfl,rfl,AY _,λ_ _=>rfl⟩
  case hstab=>
   intro j L w9 w' i v _ hM _ _ h;by_cases h6:j=6
   ·subst h6;simp at h |-;exact h.below hM
   by_cases h7:j=7
   ·subst h7;simp at h |-;exact h.below hM
   by_cases h8:j=8
   ·subst h8;simp at h |-;exact h.below hM
   simp only[if_neg h6,if_neg h7,if_neg h8] at h |-;exact h
  case hop=>
   intro i o L t w' hi ho hLi hx hdep K hK;have cG:∀ q9:Nat,w'.cell? ⟨w.heap.size,q9,UJ⟩=(#[UD da zs.length dc,UD ca 0 cc,UE UO f,UF false,UD ka ks.length kc,UF r.ok,UE UG r.g,UE UG r.t,UD aSD nSD cSD,UD aSU nSU cSU,UD (UI ⟨fb,fo,UJ⟩) mF cF,UD aD nD cD,UD aU nU cU,UE UO r.k,UD aT r.n cT,UE UG r.nx]:Array UL)[q9]?:=λq9=>by rw[Bg w' w.heap.size q9 _ _ _ ((hx.below.block _ (AQ.1 HX6.o.b0).1).trans HX6.o.b0)]
   have hsq:=SZ w' g gc HGC.o;obtain rfl|rfl|rfl|rfl|rfl|rfl|rfl|rfl|rfl:i=0\/i=1\/i=2\/i=3\/i=4\/i=5\/i=6\/i=7\/i=8:=AK
   all_goals(simp at ho;subst ho)
   all_goals try(have hK':=hK w' _ rfl (hx.step _ _ Cs C7) Cs;clear hK;simp[Region.binds] at hdep;rw[AR AO];go_simp;simpa[hc',hg',Cr,hdep,hwM,hsq] using hK')
   ·have d1:t 1=UN #[UD da zs.length dc,UD ca 0 cc,UE UO f,UF false]:=by simpa using(hdep ⟨1,UR⟩ AM rfl).2
    have d3:t 3=UE UO (s:Int):=by simpa using(hdep ⟨3,UR⟩ AM rfl).2
    have d5:t 5=UD (UI ⟨g,0,UJ⟩) 64 gc:=by simpa using(hdep ⟨5,UR⟩ AM rfl).2
    clear hdep;have bw:Below w.heap.size w w':=HX6.o.below.trans (hx.below.mono HX6.o.below.size);have A:=HW1.o w' bw hx.below;have hK':∀ ww v,Ei ww v (dW (zs,[],f,false) (s:Int) z0).1 (dW (zs,[],f,false) (s:Int) z0).2.1 (dW (zs,[],f,false) (s:Int) z0).2.2.1 (dW (zs,[],f,false) (s:Int) z0).2.2.2->Below w'.heap.size w' ww->K _ ww:=λww v hv hb=>hK ww v (by simpa using hv) (hx.step 6 v hb C7) hb
    clear hK;rw[AR AO];go_simp;try simp only[d1,d3,d5]
    refine A.mono ?_;rintro e w9 ⟨v9,rfl,h9,hb9⟩;have hK2:=hK' w9 v9 h9 hb9;clear hK' A h9 hb9;go_simp;simpa[hc',hg',Cr,d1,d3,d5,hwM,hsq] using hK2
   ·have f6:Ei w' (t 6) (dW (zs,[],f,false) (s:Int) z0).1 (dW (zs,[],f,false) (s:Int) z0).2.1 (dW (zs,[],f,false) (s:Int) z0).2.2.1 (dW (zs,[],f,false) (s:Int) z0).2.2.2:=by simpa using(hdep ⟨6,UR⟩ AM rfl).2
    clear hdep;have hsz:w6.heap.size<=w'.heap.size:=hx.below.size;have A:=HY1.o w' (t 6) f6;have hK':∀ ww v,Fj w6.heap.size ww v (dY (dW (zs,[],f,false) (s:Int) z0)).1 (dY (dW (zs,[],f,false) (s:Int) z0)).2.1 (dY (dW (zs,[],f,false) (s:Int) z0)).2.2.1 (dY (dW (zs,[],f,false) (s:Int) z0)).2.2.2->DU w' ww v->Below w'.heap.size w' ww->K _ ww:=λww v hv hf hb=>hK ww v (by simpa using hv) (hx.step 7 v hb (λ_=>hf)) hb
    clear hK;rw[AR AO];go_simp;try simp only[]
    refine A.mono ?_;rintro e w9 ⟨v9,rfl,h9,hb9⟩;have hK2:=hK' w9 v9 (h9.mono hsz) h9.fresh hb9;clear hK' A h9 hb9;go_simp;simpa[hc',hg',Cr,hwM,hsq] using hK2
   ·clear hdep;have hsz:w6.heap.size<=w'.heap.size:=hx.below.size;have bb:Below w'.heap.size w' (w'.alloc (UP Cd 40)):=Cs.alloc Cw _;have hnw:Rl w6.heap.size 40 Cd (w'.alloc (UP Cd 40)) (UM (UI ⟨w'.heap.size,0,UJ⟩)):=⟨w'.heap.size,rfl,hsz,AV w' _⟩
    have hfr:DU w' (w'.alloc (UP Cd 40)) (UM (UI ⟨w'.heap.size,0,UJ⟩)):=λk hk=>by rw[Hj.1 hk];exact⟨AY _,AM⟩
    have hK':=hK (w'.alloc (UP Cd 40)) (UM (UI ⟨w'.heap.size,0,UJ⟩)) (by simpa using hnw) (hx.step 8 _ bb (λ_=>hfr)) bb;clear hK bb hnw hfr;rw[AR AO];go_simp;simpa[hc',hg',Cr] using hK'
  case hend=>
   intro o L t w' ho hx hg K hK;simp at ho;subst ho;have l7:L 7=true:=(hg 7 AL).1;have f7:Fj w6.heap.size w' (t 7) (dY (dW (zs,[],f,false) (s:Int) z0)).1 (dY (dW (zs,[],f,false) (s:Int) z0)).2.1 (dY (dW (zs,[],f,false) (s:Int) z0)).2.2.1 (dY (dW (zs,[],f,false) (s:Int) z0)).2.2.2:=by simpa using(hg 7 AL).2
   have l8:L 8=true:=(hg 8 AL).1;have f8:Rl w6.heap.size 40 Cd w' (t 8):=by simpa using(hg 8 AL).2
   clear hg;have hap:=hx.ap 7 AL 8 AL AL l7 l8;obtain⟨q,e8,hq,hbx⟩:=f8;obtain⟨da9,dc9,ca9,cc9,E,e7,q1,q2,q3,q4,q5,⟨qs,hP,hqs⟩,q7⟩:=f7;have hne:∀ ad,da9=UI ad->ad.block≠q:=λad e h=>by
    rw[e7,e8] at hap;exact hap ad.block (DH 0 rfl e) (Hj.2 h)
   have hK':∀ ww,Wr q w' ww->ww.heap[q]?=UI (UP #[UD da9 (dY (dW (zs,[],f,false) (s:Int) z0)).1.length dc9,UD ca9 (dY (dW (zs,[],f,false) (s:Int) z0)).2.1.length cc9,UE UO (dY (dW (zs,[],f,false) (s:Int) z0)).2.2.1,UF (dY (dW (zs,[],f,false) (s:Int) z0)).2.2.2] 40 (0,0))->K _ ww:=λww hw hr=>hK ww undef ⟨q,_,by simp[Cr];exact e8,hr,(show Fj w6.heap.size ww _ (dY (dW (zs,[],f,false) (s:Int) z0)).1 (dY (dW (zs,[],f,false) (s:Int) z0)).2.1 (dY (dW (zs,[],f,false) (s:Int) z0)).2.2.1 (dY (dW (zs,[],f,false) (s:Int) z0)).2.2.2 from⟨da9,dc9,ca9,cc9,E,rfl,q1.keep (λad e=>hw.block _ (hne ad e)) (Aw hw.size.symm),q2.keep (λad e=>hw.block _ (hne ad e)) (Aw hw.size.symm),q3,q4,by rw[hw.size];exact q5,⟨qs,hP.keepD (T:=40) (λk cur t hh ht=>hw.block k (λe=>by rw[e,hbx] at hh;simp at hh;exact ht hh.2.symm)) (.inl rfl),hqs⟩,q7⟩).at_,rfl,hq,hx.below.trans (hw.below hq)⟩
   clear hK q1 q2 q3 hne hP hqs;rw[AR AO];refine A8 40 (UT 8) (UT 73) rfl q _ e8 e7 40 _ hbx Tryz.sizeDv rfl (by simp[Value.oneCell']) ?_;have hK2:=hK' _ (Wr.setRow _ _ _) (AB hbx);clear hK';simpa[hc',hg',Cr,Act.put] using hK2
  case hdone=>
   intro t w7 hf;obtain⟨Q,V,eQ,hr,hD,hV4,hQ6,b7⟩:=hf;have HX7:AP (CX w M #[UD da zs.length dc,UD ca 0 cc,UE UO f,UF false,UD ka ks.length kc,UF r.ok,UE UG r.g,UE UG r.t,UD aSD nSD cSD,UD aSU nSU cSU,UD (UI ⟨fb,fo,UJ⟩) mF cF,UD aD nD cD,UD aU nU cU,UE UO r.k,UD aT r.n cT,UE UG r.nx] #[UF r.ok,UE UG r.g,UE UG r.t,UD aSD nSD cSD,UD aSU nSU cSU,UD (UI ⟨fb,fo,UJ⟩) mF cF,UD aD nD cD,UD aU nU cU,UE UO r.k,UD aT r.n cT,UE UG r.nx] w7):=HX6.o.call b7;have HQ:AP (w7.heap[Q]?=UI (UP V 40 (0,0))/\V.size=4/\(Tryz.prog.info? 40).map (·.size)=UI V.size/\Q<w7.heap.size/\M<Q):=⟨hr,hV4,by rw[hV4];exact Tryz.sizeDv,(AQ.1 hr).1,AG (AQ.1 HX6.o.bm).1⟩
   have HW2:AP (∀ ww,Below w7.heap.size w7 ww->Calls Tryz.prog 54 #[UN V,UE UO ((s:Int)+1),UD (UI ⟨g,64,UJ⟩) 64 (gc-64)] ww λe w'=>∃ r,e=UQ r/\Ei w' r (dW (dY (dW (zs,[],f,false) (s:Int) z0)) ((s:Int)+1) z1).1 (dW (dY (dW (zs,[],f,false) (s:Int) z0)) ((s:Int)+1) z1).2.1 (dW (dY (dW (zs,[],f,false) (s:Int) z0)) ((s:Int)+1) z1).2.2.1 (dW (dY (dW (zs,[],f,false) (s:Int) z0)) ((s:Int)+1) z1).2.2.2/\Below ww.heap.size ww w'):=λww b=>T1 (hD.below b) HM2.o.1 HZL.o _ (HB1.o.below ((b7.trans (b.mono b7.size)))) HZZ.o.2
   have HY2:AP (∀ ww v,Ei ww v (dW (dY (dW (zs,[],f,false) (s:Int) z0)) ((s:Int)+1) z1).1 (dW (dY (dW (zs,[],f,false) (s:Int) z0)) ((s:Int)+1) z1).2.1 (dW (dY (dW (zs,[],f,false) (s:Int) z0)) ((s:Int)+1) z1).2.2.1 (dW (dY (dW (zs,[],f,false) (s:Int) z0)) ((s:Int)+1) z1).2.2.2->Calls Tryz.prog 53 #[v] ww λe w'=>∃ r,e=UQ r/\Fj ww.heap.size w' r (dY (dW (dY (dW (zs,[],f,false) (s:Int) z0)) ((s:Int)+1) z1)).1 (dY (dW (dY (dW (zs,[],f,false) (s:Int) z0)) ((s:Int)+1) z1)).2.1 (dY (dW (dY (dW (zs,[],f,false) (s:Int) z0)) ((s:Int)+1) z1)).2.2.1 (dY (dW (dY (dW (zs,[],f,false) (s:Int) z0)) ((s:Int)+1) z1)).2.2.2/\Below ww.heap.size ww w'):=λww v h=>TN h HM2.o.2 HZL.o
   simp only[eQ];clear eQ hr hD hV4 hQ6 b7;go_wp2_with fail;refine Ae AN ?_;refine DF 8 (λ_ a b=>Below a.heap.size a b) (frame:=(λ(a b c d e f g h i j k l m n o p q r s u v w x y z A B C D E F G H I J K L M N O P Q R S T U V W X Y Z a0 a1 a2 a3 a4 a5 a6 a7 a8 a9 b0 b1 b2 b3 b4 b5 b6 b7 b8 b9 c0 c1 c2 c3 c4 c5:UL)=>λ(t:Nat->UL)=>({ tmps:=List.toArray [a,b,c,d,e,f,g,h,i,j,k,l,m,n,o,p,q,r,s,u,v,w,x,y,z,A,B,C,D,E,F,G,H,I,J,K,L,M,N,O,P,Q,R,S,T,U,V,W,X,Y,Z,a0,a1,a2,a3,a4,a5,a6,a7,a8,a9,b0,b1,b2,b3,b4,b5,b6,b7,b8,b9,c0,c1,c2,t 0,t 1,t 2,t 3,t 4,t 5,t 6,t 7,c3,c4,c5],defers:=[] }:Act)) _ _ _ _ _ _ _ _ _ _ _ _ _ _ _ _ _ _ _ _ _ _ _ _ _ _ _ _ _ _ _ _ _ _ _ _ _ _ _ _ _ _ _ _ _ _ _ _ _ _ _ _ _ _ _ _ _ _ _ _ _ _ _ _ _ _ _ _ _ _ _ _ _ _ _ _ _)
    (Ext:=λL u w'=>Fo w7 [] L u w') (Good:=λi L w' v=>if i=0 then v=UN V else if i=1 then v=UE UO sl else if i=2 then v=UE UO (s:Int) else if i=3 then v=UE UO ((s:Int)+1) else if i=4 then v=UD (UI ⟨g,0,UJ⟩) 128 gc else if i=5 then v=UD (UI ⟨g,64,UJ⟩) 64 (gc-64) else if i=6 then Ei w' v (dW (dY (dW (zs,[],f,false) (s:Int) z0)) ((s:Int)+1) z1).1 (dW (dY (dW (zs,[],f,false) (s:Int) z0)) ((s:Int)+1) z1).2.1 (dW (dY (dW (zs,[],f,false) (s:Int) z0)) ((s:Int)+1) z1).2.2.1 (dW (dY (dW (zs,[],f,false) (s:Int) z0)) ((s:Int)+1) z1).2.2.2 else if i=7 then Fj w7.heap.size w' v (dY (dW (dY (dW (zs,[],f,false) (s:Int) z0)) ((s:Int)+1) z1)).1 (dY (dW (dY (dW (zs,[],f,false) (s:Int) z0)) ((s:Int)+1) z1)).2.1 (dY (dW (dY (dW (zs,[],f,false) (s:Int) z0)) ((s:Int)+1) z1)).2.2.1 (dY (dW (dY (dW (zs,[],f,false) (s:Int) z0)) ((s:Int)+1) z1)).2.2.2 else True) (Fin:=λ_ ww=>∃ V,ww.heap[Q]?=UI (UP V 40 (0,0))/\Ei ww (UN V) (dY (dW (dY (dW (zs,[],f,false) (s:Int) z0)) ((s:Int)+1) z1)).1 (dY (dW (dY (dW (zs,[],f,false) (s:Int) z0)) ((s:Int)+1) z1)).2.1 (dY (dW (dY (dW (zs,[],f,false) (s:Int) z0)) ((s:Int)+1) z1)).2.2.1 (dY (dW (dY (dW (zs,[],f,false) (s:Int) z0)) ((s:Int)+1) z1)).2.2.2/\V.size=4/\∃ w8,Below w7.heap.size w7 w8/\Wr Q w8 ww) rfl AN ?hstab AN ?hop ?hend ?hdone _ _ ((λ(x0 x1 x2 x3 x4 x5 x6 x7:UL)=>λ(i:Nat)=>if i=0 then x0 else if i=1 then x1 else if i=2 then x2 else if i=3 then x3 else if i=4 then x4 else if i=5 then x5 else if i=6 then x6 else if i=7 then x7 else undef) _ _ _ _ _ _ _ _) _ AM ?none ?ext AM
   case none=>exact λ_=>FJ
   case ext=>exact Fo.start w7 [] _ _ (λ_=>FJ) ⟨rfl,rfl,rfl,AY _,λ_ _=>rfl⟩
   case hstab=>
    intro j L w9 w' i v _ hM _ _ h;by_cases h6:j=6
    ·subst h6;simp at h |-;exact h.below hM
    by_cases h7:j=7
    ·subst h7;simp at h |-;exact h.below hM
    simp only[if_neg h6,if_neg h7] at h |-;exact h
   case hop=>
    intro i o L t w' hi ho hLi hx hdep K hK;have hsq:=Sa w' g gc HGC.o;obtain rfl|rfl|rfl|rfl|rfl|rfl|rfl|rfl:i=0\/i=1\/i=2\/i=3\/i=4\/i=5\/i=6\/i=7:=AK
    all_goals(simp at ho;subst ho)
    all_goals try(have hK':=hK w' _ rfl (hx.step _ _ Cs C7) Cs;clear hK;simp[Region.binds] at hdep;rw[AR AO];go_simp;simpa[hc',hg',Cr,hdep,hwM,hwA,hsq] using hK')
    ·clear hdep;have hK':=hK w' (UN V) AM (hx.step 0 _ Cs C7) Cs;clear hK;rw[AR AO];refine BL 40 (UT 8) rfl Q rfl 40 _ (0,0) _ ((hx.below.block _ HQ.o.2.2.2.1).trans HQ.o.1) Tryz.underlying40 rfl HQ.o.2.2.1 ?_;simpa[hc',hg',Cr,Act.put] using hK'
    ·have d0:t 0=UN V:=by simpa using(hdep ⟨0,UR⟩ AM rfl).2
     have d3:t 3=UE UO ((s:Int)+1):=by simpa using(hdep ⟨3,UR⟩ AM rfl).2
     have d5:t 5=UD (UI ⟨g,64,UJ⟩) 64 (gc-64):=by simpa using(hdep ⟨5,UR⟩ AM rfl).2
     clear hdep;have A:=HW2.o w' hx.below;have hK':∀ ww v,Ei ww v (dW (dY (dW (zs,[],f,false) (s:Int) z0)) ((s:Int)+1) z1).1 (dW (dY (dW (zs,[],f,false) (s:Int) z0)) ((s:Int)+1) z1).2.1 (dW (dY (dW (zs,[],f,false) (s:Int) z0)) ((s:Int)+1) z1).2.2.1 (dW (dY (dW (zs,[],f,false) (s:Int) z0)) ((s:Int)+1) z1).2.2.2->Below w'.heap.size w' ww->K _ ww:=λww v hv hb=>hK ww v (by simpa using hv) (hx.step 6 v hb C7) hb
     clear hK;rw[AR AO];go_simp;try simp only[d0,d3,d5]
     refine A.mono ?_;rintro e w9 ⟨v9,rfl,h9,hb9⟩;have hK2:=hK' w9 v9 h9 hb9;clear hK' A h9 hb9;go_simp;simpa[hc',hg',Cr,d0,d3,d5,hwM,hwA,hsq] using hK2
    ·have f6:Ei w' (t 6) (dW (dY (dW (zs,[],f,false) (s:Int) z0)) ((s:Int)+1) z1).1 (dW (dY (dW (zs,[],f,false) (s:Int) z0)) ((s:Int)+1) z1).2.1 (dW (dY (dW (zs,[],f,false) (s:Int) z0)) ((s:Int)+1) z1).2.2.1 (dW (dY (dW (zs,[],f,false) (s:Int) z0)) ((s:Int)+1) z1).2.2.2:=by simpa using(hdep ⟨6,UR⟩ AM rfl).2
     clear hdep;have hsz:w7.heap.size<=w'.heap.size:=hx.below.size;have A:=HY2.o w' (t 6) f6;have hK':∀ ww v,Fj w7.heap.size ww v (dY (dW (dY (dW (zs,[],f,false) (s:Int) z0)) ((s:Int)+1) z1)).1 (dY (dW (dY (dW (zs,[],f,false) (s:Int) z0)) ((s:Int)+1) z1)).2.1 (dY (dW (dY (dW (zs,[],f,false) (s:Int) z0)) ((s:Int)+1) z1)).2.2.1 (dY (dW (dY (dW (zs,[],f,false) (s:Int) z0)) ((s:Int)+1) z1)).2.2.2->Below w'.heap.size w' ww->K _ ww:=λww v hv hb=>hK ww v (by simpa using hv) (hx.step 7 v hb C7) hb
     clear hK;rw[AR AO];go_simp;try simp only[]
     refine A.mono ?_;rintro e w9 ⟨v9,rfl,h9,hb9⟩;have hK2:=hK' w9 v9 (h9.mono hsz) hb9;clear hK' A h9 hb9;go_simp;simpa[hc',hg',Cr,hwM,hwA,hsq] using hK2
   case hend=>
    intro o L t w' ho hx hg K hK;simp at ho;subst ho;have f7:Fj w7.heap.size w' (t 7) (dY (dW (dY (dW (zs,[],f,false) (s:Int) z0)) ((s:Int)+1) z1)).1 (dY (dW (dY (dW (zs,[],f,false) (s:Int) z0)) ((s:Int)+1) z1)).2.1 (dY (dW (dY (dW (zs,[],f,false) (s:Int) z0)) ((s:Int)+1) z1)).2.2.1 (dY (dW (dY (dW (zs,[],f,false) (s:Int) z0)) ((s:Int)+1) z1)).2.2.2:=by simpa using(hg 7 AL).2
    clear hg;have hbx:=(hx.below.block _ HQ.o.2.2.2.1).trans HQ.o.1;obtain⟨da9,dc9,ca9,cc9,E,e7,q1,q2,q3,q4,q5,q6,q7⟩:=f7;have hK':∀ ww,Wr Q w' ww->ww.heap[Q]?=UI (UP #[UD da9 (dY (dW (dY (dW (zs,[],f,false) (s:Int) z0)) ((s:Int)+1) z1)).1.length dc9,UD ca9 (dY (dW (dY (dW (zs,[],f,false) (s:Int) z0)) ((s:Int)+1) z1)).2.1.length cc9,UE UO (dY (dW (dY (dW (zs,[],f,false) (s:Int) z0)) ((s:Int)+1) z1)).2.2.1,UF (dY (dW (dY (dW (zs,[],f,false) (s:Int) z0)) ((s:Int)+1) z1)).2.2.2] 40 (0,0))->K _ ww:=λww hw hr=>hK ww undef ⟨_,hr,((show Fj w7.heap.size w' _ (dY (dW (dY (dW (zs,[],f,false) (s:Int) z0)) ((s:Int)+1) z1)).1 (dY (dW (dY (dW (zs,[],f,false) (s:Int) z0)) ((s:Int)+1) z1)).2.1 (dY (dW (dY (dW (zs,[],f,false) (s:Int) z0)) ((s:Int)+1) z1)).2.2.1 (dY (dW (dY (dW (zs,[],f,false) (s:Int) z0)) ((s:Int)+1) z1)).2.2.2 from⟨da9,dc9,ca9,cc9,E,rfl,q1,q2,q3,q4,q5,q6,q7⟩).keep (λj hj _=>hw.block j (AG HQ.o.2.2.2.1)) (Aw hw.size.symm)).at_,rfl,w',hx.below,hw⟩
    clear hK q1 q2 q3 q6;rw[AR AO];refine A8 40 (UT 8) (UT 81) rfl Q _ rfl e7 40 _ hbx Tryz.sizeDv (by have:=HQ.o.2.1;simpa using this) (by simp[Value.oneCell']) ?_;have hK2:=hK' _ (Wr.setRow _ _ _) (AB hbx);clear hK';simpa[hc',hg',Cr,Act.put] using hK2
   case hdone=>
    intro t w9 hf;obtain⟨V2,hr,hD,hV4,w8,b8,hw8⟩:=hf;rw[HCE.o.1] at hD;have HX9:AP (CX w M #[UD da zs.length dc,UD ca 0 cc,UE UO f,UF false,UD ka ks.length kc,UF r.ok,UE UG r.g,UE UG r.t,UD aSD nSD cSD,UD aSU nSU cSU,UD (UI ⟨fb,fo,UJ⟩) mF cF,UD aD nD cD,UD aU nU cU,UE UO r.k,UD aT r.n cT,UE UG r.nx] #[UF r.ok,UE UG r.g,UE UG r.t,UD aSD nSD cSD,UD aSU nSU cSU,UD (UI ⟨fb,fo,UJ⟩) mF cF,UD aD nD cD,UD aU nU cU,UE UO r.k,UD aT r.n cT,UE UG r.nx] w9):=(HX7.o.call b8).put hw8 HQ.o.2.2.2.2;have HQ9:AP (w9.heap[Q]?=UI (UP V2 40 (0,0))/\(Tryz.prog.info? 40).map (·.size)=UI V2.size):=⟨hr,by rw[hV4];exact Tryz.sizeDv⟩
    have HSA:AP (Calls Tryz.prog 114 #[UN #[UD da zs.length dc,UD ca 0 cc,UE UO f,UF false,UD ka ks.length kc,UF r.ok,UE UG r.g,UE UG r.t,UD aSD nSD cSD,UD aSU nSU cSU,UD (UI ⟨fb,fo,UJ⟩) mF cF,UD aD nD cD,UD aU nU cU,UE UO r.k,UD aT r.n cT,UE UG r.nx],UN V2,UE UO 9] w9 λe w'=>∃ X,e=UQ (UN X)/\RM w9.heap.size w' X (JH zs f r) (FI zs f r).1 (FI zs f r).2.1 ks (FI zs f r).2.2.1 (FI zs f r).2.2.2 (JG zs f r)/\Below w9.heap.size w9 w'):=by
     rw[HO.o.1,HO.o.2.1,HO.o.2.2];have hk:=HCE.o.2;exact Rd #[UD da zs.length dc,UD ca 0 cc,UE UO f,UF false,UD ka ks.length kc,UF r.ok,UE UG r.g,UE UG r.t,UD aSD nSD cSD,UD aSU nSU cSU,UD (UI ⟨fb,fo,UJ⟩) mF cF,UD aD nD cD,UD aU nU cU,UE UO r.k,UD aT r.n cT,UE UG r.nx] (UN V2) zs [] f false (KG zs f r) ks 9 r w9 (HGA.o.below HX9.o.below) hD HLL.o.1 (by rw[hk.len];exact HZL.o) (AG hk.pl) (λi=>AG (hk.ps i)) hk.bz hk.bp HLL.o.2
    clear hr hD hV4 b8 hw8;go_wp2_with (first
     |(refine Ab rfl 48 (UT 1) rfl w.heap.size rfl 48 _ (0,0) _ HX9.o.b0 Tryz.underlying48 rfl Tryz.sizeG ?_)
     |(refine Ab rfl 40 (UT 8) rfl Q rfl 40 _ (0,0) _ HQ9.o.1 Tryz.underlying40 rfl HQ9.o.2 ?_)
     |fail)
    refine HSA.o.mono ?_;rintro e w10 ⟨X9,rfl,hR9,b9⟩;have HR9:AP (w10.heap[w.heap.size+1]?=UI (UP ER 50 (0,0))):=(b9.block _ (AQ.1 HX9.o.b1).1).trans HX9.o.b1;have HXX:AP ((Tryz.prog.info? 50).map (·.size)=UI X9.size/\ER.size=X9.size/\X9.all (·.oneCell')=true):=⟨by rw[hR9.row.1];exact Tryz.sizeR,by rw[hR9.row.1];rfl,hR9.row.2⟩
    have HF:AP (RM w9.heap.size w10 X9 (JH zs f r) (FI zs f r).1 (FI zs f r).2.1 ks (FI zs f r).2.2.1 (FI zs f r).2.2.2 (JG zs f r)/\Below w.heap.size w w10/\w.heap.size+1<w9.heap.size):=⟨hR9,HX9.o.below.trans (b9.mono HX9.o.below.size),(AQ.1 HX9.o.b1).1⟩
    clear hR9 b9;go_wp2_with (first
     |(refine AC 50 (UT 2) (UT 84) (w.heap.size+1) X9 50 HR9.o HXX.o.1 HXX.o.2.1 HXX.o.2.2 ?_)
     |fail)
    (try simp only[Exit.inBlock,Exit.then])
    have hw9:=Wr.setRow (w.heap.size+1) w10 X9;have hfin:=(HF.o.1.keep (Aw hw9.size.symm) (λk hk _=>hw9.block k (AG HF.o.2.2))).mono (show w.heap.size<=w9.heap.size by have:=HF.o.2.2;omega);have hbel:Below w.heap.size w (w10.setRow (w.heap.size+1) X9):=HF.o.2.1.trans (hw9.below AK);have hres:=CY w10 (w.heap.size+1) _ X9 _ _ HR9.o;clear hw9;exact AZ (v:=UN X9) (AW rfl _ _ (w.heap.size+1) 50 _ (0,0) _ rfl hres Tryz.underlying50 rfl HXX.o.1) rfl ⟨X9,rfl,hfin,hbel⟩
end Go.Proofs.YthmeoilbmfdhfaaGreat
