import Derived.Test.YthmeoilbmfdhfaaGreatMSuT
import Derived.Test.YthmeoilbmfdhfaaGreatMRcG
open Go.Value renaming slice->UD,int->UE
open Go.IntKind renaming u32->UG
open Go.Obj renaming cells->UP
open Option renaming some->UI
namespace Go.Proofs.YthmeoilbmfdhfaaGreat
set_option maxHeartbeats 8000000
set_option maxRecDepth 100000
open Go.ChangeShapes Go.WideShapes Go.ChangeAt Go.RowKit
set_option linter.unusedVariables false
noncomputable def FI (zs:List Int) (f:Int) (r:Dt):DO:=if GR r=r.t\/r.g=4000000000 then(zs,[],f,false) else KG zs f r
noncomputable def JG (zs:List Int) (f:Int) (r:Dt):Dt:=if GR r=r.t\/r.g=4000000000 then r else SR r (KG zs f r)
noncomputable def JH (zs:List Int) (f:Int) (r:Dt):Int:=if GR r=r.t then 9 else if r.g=4000000000 then 8 else TM 9 (KG zs f r)
theorem JB {gn tl:Int} {D U:List Int} (hs:Jb gn tl D U) (ug:D8 gn) (ut:D8 tl):Cu (Gz gn tl D U):=by
 have h:=LI (D:=D) (U:=U) ug ut;unfold O5 at h;rw[Fi hs] at h;exact h
theorem Fk {zs:List Int} {f:Int} {r:Dt} (h:GR r=r.t\/r.g=4000000000):FI zs f r=(zs,[],f,false)/\JG zs f r=r:=by unfold FI JG;rw[AR h,AR h];exact⟨rfl,rfl⟩
theorem M0 {zs:List Int} {f:Int} {r:Dt} (h1:¬ GR r=r.t) (h2:¬ r.g=4000000000):FI zs f r=KG zs f r/\JG zs f r=SR r (KG zs f r)/\JH zs f r=TM 9 (KG zs f r):=by
 unfold FI JG JH;rw[AS (by simp[h1,h2]),AS (by simp[h1,h2]),AS h1,AS h2];exact⟨rfl,rfl,rfl⟩
theorem Re {lo:Nat} (G:Nat) (C:Array Value) (zs ks:List Int) (f:Int) (r:Dt) (n:Nat) (w:World) (hG:w.heap[G]?=UI (UP C 48 (0,0))) (h:GL lo w C zs ks f false r) (hI:QD zs f r n) (hn:0<n) (hle:Eu r) (bz:Cu zs) (hk:ks.length<=1048576) :
  Calls Tryz.prog 66 #[.pointer (UI ⟨G,0,none⟩)] w λe w'=>∃ X,e=.returned (.agg X)/\IW w.heap.size w' X (JH zs f r) (FI zs f r).1 (FI zs f r).2.1 ks (FI zs f r).2.2.1 (FI zs f r).2.2.2 (JG zs f r)/\Below w.heap.size w w':=by
 have hv:=hI.v;have hz:zs.length<=1048576:=AI hv.2.2.1 hv.1
 have hz0:0<zs.length:=AG hv.2.1
 obtain⟨m,hm,hcut⟩:=hI.cut;have HGL:=Cq h;obtain⟨da,dc,ca,cc,ka,kc,aSD,nSD,cSD,aSU,nSU,cSU,aF,mF,cF,aD,nD,cD,aU,nU,cU,aT,cT,hC,_,_,_,⟨A1,A2,A3,A4,A5,A6,e1,e2,e3,e4,e5,e6⟩,_⟩:=h;have HCT:=Cq (λww (b:Below w.heap.size w ww)=>Qd aSD aSU aF aD aU aT nSD cSD nSU cSU mF cF nD cD nU cU r.n cT r.sD r.sU r.F r.D r.U r.T r.g r.t r.k r.nx r.ok ww e3 (AG hle.2.2.1) (AG hle.2.1) (A3.below b));have hcv:JK r.ok nSU r.F mF r.k r.nx=GR r:=by unfold GR;rw[e2,e3,show mF*4/4=mF by omega]
 rw[hcv] at HCT;have HG:=Cq hG;have HC:=Cq hC;have HGl:AP (G<w.heap.size):=(AQ.1 hG).1;have HF:=Cq hI;have HH:AP (zs.length<=1048576/\0<zs.length/\ks.length<=1048576/\Cu zs/\Eu r/\0<n):=⟨hz,hz0,hk,bz,hle,hn⟩
 have HM:AP (m<=n/\GR r=r.t+m):=⟨hm,hcut⟩
 have HO0:AP (OE w 50 ER (w.alloc (UP ER 50))):=OE.start _ _ _;have HSI:AP ((Tryz.prog.info? 36).map (·.size)=UI 11):=by show _=_;kernel_rfl
 obtain⟨cut,hct⟩:∃ c,GR r=c:=⟨_,rfl⟩
 rw[hct] at HCT;have HCU:=Cq hct;clear hv hz hz0 hm hcut hC A1 A2 A3 A4 A5 A6 e1 e2 e3 e4 e5 e6 hcv hG hI hn hle bz hk hct;go_enter Tryz.func66,Tryz.ntmps66
 go_upto_region 1 with fail
 change Code.wp _ _ _ _ (w.alloc (UP ER 50));generalize w.alloc (UP ER 50)=w1 at *;have r1:w1.heap[G]?=UI (UP C 48 (0,0)):=by rw[HO0.o.below.block _ HGl.o];exact HG.o
 have HM1:AP (w1.rangeAt G 5 [.bool r.ok,UE UG r.g,UE UG r.t,UD aSD nSD cSD,UD aSU nSU cSU,UD aF mF cF,UD aD nD cD,UD aU nU cU,UE .i64 r.k,UD aT r.n cT,UE UG r.nx]):=by rw[HC.o] at r1;exact FP r1 5 _ rfl
 clear r1;go_wp2_with (first
  |(refine wpList_load_mid rfl 36 (.tmp 7) rfl G 5 rfl [.bool r.ok,UE UG r.g,UE UG r.t,UD aSD nSD cSD,UD aSU nSU cSU,UD aF mF cF,UD aD nD cD,UD aU nU cU,UE .i64 r.k,UD aT r.n cT,UE UG r.nx] _ HM1.o Tryz.underlying36 rfl HSI.o ?_)
  |fail)
 refine(HCT.o w1 HO0.o.below).mono ?_;rintro e w2 ⟨rfl,b2⟩;have HO2:=Cq (HO0.o.call b2);have HL2:AP (w.heap.size<w2.heap.size):=HO2.o.lt;have r2:w2.heap[G]?=UI (UP C 48 (0,0)):=by rw[HO2.o.below.block _ HGl.o];exact HG.o
 have c7:w2.cell? ⟨G,7,none⟩=UI (UE UG r.t):=by rw[AA r2 7,HC.o];rfl
 have c6:w2.cell? ⟨G,6,none⟩=UI (UE UG r.g):=by rw[AA r2 6,HC.o];rfl
 have HR2:=Cq r2;have HG2:=Cq (HGL.o.below HO2.o.below);clear b2 r2 HO0 HCT HM1;by_cases h1:cut=r.t
 ·have hq:(cut == r.t)=true:=by simp[h1]
  have HE:AP (JH zs f r=9/\FI zs f r=(zs,[],f,false)/\JG zs f r=r):=⟨by unfold JH;rw[AR (HCU.o.trans h1)],(Fk (.inl (HCU.o.trans h1))).1,(Fk (.inl (HCU.o.trans h1))).2⟩
  clear h1;go_wp2_with fail;refine(Mw G C 9 zs ks f false r w2 HR2.o HG2.o HH.o.2.2.2.2.1 HH.o.1 HH.o.2.2.1).mono ?_;rintro e w3 ⟨X,rfl,hR,hb3⟩;have HRQ:=Cq hR;have HO3:=Cq (HO2.o.call hb3);have HXX:AP ((Tryz.prog.info? 50).map (·.size)=UI X.size/\ER.size=X.size/\X.all (·.oneCell')=true):=⟨by rw[hR.row.1];exact Tryz.sizeR,by rw[hR.row.1];rfl,hR.row.2⟩
  clear hR hb3;go_wp2_with (first
   |(refine AC 50 (.tmp 2) (.tmp 20) w.heap.size X 50 HO3.o.b0 HXX.o.1 HXX.o.2.1 HXX.o.2.2 ?_)
   |fail)
  (try simp only[Exit.inBlock,Exit.then])
  exact AZ (v:=.agg X) (AW rfl _ _ w.heap.size 50 _ (0,0) _ rfl (AB HO3.o.b0) Tryz.underlying50 rfl HXX.o.1) rfl ⟨_,rfl,by rw[HE.o.1,HE.o.2.1,HE.o.2.2];exact HRQ.o.put HL2.o,HO3.o.below.trans ((Wr.setRow _ _ _).below Cw)⟩
 have hq:(cut == r.t)=false:=by simp[h1]
 by_cases h2:r.g=4000000000
 ·have hq2:(r.g == 4000000000)=true:=by simp[h2]
  have HE:AP (JH zs f r=8/\FI zs f r=(zs,[],f,false)/\JG zs f r=r):=⟨by unfold JH;rw[AS (by rw[HCU.o];exact h1),AR h2],(Fk (.inr h2)).1,(Fk (.inr h2)).2⟩
  clear h1 h2;go_wp2_with fail;refine(Mw G C 8 zs ks f false r w2 HR2.o HG2.o HH.o.2.2.2.2.1 HH.o.1 HH.o.2.2.1).mono ?_;rintro e w3 ⟨X,rfl,hR,hb3⟩;have HRQ:=Cq hR;have HO3:=Cq (HO2.o.call hb3);have HXX:AP ((Tryz.prog.info? 50).map (·.size)=UI X.size/\ER.size=X.size/\X.all (·.oneCell')=true):=⟨by rw[hR.row.1];exact Tryz.sizeR,by rw[hR.row.1];rfl,hR.row.2⟩
  clear hR hb3;go_wp2_with (first
   |(refine AC 50 (.tmp 2) (.tmp 30) w.heap.size X 50 HO3.o.b0 HXX.o.1 HXX.o.2.1 HXX.o.2.2 ?_)
   |fail)
  (try simp only[Exit.inBlock,Exit.then])
  exact AZ (v:=.agg X) (AW rfl _ _ w.heap.size 50 _ (0,0) _ rfl (AB HO3.o.b0) Tryz.underlying50 rfl HXX.o.1) rfl ⟨_,rfl,by rw[HE.o.1,HE.o.2.1,HE.o.2.2];exact HRQ.o.put HL2.o,HO3.o.below.trans ((Wr.setRow _ _ _).below Cw)⟩
 have hq2:(r.g == 4000000000)=false:=by simp[h2]
 have HE:=Cq (M0 (zs:=zs) (f:=f) (by rw[HCU.o];exact h1) h2);have HSP:=Cq (HF.o.snp h2);have HGG:AP (0<=r.g/\r.g<4000000000/\1<=r.t/\cut=r.t+m/\cut<=4000000000):=by have:=HF.o.g0;have:=HF.o.t1;have:=HF.o.top;have:=HM.o;have:=HCU.o;show _/\_;omega
 have HAM:AP (EE ⟨true,r.sD,r.sU,(r.sU.length:Int),[],0⟩ r.F m=G2 r):=by show _=_;unfold G2;rw[HM.o.2,show(r.t+(m:Int)-r.t).toNat=m by omega]
 have HSU:=Cq (RW G C zs ks f false r w2 HR2.o HG2.o HH.o.2.2.2.2.1 HF.o.st HF.o.fr ⟨HGG.o.1,HGG.o.2.1⟩ (AG HGG.o) cut m HGG.o.2.2.2.1 (AG HGG.o) (by rw[HF.o.len];have:=HM.o;omega) (by rw[HF.o.len];have:=HH.o;omega) (G2 r) HAM.o HSP.o.2);clear h1 h2 HAM;go_wp2_with fail;refine HSU.o.mono ?_;rintro e w3 ⟨v,rfl,⟨bD,mD,dD,bU,mU,dU,rfl,s3⟩,b3⟩;have b4:Below w3.heap.size w3 (w3.alloc (UP #[UE UG (r.g+1),UE UG cut,UD bD mD dD,UD bU mU dU] 30)):=Cs.alloc Cw _;have b24:=b3.trans (b4.mono b3.size);have HO4:=Cq (HO2.o.call b24);have HR4:AP ((w3.alloc (UP #[UE UG (r.g+1),UE UG cut,UD bD mD dD,UD bU mU dU] 30)).heap[G]?=UI (UP C 48 (0,0))/\(w3.alloc (UP #[UE UG (r.g+1),UE UG cut,UD bD mD dD,UD bU mU dU] 30)).heap[w3.heap.size]?=UI (UP #[UE UG (r.g+1),UE UG cut,UD bD mD dD,UD bU mU dU] 30 (0,0))):=⟨by rw[b24.block _ (AI HGl.o HL2.o)];exact HR2.o,AV w3 _⟩
 have HG4:=Cq (HG2.o.below b24);have HS4:=Cq (s3.below b4);have HZ4:AP ((w3.alloc (UP Cj 30)).heap[w3.heap.size]?=UI (UP Cj 30 (0,0))/\(Tryz.prog.info? 30).map (·.size)=UI 4):=⟨AV w3 _,AN⟩
 have HL4:AP (w.heap.size<(w3.alloc (UP #[UE UG (r.g+1),UE UG cut,UD bD mD dD,UD bU mU dU] 30)).heap.size):=HO4.o.lt;have hmf:∀(fn:Fn) (first cap:Array Value) (w:World),(Instr.makeFunc fn first cap).run Tryz.prog w=.ok (.func fn first cap) w:=λ_ _ _ _=>rfl
 clear s3 b3 b4 b24 HSU HR2 HG2 HO2 HL2 c6 c7
 go_upto_region 7 with (first
  |(refine AC 30 (.tmp 4) (.tmp 35) w3.heap.size #[UE UG (r.g+1),UE UG cut,UD bD mD dD,UD bU mU dU] 30 HZ4.o.1 HZ4.o.2 rfl (by simp[Value.oneCell']) ?_)
  |fail)
 rw[World.setRow_alloc_new];clear HZ4;generalize w3.alloc (UP #[UE UG (r.g+1),UE UG cut,UD bD mD dD,UD bU mU dU] 30)=w4 at *;generalize w3.heap.size=Sb at *;have HO2:=HO4;have HL2:=HL4;have hlen:(Le r).length=128:=Gr;have hby:Cu (Le r):=JB HSP.o.1 ⟨AG HGG.o,AG HGG.o⟩ (by rw[HCU.o];exact⟨AG HGG.o,AG HGG.o⟩);have hvb:=HF.o.v;have h64:zs.length=zs.length/64*64:=AG hvb.1
 obtain⟨sN,hsN⟩:∃ s:Nat,(r.g+1)%2*2=(s:Int):=⟨((r.g+1)%2*2).toNat,by have:=Int.emod_nonneg (r.g+1) (show(2:Int)≠0 by decide);omega⟩
 have hs2:sN<=2:=by have:=Int.emod_lt_of_pos (r.g+1) (show(0:Int)<2 by decide);omega
 have hcm:KG zs f r=Jj zs f sN ((Le r).take 64) ((Le r).drop 64):=by unfold KG;rw[hsN];rfl
 have HAF:=Cq (RV G Sb C #[UE UG (r.g+1),UE UG cut,UD bD mD dD,UD bU mU dU] 9 zs ks f r (KG zs f r) w4 HR4.o.1 HG4.o HH.o.2.2.2.2.1 HH.o.1 HH.o.2.1 HH.o.2.2.1 HR4.o.2 rfl (by rw[hcm];exact RZ) (by rw[hcm];exact Mz (by rw[Az,hlen];rfl) (by rw[Bj,hlen]) (AG hvb.2.1)) (by rw[hcm];exact LW HH.o.2.2.2.1 (hby.take _) (hby.drop _))
  (λD g gc B H X ww b hd hDg=>by
   rw[hcm];exact T9 D g zs.length gc B H sN X 48 (r.g+1) cut bD bU mD dD mU dU (G2 r).D (G2 r).U zs f ww hd hDg rfl HH.o.1 hvb.1 (AG hvb.2.1) (.inr rfl) hvb.2.2.2.2.1 (AG hvb.2.2.2.2.2) HS4.o.nd HS4.o.nu (by rw[<-HS4.o.nd];have:=HSP.o.1.2.2.2.2.1;omega) (by rw[<-HS4.o.nu];have:=HSP.o.1.2.2.2.2.2.le;omega) (HS4.o.d.at_.below b) (HS4.o.u.at_.below b) ⟨AG HGG.o,AG HGG.o⟩ ⟨AG HGG.o,AG HGG.o⟩ (by rw[<-HCU.o];exact HSP.o.1) hsN _ _ (by rw[<-HCU.o];rfl) (by rw[<-HCU.o];rfl)))
 clear hlen hby hvb h64 hsN hs2 hcm HR4 HG4 HS4 HSP HO4 HL4;go_wp2_with fail;refine(HAF.o).mono ?_;rintro e w3 ⟨X,rfl,hR,hb3⟩;have HRQ:=Cq hR;have HO3:=Cq (HO2.o.call hb3);have HXX:AP ((Tryz.prog.info? 50).map (·.size)=UI X.size/\ER.size=X.size/\X.all (·.oneCell')=true):=⟨by rw[hR.row.1];exact Tryz.sizeR,by rw[hR.row.1];rfl,hR.row.2⟩
 clear hR hb3;go_wp2_with (first
  |(refine AC 50 (.tmp 2) (.tmp 38) w.heap.size X 50 HO3.o.b0 HXX.o.1 HXX.o.2.1 HXX.o.2.2 ?_)
  |fail)
 (try simp only[Exit.inBlock,Exit.then])
 exact AZ (v:=.agg X) (AW rfl _ _ w.heap.size 50 _ (0,0) _ rfl (AB HO3.o.b0) Tryz.underlying50 rfl HXX.o.1) rfl ⟨_,rfl,by rw[HE.o.1,HE.o.2.1,HE.o.2.2];exact HRQ.o.put HL2.o,HO3.o.below.trans ((Wr.setRow _ _ _).below Cw)⟩
def dW (o:DO) (s:Int) (z:List Int):DO:=(o.1,ID o.1.length o.2.1 o.2.2.1 o.2.2.2 s z,Lc o.1.length o.2.1 o.2.2.1 o.2.2.2 s z.length,Mt o.1.length o.2.1 o.2.2.1 o.2.2.2 s z.length)
def dY (o:DO):DO:=(LP o.1 o.2.1 o.2.2.1 o.2.2.2,LQ o.1.length o.2.1 o.2.2.1 o.2.2.2,LR o.1.length o.2.1 o.2.2.1 o.2.2.2,LS o.1.length o.2.1 o.2.2.1 o.2.2.2)
section
variable {zs z:List Int} {ps:List PD} {f:Int} {s:Nat}
theorem KH (s:Int):dW (zs,ps,f,true) s z=(zs,ps,f,true):=by
 have e:∀ n,Ib zs.length ps f true s n=false:=λn=>by simp[Ib]
 simp[dW,ID,Lc,Mt,e]
theorem IB:dY (zs,ps,f,true)=(zs,ps,f,true):=by simp[dY,LP,LQ,LR,LS,LO]
theorem KI (hv:C5 zs.length [] f=true) (hs:(s+1)*64<=zs.length) (hz:z.length=64):dW (zs,[],f,false) (s:Int) z=if f=0 then(zs,[],0,true) else(zs,[((s:Int),z)],EG f,false):=by
 have e:Ib zs.length [] f false (s:Int) 64=true:=by
  unfold Ib Gf;rw[hv];simp;omega
 unfold dW ID Lc Mt;simp only[hz,e];by_cases h:f=0<;>simp[h,EG,Hx]
theorem KJ (hv:C5 zs.length [((s:Int),z)] f=true) (hz:z.length=64):dY (zs,[((s:Int),z)],f,false)=if f=0 then(zs,[((s:Int),z)],0,true) else(Dc zs s z,[],EG f,false):=by
 have e:Fb zs [((s:Int),z)] 1=Dc zs s z:=H6 (zs:=zs) (ps:=[((s:Int),z)]) (k:=0) (s:=s) AM rfl hz;unfold dY LP LQ LR LS LO;simp only[hv];by_cases h:f=0
 ·simp[h,EG,Hx]
 ·simp[h,Hx,e]
theorem MH (hv:EA zs.length 0 f) (hs:(s+1)*64<=zs.length) (hz:z.length=64):C5 zs.length [((s:Int),z)] f=true:=F9 ⟨hv.1,hv.2.1,hv.2.2.1,AM,hv.2.2.2.2⟩ λi hi=>by
 obtain rfl:i=0:=by simpa using hi
 exact⟨AM,by show(s:Int)<((zs.length/64:Nat):Int);omega,by simpa using hz⟩
theorem MI (hv:EA zs.length 0 f):C5 zs.length [] f=true:=F9 hv λi hi=>by simp at hi
theorem LX {L:Nat} (hv:EA L 0 f) (h:f≠0):EA L 0 (EG f):=by
 obtain⟨a,b,c,d,e,g⟩:=hv;refine⟨a,b,c,d,?_,?_⟩<;>(unfold EG;split<;>omega)
theorem Ry {z1:List Int} (hv:EA zs.length 0 f) (hs:(s+2)*64<=zs.length) (hz:z.length=64) (hz1:z1.length=64):dY (dW (dY (dW (zs,[],f,false) (s:Int) z)) ((s:Int)+1) z1)=Jj zs f s z z1:=by
 have hi:((s:Int)+1)=((s+1:Nat):Int):=AK
 rw[KI (MI hv) AK hz];unfold Jj;by_cases h0:f=0
 ·rw[AR h0,AR h0,IB,KH,IB]
 rw[AS h0,AS h0];have v1:=LX hv h0;rw[KJ (MH v1 AK hz) hz];by_cases h1:f=1
 ·subst h1;rw[AR AL,AR rfl,KH,IB]
 have h1':EG f≠0:=by unfold EG;split<;>omega
 rw[AS h1',AS h1];have v2:=LX v1 h1';have lo:(Dc zs s z).length=zs.length:=Eh zs s z AK;rw[hi,KI (by rw[lo];exact MI v2) (by rw[lo];omega) hz1];by_cases h2:f=2
 ·subst h2;rw[AR AL,AR rfl,IB]
 have h2':EG (EG f)≠0:=by unfold EG;(repeat' split)<;>omega
 rw[AS h2',AS h2];have v3:=LX v2 h2';rw[KJ (MH (by rw[lo];exact v3) (by rw[lo];omega) hz1) hz1];by_cases h3:f=3
 ·subst h3;rw[AR AL,AR rfl]
 have h3':EG (EG (EG f))≠0:=by unfold EG;(repeat' split)<;>omega
 rw[AS h3',AS h3];have:=hv.2.2.2.2.1;have e4:EG (EG (EG (EG f)))=if f=-1 then -1 else f-4:=by
  by_cases hm:f=-1
  ·subst hm;rfl
  rw[AS hm];unfold EG;(repeat' split)<;>omega
 rw[e4]
end
structure Io (L:Nat) (o:DO):Prop where
 len:o.1.length=L
 pl:o.2.1.length<=1
 ps:∀ i,(o.2.1.getD i (0,[])).2.length<=64
 bz:Cu o.1
 bp:∀ i,Cu (o.2.1.getD i (0,[])).2
 f:o.2.2.1<=1000000
theorem JC {P:List Int->Prop} {a:Int} {z:List Int} (h0:P []) (h:P z) (i:Nat):P (([(a,z)]:List PD).getD i (0,[])).2:=by
 match i with
 |0=>exact h
 |i+1=>simpa using h0
theorem EV:Cu []:=λx h=>absurd h AM
theorem Io.start {zs:List Int} {f:Int} (bz:Cu zs) (hf:f<=1000000):Io zs.length (zs,[],f,false):=⟨rfl,AM,AM,bz,λi=>by simpa using EV,hf⟩
section
variable {L:Nat} {zs z:List Int} {f:Int} {s:Nat}
theorem Io.w {o:DO} (h:Io L o) (h0:o.2.1=[]\/o.2.2.2=true) (s:Int) (hz:z.length=64) (bz:Cu z):Io L (dW o s z):=by
 obtain⟨zs,ps,f,d⟩:=o;have hF:Lc zs.length ps f d s z.length<=1000000:=by have:=h.f;unfold Lc EG;(repeat' split)<;>simp at this |-<;>omega
 rcases h0 with h0|h0
 ·simp at h0;subst h0;by_cases hc:(Ib zs.length [] f d s z.length && decide (f≠0))=true
  ·have e:ID zs.length [] f d s z=[(s,z)]:=by unfold ID;rw[AR hc];rfl
   refine⟨h.len,?_,?_,h.bz,?_,hF⟩
   ·show(ID zs.length [] f d s z).length<=1;rw[e];simp
   ·show ∀ i,((ID zs.length [] f d s z).getD i (0,[])).2.length<=64;rw[e];exact JC (P:=λz=>z.length<=64) AM AK
   ·show ∀ i,Cu ((ID zs.length [] f d s z).getD i (0,[])).2;rw[e];exact JC (P:=Cu) EV bz
  ·have e:ID zs.length [] f d s z=[]:=by unfold ID;rw[AS hc]
   refine⟨h.len,?_,?_,h.bz,?_,hF⟩
   ·show(ID zs.length [] f d s z).length<=1;rw[e];simp
   ·show ∀ i,((ID zs.length [] f d s z).getD i (0,[])).2.length<=64;rw[e];simp
   ·show ∀ i,Cu ((ID zs.length [] f d s z).getD i (0,[])).2;rw[e];exact λi=>by simpa using EV
 ·simp at h0;subst h0;rw[KH];exact h
end
theorem Io.mid {zs z:List Int} {f:Int} {s:Nat} (hv:EA zs.length 0 f) (bz:Cu zs) (hs:(s+1)*64<=zs.length) (hz:z.length=64) (b0:Cu z):Io zs.length (dY (dW (zs,[],f,false) (s:Int) z))/\((dY (dW (zs,[],f,false) (s:Int) z)).2.1=[]\/(dY (dW (zs,[],f,false) (s:Int) z)).2.2.2=true):=by
 have hf:=hv.2.2.2.2.2;rw[KI (MI hv) hs hz];by_cases h0:f=0
 ·rw[AR h0,IB];exact⟨⟨rfl,AM,AM,bz,λi=>by simpa using EV,AM⟩,.inr rfl⟩
 rw[AS h0];have v1:=LX hv h0;rw[KJ (MH v1 hs hz) hz];by_cases h1:EG f=0
 ·rw[AR h1];exact⟨⟨rfl,AM,JC (P:=λz=>z.length<=64) AM AK,bz,JC (P:=Cu) EV b0,AM⟩,.inr rfl⟩
 ·rw[AS h1];exact⟨⟨Eh zs s z AK,AM,AM,Ha s bz b0,λi=>by simpa using EV,(LX v1 h1).2.2.2.2.2⟩,.inl rfl⟩
theorem Io.fin {zs z z1:List Int} {f:Int} {s:Nat} (hv:EA zs.length 0 f) (bz:Cu zs) (hs:(s+2)*64<=zs.length) (hz:z.length=64) (b0:Cu z) (hz1:z1.length=64) (b1:Cu z1):Io zs.length (Jj zs f s z z1):=by
 refine⟨Mz hz hz1 hs,?_,?_,LW bz b0 b1,?_,?_⟩
 ·unfold Jj;(repeat' split)<;>simp
 ·unfold Jj;(repeat' split)<;>first|exact JC (P:=λz=>z.length<=64) AM AK|simp
 ·unfold Jj;(repeat' split)<;>first|exact JC (P:=Cu) EV b0|exact JC (P:=Cu) EV b1|exact λi=>by simpa using EV
 ·have:=hv.2.2.2.2;unfold Jj;(repeat' split)<;>simp<;>(repeat' split)<;>omega
section
variable {w:World} {v:Value} {o:DO} {L:Nat} {xa:Option Addr} {xc:Nat} {z:List Int}
theorem T1 (h:Ei w v o.1 o.2.1 o.2.2.1 o.2.2.2) (k:Io L o) (hL:L<=1048576) (s:Int) (hx:At .u8 w xa z) (hz:z.length=64) :
  Calls Tryz.prog 54 #[v,UE .i64 s,UD xa 64 xc] w λe w'=>∃ r,e=.returned r/\Ei w' r (dW o s z).1 (dW o s z).2.1 (dW o s z).2.2.1 (dW o s z).2.2.2/\Below w.heap.size w w':=
 (RR v o.1 o.2.1 o.2.2.1 o.2.2.2 s xa 64 xc z w h hx hz (by rw[k.len];exact hL) (AG k.pl) (λi=>AG (k.ps i)) AL (AG k.f)).mono λe w' ⟨r,e,h,b⟩=>⟨r,e,h.at_,b⟩
theorem TN (h:Ei w v o.1 o.2.1 o.2.2.1 o.2.2.2) (k:Io L o) (hL:L<=1048576) :
  Calls Tryz.prog 53 #[v] w λe w'=>∃ r,e=.returned r/\Fj w.heap.size w' r (dY o).1 (dY o).2.1 (dY o).2.2.1 (dY o).2.2.2/\Below w.heap.size w w':=
 Pi v o.1 o.2.1 o.2.2.1 o.2.2.2 w h (by rw[k.len];exact hL) (AG k.pl) (λi=>AG (k.ps i)) (AG k.f)
end
end Go.Proofs.YthmeoilbmfdhfaaGreat
