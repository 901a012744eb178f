import Derived.Test.YthmeoilbmfdhfaaGreatMDkJ
open Go.Value renaming slice->UD,int->UE,pointer->UM,bool->UF,agg->UN
open Go.IntKind renaming i64->UO,u32->UG,u8->UH
open Go.Obj renaming cells->UP
open Go.Ground renaming data->UR
open Option renaming some->UI,none->UJ
open Go renaming World->UK,Value->UL
namespace Go.Proofs.YthmeoilbmfdhfaaGreat
set_option maxHeartbeats 16000000
set_option maxRecDepth 100000
open Go.ChangeShapes Go.WideShapes Go.ChangeAt Go.RowKit
set_option linter.unusedVariables false
theorem LG (b off n cap:Nat) (p:Int) (zs:List Int) (w:UK) (hc:∀ i,i<zs.length->w.cell? ⟨b,off+i,UJ⟩=UI (UE UH (zs.getD i 0))) (hz:Cu zs) (hl:zs.length=n) (hn:n<=1048576) (hp:0<=p) (hp':p+4<=n) :
  Calls Tryz.prog 120 #[UD (UI ⟨b,off,UJ⟩) n cap,UE UO p] w λe w'=>e=.returned (UE UG (DD zs p.toNat))/\Below w.heap.size w w':=by
 obtain⟨p,rfl⟩:=Ai hp;have c0:=hc p AK;have c1:=hc (p+1) AK;have c2:=hc (p+2) AK;have c3:=hc (p+3) AK;have b0:=hz.get p;have b1:=hz.get (p+1);have b2:=hz.get (p+2);have b3:=hz.get (p+3);have HN:AP (DD zs p=zs.getD p 0+256*zs.getD (p+1) 0+65536*zs.getD (p+2) 0+16777216*zs.getD (p+3) 0):=rfl;generalize zs.getD p 0=x0 at *;generalize zs.getD (p+1) 0=x1 at *;generalize zs.getD (p+2) 0=x2 at *;generalize zs.getD (p+3) 0=x3 at *;clear hc;obtain⟨b01,b02⟩:=b0;obtain⟨b11,b12⟩:=b1;obtain⟨b21,b22⟩:=b2;obtain⟨b31,b32⟩:=b3;have g0:(p:Int)<(n:Int):=AK
 have g1:(p:Int)+1<(n:Int):=AK
 have g2:(p:Int)+2<(n:Int):=AK
 have g3:(p:Int)+3<(n:Int):=AK
 go_enter Tryz.func120,Tryz.ntmps120;go_wp2
 go_quiet (fail)
 go_wp2
 go_ret
 exact⟨DW (by rw[Bw,HN.o]),⟨rfl,rfl,rfl,AY _,λ_ _=>rfl⟩⟩
theorem PQ {xs ys:List Int} (hx:Cu xs) (hy:Cu ys):((strOfNums xs).toList == (strOfNums ys).toList)=decide (xs=ys):=by
 rw[Bool.eq_iff_iff,CB,beq_iff_eq,ByteArray.toList_eq,ByteArray.toList_eq,strOfNums_data,strOfNums_data];constructor
 ·intro h;have hl:xs.length=ys.length:=by simpa using congrArg List.length h
  apply List.ext_getElem hl;intro i h1 h2;have e:(xs.map λn=>UInt8.ofNat n.toNat)[i]?=(ys.map λn=>UInt8.ofNat n.toNat)[i]?:=by rw[h]
  simp[h1,h2] at e;have e':=congrArg UInt8.toNat e;have bx:=hx xs[i] (Ba h1);have by':=hy ys[i] (Ba h2);simp only[UInt8.toNat_ofNat'] at e';omega
 ·rintro rfl;rfl
theorem Mf (w:UK) {o:Oper} {a:Act} {K:Act->UK->Prop} {Q:Exit->Act->UK->Prop} (sx x:Operand)
  (hop:o.op=Op.call { callee:=Callee.builtin Builtin.append,args:=#[sx,x],argTypes:=#[28,28] }) (B:Nat) (v:UL) (xs:List Int) (hs:a.eval sx=v) (hown:Iow B w v xs)
  (wb:UK) (z:Int) (hw:w=wb.alloc (UP #[UE UO z] 2)) (hx:a.eval x=UD (UI ⟨wb.heap.size,0,UJ⟩) 1 1) (hm:xs.length<=1048576) (hB:B<=w.heap.size)
  (hK:∀ v' w',Iow B w' v' (xs++[z])->Below B w w'->K (a.put o.dst v') w'):o.wp Tryz.prog a w K Q:=by
 obtain⟨i0,hi,hz0,hz1,hz2⟩:=Be Tryz.infoI64q;obtain⟨v',w',hr,h2,h3,h4,h5⟩:=run_append_own_at (P:=Tryz.prog) w B 28 o.type 2 i0 (UE UO 0) 1 8 Tryz.underlying28 hi hz0 hz1 hz2 rfl AL v xs.length _ hown ⟨wb.heap.size,0,UJ⟩ 1 1 [UE UO z] rfl (by rw[hw];exact cell_one_new wb _ _) (by simp[Value.oneCell']) (by unfold maxLen;omega) AK hB;have hk:=hK v' w' (by unfold Iow;rw[BY,Al];exact h2) (Cs.grown h3 hB hown.ownBlock);unfold Oper.wp execOp;simp only[hop,resolve,invoke,builtin,Sem.run_bind,Sem.run_pure,Result.andThen_ok,List.map_toArray,List.map_cons,List.map_nil,hs,hx,hr];exact hk
theorem LH {w:UK} {g i:Nat} {cs cs':Array UL} {t:TypeId} (v:UL) (h:w.heap[g]?=UI (UP cs t (0,0))) (he:cs.setIfInBounds i v=cs'):(w.setCell ⟨g,i,UJ⟩ v).heap[g]?=UI (UP cs' t (0,0)):=by
 rw[A9 w g i cs t v h,he]
theorem LI {gn tl:Int} {D U:List Int} (ug:D8 gn) (ut:D8 tl):Cu (O5 gn tl D U):=by
 unfold O5;by_cases hs:Jb gn tl D U
 ·rw[Fi hs];have hb:=Je (gn:=gn) (tl:=tl) (D:=D) (U:=U) (nD:=D.length) ug ut (λz hz=>hs.2.2.2.1.range hz) hs.2.2.2.2.1;exact Cu.app hb (Cu.app (Dl _ (IE _)) (Cu.app (Dl gn ug) Cu.nil))
 ·rw[Eo hs];exact Cu.nil
theorem Gk.low {w wr w':UK} {H:Nat} (h:Gk w wr) (b:Below H wr w') (hH:w.heap.size<H):Gk w w':=⟨h.below.trans (b.mono AK),by rw[b.block _ hH];exact h.box⟩
theorem Gk.wr {w wr w':UK} {S:Nat} (h:Gk w wr) (hw:Wr S wr w') (hS:w.heap.size<S):Gk w w':=⟨h.below.trans (hw.below AK),by rw[hw.block _ AK];exact h.box⟩
theorem Gk.drew {w wr:UK} (h:Gk w wr):Gk w wr.drew:=⟨⟨h.below.os,h.below.tape,h.below.output,h.below.size,h.below.block⟩,h.box⟩
structure DX (w:UK) (S:Nat) (gn tl:Int) (zs:List Int) (k:Nat) (v:UL) (wr:UK):Prop where
 bx:Gk w wr
 s:wr.heap[S]?=UI (UP #[UE UG gn,UE UG tl,v,UD UJ 0 0] 30 (0,0))
 d:Iow (S+1) wr v (Fp zs k)
 hw:w.heap.size<S
theorem DX.lt {w:UK} {S:Nat} {gn tl:Int} {zs:List Int} {k:Nat} {v:UL} {wr:UK} (h:DX w S gn tl zs k v wr):S<wr.heap.size:=(AQ.1 h.s).1
structure DY (w:UK) (S H:Nat) (gn tl:Int) (aD:Option Addr) (nD cD:Nat) (D:List Int) (P:Nat->Bool) (k:Nat) (v:UL) (wr:UK):Prop where
 bx:Gk w wr
 s:wr.heap[S]?=UI (UP #[UE UG gn,UE UG tl,UD aD nD cD,v] 30 (0,0))
 d:At UO wr aD D
 l:∀ ad,aD=UI ad->S<ad.block/\ad.block<H
 u:Iow H wr v (Dg P k)
 hz:H<=wr.heap.size
 hs:S<H
 hw:w.heap.size<S
theorem DY.step {w wr w':UK} {S H:Nat} {gn tl:Int} {aD:Option Addr} {nD cD:Nat} {D:List Int} {P:Nat->Bool} {k:Nat} {v v':UL} (h:DY w S H gn tl aD nD cD D P k v wr) (b:Below H wr w') (hi:Iow H w' v' (Dg P (k+1))):DY w S H gn tl aD nD cD D P (k+1) v' (w'.setCell ⟨S,3,UJ⟩ v'):=by
 have hwr:Wr S w' (w'.setCell ⟨S,3,UJ⟩ v'):=(Wr.refl S w').setCell 3 _;have hs':w'.heap[S]?=UI (UP #[UE UG gn,UE UG tl,UD aD nD cD,v] 30 (0,0)):=by rw[b.block S h.hs];exact h.s
 refine⟨(h.bx.low b (Nat.lt_trans h.hw h.hs)).wr hwr h.hw,LH (i:=3) _ hs' rfl,?_,h.l,hi.wr hwr h.hs,?_,h.hs,h.hw⟩
 ·exact(h.d.keepT b.size (λad e _=>b.block _ (h.l ad e).2)).keepT (by rw[hwr.size];exact AY _) (λad e _=>hwr.block _ (AG (h.l ad e)))
 ·rw[hwr.size];exact BC h.hz b.size
def Lb (w W:UK) (S:Nat) (gn tl:Int) (l:UL) (xs:List Int) (z:Int) (f1 f15 f16 f18:Bool) (v15 v16:UL) (w':UK):Prop:=
 Gk w w'/\(f16=true->f15=true/\f1=true)/\(f18=true->f16=true)/\
 (if f18=true then ∃ v',w'.heap[S]?=UI (UP #[UE UG gn,UE UG tl,v',UD UJ 0 0] 30 (0,0))/\Iow (S+1) w' v' (xs++[z])
  else if f16=true then Iow (S+1) w' v16 (xs++[z])/\w'.heap[S]?=UI (UP #[UE UG gn,UE UG tl,l,UD UJ 0 0] 30 (0,0))
  else if f15=true then w'=W.alloc (UP #[UE UO z] 2)/\v15=UD (UI ⟨W.heap.size,0,UJ⟩) 1 1
  else w'=W)
section
variable {w W w' w'':UK} {S:Nat} {gn tl:Int} {l:UL} {xs:List Int} {z:Int} {f1 f15 f16 f18:Bool} {v15 v16 v:UL}
theorem Lb.load (h:Lb w W S gn tl l xs z false f15 f16 f18 v15 v16 w') (hS:S<W.heap.size) (hs:W.heap[S]?=UI (UP #[UE UG gn,UE UG tl,l,UD UJ 0 0] 30 (0,0))):w'.heap[S]?=UI (UP #[UE UG gn,UE UG tl,l,UD UJ 0 0] 30 (0,0))/\Lb w W S gn tl l xs z true f15 f16 f18 v15 v16 w':=by
 obtain⟨h1,h2,h3,h4⟩:=h;have e16:f16=false:=by
  cases f16 with
  |false=>rfl
  |true=>exact absurd (h2 rfl).2 AL
 have e18:f18=false:=by
  cases f18 with
  |false=>rfl
  |true=>exact absurd (h3 rfl) (by rw[e16];decide)
 refine⟨?_,h1,λq=>⟨(h2 q).1,rfl⟩,h3,h4⟩;rw[e18,e16,AS AL,AS AL] at h4;split at h4
 ·rw[h4.1,(Cv W _).block S hS];exact hs
 ·rw[h4];exact hs
theorem Lb.build (h:Lb w W S gn tl l xs z f1 false f16 f18 v15 v16 w'):w'=W/\Lb w W S gn tl l xs z f1 true f16 f18 (UD (UI ⟨W.heap.size,0,UJ⟩) 1 1) v16 (W.alloc (UP #[UE UO z] 2)):=by
 obtain⟨h1,h2,h3,h4⟩:=h;have e16:f16=false:=by
  cases f16 with
  |false=>rfl
  |true=>exact absurd (h2 rfl).1 AL
 have e18:f18=false:=by
  cases f18 with
  |false=>rfl
  |true=>exact absurd (h3 rfl) (by rw[e16];decide)
 rw[e18,e16,AS AL,AS AL,AS AL] at h4;subst h4;refine⟨rfl,h1.call (Cv w' _),λq=>(by rw[e16] at q;cases q),h3,?_⟩;rw[e18,e16,AS AL,AS AL,AR rfl];exact⟨rfl,rfl⟩
theorem Lb.app (h:Lb w W S gn tl l xs z f1 true false f18 v15 v16 w') (e1:f1=true) (hS:S<W.heap.size) (hs:W.heap[S]?=UI (UP #[UE UG gn,UE UG tl,l,UD UJ 0 0] 30 (0,0))) (hw:w.heap.size<S):w'=W.alloc (UP #[UE UO z] 2)/\v15=UD (UI ⟨W.heap.size,0,UJ⟩) 1 1/\
  ∀ v9 w9,Iow (S+1) w9 v9 (xs++[z])->Below (S+1) w' w9->Lb w W S gn tl l xs z f1 true true f18 v15 v9 w9:=by
 obtain⟨h1,h2,h3,h4⟩:=h;have e18:f18=false:=by
  cases f18 with
  |false=>rfl
  |true=>exact absurd (h3 rfl) AL
 rw[e18,AS AL,AS AL,AR rfl] at h4;obtain⟨h4,h5⟩:=h4;refine⟨h4,h5,λv9 w9 hio hb=>⟨h1.low hb AK,λ_=>⟨rfl,e1⟩,λ_=>rfl,?_⟩⟩;rw[e18,AS AL,AR rfl];exact⟨hio,by rw[hb.block S AK,h4,(Cv W _).block S hS];exact hs⟩
theorem Lb.store (h:Lb w W S gn tl l xs z f1 f15 true false v15 v16 w') (hw:w.heap.size<S):w'.heap[S]?=UI (UP #[UE UG gn,UE UG tl,l,UD UJ 0 0] 30 (0,0))/\Iow (S+1) w' v16 (xs++[z])/\
  Lb w W S gn tl l xs z f1 f15 true true v15 v16 (w'.setCell ⟨S,2,UJ⟩ v16):=by
 obtain⟨h1,h2,h3,h4⟩:=h;rw[AS AL,AR rfl] at h4;have hwr:Wr S w' (w'.setCell ⟨S,2,UJ⟩ v16):=(Wr.refl S w').setCell 2 _;refine⟨h4.2,h4.1,h1.wr hwr hw,h2,λ_=>rfl,?_⟩;rw[AR rfl];exact⟨v16,LH (i:=2) _ h4.2 rfl,h4.1.wr hwr AK⟩
end
theorem Q6 (b off cap:Nat) (zs:List Int) (w:UK) (hl:zs.length=128) (hz:Cu zs) (hb:b<w.heap.size) (hc:∀ i,i<zs.length->w.cell? ⟨b,off+i,UJ⟩=UI (UE UH (zs.getD i 0))) (h16:zs.getD 6 0<=16) :
  Calls Tryz.prog 69 #[UD (UI ⟨b,off,UJ⟩) 128 cap] w λe w'=>∃ v,e=.returned v/\I0 w.heap.size w' v (Fh zs)/\Below w.heap.size w w':=by
 have HB1:AP (Gk w (w.alloc (UP Ce 63))):=Gk.start w;have HZ:AP (zs.length=128/\Cu zs):=⟨hl,hz⟩
 have HBL:AP (b<w.heap.size):=hb;have HCC:AP (∀ i,i<zs.length->w.cell? ⟨b,off+i,UJ⟩=UI (UE UH (zs.getD i 0))):=hc;have HN16:AP (zs.getD 6 0<=16):=h16;have HSN:AP ((Tryz.prog.info? 30).map (·.size)=UI 4):=by show _=_;kernel_rfl
 have HSR:AP ((Tryz.prog.info? 63).map (·.size)=UI 5):=by show _=_;kernel_rfl
 obtain⟨n,hn6⟩:∃ n:Nat,zs.getD 6 0=n:=⟨(zs.getD 6 0).toNat,AG (hz.get 6)⟩
 have HN:AP (La zs=n):=by show _=_;unfold La;omega
 have HC6:AP (w.cell? ⟨b,off+6,UJ⟩=UI (UE UH (n:Int))):=by show _=_;rw[hc 6 AK,hn6]
 have hn:n<=16:=AK
 have hn16:¬ ((n:Int)>16):=AK
 have HG0:AP (∀ ww,Below w.heap.size w ww->Calls Tryz.prog 120 #[UD (UI ⟨b,off,UJ⟩) 128 cap,UE UO 0] ww λe w'=>e=.returned (UE UG (DD zs 0))/\Below ww.heap.size ww w'):=λww bw=>LG b off 128 cap 0 zs ww (λi hi=>by rw[bw.cell (p:=⟨b,off+i,UJ⟩) hb];exact hc i hi) hz hl AL AL AL
 have HG8:AP (∀ ww,Below w.heap.size w ww->Calls Tryz.prog 120 #[UD (UI ⟨b,off,UJ⟩) 128 cap,UE UO 8] ww λe w'=>e=.returned (UE UG (DD zs 8))/\Below ww.heap.size ww w'):=λww bw=>LG b off 128 cap 8 zs ww (λi hi=>by rw[bw.cell (p:=⟨b,off+i,UJ⟩) hb];exact hc i hi) hz hl AL AL AL
 have HUU:AP (D8 (DD zs 0)/\D8 (DD zs 8)):=⟨Gi zs hz 0,Gi zs hz 8⟩
 obtain⟨gn,hgn⟩:∃ gn,DD zs 0=gn:=⟨_,rfl⟩
 obtain⟨tl,htl⟩:∃ tl,DD zs 8=tl:=⟨_,rfl⟩
 rw[hgn] at HG0 HUU;rw[htl] at HG8 HUU;have HGT:AP (DD zs 0=gn/\DD zs 8=tl):=⟨hgn,htl⟩
 have c6:(w.alloc (UP Ce 63)).cell? ⟨b,off+6,UJ⟩=UI (UE UH (n:Int)):=((Cv w _).cell (p:=⟨b,off+6,UJ⟩) hb).trans HC6.o;clear hl hz hb hc h16 hn6 hgn htl;go_enter Tryz.func69,Tryz.ntmps69;go_wp2_with fail;clear c6 hn16;generalize (w.alloc (UP Ce 63))=w1 at *;refine(HG0.o w1 HB1.o.below).mono ?_;rintro e w2 ⟨rfl,hb2⟩;have HB2:AP (Gk w w2):=HB1.o.call hb2;clear hb2;go_wp2_with fail;refine(HG8.o w2 HB2.o.below).mono ?_;rintro e w3 ⟨rfl,hb3⟩;have HB3:AP (Gk w w3):=HB2.o.call hb3;clear hb3 HG0 HG8;have HBX:AP ((w3.alloc (UP Cj 30)).heap[w3.heap.size]?=UI (UP Cj 30 (0,0))):=AV w3 _
 go_upto_region 4 with (first
  |(refine AC 30 (.tmp 3) (.tmp 22) w3.heap.size #[UE UG gn,UE UG tl,UD UJ 0 0,UD UJ 0 0] 30 HBX.o HSN.o rfl (PK _ _ _ _ _ _ _ _) ?_)
  |fail)
 have hw4:=Wr.setRow w3.heap.size (w3.alloc (UP Cj 30)) #[UE UG gn,UE UG tl,UD UJ 0 0,UD UJ 0 0];have H0:AP (DX w w3.heap.size gn tl zs 0 (UD UJ 0 0) ((w3.alloc (UP Cj 30)).setRow w3.heap.size #[UE UG gn,UE UG tl,UD UJ 0 0,UD UJ 0 0])):=
  ⟨(HB3.o.call (Cv w3 _)).wr hw4 HB3.o.lt,AB HBX.o,Iow.nil _ _,HB3.o.lt⟩
 clear hw4 HBX;generalize w3.heap.size=S at *;generalize (w3.alloc (UP Cj 30)).setRow S #[UE UG gn,UE UG tl,UD UJ 0 0,UD UJ 0 0]=w4 at *;go_wp2_with fail
 go_loopw [4] (λi wr=>∃(k:Nat) (v:UL),k<=n/\i=UE UO k/\DX w S gn tl zs k v wr) (λi _=>n-(intOf i).toNat)
 case atStart=>exact⟨0,_,Aj _,rfl,H0.o⟩
 case round=>
  clear H0;obtain⟨k,l,hk,rfl,hst⟩:=hrel;have HD:AP (DX w S gn tl zs k l wr):=hst;have c6:wr.cell? ⟨b,off+6,UJ⟩=UI (UE UH (n:Int)):=(hst.bx.below.cell (p:=⟨b,off+6,UJ⟩) HBL.o).trans HC6.o;by_cases hlt:k<n
  ·have hlt':(k:Int)<n:=AK
   obtain⟨A,hA⟩:∃ A,J2 k=A:=⟨_,rfl⟩
   have hA1:A+1<128:=by rw[<-hA];exact PG AK
   obtain⟨x,hx⟩:∃ x,zs.getD A 0=x:=⟨_,rfl⟩
   obtain⟨y,hy⟩:∃ y,zs.getD (A+1) 0=y:=⟨_,rfl⟩
   have HX0:AP (w.cell? ⟨b,off+A,UJ⟩=UI (UE UH x)):=by show _=_;rw[HCC.o A (by rw[HZ.o.1];omega),hx]
   have HY0:AP (w.cell? ⟨b,off+(A+1),UJ⟩=UI (UE UH y)):=by show _=_;rw[HCC.o (A+1) (by rw[HZ.o.1];omega),hy]
   have hx0:=HZ.o.2.get A;have hy0:=HZ.o.2.get (A+1);rw[hx] at hx0;rw[hy] at hy0;obtain⟨hx0,hx1⟩:=hx0;obtain⟨hy0,hy1⟩:=hy0;obtain⟨z,hzz⟩:∃ z,x+256*y=z:=⟨_,rfl⟩
   have HNX:AP (Fp zs (k+1)=Fp zs k++[z]):=by show _=_;rw[K4];unfold S9;rw[hA,hx,hy,hzz]
   have HZZ:AP (x+256*y=z):=hzz;have HAK:AP (J2 k=A):=hA;have HLD:AP ((Fp zs k).length<=1048576):=by show _<=_;rw[Ii];omega
   obtain⟨W,hWW⟩:∃ W,wr.drew=W:=⟨_,rfl⟩
   have HWW:AP (wr.drew=W):=hWW;have HSW:AP (S<W.heap.size/\W.heap[S]?=UI (UP #[UE UG gn,UE UG tl,l,UD UJ 0 0] 30 (0,0))):=by rw[<-hWW];exact⟨hst.lt,hst.s⟩
   have HIW:AP (Iow (S+1) W l (Fp zs k)):=by rw[<-hWW];exact hst.d
   have HWZ:AP (IntKind.i64.wrap z=z):=by show _=_;rw[As];omega
   have HWX:AP (IntKind.i64.wrap x=x):=by show _=_;rw[As];omega
   have HWY:AP (IntKind.i64.wrap y=y):=by show _=_;rw[As];omega
   have HWM:AP (IntKind.i64.wrap (256*y)=256*y):=by show _=_;rw[As];omega
   have HWA:AP (IntKind.i64.wrap ((A:Int)+1)=(A:Int)+1):=by show _=_;rw[As];omega
   have HA1:AP ((A:Int)<128):=by show _<_;omega
   have HA2:AP ((A:Int)+1<128):=by show _<_;omega
   have HA3:AP (0<=(A:Int)+1):=by show _<=_;omega
   clear hst hA hx hy hzz hWW;by_cases h8:k<8
   ·have h8':¬ ((k:Int)≥8):=AK
    go_upto_region 10 with fail
    have hAe:(44+2*(k:Int):Int)=(A:Int):=by have:=HAK.o;unfold J2 at this;split at this<;>omega
    try rw[hAe]
    refine Ae AN ?_;refine C3 (λ_ _ _=>True) (frame:=(λ(a b c d e f g h i j k l m n o p q r s u v w x y z A B C D E F G H I J K L M N O P Q R S T U V W X Y Z a0 a1 a2 a3 a4 a5 a6 a7 a8 a9 b0 b1 b2 b3 b4 b5 b6 b7 b8 b9:UL)=>λ(t:Nat->UL)=>({ tmps:=List.toArray [a,b,c,d,e,f,g,h,i,j,k,l,m,n,o,p,q,r,s,u,v,w,x,y,z,A,B,C,D,E,F,G,H,I,J,K,L,M,N,O,t 0,t 1,t 2,t 3,t 4,t 5,t 6,t 7,t 8,t 9,t 10,t 11,t 12,t 13,t 14,t 15,t 16,t 17,P,Q,R,S,T,U,V,W,X,Y,Z,a0,a1,a2,a3,a4,a5,a6,a7,a8,a9,b0,b1,b2,b3,b4,b5,b6,b7,b8,b9],defers:=[] }:Act)) _ _ _ _ _ _ _ _ _ _ _ _ _ _ _ _ _ _ _ _ _ _ _ _ _ _ _ _ _ _ _ _ _ _ _ _ _ _ _ _ _ _ _ _ _ _ _ _ _ _ _ _ _ _ _ _ _ _ _ _ _ _ _ _ _ _ _ _ _ _ _)
     (Ext:=λL u w'=>Lb w W S gn tl l (Fp zs k) z (L 1) (L 15) (L 16) (L 18) (u 15) (u 16) w') (Good:=λi L w' v=>if i=0 then v=UM (UI ⟨S,2,UJ⟩) else if i=1 then v=l else if i=2 then v=UD (UI ⟨b,off,UJ⟩) 128 cap else if i=3 then v=UE UO (A:Int) else if i=4 then v=UM (UI ⟨b,off+A,UJ⟩) else if i=5 then v=UE UH x else if i=6 then v=UE UO x else if i=7 then v=UD (UI ⟨b,off,UJ⟩) 128 cap else if i=8 then v=UE UO (A:Int) else if i=9 then v=UE UO ((A:Int)+1) else if i=10 then v=UM (UI ⟨b,off+(A+1),UJ⟩) else if i=11 then v=UE UH y else if i=12 then v=UE UO y else if i=13 then v=UE UO (256*y) else if i=14 then v=UE UO z else if i=17 then v=UM (UI ⟨S,2,UJ⟩) else if i=15 then L 15=true else if i=16 then L 16=true else if i=18 then L 18=true else True) ?hstab AN ?hop ?hdone _ _ ((λ(x0 x1 x2 x3 x4 x5 x6 x7 x8 x9 x10 x11 x12 x13 x14 x15 x16 x17:UL)=>λ(i:Nat)=>if i=0 then x0 else if i=1 then x1 else if i=2 then x2 else if i=3 then x3 else if i=4 then x4 else if i=5 then x5 else if i=6 then x6 else if i=7 then x7 else if i=8 then x8 else if i=9 then x9 else if i=10 then x10 else if i=11 then x11 else if i=12 then x12 else if i=13 then x13 else if i=14 then x14 else if i=15 then x15 else if i=16 then x16 else if i=17 then x17 else undef) _ _ _ _ _ _ _ _ _ _ _ _ _ _ _ _ _ _) _ AM ?ext ?start AM
    case start=>intro i hi h;exact absurd h E0
    case ext=>
     have h0:∀ i,(Array.replicate 19 false).getD i false=false:=λi=>by rw[A7,BR];split<;>rfl
     show Lb _ _ _ _ _ _ _ _ ((Array.replicate 19 false).getD 1 false) ((Array.replicate 19 false).getD 15 false) ((Array.replicate 19 false).getD 16 false) ((Array.replicate 19 false).getD 18 false) _ _ _
     rw[h0,h0,h0,h0];refine⟨HD.o.bx.drew,(λq=>by cases q),(λq=>by cases q),?_⟩;rw[AS AL,AS AL,AS AL];exact HWW.o
    case hstab=>
     intro j L w9 w' i v hM hij hLi h;by_cases h15:j=15
     ·subst h15;simp at h |-;unfold Ct;simp[h]
     by_cases h16:j=16
     ·subst h16;simp at h |-;unfold Ct;simp[h]
     by_cases h18:j=18
     ·subst h18;simp at h |-;unfold Ct;simp[h]
     simp only[if_neg h15,if_neg h16,if_neg h18] at h |-;exact h
    case hop=>
     intro i o L t w' ho hLi hx hdep K hK;have hi:i<19:=(AQ.1 ho).1;obtain rfl|rfl|rfl|rfl|rfl|rfl|rfl|rfl|rfl|rfl|rfl|rfl|rfl|rfl|rfl|rfl|rfl|rfl|rfl:i=0\/i=1\/i=2\/i=3\/i=4\/i=5\/i=6\/i=7\/i=8\/i=9\/i=10\/i=11\/i=12\/i=13\/i=14\/i=15\/i=16\/i=17\/i=18:=AK
     all_goals(simp at ho;subst ho)
     ·clear hdep;have hK':=hK w' (UM (UI ⟨S,2,UJ⟩)) AM (by simpa[Ct,Cr] using hx) trivial;clear hK hx;rw[AR AO];go_simp;simpa[Cr] using hK'
     ·have d0:t 0=UM (UI ⟨S,2,UJ⟩):=by simpa using(hdep ⟨0,UR⟩ AM rfl).2
      clear hdep;rw[hLi] at hx;obtain⟨hrow,hx2⟩:=hx.load HSW.o.1 HSW.o.2;have cl:w'.cell? ⟨S,2,UJ⟩=UI l:=AA hrow _;have hK':=hK w' (l) AM (by simpa[Ct,Cr] using hx2) trivial;clear hK hrow hx2 hx;rw[AR AO];go_simp;simpa[Cr,d0] using hK'
     ·clear hdep;have hK':=hK w' (UD (UI ⟨b,off,UJ⟩) 128 cap) AM (by simpa[Ct,Cr] using hx) trivial;clear hK hx;rw[AR AO];go_simp;simpa[Cr] using hK'
     ·clear hdep;have hK':=hK w' (UE UO (A:Int)) AM (by simpa[Ct,Cr] using hx) trivial;clear hK hx;rw[AR AO];go_simp;simpa[Cr] using hK'
     ·have d2:t 2=UD (UI ⟨b,off,UJ⟩) 128 cap:=by simpa using(hdep ⟨2,UR⟩ AM rfl).2
      have d3:t 3=UE UO (A:Int):=by simpa using(hdep ⟨3,UR⟩ AM rfl).2
      clear hdep;have hK':=hK w' (UM (UI ⟨b,off+A,UJ⟩)) AM (by simpa[Ct,Cr] using hx) trivial;clear hK hx;rw[AR AO];go_simp;simp[Cr,d2,d3,HA1.o] at hK' |-;go_simp;exact hK'
     ·have d4:t 4=UM (UI ⟨b,off+A,UJ⟩):=by simpa using(hdep ⟨4,UR⟩ AM rfl).2
      clear hdep;have cx:w'.cell? ⟨b,off+A,UJ⟩=UI (UE UH x):=(hx.1.below.cell (p:=⟨b,off+A,UJ⟩) HBL.o).trans HX0.o;have hK':=hK w' (UE UH x) AM (by simpa[Ct,Cr] using hx) trivial;clear hK hx;rw[AR AO];go_simp;simpa[Cr,d4] using hK'
     ·have d5:t 5=UE UH x:=by simpa using(hdep ⟨5,UR⟩ AM rfl).2
      clear hdep;have hK':=hK w' (UE UO x) AM (by simpa[Ct,Cr] using hx) trivial;clear hK hx;rw[AR AO];go_simp;simpa[Cr,d5,HWX.o] using hK'
     ·clear hdep;have hK':=hK w' (UD (UI ⟨b,off,UJ⟩) 128 cap) AM (by simpa[Ct,Cr] using hx) trivial;clear hK hx;rw[AR AO];go_simp;simpa[Cr] using hK'
     ·clear hdep;have hK':=hK w' (UE UO (A:Int)) AM (by simpa[Ct,Cr] using hx) trivial;clear hK hx;rw[AR AO];go_simp;simpa[Cr] using hK'
     ·have d8:t 8=UE UO (A:Int):=by simpa using(hdep ⟨8,UR⟩ AM rfl).2
      clear hdep;have hK':=hK w' (UE UO ((A:Int)+1)) AM (by simpa[Ct,Cr] using hx) trivial;clear hK hx;rw[AR AO];go_simp;simpa[Cr,d8,HWA.o] using hK'
     ·have d7:t 7=UD (UI ⟨b,off,UJ⟩) 128 cap:=by simpa using(hdep ⟨7,UR⟩ AM rfl).2
      have d9:t 9=UE UO ((A:Int)+1):=by simpa using(hdep ⟨9,UR⟩ AM rfl).2
      clear hdep;have hK':=hK w' (UM (UI ⟨b,off+(A+1),UJ⟩)) AM (by simpa[Ct,Cr] using hx) trivial;clear hK hx;rw[AR AO];go_simp;simp[Cr,d7,d9,HA2.o,HA3.o] at hK' |-;go_simp;exact hK'
     ·have d10:t 10=UM (UI ⟨b,off+(A+1),UJ⟩):=by simpa using(hdep ⟨10,UR⟩ AM rfl).2
      clear hdep;have cy:w'.cell? ⟨b,off+(A+1),UJ⟩=UI (UE UH y):=(hx.1.below.cell (p:=⟨b,off+(A+1),UJ⟩) HBL.o).trans HY0.o;have hK':=hK w' (UE UH y) AM (by simpa[Ct,Cr] using hx) trivial;clear hK hx;rw[AR AO];go_simp;simpa[Cr,d10] using hK'
     ·have d11:t 11=UE UH y:=by simpa using(hdep ⟨11,UR⟩ AM rfl).2
      clear hdep;have hK':=hK w' (UE UO y) AM (by simpa[Ct,Cr] using hx) trivial;clear hK hx;rw[AR AO];go_simp;simpa[Cr,d11,HWY.o] using hK'
     ·have d12:t 12=UE UO y:=by simpa using(hdep ⟨12,UR⟩ AM rfl).2
      clear hdep;have hK':=hK w' (UE UO (256*y)) AM (by simpa[Ct,Cr] using hx) trivial;clear hK hx;rw[AR AO];go_simp;simpa[Cr,d12,HWM.o] using hK'
     ·have d6:t 6=UE UO x:=by simpa using(hdep ⟨6,UR⟩ AM rfl).2
      have d13:t 13=UE UO (256*y):=by simpa using(hdep ⟨13,UR⟩ AM rfl).2
      clear hdep;have hK':=hK w' (UE UO z) AM (by simpa[Ct,Cr] using hx) trivial;clear hK hx;rw[AR AO];go_simp;simpa[Cr,d6,d13,HZZ.o,HWZ.o] using hK'
     ·have d14:t 14=UE UO z:=by simpa using(hdep ⟨14,UR⟩ AM rfl).2
      clear hdep;rw[hLi] at hx;obtain⟨hwW,hx2⟩:=hx.build;have hK':=hK (W.alloc (UP #[UE UO z] 2)) (UD (UI ⟨W.heap.size,0,UJ⟩) 1 1) (by simp[Ct]) (by simpa[Ct,Cr] using hx2) trivial;clear hK hx2 hx;subst hwW;rw[AR AO];go_simp;simpa[Cr,d14] using hK'
     ·have d1:t 1=l:=by simpa using(hdep ⟨1,UR⟩ AM rfl).2
      have l1:L 1=true:=(hdep ⟨1,UR⟩ AM rfl).1;have l15:L 15=true:=(hdep ⟨15,UR⟩ AM rfl).1;clear hdep;rw[hLi,l15] at hx;obtain⟨hwW,d15,hx2⟩:=hx.app l1 HSW.o.1 HSW.o.2 HD.o.hw;have hK':∀ v9 w9,Iow (S+1) w9 v9 (Fp zs k++[z])->Below (S+1) w' w9->K _ w9:=λv9 w9 h1 h2=>hK w9 v9 (by simp[Ct]) (by simpa[Ct,Cr,l15] using hx2 v9 w9 h1 h2) trivial
      clear hK hx2 hx;rw[AR AO];refine Mf w' (.tmp 41) (.tmp 55) rfl (S+1) l (Fp zs k) d1 (by rw[hwW];exact HIW.o.alloc _) W z hwW d15 HLD.o (by rw[hwW];have:=HSW.o.1;simp;omega) ?_;intro v9 w9 h1 h2;have hK2:=hK' v9 w9 h1 h2;clear hK' h1 h2;simpa[Cr,Act.put] using hK2
     ·clear hdep;have hK':=hK w' (UM (UI ⟨S,2,UJ⟩)) AM (by simpa[Ct,Cr] using hx) trivial;clear hK hx;rw[AR AO];go_simp;simpa[Cr] using hK'
     ·have d17:t 17=UM (UI ⟨S,2,UJ⟩):=by simpa using(hdep ⟨17,UR⟩ AM rfl).2
      have l16:L 16=true:=(hdep ⟨16,UR⟩ AM rfl).1;clear hdep;rw[hLi,l16] at hx;obtain⟨hrow,hio,hx2⟩:=hx.store HD.o.hw;have cl:w'.cell? ⟨S,2,UJ⟩=UI l:=AA hrow _;have cf:w'.frozen? ⟨S,2,UJ⟩=false:=Ag _ _ _ _ _ hrow;have h1c:(t 16).oneCell'=true:=hio.one;have hK':=hK (w'.setCell ⟨S,2,UJ⟩ (t 16)) undef (by simp[Ct]) (by simpa[Ct,Cr,l16] using hx2) trivial;clear hK hx2 hx hrow;obtain⟨ta,tn,tc,e16⟩:=hio.form;rw[e16] at hK';clear hio;rw[AR AO];go_simp;simpa[Cr,d17,e16,Act.put] using hK'
    case hdone=>
     intro L t w5 hx hg;have l18:L 18=true:=by simpa using hg 18 AL
     clear hg;rw[l18] at hx;obtain⟨hbx5,_,_,h5⟩:=hx;rw[AR rfl] at h5;obtain⟨v5,hs5,hi5⟩:=h5;have HD5:AP (DX w S gn tl zs (k+1) v5 w5):=⟨hbx5,hs5,by rw[HNX.o];exact hi5,HD.o.hw⟩
     clear hbx5 hs5 hi5 l18;go_wp2;go_roundw
     case rel=>exact⟨k+1,v5,AK,by go_num,HD5.o⟩
     case measure=>simp[intOf];omega
   ·have h8':(k:Int)≥8:=AK
    go_upto_region 10 with fail
    have hAe:(72+2*((k:Int)-8):Int)=(A:Int):=by have:=HAK.o;unfold J2 at this;split at this<;>omega
    try rw[hAe]
    refine Ae AN ?_;refine C3 (λ_ _ _=>True) (frame:=(λ(a b c d e f g h i j k l m n o p q r s u v w x y z A B C D E F G H I J K L M N O P Q R S T U V W X Y Z a0 a1 a2 a3 a4 a5 a6 a7 a8 a9 b0 b1 b2 b3 b4 b5 b6 b7 b8 b9:UL)=>λ(t:Nat->UL)=>({ tmps:=List.toArray [a,b,c,d,e,f,g,h,i,j,k,l,m,n,o,p,q,r,s,u,v,w,x,y,z,A,B,C,D,E,F,G,H,I,J,K,L,M,N,O,t 0,t 1,t 2,t 3,t 4,t 5,t 6,t 7,t 8,t 9,t 10,t 11,t 12,t 13,t 14,t 15,t 16,t 17,P,Q,R,S,T,U,V,W,X,Y,Z,a0,a1,a2,a3,a4,a5,a6,a7,a8,a9,b0,b1,b2,b3,b4,b5,b6,b7,b8,b9],defers:=[] }:Act)) _ _ _ _ _ _ _ _ _ _ _ _ _ _ _ _ _ _ _ _ _ _ _ _ _ _ _ _ _ _ _ _ _ _ _ _ _ _ _ _ _ _ _ _ _ _ _ _ _ _ _ _ _ _ _ _ _ _ _ _ _ _ _ _ _ _ _ _ _ _ _)
     (Ext:=λL u w'=>Lb w W S gn tl l (Fp zs k) z (L 1) (L 15) (L 16) (L 18) (u 15) (u 16) w') (Good:=λi L w' v=>if i=0 then v=UM (UI ⟨S,2,UJ⟩) else if i=1 then v=l else if i=2 then v=UD (UI ⟨b,off,UJ⟩) 128 cap else if i=3 then v=UE UO (A:Int) else if i=4 then v=UM (UI ⟨b,off+A,UJ⟩) else if i=5 then v=UE UH x else if i=6 then v=UE UO x else if i=7 then v=UD (UI ⟨b,off,UJ⟩) 128 cap else if i=8 then v=UE UO (A:Int) else if i=9 then v=UE UO ((A:Int)+1) else if i=10 then v=UM (UI ⟨b,off+(A+1),UJ⟩) else if i=11 then v=UE UH y else if i=12 then v=UE UO y else if i=13 then v=UE UO (256*y) else if i=14 then v=UE UO z else if i=17 then v=UM (UI ⟨S,2,UJ⟩) else if i=15 then L 15=true else if i=16 then L 16=true else if i=18 then L 18=true else True) ?hstab AN ?hop ?hdone _ _ ((λ(x0 x1 x2 x3 x4 x5 x6 x7 x8 x9 x10 x11 x12 x13 x14 x15 x16 x17:UL)=>λ(i:Nat)=>if i=0 then x0 else if i=1 then x1 else if i=2 then x2 else if i=3 then x3 else if i=4 then x4 else if i=5 then x5 else if i=6 then x6 else if i=7 then x7 else if i=8 then x8 else if i=9 then x9 else if i=10 then x10 else if i=11 then x11 else if i=12 then x12 else if i=13 then x13 else if i=14 then x14 else if i=15 then x15 else if i=16 then x16 else if i=17 then x17 else undef) _ _ _ _ _ _ _ _ _ _ _ _ _ _ _ _ _ _) _ AM ?ext ?start AM
    case start=>intro i hi h;exact absurd h E0
    case ext=>
     have h0:∀ i,(Array.replicate 19 false).getD i false=false:=λi=>by rw[A7,BR];split<;>rfl
     show Lb _ _ _ _ _ _ _ _ ((Array.replicate 19 false).getD 1 false) ((Array.replicate 19 false).getD 15 false) ((Array.replicate 19 false).getD 16 false) ((Array.replicate 19 false).getD 18 false) _ _ _
     rw[h0,h0,h0,h0];refine⟨HD.o.bx.drew,(λq=>by cases q),(λq=>by cases q),?_⟩;rw[AS AL,AS AL,AS AL];exact HWW.o
    case hstab=>
     intro j L w9 w' i v hM hij hLi h;by_cases h15:j=15
     ·subst h15;simp at h |-;unfold Ct;simp[h]
     by_cases h16:j=16
     ·subst h16;simp at h |-;unfold Ct;simp[h]
     by_cases h18:j=18
     ·subst h18;simp at h |-;unfold Ct;simp[h]
     simp only[if_neg h15,if_neg h16,if_neg h18] at h |-;exact h
    case hop=>
     intro i o L t w' ho hLi hx hdep K hK;have hi:i<19:=(AQ.1 ho).1;obtain rfl|rfl|rfl|rfl|rfl|rfl|rfl|rfl|rfl|rfl|rfl|rfl|rfl|rfl|rfl|rfl|rfl|rfl|rfl:i=0\/i=1\/i=2\/i=3\/i=4\/i=5\/i=6\/i=7\/i=8\/i=9\/i=10\/i=11\/i=12\/i=13\/i=14\/i=15\/i=16\/i=17\/i=18:=AK
     all_goals(simp at ho;subst ho)
     ·clear hdep;have hK':=hK w' (UM (UI ⟨S,2,UJ⟩)) AM (by simpa[Ct,Cr] using hx) trivial;clear hK hx;rw[AR AO];go_simp;simpa[Cr] using hK'
     ·have d0:t 0=UM (UI ⟨S,2,UJ⟩):=by simpa using(hdep ⟨0,UR⟩ AM rfl).2
      clear hdep;rw[hLi] at hx;obtain⟨hrow,hx2⟩:=hx.load HSW.o.1 HSW.o.2;have cl:w'.cell? ⟨S,2,UJ⟩=UI l:=AA hrow _;have hK':=hK w' (l) AM (by simpa[Ct,Cr] using hx2) trivial;clear hK hrow hx2 hx;rw[AR AO];go_simp;simpa[Cr,d0] using hK'
     ·clear hdep;have hK':=hK w' (UD (UI ⟨b,off,UJ⟩) 128 cap) AM (by simpa[Ct,Cr] using hx) trivial;clear hK hx;rw[AR AO];go_simp;simpa[Cr] using hK'
     ·clear hdep;have hK':=hK w' (UE UO (A:Int)) AM (by simpa[Ct,Cr] using hx) trivial;clear hK hx;rw[AR AO];go_simp;simpa[Cr] using hK'
     ·have d2:t 2=UD (UI ⟨b,off,UJ⟩) 128 cap:=by simpa using(hdep ⟨2,UR⟩ AM rfl).2
      have d3:t 3=UE UO (A:Int):=by simpa using(hdep ⟨3,UR⟩ AM rfl).2
      clear hdep;have hK':=hK w' (UM (UI ⟨b,off+A,UJ⟩)) AM (by simpa[Ct,Cr] using hx) trivial;clear hK hx;rw[AR AO];go_simp;simp[Cr,d2,d3,HA1.o] at hK' |-;go_simp;exact hK'
     ·have d4:t 4=UM (UI ⟨b,off+A,UJ⟩):=by simpa using(hdep ⟨4,UR⟩ AM rfl).2
      clear hdep;have cx:w'.cell? ⟨b,off+A,UJ⟩=UI (UE UH x):=(hx.1.below.cell (p:=⟨b,off+A,UJ⟩) HBL.o).trans HX0.o;have hK':=hK w' (UE UH x) AM (by simpa[Ct,Cr] using hx) trivial;clear hK hx;rw[AR AO];go_simp;simpa[Cr,d4] using hK'
     ·have d5:t 5=UE UH x:=by simpa using(hdep ⟨5,UR⟩ AM rfl).2
      clear hdep;have hK':=hK w' (UE UO x) AM (by simpa[Ct,Cr] using hx) trivial;clear hK hx;rw[AR AO];go_simp;simpa[Cr,d5,HWX.o] using hK'
     ·clear hdep;have hK':=hK w' (UD (UI ⟨b,off,UJ⟩) 128 cap) AM (by simpa[Ct,Cr] using hx) trivial;clear hK hx;rw[AR AO];go_simp;simpa[Cr] using hK'
     ·clear hdep;have hK':=hK w' (UE UO (A:Int)) AM (by simpa[Ct,Cr] using hx) trivial;clear hK hx;rw[AR AO];go_simp;simpa[Cr] using hK'
     ·have d8:t 8=UE UO (A:Int):=by simpa using(hdep ⟨8,UR⟩ AM rfl).2
      clear hdep;have hK':=hK w' (UE UO ((A:Int)+1)) AM (by simpa[Ct,Cr] using hx) trivial;clear hK hx;rw[AR AO];go_simp;simpa[Cr,d8,HWA.o] using hK'
     ·have d7:t 7=UD (UI ⟨b,off,UJ⟩) 128 cap:=by simpa using(hdep ⟨7,UR⟩ AM rfl).2
      have d9:t 9=UE UO ((A:Int)+1):=by simpa using(hdep ⟨9,UR⟩ AM rfl).2
      clear hdep;have hK':=hK w' (UM (UI ⟨b,off+(A+1),UJ⟩)) AM (by simpa[Ct,Cr] using hx) trivial;clear hK hx;rw[AR AO];go_simp;simp[Cr,d7,d9,HA2.o,HA3.o] at hK' |-;go_simp;exact hK'
     ·have d10:t 10=UM (UI ⟨b,off+(A+1),UJ⟩):=by simpa using(hdep ⟨10,UR⟩ AM rfl).2
      clear hdep;have cy:w'.cell? ⟨b,off+(A+1),UJ⟩=UI (UE UH y):=(hx.1.below.cell (p:=⟨b,off+(A+1),UJ⟩) HBL.o).trans HY0.o;have hK':=hK w' (UE UH y) AM (by simpa[Ct,Cr] using hx) trivial;clear hK hx;rw[AR AO];go_simp;simpa[Cr,d10] using hK'
     ·have d11:t 11=UE UH y:=by simpa using(hdep ⟨11,UR⟩ AM rfl).2
      clear hdep;have hK':=hK w' (UE UO y) AM (by simpa[Ct,Cr] using hx) trivial;clear hK hx;rw[AR AO];go_simp;simpa[Cr,d11,HWY.o] using hK'
     ·have d12:t 12=UE UO y:=by simpa using(hdep ⟨12,UR⟩ AM rfl).2
      clear hdep;have hK':=hK w' (UE UO (256*y)) AM (by simpa[Ct,Cr] using hx) trivial;clear hK hx;rw[AR AO];go_simp;simpa[Cr,d12,HWM.o] using hK'
     ·have d6:t 6=UE UO x:=by simpa using(hdep ⟨6,UR⟩ AM rfl).2
      have d13:t 13=UE UO (256*y):=by simpa using(hdep ⟨13,UR⟩ AM rfl).2
      clear hdep;have hK':=hK w' (UE UO z) AM (by simpa[Ct,Cr] using hx) trivial;clear hK hx;rw[AR AO];go_simp;simpa[Cr,d6,d13,HZZ.o,HWZ.o] using hK'
     ·have d14:t 14=UE UO z:=by simpa using(hdep ⟨14,UR⟩ AM rfl).2
      clear hdep;rw[hLi] at hx;obtain⟨hwW,hx2⟩:=hx.build;have hK':=hK (W.alloc (UP #[UE UO z] 2)) (UD (UI ⟨W.heap.size,0,UJ⟩) 1 1) (by simp[Ct]) (by simpa[Ct,Cr] using hx2) trivial;clear hK hx2 hx;subst hwW;rw[AR AO];go_simp;simpa[Cr,d14] using hK'
     ·have d1:t 1=l:=by simpa using(hdep ⟨1,UR⟩ AM rfl).2
      have l1:L 1=true:=(hdep ⟨1,UR⟩ AM rfl).1;have l15:L 15=true:=(hdep ⟨15,UR⟩ AM rfl).1;clear hdep;rw[hLi,l15] at hx;obtain⟨hwW,d15,hx2⟩:=hx.app l1 HSW.o.1 HSW.o.2 HD.o.hw;have hK':∀ v9 w9,Iow (S+1) w9 v9 (Fp zs k++[z])->Below (S+1) w' w9->K _ w9:=λv9 w9 h1 h2=>hK w9 v9 (by simp[Ct]) (by simpa[Ct,Cr,l15] using hx2 v9 w9 h1 h2) trivial
      clear hK hx2 hx;rw[AR AO];refine Mf w' (.tmp 41) (.tmp 55) rfl (S+1) l (Fp zs k) d1 (by rw[hwW];exact HIW.o.alloc _) W z hwW d15 HLD.o (by rw[hwW];have:=HSW.o.1;simp;omega) ?_;intro v9 w9 h1 h2;have hK2:=hK' v9 w9 h1 h2;clear hK' h1 h2;simpa[Cr,Act.put] using hK2
     ·clear hdep;have hK':=hK w' (UM (UI ⟨S,2,UJ⟩)) AM (by simpa[Ct,Cr] using hx) trivial;clear hK hx;rw[AR AO];go_simp;simpa[Cr] using hK'
     ·have d17:t 17=UM (UI ⟨S,2,UJ⟩):=by simpa using(hdep ⟨17,UR⟩ AM rfl).2
      have l16:L 16=true:=(hdep ⟨16,UR⟩ AM rfl).1;clear hdep;rw[hLi,l16] at hx;obtain⟨hrow,hio,hx2⟩:=hx.store HD.o.hw;have cl:w'.cell? ⟨S,2,UJ⟩=UI l:=AA hrow _;have cf:w'.frozen? ⟨S,2,UJ⟩=false:=Ag _ _ _ _ _ hrow;have h1c:(t 16).oneCell'=true:=hio.one;have hK':=hK (w'.setCell ⟨S,2,UJ⟩ (t 16)) undef (by simp[Ct]) (by simpa[Ct,Cr,l16] using hx2) trivial;clear hK hx2 hx hrow;obtain⟨ta,tn,tc,e16⟩:=hio.form;rw[e16] at hK';clear hio;rw[AR AO];go_simp;simpa[Cr,d17,e16,Act.put] using hK'
    case hdone=>
     intro L t w5 hx hg;have l18:L 18=true:=by simpa using hg 18 AL
     clear hg;rw[l18] at hx;obtain⟨hbx5,_,_,h5⟩:=hx;rw[AR rfl] at h5;obtain⟨v5,hs5,hi5⟩:=h5;have HD5:AP (DX w S gn tl zs (k+1) v5 w5):=⟨hbx5,hs5,by rw[HNX.o];exact hi5,HD.o.hw⟩
     clear hbx5 hs5 hi5 l18;go_wp2;go_roundw
     case rel=>exact⟨k+1,v5,AK,by go_num,HD5.o⟩
     case measure=>simp[intOf];omega
  ·have hke:k=n:=AK
   subst hke;clear hst;go_wp2_with fail;clear c6;obtain⟨aD,nD,cD,rfl⟩:=HD.o.d.form;obtain⟨sD,hnD,lD⟩:=HD.o.d.sat;have HY0:AP (DY w S wr.heap.size gn tl aD nD cD (Fp zs k) (KL zs) 0 (UD UJ 0 0) wr):=⟨HD.o.bx,HD.o.s,sD.at_,λad e=>⟨Nat.lt_of_succ_le (lD ad e).1,(lD ad e).2⟩,Iow.nil _ _,AY _,HD.o.lt,HD.o.hw⟩
   have HLD:AP ((Fp zs k).length=nD):=hnD;clear HD sD hnD lD;obtain⟨H,hH⟩:∃ H,wr.heap.size=H:=⟨_,rfl⟩
   rw[hH] at HY0;clear hH
   go_loopw [6] (λi wz=>∃(j:Nat) (v:UL),j<=256/\i=UE UO j/\DY w S H gn tl aD nD cD (Fp zs k) (KL zs) j v wz) (λi _=>256-(intOf i).toNat)
   case atStart=>exact⟨0,_,Aj _,rfl,HY0.o⟩
   case round=>
    clear HY0;obtain⟨j,v,hj,rfl,hst⟩:=hrel;obtain⟨aU,nU,cU,rfl⟩:=hst.u.form;by_cases hlt:j<256
    ·have hlt':(j:Int)<256:=AK
     obtain⟨x,hx⟩:∃ x,zs.getD (12+j/8) 0=x:=⟨_,rfl⟩
     have hxb:=HZ.o.2.get (12+j/8);rw[hx] at hxb;obtain⟨hx0,hx1⟩:=hxb;have cx:=hst.bx.below.cell (p:=⟨b,off+(12+j/8),UJ⟩) HBL.o;rw[HCC.o (12+j/8) (by rw[HZ.o.1];omega),hx] at cx;have hpj:KL zs j=decide (x/2^(j%8)%2=1):=by unfold KL;rw[hx]
     have htm:(x/2^(j%8)).tmod 2=x/2^(j%8)%2:=CJ (Int.ediv_nonneg hx0 (Int.le_of_lt (Int.pow_pos AL)));have c3:wr.cell? ⟨S,3,UJ⟩=UI (UD aU nU cU):=AA hst.s _;have HST:AP (DY w S H gn tl aD nD cD (Fp zs k) (KL zs) j (UD aU nU cU) wr):=hst;clear hst hx;by_cases hp:KL zs j=true
     ·have hb2:((x/2^(j%8)).tmod 2 == 1)=true:=by
       rw[htm];rw[hpj] at hp;simpa using hp
      have HNX:AP (Dg (KL zs) (j+1)=Dg (KL zs) j++[(j:Int)]):=by show _=_;rw[EI,AR hp]
      have HL2:AP ((Dg (KL zs) j).length<=1048576):=BC (Fu _ j) AK;have HO:AP (Iow H (wr.alloc (UP #[UE UO (j:Int)] 2)) (UD aU nU cU) (Dg (KL zs) j)):=HST.o.u.alloc _;have HZ2:AP (H<=(wr.alloc (UP #[UE UO (j:Int)] 2)).heap.size):=BC HST.o.hz (Cv wr _).size;have c4:(wr.alloc (UP #[UE UO (j:Int)] 2)).cell? ⟨S,3,UJ⟩=UI (UD aU nU cU):=((Cv wr _).cell (p:=⟨S,3,UJ⟩) (Ax HST.o.hs HST.o.hz)).trans c3;clear hp hpj htm;go_wp2_with (first
       |(refine Eg _ rfl (.tmp 75) (.tmp 77) rfl H _ (Dg (KL zs) j) rfl HO.o wr j rfl rfl HL2.o HZ2.o ?_)
       |fail)
      intro v' w3 h1 h2;obtain⟨a',n',c',rfl⟩:=h1.form;have hbb:Below H wr w3:=((Cv wr _).mono HST.o.hz).trans h2;have HF:AP (DY w S H gn tl aD nD cD (Fp zs k) (KL zs) (j+1) (UD a' n' c') (w3.setCell ⟨S,3,UJ⟩ (UD a' n' c'))):=HST.o.step hbb (by rw[HNX.o];exact h1);have hs3:w3.heap[S]?=UI (UP #[UE UG gn,UE UG tl,UD aD nD cD,UD aU nU cU] 30 (0,0)):=by rw[hbb.block S HST.o.hs];exact HST.o.s
      have c5:w3.cell? ⟨S,3,UJ⟩=UI (UD aU nU cU):=AA hs3 _;have f5:w3.frozen? ⟨S,3,UJ⟩=false:=Ag _ _ _ _ _ hs3;clear h1 h2 hbb hs3 HO HZ2 HL2 c3 c4 cx;go_wp2;go_roundw
      case rel=>exact⟨j+1,_,AK,by go_num,HF.o⟩
      case measure=>simp[intOf];omega
     ·have hb2:((x/2^(j%8)).tmod 2 == 1)=false:=by
       rw[htm];rw[hpj] at hp;simpa using hp
      have HF:AP (DY w S H gn tl aD nD cD (Fp zs k) (KL zs) (j+1) (UD aU nU cU) wr):=⟨HST.o.bx,HST.o.s,HST.o.d,HST.o.l,by rw[EI,AS hp];exact HST.o.u,HST.o.hz,HST.o.hs,HST.o.hw⟩
      clear hp hpj htm c3;go_wp2;go_roundw
      case rel=>exact⟨j+1,_,AK,by go_num,HF.o⟩
      case measure=>simp[intOf];omega
    ·have hje:j=256:=AK
     subst hje;obtain⟨sU,hnU,lU⟩:=hst.u.sat;have HBX:AP (Gk w wr):=hst.bx;have HSW:AP (wr.heap[S]?=UI (UP #[UE UG gn,UE UG tl,UD aD nD cD,UD aU nU cU] 30 (0,0))):=hst.s;have HSL:AP (S<wr.heap.size):=(AQ.1 hst.s).1;have HAA:AP (At UO wr aD (Fp zs k)/\At UO wr aU (Lz zs)/\(Lz zs).length=nU):=⟨hst.d,sU.at_,hnU⟩
     have HLL:AP ((∀ ad,aD=UI ad->w.heap.size<ad.block/\ad.block<wr.heap.size)/\∀ ad,aU=UI ad->w.heap.size<ad.block/\ad.block<wr.heap.size):=⟨λad e=>AJ (hst.l ad e) hst.hw hst.hz,λad e=>AJ (lU ad e) hst.hw hst.hs⟩
     have hnD:nD<=1048576:=by have:=HLD.o;rw[Ii] at this;omega
     have hnU2:nU<=1048576:=by have:=Fu (KL zs) 256;have:(Lz zs).length<=256:=this;omega
     obtain⟨E,hE⟩:∃ E,O5 gn tl (Fp zs k) (Lz zs)=E:=⟨_,rfl⟩
     have HCE:AP (∀ ww,Below wr.heap.size wr ww->Calls Tryz.prog 52 #[UN #[UE UG gn,UE UG tl,UD aD nD cD,UD aU nU cU]] ww λe w'=>∃ v,e=.returned v/\DT w' ww.heap.size v E/\Below ww.heap.size ww w'):=λww bb=>by
      rw[<-hE];exact Qm gn tl aD aU nD cD nU cU (Fp zs k) (Lz zs) ww HLD.o HAA.o.2.2 hnD hnU2 (HAA.o.1.below bb) (HAA.o.2.1.below bb) HUU.o.1 HUU.o.2
     have HEE:AP (L0 zs=E):=by show _=_;unfold L0;rw[HGT.o.1,HGT.o.2,HN.o];exact hE
     have HBE:AP (Cu E):=by rw[<-hE];exact LI HUU.o.1 HUU.o.2
     clear hst sU hnU lU hE hnD hnU2;go_wp2_with fail;refine Ae AN ?_;refine C3 (λ_ a b=>Below a.heap.size a b) (frame:=(λ(a b c d e f g h i j k l m n o p q r s u v w x y z A B C D E F G H I J K L M N O P Q R S T U V W X Y Z a0 a1 a2 a3 a4 a5 a6 a7 a8 a9 b0 b1 b2 b3 b4 b5 b6 b7 b8 b9 c0 c1 c2 c3 c4 c5 c6 c7 c8 c9 d0 d1:UL)=>λ(t:Nat->UL)=>({ tmps:=List.toArray [a,b,c,d,e,f,g,h,i,j,k,l,m,n,o,p,q,r,s,u,v,w,x,y,z,A,B,C,D,E,F,G,H,I,J,K,L,M,N,O,P,Q,R,S,T,U,V,W,X,Y,Z,a0,a1,a2,a3,a4,a5,a6,a7,a8,a9,b0,b1,b2,b3,b4,b5,b6,b7,b8,b9,c0,c1,c2,c3,c4,c5,c6,c7,c8,t 0,t 1,t 2,t 3,t 4,t 5,c9,d0,d1],defers:=[] }:Act)) _ _ _ _ _ _ _ _ _ _ _ _ _ _ _ _ _ _ _ _ _ _ _ _ _ _ _ _ _ _ _ _ _ _ _ _ _ _ _ _ _ _ _ _ _ _ _ _ _ _ _ _ _ _ _ _ _ _ _ _ _ _ _ _ _ _ _ _ _ _ _ _ _ _ _ _ _ _ _ _ _ _ _)
      (Ext:=λL u w'=>IV wr [] L u w') (Good:=λi L w' v=>if i=0 then v=UN #[UE UG gn,UE UG tl,UD aD nD cD,UD aU nU cU] else if i=1 then Cy w' v E else if i=2 then v=.string (strOfNums E) else if i=3 then v=UD (UI ⟨b,off,UJ⟩) 128 cap else if i=4 then v=.string (strOfNums zs) else if i=5 then v=UF (!decide (E=zs)) else True) ?hstab AN ?hop ?hdone _ _ ((λ(x0 x1 x2 x3 x4 x5:UL)=>λ(i:Nat)=>if i=0 then x0 else if i=1 then x1 else if i=2 then x2 else if i=3 then x3 else if i=4 then x4 else if i=5 then x5 else undef) _ _ _ _ _ _) _ AM ?ext ?start AM
     case start=>intro i hi h;exact absurd h E0
     case ext=>exact(IV.start wr [] _ _ (λ_=>FJ)).drew
     case hstab=>
      intro j L w9 w' i v hM _ _ h;by_cases h1:j=1
      ·subst h1;simp at h |-;exact h.below hM
      simp only[if_neg h1] at h |-;exact h
     case hop=>
      intro i o L t w' ho hLi hx hdep K hK;have hi:i<6:=(AQ.1 ho).1;obtain rfl|rfl|rfl|rfl|rfl|rfl:i=0\/i=1\/i=2\/i=3\/i=4\/i=5:=AK
      all_goals(simp at ho;subst ho)
      ·clear hdep;have hrw:w'.heap[S]?=UI (UP #[UE UG gn,UE UG tl,UD aD nD cD,UD aU nU cU] 30 (0,0)):=by rw[hx.below.block S HSL.o];exact HSW.o
       have hK':=hK w' (UN #[UE UG gn,UE UG tl,UD aD nD cD,UD aU nU cU]) AM (hx.step 0 _ Cs C7) Cs;clear hK;rw[AR AO];refine BL 30 (.tmp 3) rfl S rfl 30 _ (0,0) _ hrw Tryz.underlying30 rfl HSN.o ?_;go_simp;simpa[Cr] using hK'
      ·have d0:t 0=UN #[UE UG gn,UE UG tl,UD aD nD cD,UD aU nU cU]:=by simpa using(hdep ⟨0,UR⟩ AM rfl).2
       clear hdep;have A:=HCE.o w' hx.below;have hK':∀ ww v,Cy ww v E->Below w'.heap.size w' ww->K _ ww:=λww v hv hb=>hK ww v (by simpa using hv) (hx.step 1 v hb C7) hb
       clear hK;rw[AR AO];go_simp;try simp only[d0]
       refine A.mono ?_;rintro e w9 ⟨v9,rfl,hown,hb9⟩;have hK2:=hK' w9 v9 hown.part hb9;clear hK' A hown hb9;go_simp;simpa[Cr,d0] using hK2
      ·have f1:Cy w' (t 1) E:=by simpa using(hdep ⟨1,UR⟩ AM rfl).2
       clear hdep;obtain⟨bp,op,cp,d,hl,hcp⟩:=f1;have hcv:=run_convert_bytes_arg w' 22 5 Tryz.underlying22 Tryz.underlying5 bp op _ cp E rfl hcp 9 Tryz.underlying9;have hK':=hK w' (.string (strOfNums E)) AM (hx.step 2 _ Cs C7) Cs;clear hK hcp;generalize E.length=el at *;rw[AR AO];go_simp;simpa[Cr,d] using hK'
      ·clear hdep;have hK':=hK w' (UD (UI ⟨b,off,UJ⟩) 128 cap) AM (hx.step 3 _ Cs C7) Cs;clear hK;rw[AR AO];go_simp;simpa[Cr] using hK'
      ·have d3:t 3=UD (UI ⟨b,off,UJ⟩) 128 cap:=by simpa using(hdep ⟨3,UR⟩ AM rfl).2
       clear hdep;have hcv:=run_convert_bytes_arg w' 22 5 Tryz.underlying22 Tryz.underlying5 b off 128 cap zs HZ.o.1 (λi hi=>(HBX.o.below.trans (hx.below.mono HBX.o.below.size)).cell (p:=⟨b,off+i,UJ⟩) HBL.o ▸ HCC.o i (by rw[HZ.o.1];exact hi)) 9 Tryz.underlying9;have hK':=hK w' (.string (strOfNums zs)) AM (hx.step 4 _ Cs C7) Cs;clear hK;rw[AR AO];go_simp;simpa[Cr,d3] using hK'
      ·have d2:t 2=.string (strOfNums E):=by simpa using(hdep ⟨2,UR⟩ AM rfl).2
       have d4:t 4=.string (strOfNums zs):=by simpa using(hdep ⟨4,UR⟩ AM rfl).2
       clear hdep;have hinj:=PQ HBE.o HZ.o.2;have hK':=hK w' (UF (!decide (E=zs))) AM (hx.step 5 _ Cs C7) Cs;clear hK;generalize decide (E=zs)=bb at *;rw[AR AO];go_simp;simpa[Cr,d2,d4,hinj] using hK'
     case hdone=>
      intro L t w9 hx hg;have e5:t 5=UF (!decide (E=zs)):=by simpa using hg 5 AL
      clear hg;have HB9:AP (Gk w w9):=HBX.o.call hx.below;have HS9:AP (w9.heap[S]?=UI (UP #[UE UG gn,UE UG tl,UD aD nD cD,UD aU nU cU] 30 (0,0))):=by show _=_;rw[hx.below.block S HSL.o];exact HSW.o
      have HA9:AP (At UO w9 aD (Fp zs k)/\At UO w9 aU (Lz zs)):=⟨HAA.o.1.below hx.below,HAA.o.2.1.below hx.below⟩
      have hsz9:=hx.below.size;clear hx;by_cases heq:E=zs
      ·have hde:decide (E=zs)=true:=by simpa using heq
       rw[hde] at e5;simp only[e5,Bool.not_true];have HEQ:AP (L0 zs=zs):=by show _=_;rw[HEE.o];exact heq
       clear e5 hde heq;go_wp2_with (first
        |(refine Ab rfl 30 (.tmp 3) rfl S rfl 30 _ (0,0) _ HS9.o Tryz.underlying30 rfl HSN.o ?_)
        |(refine AC 63 (.tmp 2) (.tmp 88) w.heap.size #[UF true,UE UG gn,UE UG tl,UD aD nD cD,UD aU nU cU] 63 HB9.o.box HSR.o rfl (Er _ _ _ _ _ _ _ _ _) ?_)
        |fail)
       (try simp only[Exit.inBlock,Exit.then])
       refine AZ (v:=UN #[UF true,UE UG gn,UE UG tl,UD aD nD cD,UD aU nU cU]) (AW rfl _ _ w.heap.size 63 _ (0,0) _ rfl (AB HB9.o.box) Tryz.underlying63 rfl HSR.o) rfl ⟨_,rfl,?_,HB9.o.below.trans ((Wr.setRow _ _ _).below Cw)⟩;rw[J3 HZ.o.1 HN16.o HEQ.o];have hw:=Wr.setRow w.heap.size w9 #[UF true,UE UG gn,UE UG tl,UD aD nD cD,UD aU nU cU];have h1:=HA9.o.1.keepT (w':=w9.setRow w.heap.size #[UF true,UE UG gn,UE UG tl,UD aD nD cD,UD aU nU cU]) (by rw[hw.size];exact AY _) (λad e _=>hw.block _ (AG (HLL.o.1 ad e)));have h2:=HA9.o.2.keepT (w':=w9.setRow w.heap.size #[UF true,UE UG gn,UE UG tl,UD aD nD cD,UD aU nU cU]) (by rw[hw.size];exact AY _) (λad e _=>hw.block _ (AG (HLL.o.2 ad e)));exact⟨aD,nD,cD,aU,nU,cU,by rw[K7,HGT.o.1,HGT.o.2],by
        show At UO _ aD (Fp zs (La zs));rw[HN.o];exact h1,h2,by show(Fp zs (La zs)).length=nD;rw[HN.o];exact HLD.o,HAA.o.2.2,λad e=>by have:=HLL.o.1 ad e;rw[hw.size];omega,λad e=>by have:=HLL.o.2 ad e;rw[hw.size];omega⟩
      ·have hde:decide (E=zs)=false:=by simpa using heq
       have HNE:AP (L0 zs≠zs):=by show _≠_;rw[HEE.o];exact heq
       rw[hde] at e5;simp only[Bool.not_false] at e5;simp only[e5];clear e5 hde heq;go_wp2_with (first
        |(refine AC 63 (.tmp 2) (.tmp 86) w.heap.size Ce 63 HB9.o.box HSR.o rfl (Er _ _ _ _ _ _ _ _ _) ?_)
        |fail)
       (try simp only[Exit.inBlock,Exit.then])
       refine AZ (v:=UN Ce) (AW rfl _ _ w.heap.size 63 _ (0,0) _ rfl (AB HB9.o.box) Tryz.underlying63 rfl HSR.o) rfl ⟨_,rfl,?_,HB9.o.below.trans ((Wr.setRow _ _ _).below Cw)⟩;rw[L1 HNE.o];exact I0.no _ _
end Go.Proofs.YthmeoilbmfdhfaaGreat
