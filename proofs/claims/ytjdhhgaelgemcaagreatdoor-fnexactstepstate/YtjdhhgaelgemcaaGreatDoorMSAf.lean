import Derived.Test.YtjdhhgaelgemcaaGreatDoorMSPow12
open Go.Proofs.Tryz renaming prog->tP
open Go.Proofs.Tryz
open Go.Value renaming slice->Z7,int->Z8,pointer->aF,bool->aG,agg->aH
open Go.Obj renaming cells->aJ
open Go.Ending renaming returned->aK
open Go.Operand renaming tmp->aM
open Option renaming some->aE,none->aA
open Go renaming World->aC,Value->aB
set_option maxHeartbeats 4000000
set_option maxRecDepth 100000
namespace Go.Proofs.YtjdhhgaelgemcaaGreatDoor
open Go.ChangeShapes Go.WideShapes Go.ChangeAt Go.RowKit
set_option linter.unusedVariables false
def DF (w:aC) (g:Nat) (cs:Array aB):Prop:=w.heap[g]?=aE (aJ cs 109 (0,0))
theorem DF.below {w w':aC} {g B:Nat} {cs:Array aB} (h:DF w g cs) (b:Below B w w') (hg:g<B):DF w' g cs:=by unfold DF;rw[b.block g hg];exact h
theorem DF.lt {w:aC} {g:Nat} {cs:Array aB} (h:DF w g cs):g<w.heap.size:=(AR.1 h).1
theorem DF.new (w:aC):DF (w.alloc (aJ #[Z7 aA 0 0,Z7 aA 0 0,Z7 aA 0 0,Z7 aA 0 0] 109)) w.heap.size #[Z7 aA 0 0,Z7 aA 0 0,Z7 aA 0 0,Z7 aA 0 0]:=AX w _
theorem Tryz.sizePt:(tP.info? 109).map (·.size)=aE 4:=AM
theorem Cm {w:aC} {ops:Array Oper} {rest:List Oper} {o:Oper} {a:Act} {Q:Exit->Act->aC->Prop} (hgd:o.guard=aA) (x y:Operand) (ho:o.op=.store 109 x y)
  (G:Nat) (s1 s2 s3 s4:aB) (old:Array aB) (h1:s1.oneCell'=true) (h2:s2.oneCell'=true) (h3:s3.oneCell'=true) (h4:s4.oneCell'=true) (hx:a.eval x=aF (aE ⟨G,0,aA⟩)) (hy:a.eval y=aH #[s1,s2,s3,s4]) (hl:old.size=4) (hr:DF w G old)
  (hK:∀ w',DF w' G #[s1,s2,s3,s4]->Wr G w w'->wpList tP ops Q rest (a.put o.dst undef) w') :
  wpList tP ops Q (o::rest) a w:=
 CB hgd 109 x y ho G #[s1,s2,s3,s4] hx hy 109 _ hr Tryz.sizePt (by simp[hl]) (by simp[h1,h2,h3,h4]) (hK _ (AB hr) (Wr.setRow _ _ _))
def Zl (w:aC) (a a':Option Addr) (cap cap':Nat) (x y:Int) (e:Ending) (w':aC):Prop:=
 ∃ gz cz gt ct,e=aK (aH #[Z7 a 16 cap,Z7 a' 16 cap',Z7 (aE ⟨gz,0,aA⟩) 16 cz,Z7 (aE ⟨gt,0,aA⟩) 16 ct])/\Cu w' (aE ⟨gz,0,aA⟩) (1%fp)/\Cu w' (aE ⟨gt,0,aA⟩) (x*y%fp)/\Below w.heap.size w w'/\w.heap.size<=gz/\w.heap.size<=gt
theorem Cu.wr {w w':aC} {g V:Nat} {x:Int} (h:Cu w (aE ⟨g,0,aA⟩) x) (hw:Wr V w w') (hne:g≠V):Cu w' (aE ⟨g,0,aA⟩) x:=by
 obtain⟨zs,h1,h2,h3⟩:=h;refine⟨zs,?_,h2,h3⟩;obtain⟨b,o,e,hb,hc⟩:=h1.get (AG h2.1);cases e;exact .inr ⟨g,0,rfl,by rw[hw.size];exact hb,λi hi=>by rw[Ai (a:=⟨g,0+i,aA⟩) (w:=w) (hw.block g hne)];exact hc i hi⟩
theorem Fe (a a':Option Addr) (cap cap':Nat) (x y:Int) (w:aC) (ha:Cu w a x) (ha':Cu w a' y) :
  Calls tP 94 #[Z7 a 16 cap,Z7 a' 16 cap'] w (Zl w a a' cap cap' x y):=by
 have b0:Below w.heap.size w (w.alloc (aJ #[Z7 aA 0 0,Z7 aA 0 0,Z7 aA 0 0,Z7 aA 0 0] 109)):=Ck _ _;have HP0:AO (DF (w.alloc (aJ #[Z7 aA 0 0,Z7 aA 0 0,Z7 aA 0 0,Z7 aA 0 0] 109)) w.heap.size #[Z7 aA 0 0,Z7 aA 0 0,Z7 aA 0 0,Z7 aA 0 0]):=DF.new w;have HS0:AO (SR w (w.alloc (aJ #[Z7 aA 0 0,Z7 aA 0 0,Z7 aA 0 0,Z7 aA 0 0] 109)) [(a,x),(a',y)]):=⟨b0,λe he=>by
  simp only[List.mem_cons,List.not_mem_nil,or_false] at he;rcases he with rfl|rfl
  ·exact ha.below b0
  ·exact ha'.below b0⟩
 clear ha ha' b0;go_enter func94,ntmps94;go_wp2_with fail;refine(DK 1 _ AK AK).mono ?_;rintro e w1 ⟨g1,c1,rfl,k1,l1,hf,hb⟩;have HP1:AO (DF w1 w.heap.size #[Z7 aA 0 0,Z7 aA 0 0,Z7 aA 0 0,Z7 aA 0 0]):=HP0.o.below hb HP0.o.lt;have HS1:AO (SR w w1 [(aE ⟨g1,0,aA⟩,1%fp),(a,x),(a',y)]):=HS0.o.add hf hb;have hg1:w.heap.size<g1:=AG HP0.o.lt
 clear hf hb HS0 HP0;go_wp2_with fail;refine(Cw _ _ cap cap' x y _ (HS1.o.at 1 _ _ rfl) (HS1.o.at 2 _ _ rfl)).mono ?_;rintro e w2 ⟨g2,c2,rfl,k2,l2,hf,hb⟩;have HP2:AO (DF w2 w.heap.size #[Z7 aA 0 0,Z7 aA 0 0,Z7 aA 0 0,Z7 aA 0 0]):=HP1.o.below hb HP1.o.lt;have HS2:AO (SR w w2 [(aE ⟨g2,0,aA⟩,x*y%fp),(aE ⟨g1,0,aA⟩,1%fp),(a,x),(a',y)]):=HS1.o.add hf hb;have hg2:w.heap.size<g2:=AG HP1.o.lt
 clear hf hb HS1 HP1;go_wp2_with (first
  |(refine Cm rfl (aM 4) (aM 11) rfl w.heap.size _ _ _ _ _ rfl rfl rfl rfl rfl rfl rfl HP2.o ?_)
  |fail)
 intro w3 hp3 hw3;have HP3:AO (DF w3 w.heap.size #[Z7 a 16 cap,Z7 a' 16 cap',Z7 (aE ⟨g1,0,aA⟩) 16 c1,Z7 (aE ⟨g2,0,aA⟩) 16 c2]):=hp3;have HF:AO (Cu w3 (aE ⟨g1,0,aA⟩) (1%fp)/\Cu w3 (aE ⟨g2,0,aA⟩) (x*y%fp)/\Below w.heap.size w w3):=
  ⟨(HS2.o.at 1 _ _ rfl).wr hw3 AJ,(HS2.o.at 0 _ _ rfl).wr hw3 AJ,HS2.o.below.trans (hw3.below Cl)⟩
 clear hp3 hw3 HS2 HP2;go_wp2;exact Ab (v:=aH #[Z7 a 16 cap,Z7 a' 16 cap',Z7 (aE ⟨g1,0,aA⟩) 16 c1,Z7 (aE ⟨g2,0,aA⟩) 16 c2]) (Ah rfl _ _ w.heap.size 109 _ (0,0) _ rfl HP3.o underlying109 rfl Tryz.sizePt) rfl ⟨g1,c1,g2,c2,rfl,HF.o.1,HF.o.2.1,HF.o.2.2,AJ,AJ⟩
theorem D8 {fn:Func} {p u:Tmp} (h:fn.results=#[.tmp u,.cell p 109]) (tmps:Array aB) (w:aC) (g:Nat) (s1 s2 s3 s4:aB)
  (v:aB) (hv:tmps.getD u undef=v) (hp:tmps.getD p undef=aF (aE ⟨g,0,aA⟩)) (hg:DF w g #[s1,s2,s3,s4]) :
  (results fn tmps).run tP w=.ok (.tuple #[v,aH #[s1,s2,s3,s4]]) w:=by
 have hp':tmps[p]?.getD undef=aF (aE ⟨g,0,aA⟩):=by simpa using hp
 have hv':tmps[u]?.getD undef=v:=by simpa using hv
 have hl:=run_loadVar_row (P:=tP) w g 109 109 #[s1,s2,s3,s4] (0,0) _ hg underlying109 rfl Tryz.sizePt;simp[results,h,hp',hv',asAddr,hl]
theorem Ou:fp=57896044618658097711785492504343953926634992332820282019728792003956564819949:=AK
def mY (zs:List Int):Int:=val 256 zs%(fp+19)
def mO (zs:List Int):Int:=zs.getD 31 0/128
def mB (zs:List Int) (D:Int):Bool:=(zs.length == 32) && decide (mY zs<fp) && LE (mY zs) D && !(mO zs == 1 && decide (Ef (mY zs) D=0%fp))
def mX (zs:List Int) (D:Int):Int:=if Ef (mY zs) D%2=mO zs then Ef (mY zs) D else(0%fp-Ef (mY zs) D)%fp
def MD (w:aC) (zs:List Int) (D:Int) (e:Ending) (w':aC):Prop:=
 ∃ s1 s2 s3 s4:aB,e=aK (.tuple #[aG (mB zs D),aH #[s1,s2,s3,s4]])/\Below w.heap.size w w'/\(s1.oneCell'=true/\s2.oneCell'=true/\s3.oneCell'=true/\s4.oneCell'=true)/\
  (mB zs D=true->∃ g1 c1 g2 c2 g3 c3 g4 c4,s1=Z7 (aE ⟨g1,0,aA⟩) 16 c1/\s2=Z7 (aE ⟨g2,0,aA⟩) 16 c2/\s3=Z7 (aE ⟨g3,0,aA⟩) 16 c3/\s4=Z7 (aE ⟨g4,0,aA⟩) 16 c4/\
   Cu w' (aE ⟨g1,0,aA⟩) (mX zs D)/\Cu w' (aE ⟨g2,0,aA⟩) (mY zs)/\Cu w' (aE ⟨g3,0,aA⟩) (1%fp)/\Cu w' (aE ⟨g4,0,aA⟩) (mX zs D*mY zs%fp))
theorem LJ (ds:List Int) (h:ds.length=16):val 65536 ds%2=ds.getD 0 0%2:=by
 cases ds with
 |nil=>simp at h
 |cons d r=>simp only[val,List.getD_cons_zero];omega
theorem Vs {w:aC} {a:Option Addr} {x:Int} (h:Tf w a x):Cu w a (x%fp):=by
 obtain⟨zs,h1,h2,h3,h4⟩:=h;exact⟨zs,h1,⟨h2,λi=>AG (h3 i)⟩,by unfold fv;rw[h4]⟩
theorem Gc (p a':Option Addr) (n cap cap':Nat) (zs:List Int) (D:Int) (w:aC) (hn:zs.length=n) (hm:n<=1048576) (ha:At .u8 w p zs) (hz:Ci zs) (hD:Cu w a' D) :
  Calls tP 72 #[Z7 p n cap,Z7 a' 16 cap'] w (MD w zs D):=by
 have b0:Below w.heap.size w (w.alloc (aJ #[Z7 aA 0 0,Z7 aA 0 0,Z7 aA 0 0,Z7 aA 0 0] 109)):=Ck _ _;have HP0:AO (DF (w.alloc (aJ #[Z7 aA 0 0,Z7 aA 0 0,Z7 aA 0 0,Z7 aA 0 0] 109)) w.heap.size #[Z7 aA 0 0,Z7 aA 0 0,Z7 aA 0 0,Z7 aA 0 0]):=DF.new w;by_cases h32:n=32
 ·have H32:AO (32<=n/\n<=32):=by show _/\_;omega
  have h32':((n:Int) == 32)=true:=by rw[h32];rfl
  have HLN:AO ((zs.length == 32)=true):=by show _=_;rw[hn,h32];rfl
  have HA0:AO (At .u8 w p zs):=ha;have HZ:AO (Ci zs):=hz;have HB0:AO (Below w.heap.size w (w.alloc (aJ #[Z7 aA 0 0,Z7 aA 0 0,Z7 aA 0 0,Z7 aA 0 0] 109))):=b0;have HD0:AO (Cu w a' D):=hD;have hsz0:=HP0.o.lt;clear h32 b0 ha hz hD;go_enter func72,ntmps72;go_wp2_with fail;refine(KB p n cap zs _ hn H32.o.1 H32.o.2 (HA0.o.below HB0.o) HZ.o).mono ?_;rintro e w1 ⟨gy,cy,rfl,ky,ly,hly,hb1⟩;have HP1:AO (DF w1 w.heap.size #[Z7 aA 0 0,Z7 aA 0 0,Z7 aA 0 0,Z7 aA 0 0]):=HP0.o.below hb1 hsz0;have HB1:AO (Below w.heap.size w w1):=HB0.o.trans (hb1.mono HB0.o.size);have HLY:AO (Tf w1 (aE ⟨gy,0,aA⟩) (mY zs)):=hly;have hgy:w.heap.size<gy:=AJ
  clear hly hb1 HP0 HB0;go_wp2_with fail;refine(ET _ cy (mY zs%fp) _ (Vs HLY.o)).mono ?_;rintro e w2 ⟨gl,cl,rfl,kl,ll,hll,hb2⟩;have HP2:AO (DF w2 w.heap.size #[Z7 aA 0 0,Z7 aA 0 0,Z7 aA 0 0,Z7 aA 0 0]):=HP1.o.below hb2 HP1.o.lt;have HB2:AO (Below w.heap.size w w2):=HB1.o.trans (hb2.mono HB1.o.size);have hly2:=HLY.o.below hb2;have HFY:AO (Cu w2 (aE ⟨gy,0,aA⟩) (mY zs%fp)):=Vs hly2;obtain⟨xs,hA1,hx1,hx2,hx3⟩:=hly2;obtain⟨ys,hA2,hy1,hy2,hy3⟩:=hll;have HEQ:AO (mY zs=mY zs%fp↔∀ i,i<16->xs.getD i 0=ys.getD i 0):=by
   show _↔_
   rw[<-hx3] at hy3 |-;rw[<-hy3];exact Vq hx1 hy1 hx2 hy2
  have HC1:AO (∀ i,i<16->w2.cell? ⟨gy,i,aA⟩=aE (Z8 .i64 (xs.getD i 0))):=λi hi=>by
   obtain⟨b,o,e,_,h⟩:=hA1.get AJ;cases e;have:=h i AJ
   rwa [Aq] at this
  have HC2:AO (∀ i,i<16->w2.cell? ⟨gl,i,aA⟩=aE (Z8 .i64 (ys.getD i 0))):=λi hi=>by
   obtain⟨b,o,e,_,h⟩:=hA2.get AJ;cases e;have:=h i AJ
   rwa [Aq] at this
  have HYP:AO (mY zs=mY zs%fp↔mY zs<fp):=by
   show _↔_
   have h0:0<=mY zs:=by unfold mY;rw[Ou];omega
   rw[Ou] at *;omega
  clear hb2 HB1 HP1 HLY hA1 hA2 hx1 hx2 hx3 hy1 hy2 hy3;go_wp2
  go_loopw [8] (λi wr=>∃(k q:Nat),k<=16/\i=Z8 .i64 k/\wr=w2.drewN q/\∀ i,i<k->xs.getD i 0=ys.getD i 0) (λi _=>16-(intOf i).toNat)
  case atStart=>exact⟨0,0,AK,rfl,rfl,λi hi=>AJ⟩
  case round=>
   obtain⟨k,q,hk,rfl,rfl,hall⟩:=hrel;have HALL:AO (∀ i,i<k->xs.getD i 0=ys.getD i 0):=hall;clear hall;by_cases hlt:k<16
   ·have hlt':(k:Int)<16:=AJ
    have c1':=HC1.o k hlt;have c2':=HC2.o k hlt;have HXY:AO (∀ d e:Int,xs.getD k 0=d->ys.getD k 0=e->d=e->∀ i,i<k+1->xs.getD i 0=ys.getD i 0):=λd e h1 h2 h3 i hi=>by
     by_cases h:i=k
     ·subst h;rw[h1,h2,h3]
     ·exact HALL.o i AJ
    have HNE:AO (xs.getD k 0≠ys.getD k 0->mB zs D=false):=λh=>by
     have:decide (mY zs<fp)=false:=Af (λe=>h (HEQ.o.1 (HYP.o.2 e) k hlt));unfold mB;rw[this];simp
    by_cases hxy:xs.getD k 0=ys.getD k 0
    ·have HS:AO (∀ i,i<k+1->xs.getD i 0=ys.getD i 0):=HXY.o _ _ rfl rfl hxy;rw[<-hxy] at c2';clear HXY HNE hxy;generalize xs.getD k 0=d at *;go_wp2
     go_quiet (fail)
     rw[KP];clear c1' c2';go_wp2;go_roundw
     case rel=>exact⟨k+1,q+nq,AJ,by go_num,rfl,HS.o⟩
     case measure=>simp[intOf];omega
    ·have HR:AO (mB zs D=false):=HNE.o hxy;clear HXY HNE;generalize xs.getD k 0=d at *;generalize ys.getD k 0=d' at *;have hdd:(d == d')=false:=by simpa using hxy
     have hdn:(d != d')=true:=by simpa using hxy
     clear hxy;go_wp2
     go_quiet (fail)
     rw[KP];clear c1' c2' hdd hdn;have HPQ:AO (DF (w2.drewN (q+nq)) w.heap.size #[Z7 aA 0 0,Z7 aA 0 0,Z7 aA 0 0,Z7 aA 0 0]):=HP2.o;have HBQ:AO (Below w.heap.size w (w2.drewN (q+nq))):=⟨HB2.o.os,HB2.o.tape,HB2.o.output,HB2.o.size,HB2.o.block⟩
     clear HP2 HB2 HC1 HC2;generalize w2.drewN (q+nq)=w5 at *;go_wp2_with (first
      |(refine Cm rfl (aM 5) (aM 33) rfl w.heap.size _ _ _ _ _ rfl rfl rfl rfl rfl rfl rfl HPQ.o ?_)
      |fail)
     intro wxa hpx hwx;have HPX:AO (DF wxa w.heap.size #[Z7 aA 0 0,Z7 aA 0 0,Z7 aA 0 0,Z7 aA 0 0]):=hpx;have HBX:AO (Below w.heap.size w wxa):=HBQ.o.trans (hwx.below Cl);clear hpx hwx HPQ HBQ;go_wp2;refine Ab (v:=.tuple #[aG false,aH #[Z7 aA 0 0,Z7 aA 0 0,Z7 aA 0 0,Z7 aA 0 0]]) (D8 rfl _ _ w.heap.size _ _ _ _ _ rfl rfl HPX.o) rfl ⟨_,_,_,_,by rw[HR.o],HBX.o,by exact⟨rfl,rfl,rfl,rfl⟩,λh=>?_⟩;rw[HR.o] at h;cases h
   ·have HYL:AO (mY zs<fp):=HYP.o.1 (HEQ.o.2 (λi hi=>HALL.o i AJ));have hlt':¬ (k:Int)<16:=AJ
    have HP3:AO (DF (w2.drewN q) w.heap.size #[Z7 aA 0 0,Z7 aA 0 0,Z7 aA 0 0,Z7 aA 0 0]):=HP2.o;have HB3:AO (Below w.heap.size w (w2.drewN q)):=⟨HB2.o.os,HB2.o.tape,HB2.o.output,HB2.o.size,HB2.o.block⟩
    have HF3:AO (Cu (w2.drewN q) (aE ⟨gy,0,aA⟩) (mY zs)):=by
     have h:=HFY.o;rw[<-HYP.o.2 HYL.o] at h;exact h
    have hsq:w2.heap.size<=(w2.drewN q).heap.size:=Ac _;clear HP2 HB2 HC1 HC2 HEQ HALL HYP HFY;generalize w2.drewN q=w3 at *;go_wp2_with fail;have hgl3:=HP3.o.lt;have hg3:gy<w3.heap.size:=AJ
    refine(Rw _ a' cy cap' (mY zs) D _ HF3.o (HD0.o.below HB3.o)).mono ?_;rintro e w4 ⟨gx,cx,rfl,kx,lx,hfx,hb4⟩;have HP4:AO (DF w4 w.heap.size #[Z7 aA 0 0,Z7 aA 0 0,Z7 aA 0 0,Z7 aA 0 0]):=HP3.o.below hb4 HP3.o.lt;have HB4:AO (Below w.heap.size w w4):=HB3.o.trans (hb4.mono HB3.o.size);have HF4:AO (Cu w4 (aE ⟨gy,0,aA⟩) (mY zs)):=HF3.o.below hb4;have HX4:AO (Cu w4 (aE ⟨gx,0,aA⟩) (Ef (mY zs) D)):=hfx;have hgx:w.heap.size<gx:=AJ
    clear hfx hb4 HP3 HB3 HF3;cases hok:LE (mY zs) D
    ·have HR:AO (mB zs D=false):=by
      show _=_
      unfold mB;rw[hok];simp
     clear hok;go_wp2_with (first
      |(refine Cm rfl (aM 5) (aM 42) rfl w.heap.size _ _ _ _ _ rfl rfl rfl rfl rfl rfl rfl HP4.o ?_)
      |fail)
     intro wxb hpx hwx;have HPX:AO (DF wxb w.heap.size #[Z7 aA 0 0,Z7 aA 0 0,Z7 aA 0 0,Z7 aA 0 0]):=hpx;have HBX:AO (Below w.heap.size w wxb):=HB4.o.trans (hwx.below Cl);clear hpx hwx HP4 HB4;go_wp2;refine Ab (v:=.tuple #[aG false,aH #[Z7 aA 0 0,Z7 aA 0 0,Z7 aA 0 0,Z7 aA 0 0]]) (D8 rfl _ _ w.heap.size _ _ _ _ _ rfl rfl HPX.o) rfl ⟨_,_,_,_,by rw[HR.o],HBX.o,by exact⟨rfl,rfl,rfl,rfl⟩,λh=>?_⟩;rw[HR.o] at h;cases h
    ·obtain⟨bb,off,rfl,hbb,hcc⟩:=(HA0.o.below HB4.o).get (AG H32.o);have c31:=hcc 31 (AG H32.o);obtain⟨q0,q1⟩:=HZ.o.get 31;have HMB:AO (mB zs D=!(mO zs == 1 && decide (Ef (mY zs) D=0%fp))):=by
      show _=_
      unfold mB;rw[hok,HLN.o,Al HYL.o];simp
     have HMO:AO (mO zs=zs.getD 31 0/128):=rfl;clear hok hcc HA0 HZ HLN;generalize zs.getD 31 0=d31 at *;have htd:d31.tdiv 128=d31/128:=Int.tdiv_eq_ediv_of_nonneg q0;have hi31:(31:Int)<(n:Int):=AG H32.o
     have hwd:IntKind.i64.wrap (d31/128)=d31/128:=by rw[An];omega
     have hwu:IntKind.u8.wrap (d31/128)=d31/128:=by rw[IntKind.wrap_u8];omega
     by_cases hod:128<=d31
     ·have hd1:d31/128=1:=AJ
      have HOD:AO (d31/128=1):=hd1;go_wp2_with fail;refine(DK 0 _ AK AK).mono ?_;rintro e w5 ⟨g5,c5,rfl,k5,l5,hf5,hb5⟩;have HP5:AO (DF w5 w.heap.size #[Z7 aA 0 0,Z7 aA 0 0,Z7 aA 0 0,Z7 aA 0 0]):=HP4.o.below hb5 HP4.o.lt;have HB5:AO (Below w.heap.size w w5):=HB4.o.trans (hb5.mono HB4.o.size);have HF5:AO (Cu w5 (aE ⟨gy,0,aA⟩) (mY zs)):=HF4.o.below hb5;have HX5:AO (Cu w5 (aE ⟨gx,0,aA⟩) (Ef (mY zs) D)):=HX4.o.below hb5;have hlt5:=HP5.o.lt;have H05:AO (Cu w5 (aE ⟨g5,0,aA⟩) (0%fp)):=hf5;clear hf5 hb5 HP4 HB4 HF4 HX4 c31;go_wp2_with fail;refine(Ij _ _ cx c5 (Ef (mY zs) D) (0%fp) _ HX5.o H05.o).mono ?_;rintro e w6 ⟨rfl,hb6⟩;have HP6:AO (DF w6 w.heap.size #[Z7 aA 0 0,Z7 aA 0 0,Z7 aA 0 0,Z7 aA 0 0]):=HP5.o.below hb6 HP5.o.lt;have HB6:AO (Below w.heap.size w w6):=HB5.o.trans (hb6.mono HB5.o.size);have HF6:AO (Cu w6 (aE ⟨gy,0,aA⟩) (mY zs)):=HF5.o.below hb6;have HX6:AO (Cu w6 (aE ⟨gx,0,aA⟩) (Ef (mY zs) D)):=HX5.o.below hb6;have hlt6:=HP6.o.lt;clear hb6 HP5 HB5 HF5 HX5 H05;by_cases hz0:Ef (mY zs) D=0%fp
      ·have HR:AO (mB zs D=false):=by
        show _=_
        rw[HMB.o,HMO.o,HOD.o,Al hz0];rfl
       rw[Al hz0];clear hz0;go_wp2_with (first
        |(refine Cm rfl (aM 5) (aM 55) rfl w.heap.size _ _ _ _ _ rfl rfl rfl rfl rfl rfl rfl HP6.o ?_)
        |fail)
       intro wxc hpx hwx;have HPX:AO (DF wxc w.heap.size #[Z7 aA 0 0,Z7 aA 0 0,Z7 aA 0 0,Z7 aA 0 0]):=hpx;have HBX:AO (Below w.heap.size w wxc):=HB6.o.trans (hwx.below Cl);clear hpx hwx HP6 HB6;go_wp2;refine Ab (v:=.tuple #[aG false,aH #[Z7 aA 0 0,Z7 aA 0 0,Z7 aA 0 0,Z7 aA 0 0]]) (D8 rfl _ _ w.heap.size _ _ _ _ _ rfl rfl HPX.o) rfl ⟨_,_,_,_,by rw[HR.o],HBX.o,by exact⟨rfl,rfl,rfl,rfl⟩,λh=>?_⟩;rw[HR.o] at h;cases h
      ·have HMT:AO (mB zs D=true):=by
        show _=_
        rw[HMB.o,HMO.o,HOD.o,Af hz0];rfl
       rw[Af hz0];clear hz0;go_wp2_with fail;refine(ET _ cx (Ef (mY zs) D) _ HX6.o).mono ?_;rintro e wl ⟨g6,c6,rfl,k6,l6,hl6,hb6⟩;have HPL:AO (DF wl w.heap.size #[Z7 aA 0 0,Z7 aA 0 0,Z7 aA 0 0,Z7 aA 0 0]):=HP6.o.below hb6 HP6.o.lt;have HBL:AO (Below w.heap.size w wl):=HB6.o.trans (hb6.mono HB6.o.size);have HFL:AO (Cu wl (aE ⟨gy,0,aA⟩) (mY zs)):=HF6.o.below hb6;have HXL:AO (Cu wl (aE ⟨gx,0,aA⟩) (Ef (mY zs) D)):=HX6.o.below hb6;have hltL:=HPL.o.lt;obtain⟨ds,hA6,hs1,hs2,hs3⟩:=hl6;have c60:wl.cell? ⟨g6,0,aA⟩=aE (Z8 .i64 (ds.getD 0 0)):=by
        obtain⟨b,o,e,_,h⟩:=hA6.get AJ;cases e;exact h 0 AJ
       have hpar:ds.getD 0 0%2=Ef (mY zs) D%2:=by rw[<-hs3];exact(LJ ds hs1).symm
       have HPAR:AO (ds.getD 0 0%2=Ef (mY zs) D%2):=hpar;obtain⟨e0,e1⟩:=hs2 0;clear hs3 hs2 hA6 hb6 hpar HP6 HB6 HF6 HX6 hs1;generalize ds.getD 0 0=dd at *;have htm:dd.tmod 2=dd%2:=Am e0;by_cases hpp:dd%2=1
       ·have HMX:AO (mX zs D=Ef (mY zs) D):=by
         show _=_
         unfold mX;rw[AP (by rw[HMO.o,<-HPAR.o,hpp,HOD.o])]
        go_wp2_with fail;refine(Fe _ _ cx cy (Ef (mY zs) D) (mY zs) _ HXL.o HFL.o).mono ?_;rintro e wa ⟨gz,cz,gt,ct,rfl,hfz,hft,hba,hz1,hz2⟩;have HPA:AO (DF wa w.heap.size #[Z7 aA 0 0,Z7 aA 0 0,Z7 aA 0 0,Z7 aA 0 0]):=HPL.o.below hba HPL.o.lt;have HBA:AO (Below w.heap.size w wa):=HBL.o.trans (hba.mono HBL.o.size);have HFA:AO (Cu wa (aE ⟨gy,0,aA⟩) (mY zs)):=HFL.o.below hba;have HXA:AO (Cu wa (aE ⟨gx,0,aA⟩) (Ef (mY zs) D)):=HXL.o.below hba;have hltA:=HPA.o.lt;have HZA:AO (Cu wa (aE ⟨gz,0,aA⟩) (1%fp)/\Cu wa (aE ⟨gt,0,aA⟩) (Ef (mY zs) D*mY zs%fp)):=⟨hfz,hft⟩
        have hnz:gz≠w.heap.size/\gt≠w.heap.size/\gx≠w.heap.size/\gy≠w.heap.size:=AJ
        have HNZ:AO (gz≠w.heap.size/\gt≠w.heap.size/\gx≠w.heap.size/\gy≠w.heap.size):=hnz;clear hfz hft hba hnz HPL HBL HFL HXL;go_wp2_with (first
         |(refine Cm rfl (aM 5) (aM 68) rfl w.heap.size _ _ _ _ _ rfl rfl rfl rfl rfl rfl rfl HPA.o ?_)
         |fail)
        intro wb hpb hwb;have HPB:AO (DF wb w.heap.size #[Z7 (aE ⟨gx,0,aA⟩) 16 cx,Z7 (aE ⟨gy,0,aA⟩) 16 cy,Z7 (aE ⟨gz,0,aA⟩) 16 cz,Z7 (aE ⟨gt,0,aA⟩) 16 ct]):=hpb;have HALLB:AO (Below w.heap.size w wb/\Cu wb (aE ⟨gx,0,aA⟩) (mX zs D)/\Cu wb (aE ⟨gy,0,aA⟩) (mY zs)/\Cu wb (aE ⟨gz,0,aA⟩) (1%fp)/\Cu wb (aE ⟨gt,0,aA⟩) (mX zs D*mY zs%fp)):=by
         rw[HMX.o];exact⟨HBA.o.trans (hwb.below Cl),HXA.o.wr hwb HNZ.o.2.2.1,HFA.o.wr hwb HNZ.o.2.2.2,HZA.o.1.wr hwb HNZ.o.1,HZA.o.2.wr hwb HNZ.o.2.1⟩
        clear hpb hwb HPA HBA HFA HXA HZA HNZ;go_wp2;exact Ab (v:=.tuple #[aG true,aH #[Z7 (aE ⟨gx,0,aA⟩) 16 cx,Z7 (aE ⟨gy,0,aA⟩) 16 cy,Z7 (aE ⟨gz,0,aA⟩) 16 cz,Z7 (aE ⟨gt,0,aA⟩) 16 ct]]) (D8 rfl _ _ w.heap.size _ _ _ _ _ rfl rfl HPB.o) rfl ⟨_,_,_,_,by rw[HMT.o],HALLB.o.1,by exact⟨rfl,rfl,rfl,rfl⟩,λ_=>⟨gx,cx,gy,cy,gz,cz,gt,ct,rfl,rfl,rfl,rfl,HALLB.o.2.1,HALLB.o.2.2.1,HALLB.o.2.2.2.1,HALLB.o.2.2.2.2⟩⟩
       ·have hpq:dd%2=0:=AJ
        have HMX:AO (mX zs D=(0%fp-Ef (mY zs) D)%fp):=by
         show _=_
         unfold mX;rw[AQ (by rw[HMO.o,<-HPAR.o,hpq,HOD.o];decide)]
        clear hpp;go_wp2_with fail;refine(DK 0 _ AK AK).mono ?_;rintro e wm ⟨g7,c7,rfl,k7,l7,hf7,hb7⟩;have HPM:AO (DF wm w.heap.size #[Z7 aA 0 0,Z7 aA 0 0,Z7 aA 0 0,Z7 aA 0 0]):=HPL.o.below hb7 HPL.o.lt;have HBM:AO (Below w.heap.size w wm):=HBL.o.trans (hb7.mono HBL.o.size);have HFM:AO (Cu wm (aE ⟨gy,0,aA⟩) (mY zs)):=HFL.o.below hb7;have HXM:AO (Cu wm (aE ⟨gx,0,aA⟩) (Ef (mY zs) D)):=HXL.o.below hb7;have hltM:=HPM.o.lt;have H07:AO (Cu wm (aE ⟨g7,0,aA⟩) (0%fp)):=hf7;clear hf7 hb7 HPL HBL HFL HXL c60;go_wp2_with fail;refine(Fa _ _ c7 cx (0%fp) (Ef (mY zs) D) _ H07.o HXM.o).mono ?_;rintro e wn ⟨g8,c8,rfl,k8,l8,hf8,hb8⟩;have HPN0:AO (DF wn w.heap.size #[Z7 aA 0 0,Z7 aA 0 0,Z7 aA 0 0,Z7 aA 0 0]):=HPM.o.below hb8 HPM.o.lt;have HBN0:AO (Below w.heap.size w wn):=HBM.o.trans (hb8.mono HBM.o.size);have HFN0:AO (Cu wn (aE ⟨gy,0,aA⟩) (mY zs)):=HFM.o.below hb8;have HXN0:AO (Cu wn (aE ⟨gx,0,aA⟩) (Ef (mY zs) D)):=HXM.o.below hb8;have hltN0:=HPN0.o.lt;have HPN:AO (DF wn w.heap.size #[Z7 aA 0 0,Z7 aA 0 0,Z7 aA 0 0,Z7 aA 0 0]):=HPN0.o;have HBN:AO (Below w.heap.size w wn):=HBN0.o;have HFN:AO (Cu wn (aE ⟨gy,0,aA⟩) (mY zs)):=HFN0.o;have HXN:AO (Cu wn (aE ⟨g8,0,aA⟩) ((0%fp-Ef (mY zs) D)%fp)):=hf8;have hg8:w.heap.size<g8:=AJ
        clear hf8 hb8 HPM HBM HFM HXM HPN0 HBN0 HFN0 HXN0;go_wp2_with fail;refine(Fe _ _ c8 cy ((0%fp-Ef (mY zs) D)%fp) (mY zs) _ HXN.o HFN.o).mono ?_;rintro e wa ⟨gz,cz,gt,ct,rfl,hfz,hft,hba,hz1,hz2⟩;have HPA:AO (DF wa w.heap.size #[Z7 aA 0 0,Z7 aA 0 0,Z7 aA 0 0,Z7 aA 0 0]):=HPN.o.below hba HPN.o.lt;have HBA:AO (Below w.heap.size w wa):=HBN.o.trans (hba.mono HBN.o.size);have HFA:AO (Cu wa (aE ⟨gy,0,aA⟩) (mY zs)):=HFN.o.below hba;have HXA:AO (Cu wa (aE ⟨g8,0,aA⟩) ((0%fp-Ef (mY zs) D)%fp)):=HXN.o.below hba;have hltA:=HPA.o.lt;have HZA:AO (Cu wa (aE ⟨gz,0,aA⟩) (1%fp)/\Cu wa (aE ⟨gt,0,aA⟩) ((0%fp-Ef (mY zs) D)%fp*mY zs%fp)):=⟨hfz,hft⟩
        have hnz:gz≠w.heap.size/\gt≠w.heap.size/\g8≠w.heap.size/\gy≠w.heap.size:=AJ
        have HNZ:AO (gz≠w.heap.size/\gt≠w.heap.size/\g8≠w.heap.size/\gy≠w.heap.size):=hnz;clear hfz hft hba hnz HPN HBN HFN HXN;go_wp2_with (first
         |(refine Cm rfl (aM 5) (aM 68) rfl w.heap.size _ _ _ _ _ rfl rfl rfl rfl rfl rfl rfl HPA.o ?_)
         |fail)
        intro wb hpb hwb;have HPB:AO (DF wb w.heap.size #[Z7 (aE ⟨g8,0,aA⟩) 16 c8,Z7 (aE ⟨gy,0,aA⟩) 16 cy,Z7 (aE ⟨gz,0,aA⟩) 16 cz,Z7 (aE ⟨gt,0,aA⟩) 16 ct]):=hpb;have HALLB:AO (Below w.heap.size w wb/\Cu wb (aE ⟨g8,0,aA⟩) (mX zs D)/\Cu wb (aE ⟨gy,0,aA⟩) (mY zs)/\Cu wb (aE ⟨gz,0,aA⟩) (1%fp)/\Cu wb (aE ⟨gt,0,aA⟩) (mX zs D*mY zs%fp)):=by
         rw[HMX.o];exact⟨HBA.o.trans (hwb.below Cl),HXA.o.wr hwb HNZ.o.2.2.1,HFA.o.wr hwb HNZ.o.2.2.2,HZA.o.1.wr hwb HNZ.o.1,HZA.o.2.wr hwb HNZ.o.2.1⟩
        clear hpb hwb HPA HBA HFA HXA HZA HNZ;go_wp2;exact Ab (v:=.tuple #[aG true,aH #[Z7 (aE ⟨g8,0,aA⟩) 16 c8,Z7 (aE ⟨gy,0,aA⟩) 16 cy,Z7 (aE ⟨gz,0,aA⟩) 16 cz,Z7 (aE ⟨gt,0,aA⟩) 16 ct]]) (D8 rfl _ _ w.heap.size _ _ _ _ _ rfl rfl HPB.o) rfl ⟨_,_,_,_,by rw[HMT.o],HALLB.o.1,by exact⟨rfl,rfl,rfl,rfl⟩,λ_=>⟨g8,c8,gy,cy,gz,cz,gt,ct,rfl,rfl,rfl,rfl,HALLB.o.2.1,HALLB.o.2.2.1,HALLB.o.2.2.2.1,HALLB.o.2.2.2.2⟩⟩
     ·have hd0:d31/128=0:=AJ
      have HOD:AO (d31/128=0):=hd0;have HMT:AO (mB zs D=true):=by
       show _=_
       rw[HMB.o,HMO.o,HOD.o];rfl
      go_wp2_with fail;clear c31;refine(ET _ cx (Ef (mY zs) D) _ HX4.o).mono ?_;rintro e wl ⟨g6,c6,rfl,k6,l6,hl6,hb6⟩;have HPL:AO (DF wl w.heap.size #[Z7 aA 0 0,Z7 aA 0 0,Z7 aA 0 0,Z7 aA 0 0]):=HP4.o.below hb6 HP4.o.lt;have HBL:AO (Below w.heap.size w wl):=HB4.o.trans (hb6.mono HB4.o.size);have HFL:AO (Cu wl (aE ⟨gy,0,aA⟩) (mY zs)):=HF4.o.below hb6;have HXL:AO (Cu wl (aE ⟨gx,0,aA⟩) (Ef (mY zs) D)):=HX4.o.below hb6;have hltL:=HPL.o.lt;obtain⟨ds,hA6,hs1,hs2,hs3⟩:=hl6;have c60:wl.cell? ⟨g6,0,aA⟩=aE (Z8 .i64 (ds.getD 0 0)):=by
       obtain⟨b,o,e,_,h⟩:=hA6.get AJ;cases e;exact h 0 AJ
      have hpar:ds.getD 0 0%2=Ef (mY zs) D%2:=by rw[<-hs3];exact(LJ ds hs1).symm
      have HPAR:AO (ds.getD 0 0%2=Ef (mY zs) D%2):=hpar;obtain⟨e0,e1⟩:=hs2 0;clear hs3 hs2 hA6 hb6 hpar HP4 HB4 HF4 HX4 hs1;generalize ds.getD 0 0=dd at *;have htm:dd.tmod 2=dd%2:=Am e0;by_cases hpp:dd%2=0
      ·have HMX:AO (mX zs D=Ef (mY zs) D):=by
        show _=_
        unfold mX;rw[AP (by rw[HMO.o,<-HPAR.o,hpp,HOD.o])]
       go_wp2_with fail;refine(Fe _ _ cx cy (Ef (mY zs) D) (mY zs) _ HXL.o HFL.o).mono ?_;rintro e wa ⟨gz,cz,gt,ct,rfl,hfz,hft,hba,hz1,hz2⟩;have HPA:AO (DF wa w.heap.size #[Z7 aA 0 0,Z7 aA 0 0,Z7 aA 0 0,Z7 aA 0 0]):=HPL.o.below hba HPL.o.lt;have HBA:AO (Below w.heap.size w wa):=HBL.o.trans (hba.mono HBL.o.size);have HFA:AO (Cu wa (aE ⟨gy,0,aA⟩) (mY zs)):=HFL.o.below hba;have HXA:AO (Cu wa (aE ⟨gx,0,aA⟩) (Ef (mY zs) D)):=HXL.o.below hba;have hltA:=HPA.o.lt;have HZA:AO (Cu wa (aE ⟨gz,0,aA⟩) (1%fp)/\Cu wa (aE ⟨gt,0,aA⟩) (Ef (mY zs) D*mY zs%fp)):=⟨hfz,hft⟩
       have hnz:gz≠w.heap.size/\gt≠w.heap.size/\gx≠w.heap.size/\gy≠w.heap.size:=AJ
       have HNZ:AO (gz≠w.heap.size/\gt≠w.heap.size/\gx≠w.heap.size/\gy≠w.heap.size):=hnz;clear hfz hft hba hnz HPL HBL HFL HXL;go_wp2_with (first
        |(refine Cm rfl (aM 5) (aM 68) rfl w.heap.size _ _ _ _ _ rfl rfl rfl rfl rfl rfl rfl HPA.o ?_)
        |fail)
       intro wb hpb hwb;have HPB:AO (DF wb w.heap.size #[Z7 (aE ⟨gx,0,aA⟩) 16 cx,Z7 (aE ⟨gy,0,aA⟩) 16 cy,Z7 (aE ⟨gz,0,aA⟩) 16 cz,Z7 (aE ⟨gt,0,aA⟩) 16 ct]):=hpb;have HALLB:AO (Below w.heap.size w wb/\Cu wb (aE ⟨gx,0,aA⟩) (mX zs D)/\Cu wb (aE ⟨gy,0,aA⟩) (mY zs)/\Cu wb (aE ⟨gz,0,aA⟩) (1%fp)/\Cu wb (aE ⟨gt,0,aA⟩) (mX zs D*mY zs%fp)):=by
        rw[HMX.o];exact⟨HBA.o.trans (hwb.below Cl),HXA.o.wr hwb HNZ.o.2.2.1,HFA.o.wr hwb HNZ.o.2.2.2,HZA.o.1.wr hwb HNZ.o.1,HZA.o.2.wr hwb HNZ.o.2.1⟩
       clear hpb hwb HPA HBA HFA HXA HZA HNZ;go_wp2;exact Ab (v:=.tuple #[aG true,aH #[Z7 (aE ⟨gx,0,aA⟩) 16 cx,Z7 (aE ⟨gy,0,aA⟩) 16 cy,Z7 (aE ⟨gz,0,aA⟩) 16 cz,Z7 (aE ⟨gt,0,aA⟩) 16 ct]]) (D8 rfl _ _ w.heap.size _ _ _ _ _ rfl rfl HPB.o) rfl ⟨_,_,_,_,by rw[HMT.o],HALLB.o.1,by exact⟨rfl,rfl,rfl,rfl⟩,λ_=>⟨gx,cx,gy,cy,gz,cz,gt,ct,rfl,rfl,rfl,rfl,HALLB.o.2.1,HALLB.o.2.2.1,HALLB.o.2.2.2.1,HALLB.o.2.2.2.2⟩⟩
      ·have hpq:dd%2=1:=AJ
       have HMX:AO (mX zs D=(0%fp-Ef (mY zs) D)%fp):=by
        show _=_
        unfold mX;rw[AQ (by rw[HMO.o,<-HPAR.o,hpq,HOD.o];decide)]
       clear hpp;go_wp2_with fail;refine(DK 0 _ AK AK).mono ?_;rintro e wm ⟨g7,c7,rfl,k7,l7,hf7,hb7⟩;have HPM:AO (DF wm w.heap.size #[Z7 aA 0 0,Z7 aA 0 0,Z7 aA 0 0,Z7 aA 0 0]):=HPL.o.below hb7 HPL.o.lt;have HBM:AO (Below w.heap.size w wm):=HBL.o.trans (hb7.mono HBL.o.size);have HFM:AO (Cu wm (aE ⟨gy,0,aA⟩) (mY zs)):=HFL.o.below hb7;have HXM:AO (Cu wm (aE ⟨gx,0,aA⟩) (Ef (mY zs) D)):=HXL.o.below hb7;have hltM:=HPM.o.lt;have H07:AO (Cu wm (aE ⟨g7,0,aA⟩) (0%fp)):=hf7;clear hf7 hb7 HPL HBL HFL HXL c60;go_wp2_with fail;refine(Fa _ _ c7 cx (0%fp) (Ef (mY zs) D) _ H07.o HXM.o).mono ?_;rintro e wn ⟨g8,c8,rfl,k8,l8,hf8,hb8⟩;have HPN0:AO (DF wn w.heap.size #[Z7 aA 0 0,Z7 aA 0 0,Z7 aA 0 0,Z7 aA 0 0]):=HPM.o.below hb8 HPM.o.lt;have HBN0:AO (Below w.heap.size w wn):=HBM.o.trans (hb8.mono HBM.o.size);have HFN0:AO (Cu wn (aE ⟨gy,0,aA⟩) (mY zs)):=HFM.o.below hb8;have HXN0:AO (Cu wn (aE ⟨gx,0,aA⟩) (Ef (mY zs) D)):=HXM.o.below hb8;have hltN0:=HPN0.o.lt;have HPN:AO (DF wn w.heap.size #[Z7 aA 0 0,Z7 aA 0 0,Z7 aA 0 0,Z7 aA 0 0]):=HPN0.o;have HBN:AO (Below w.heap.size w wn):=HBN0.o;have HFN:AO (Cu wn (aE ⟨gy,0,aA⟩) (mY zs)):=HFN0.o;have HXN:AO (Cu wn (aE ⟨g8,0,aA⟩) ((0%fp-Ef (mY zs) D)%fp)):=hf8;have hg8:w.heap.size<g8:=AJ
       clear hf8 hb8 HPM HBM HFM HXM HPN0 HBN0 HFN0 HXN0;go_wp2_with fail;refine(Fe _ _ c8 cy ((0%fp-Ef (mY zs) D)%fp) (mY zs) _ HXN.o HFN.o).mono ?_;rintro e wa ⟨gz,cz,gt,ct,rfl,hfz,hft,hba,hz1,hz2⟩;have HPA:AO (DF wa w.heap.size #[Z7 aA 0 0,Z7 aA 0 0,Z7 aA 0 0,Z7 aA 0 0]):=HPN.o.below hba HPN.o.lt;have HBA:AO (Below w.heap.size w wa):=HBN.o.trans (hba.mono HBN.o.size);have HFA:AO (Cu wa (aE ⟨gy,0,aA⟩) (mY zs)):=HFN.o.below hba;have HXA:AO (Cu wa (aE ⟨g8,0,aA⟩) ((0%fp-Ef (mY zs) D)%fp)):=HXN.o.below hba;have hltA:=HPA.o.lt;have HZA:AO (Cu wa (aE ⟨gz,0,aA⟩) (1%fp)/\Cu wa (aE ⟨gt,0,aA⟩) ((0%fp-Ef (mY zs) D)%fp*mY zs%fp)):=⟨hfz,hft⟩
       have hnz:gz≠w.heap.size/\gt≠w.heap.size/\g8≠w.heap.size/\gy≠w.heap.size:=AJ
       have HNZ:AO (gz≠w.heap.size/\gt≠w.heap.size/\g8≠w.heap.size/\gy≠w.heap.size):=hnz;clear hfz hft hba hnz HPN HBN HFN HXN;go_wp2_with (first
        |(refine Cm rfl (aM 5) (aM 68) rfl w.heap.size _ _ _ _ _ rfl rfl rfl rfl rfl rfl rfl HPA.o ?_)
        |fail)
       intro wb hpb hwb;have HPB:AO (DF wb w.heap.size #[Z7 (aE ⟨g8,0,aA⟩) 16 c8,Z7 (aE ⟨gy,0,aA⟩) 16 cy,Z7 (aE ⟨gz,0,aA⟩) 16 cz,Z7 (aE ⟨gt,0,aA⟩) 16 ct]):=hpb;have HALLB:AO (Below w.heap.size w wb/\Cu wb (aE ⟨g8,0,aA⟩) (mX zs D)/\Cu wb (aE ⟨gy,0,aA⟩) (mY zs)/\Cu wb (aE ⟨gz,0,aA⟩) (1%fp)/\Cu wb (aE ⟨gt,0,aA⟩) (mX zs D*mY zs%fp)):=by
        rw[HMX.o];exact⟨HBA.o.trans (hwb.below Cl),HXA.o.wr hwb HNZ.o.2.2.1,HFA.o.wr hwb HNZ.o.2.2.2,HZA.o.1.wr hwb HNZ.o.1,HZA.o.2.wr hwb HNZ.o.2.1⟩
       clear hpb hwb HPA HBA HFA HXA HZA HNZ;go_wp2;exact Ab (v:=.tuple #[aG true,aH #[Z7 (aE ⟨g8,0,aA⟩) 16 c8,Z7 (aE ⟨gy,0,aA⟩) 16 cy,Z7 (aE ⟨gz,0,aA⟩) 16 cz,Z7 (aE ⟨gt,0,aA⟩) 16 ct]]) (D8 rfl _ _ w.heap.size _ _ _ _ _ rfl rfl HPB.o) rfl ⟨_,_,_,_,by rw[HMT.o],HALLB.o.1,by exact⟨rfl,rfl,rfl,rfl⟩,λ_=>⟨g8,c8,gy,cy,gz,cz,gt,ct,rfl,rfl,rfl,rfl,HALLB.o.2.1,HALLB.o.2.2.1,HALLB.o.2.2.2.1,HALLB.o.2.2.2.2⟩⟩
 ·have h32':((n:Int) == 32)=false:=by simp;omega
  have HR:AO (mB zs D=false):=by
   show _=_
   unfold mB;have:(zs.length == 32)=false:=by simp;omega
   rw[this];rfl
  have HB0:AO (Below w.heap.size w (w.alloc (aJ #[Z7 aA 0 0,Z7 aA 0 0,Z7 aA 0 0,Z7 aA 0 0] 109))):=b0;clear h32 b0;go_enter func72,ntmps72;go_wp2_with (first
   |(refine Cm rfl (aM 5) (aM 15) rfl w.heap.size _ _ _ _ _ rfl rfl rfl rfl rfl rfl rfl HP0.o ?_)
   |fail)
  intro w3 hp3 hw3;have HP3:AO (DF w3 w.heap.size #[Z7 aA 0 0,Z7 aA 0 0,Z7 aA 0 0,Z7 aA 0 0]):=hp3;have HB3:AO (Below w.heap.size w w3):=HB0.o.trans (hw3.below Cl);clear hp3 hw3 HP0 HB0;go_wp2;refine Ab (v:=.tuple #[aG false,aH #[Z7 aA 0 0,Z7 aA 0 0,Z7 aA 0 0,Z7 aA 0 0]]) (D8 rfl _ _ w.heap.size _ _ _ _ _ rfl rfl HP3.o) rfl ⟨_,_,_,_,by rw[HR.o],HB3.o,by exact⟨rfl,rfl,rfl,rfl⟩,λh=>?_⟩;rw[HR.o] at h;cases h
def GQ (hs:List Int):List Int:=hs.flatMap JE
theorem Kc (hs:List Int) (k:Nat) (h:k<hs.length):GQ (hs.take (k+1))=GQ (hs.take k)++JE (hs.getD k 0):=by
 unfold GQ;rw[GF hs k h,List.flatMap_append];simp
theorem MV (v:Int) (i:Nat) (h:i<8):(JE v).take (i+1)=(JE v).take i++[v/2^(56-8*i)%256]:=by
 rw[GF _ _ (by rw[EB];exact h),On v i h]
theorem IR (hs:List Int):(GQ hs).length=8*hs.length:=by
 unfold GQ
 induction hs with
 |nil=>rfl
 |cons a l ih=>rw[List.flatMap_cons,Ak,EB,ih,Bg];omega
theorem Kd (hs:List Int):Ci (GQ hs):=λz hz=>by
 unfold GQ at hz;obtain⟨v,_,h⟩:=List.mem_flatMap.1 hz;exact ML v z h
theorem QE (g:Nat) (hs:List Int) (w:aC) (hr:Ch w g 173 hs) (h8:W8 hs) :
  Calls tP 136 #[aF (aE ⟨g,0,aA⟩)] w λe w'=>∃ v,e=aK v/\DM w' w.heap.size v (GQ hs)/\Below w.heap.size w w':=by
 have hgl:=hr.lt;have HR:=Cd hr;have H8:=Cd h8;clear hr h8;obtain⟨i0,hi,hz0,hz1,hz2⟩:=Bh Tryz.infoU8';have HI:=Cd (BC hi (BC hz0 (BC hz1 hz2)));clear hi hz0 hz1 hz2;go_enter func136,ntmps136;go_wp2_with (refine wpList_make_own _ rfl _ _ 26 rfl w.heap.size 5 i0 (Z8 .u8 0) 1 underlying26 HI.o.1 HI.o.2.1 HI.o.2.2.1 .i64 .i64 64 64 rfl rfl rfl (by rw[HI.o.2.2.2];decide) AK Cl ?_);intro w1 o1 b1;have HO1:AO (DM w1 w.heap.size (Z7 (aE ⟨w.heap.size,0,aA⟩) 0 64) (GQ (hs.take 0))):=⟨o1,_,_,rfl⟩
 have HB1:AO (Below w.heap.size w w1):=Cg.grown b1 Cl (λk hk=>by cases hk);clear o1 b1;go_wp2
 go_loopw [3,9] (λv i wr=>∃ k:Nat,k<=8/\i=Z8 .i64 k/\DM wr w.heap.size v (GQ (hs.take k))/\Below w.heap.size w wr) (λ_ i _=>8-(intOf i).toNat)
 case atStart=>exact⟨0,AJ,rfl,HO1.o,HB1.o⟩
 case round=>
  clear HO1 HB1;obtain⟨k,hk,rfl,hown,hbel⟩:=hrel;by_cases hlt:k<8
  ·have hlt':(k:Int)<8:=AJ
   have hc:=(HR.o.below hbel hgl).cell k (by rw[H8.o.1];exact hlt);have hu:=H8.o.2 k;have HSN:=Cd (Kc hs k (by rw[H8.o.1];exact hlt));have HPL:=Cd (IR (hs.take k));rw[Ap,H8.o.1] at HPL;have HO:=Cd hown;have HB:=Cd hbel;clear hown hbel;obtain⟨x,hx⟩:∃ x,x=hs.getD k 0:=⟨_,rfl⟩
   rw[<-hx] at hc hu HSN;clear hx;obtain⟨p,hp⟩:∃ p,p=GQ (hs.take k):=⟨_,rfl⟩
   rw[<-hp] at HO HSN HPL;clear hp;obtain⟨hu0,hu1⟩:=hu;have hlp:p.length<=64:=AG HPL.o
   go_wp2
   go_loopw [3,14] (λv i wr=>∃ j:Nat,j<=8/\i=Z8 .i64 j/\DM wr w.heap.size v (p++(JE x).take j)/\Below w.heap.size w wr) (λ_ i _=>8-(intOf i).toNat)
   case atStart=>exact⟨0,AJ,rfl,by simpa using HO.o,HB.o⟩
   case round=>
    clear HO HB hc;obtain⟨j,hj,rfl,hown,hbel⟩:=hrel;by_cases hlj:j<8
    ·have hlj':(j:Int)<8:=AJ
     have hsz:=hbel.size;have HE:=Cd (MV x j hlj);have HLJ:AO ((p++(JE x).take j).length+1<=1099511627776):=by show _<=_;rw[Ak,Ap,EB];omega
     have HO:=Cd hown;have HB:=Cd hbel;clear hown hbel;go_wp2_with (at_builtin;refine DI _ rfl _ _ rfl w.heap.size _ _ rfl (HO.o.alloc _) ⟨wr.heap.size,0,aA⟩ 1 1 [x/2^(56-8*j)%256] rfl rfl ?c1 HLJ.o ?c3 ?_);all_goals first|(intro j' hj';obtain rfl:j'=0:=AJ
                                                                                                                                                                                                                                simp[Addr.add];done)|skip
     case c3=>rw[A7];omega
     intro v' w2 hown' hbel' _;have HO2:AO (DM w2 w.heap.size v' (p++(JE x).take (j+1))):=by rw[HE.o];exact hown'
     have HB2:AO (Below w.heap.size w w2):=(HB.o.alloc hsz _).trans hbel';clear hown' hbel' HO HB HE HLJ;go_wp2;go_roundw
     case rel=>exact⟨j+1,AJ,by go_num,HO2.o,HB2.o⟩
     case measure=>simp[intOf];omega
    ·obtain rfl:j=8:=AJ
     rw[Ad (by rw[EB];exact Ac _),<-HSN.o] at hown;have HOW:=Cd hown;have HBE:=Cd hbel;clear hown hbel;go_wp2;go_roundw
     case rel=>exact⟨k+1,AJ,by go_num,HOW.o,HBE.o⟩
     case measure=>simp[intOf];omega
  ·obtain rfl:k=8:=AJ
   have HOW:=Cd hown;rw[Ad (by rw[H8.o.1];exact Ac _)] at HOW;have HBE:=Cd hbel;clear hown hbel;go_wp2
   go_ret
   exact⟨_,rfl,HOW.o,HBE.o⟩
def IS (zs:List Int):List Int:=(D7 zs).set zs.length 128
def GR (bs:List Int) (n:Int):List Int:=Py (Py bs 112 (n/2^61) 8) 120 (IntKind.u64.wrap (n*8)) 8
def IT (hs zs:List Int) (n:Int):List Int:=
 if zs.length<112 then D6 hs (GR (IS zs) n) else D6 (D6 hs (IS zs)) (GR (List.replicate 128 0) n)
theorem GG (zs:List Int):(IS zs).length=128:=by unfold IS;rw[List.length_set,ED]
theorem MW {bs:List Int} (h:Ci bs) (o:Nat) (v:Int) (k:Nat):Ci (Py bs o v k):=by
 induction k with
 |zero=>exact h
 |succ k ih=>
  intro z hz;rcases List.mem_or_eq_of_mem_set hz with h'|rfl
  ·exact ih z h'
  ·omega
theorem MY {zs:List Int} (h:Ci zs):Ci (IS zs):=by
 intro z hz;rcases List.mem_or_eq_of_mem_set hz with h'|rfl
 ·exact Jl h z h'
 ·exact⟨AK,AK⟩
theorem IU {bs:List Int} (h:bs.length=128) (n:Int):(GR bs n).length=128:=by unfold GR;rw[He,He,h]
theorem Ke {bs:List Int} (h:Ci bs) (n:Int):Ci (GR bs n):=MW (MW h _ _ _) _ _ _
theorem QF (n:Nat):Ci (List.replicate n 0):=λz h=>by rw[(List.mem_replicate.1 h).2];exact⟨AK,AK⟩
theorem R0 (l:Nat) (J:Act->aC->Prop) (Q:Exit->Act->aC->Prop) (a:Act) (w:aC):Exit.jump l J Q .ret a w=Q .ret a w:=rfl
theorem LL {P:Program} {a:Act} {w:aC} {Q:Exit->Act->aC->Prop} {c r0 r1:Code} (J0 J1:Act->aC->Prop) (h0:findLabel c 0=aE r0) (h1:findLabel c 1=aE r1)
  (first:c.wp P (Exit.jump 0 J0 Q) a w) (p0:∀ a w,J0 a w->r0.wp P (Exit.jump 1 J1 Q) a w) (p1:∀ a w,J1 a w->r1.wp P (Exit.jump 0 (λ_ _=>False) Q) a w):(Code.scope c).wp P Q a w:=by
 intro b k cs;have hg0:gotoIn 0 (.inScope c::k)=aE (.code r0::.inScope c::k):=by simp[gotoIn,h0]
 have hg1:gotoIn 1 (.inScope c::k)=aE (.code r1::.inScope c::k):=by simp[gotoIn,h1]
 have k1:∀ a w,J1 a w->∃ e a' w',Q e a' w'/\Arrives P (lone (b.at a (.code r1::.inScope c::k)) cs w) b k cs e a' w':=by
  intro a w hJ;obtain⟨e,a₁,w₁,hq,harr⟩:=p1 a w hJ b (.inScope c::k) cs;cases e with
  |normal=>exact⟨.normal,a₁,w₁,hq,Steps.trans harr (.one step_inScope)⟩
  |exit id=>exact⟨.exit id,a₁,w₁,hq,λk' hk=>harr k' (by simp[exitTo,hk])⟩
  |goto l'=>exact absurd hq.2 id
  |ret=>exact⟨_,a₁,w₁,hq,harr⟩
  |panic ch=>exact⟨_,a₁,w₁,hq,harr⟩
  |outgrown=>exact⟨_,a₁,w₁,hq,harr⟩
 have k0:∀ a w,J0 a w->∃ e a' w',Q e a' w'/\Arrives P (lone (b.at a (.code r0::.inScope c::k)) cs w) b k cs e a' w':=by
  intro a w hJ;obtain⟨e,a₁,w₁,hq,harr⟩:=p0 a w hJ b (.inScope c::k) cs;cases e with
  |normal=>exact⟨.normal,a₁,w₁,hq,Steps.trans harr (.one step_inScope)⟩
  |exit id=>exact⟨.exit id,a₁,w₁,hq,λk' hk=>harr k' (by simp[exitTo,hk])⟩
  |goto l'=>
   obtain⟨rfl,hJ'⟩:=hq;obtain⟨e₂,a₂,w₂,hq₂,harr₂⟩:=k1 a₁ w₁ hJ';exact⟨e₂,a₂,w₂,hq₂,.of_steps (harr _ hg1) harr₂⟩
  |ret=>exact⟨_,a₁,w₁,hq,harr⟩
  |panic ch=>exact⟨_,a₁,w₁,hq,harr⟩
  |outgrown=>exact⟨_,a₁,w₁,hq,harr⟩
 obtain⟨e,a₁,w₁,hq,harr⟩:=first b (.inScope c::k) cs
 cases e with
 |normal=>exact⟨.normal,a₁,w₁,hq,.head step_scope (Steps.trans harr (.one step_inScope))⟩
 |exit id=>exact⟨.exit id,a₁,w₁,hq,λk' hk=>.head step_scope (harr k' (by simp[exitTo,hk]))⟩
 |goto l'=>
  obtain⟨rfl,hJ'⟩:=hq;obtain⟨e₂,a₂,w₂,hq₂,harr₂⟩:=k0 a₁ w₁ hJ';exact⟨e₂,a₂,w₂,hq₂,.of_steps (.head step_scope (harr _ hg0)) harr₂⟩
 |ret=>exact⟨_,a₁,w₁,hq,.of_steps (.one step_scope) harr⟩
 |panic ch=>exact⟨_,a₁,w₁,hq,.of_steps (.one step_scope) harr⟩
 |outgrown=>exact⟨_,a₁,w₁,hq,.of_steps (.one step_scope) harr⟩
structure FS (w:aC) (g gL:Nat) (hs bs:List Int) (y:aC):Prop where
 row:EF y gL 176 bs
 wds:Ch y g 173 hs
 tab:D4 y
 fr:MQ g w y
 hi:w.heap.size<=gL
theorem FS.mix {w:aC} {g gL:Nat} {hs hs' bs:List Int} {y y':aC} (h:FS w g gL hs bs y) (hg:g<w.heap.size) (h0:g≠1) (hr:Ch y' g 173 hs') (hf:MQ g y y'):FS w g gL hs' bs y':=
 ⟨hf.row h.row (AG h.hi),hr,h.tab.frg (λk hk e=>hf.block k hk AJ),h.fr.trans hf,h.hi⟩
theorem FS.put {w:aC} {g gL:Nat} {hs bs bs':List Int} {y y':aC} (h:FS w g gL hs bs y) (hg:g<w.heap.size) (h0:1<w.heap.size) (hr:EF y' gL 176 bs') (hw:Wr gL y y'):FS w g gL hs bs' y':=by
 have:=h.hi;exact⟨hr,hw.rowW h.wds AJ,h.tab.frg (λk hk e=>hw.block k AJ),⟨hw.os.trans h.fr.os,hw.tape.trans h.fr.tape,hw.output.trans h.fr.output,by rw[hw.size];exact h.fr.size,λk hk hkg=>(hw.block k AJ).trans (h.fr.block k hk hkg)⟩,h.hi⟩
theorem UV (g:Nat) (hs:List Int) (a:Option Addr) (n cap:Nat) (zs:List Int) (len:Int) (w:aC) (hr:Ch w g 173 hs) (h8:W8 hs) (hn:zs.length=n) (ha:At .u8 w a zs) (hz:Ci zs) (hm:n<128) (hT:D4 w) (hg0:g≠1) (hu:EE len) :
  Calls tP 135 #[aF (aE ⟨g,0,aA⟩),Z7 a n cap,Z8 .u64 len] w λe w'=>e=aK (.tuple #[])/\Ch w' g 173 (IT hs zs len)/\MQ g w w':=by
 have hV:1<w.heap.size:=block_lt_of_cell (a:=⟨1,0,aA⟩) (hT 0 AK);have hgl:=hr.lt;have z1:=Rn;have z2:=Oq;have z3:=Ro;have A:=Cd (Or a n cap zs w hn ha AJ);have HR:=Cd hr;have H8:=Cd h8;have HT:=Cd hT;have HU:=Cd hu;have HZ:=Cd hz;have HN:=Cd hn;have hm':(n:Int)<128:=AJ
 clear hr h8 hT hu hz hn ha;by_cases hc:n<112
 ·have hc':(n:Int)<112:=AJ
  have HF:AO (IT hs zs len=D6 hs (GR (IS zs) len)):=by show _=_;unfold IT;rw[HN.o,AP hc]
  go_enter func135,ntmps135
  go_step3
  go_wp2_with fail;refine A.o.mono ?_;rintro e w1 ⟨rfl,b1⟩;have HB1:=Cd b1;clear A b1;have HZN:AO (EF (w1.alloc (aJ Ii 176)) w1.heap.size 176 (List.replicate 128 0)):=by show _=_;rw[AX,MO]
  have HAL:AO (Below w1.heap.size w1 (w1.alloc (aJ Ii 176))):=Cg.alloc Cl _;have HLB:=Cd (ED zs);go_wp2_with (first
   |(refine EJ rfl (aM 6) (aM 8) rfl Tryz.sizeBlk w1.heap.size (D7 zs) (List.replicate 128 0) rfl rfl HLB.o AL HZN.o ?_)
   |fail)
  intro w2 hr2 hw2;have hs1:=HB1.o.size;have F2:FS w g w1.heap.size hs (D7 zs) w2:=⟨hr2,hw2.rowW ((HR.o.below HB1.o hgl).below HAL.o AJ) AJ,((HT.o.frg (λk hk _=>HB1.o.block k hk)).frg (λk hk _=>HAL.o.block k hk)).frg (λk _ e=>hw2.block k AJ),
   ⟨hw2.os.trans (HAL.o.os.trans HB1.o.os),hw2.tape.trans (HAL.o.tape.trans HB1.o.tape),hw2.output.trans (HAL.o.output.trans HB1.o.output),by rw[hw2.size];exact BG hs1 HAL.o.size,λk hk _=>(hw2.block k AJ).trans ((HAL.o.block k AJ).trans (HB1.o.block k hk))⟩,hs1⟩
  have hcl:=hr2.cell n (by rw[ED];exact hm);have hfz:=hr2.frozen n;have HS:AO (FS w g w1.heap.size hs (IS zs) (w2.setCell ⟨w1.heap.size,n,aA⟩ (Z8 .u8 128))):=by
   have:=F2.put hgl hV (hr2.set n 128) ((Wr.refl _ _).setCell n _);unfold IS;rw[HN.o];exact this
  clear F2 hr2 hw2 HB1 HAL HZN HLB HR HT;obtain⟨w3,hw3⟩:∃ w3,w3=w2.setCell ⟨w1.heap.size,n,aA⟩ (Z8 .u8 128):=⟨_,rfl⟩
  rw[<-hw3] at HS;have HW3:=Cd hw3;clear hw3
  go_upto_region 2 with fail
  rw[<-HW3.o];clear hcl hfz HW3 z1 z2 z3;go_wp2
  go_step3
  go_wp2_with fail;have B:=Cd (MP w1.heap.size len (IS zs) w3 HS.o.row (GG _) HU.o);refine B.o.mono ?_;rintro e w4 ⟨rfl,r4,b4⟩;have HS4:AO (FS w g w1.heap.size hs (GR (IS zs) len) w4):=HS.o.put hgl hV r4 b4;have C:=Cd (JG g w1.heap.size hs (GR (IS zs) len) w4 HS4.o.wds H8.o HS4.o.row (IU (GG _) _) (Ke (MY HZ.o) _) HS4.o.tab hg0);clear r4 b4 B HS;go_wp2_with fail;refine C.o.mono ?_;rintro e w5 ⟨rfl,r5,b5⟩;have HS5:AO (FS w g w1.heap.size (IT hs zs len) (GR (IS zs) len) w5):=by rw[HF.o];exact HS4.o.mix hgl hg0 r5 b5
  clear r5 b5 C HS4;go_wp2;rw[Exit.noGoto_ret];refine Ab (results_none rfl _ _ _) rfl ?_;exact⟨rfl,HS5.o.wds,HS5.o.fr⟩
 ·have hc':¬ ((n:Int)<112):=AJ
  have HF:AO (IT hs zs len=D6 (D6 hs (IS zs)) (GR (List.replicate 128 0) len)):=by show _=_;unfold IT;rw[HN.o,AQ hc]
  go_enter func135,ntmps135;refine LL
   (λa' w'=>∃ gL u3 u4 u5 u7 u8 u9 u10 u11 u12 u13 u14 u15 u16 u17 u18 u19 u20 u21,a'=⟨#[aF (aE ⟨g,0,aA⟩),Z7 a n cap,Z8 .u64 len,u3,u4,u5,aF (aE ⟨gL,0,aA⟩),u7,u8,u9,u10,u11,u12,u13,u14,u15,u16,u17,u18,u19,u20,u21],[]⟩/\FS w g gL hs (IS zs) w')
   (λa' w'=>∃ gL u3 u4 u5 u7 u8 u9 u10 u11 u12 u13 u14 u15 u16 u17 u18 u19 u20 u21,a'=⟨#[aF (aE ⟨g,0,aA⟩),Z7 a n cap,Z8 .u64 len,u3,u4,u5,aF (aE ⟨gL,0,aA⟩),u7,u8,u9,u10,u11,u12,u13,u14,u15,u16,u17,u18,u19,u20,u21],[]⟩/\FS w g gL (D6 hs (IS zs)) (List.replicate 128 0) w')
   rfl rfl ?first ?p0 ?p1
  case first=>
   go_wp2_with fail;refine A.o.mono ?_;rintro e w1 ⟨rfl,b1⟩;have HB1:=Cd b1;clear A b1;have HZN:AO (EF (w1.alloc (aJ Ii 176)) w1.heap.size 176 (List.replicate 128 0)):=by show _=_;rw[AX,MO]
   have HAL:AO (Below w1.heap.size w1 (w1.alloc (aJ Ii 176))):=Cg.alloc Cl _;have HLB:=Cd (ED zs);go_wp2_with (first
    |(refine EJ rfl (aM 6) (aM 8) rfl Tryz.sizeBlk w1.heap.size (D7 zs) (List.replicate 128 0) rfl rfl HLB.o AL HZN.o ?_)
    |fail)
   intro w2 hr2 hw2;have hs1:=HB1.o.size;have F2:FS w g w1.heap.size hs (D7 zs) w2:=⟨hr2,hw2.rowW ((HR.o.below HB1.o hgl).below HAL.o AJ) AJ,((HT.o.frg (λk hk _=>HB1.o.block k hk)).frg (λk hk _=>HAL.o.block k hk)).frg (λk _ e=>hw2.block k AJ),
    ⟨hw2.os.trans (HAL.o.os.trans HB1.o.os),hw2.tape.trans (HAL.o.tape.trans HB1.o.tape),hw2.output.trans (HAL.o.output.trans HB1.o.output),by rw[hw2.size];exact BG hs1 HAL.o.size,λk hk _=>(hw2.block k AJ).trans ((HAL.o.block k AJ).trans (HB1.o.block k hk))⟩,hs1⟩
   have hcl:=hr2.cell n (by rw[ED];exact hm);have hfz:=hr2.frozen n;have HS:AO (FS w g w1.heap.size hs (IS zs) (w2.setCell ⟨w1.heap.size,n,aA⟩ (Z8 .u8 128))):=by
    have:=F2.put hgl hV (hr2.set n 128) ((Wr.refl _ _).setCell n _);unfold IS;rw[HN.o];exact this
   clear F2 hr2 hw2 HB1 HAL HZN HLB HR HT;obtain⟨w3,hw3⟩:∃ w3,w3=w2.setCell ⟨w1.heap.size,n,aA⟩ (Z8 .u8 128):=⟨_,rfl⟩
   rw[<-hw3] at HS;have HW3:=Cd hw3;clear hw3
   go_upto_region 2 with fail
   rw[<-HW3.o];clear hcl hfz HW3 z1 z2 z3;go_wp2
   go_step3
   exact⟨rfl,w1.heap.size,_,_,_,_,_,_,_,_,_,_,_,_,_,_,_,_,_,_,rfl,HS.o⟩
  case p0=>
   clear A HR HT;rintro a' w' ⟨gL,u3,u4,u5,u7,u8,u9,u10,u11,u12,u13,u14,u15,u16,u17,u18,u19,u20,u21,rfl,hs'⟩;have HS:=Cd hs';have C:=Cd (JG g gL hs (IS zs) w' hs'.wds H8.o hs'.row (GG _) (MY HZ.o) hs'.tab hg0);clear hs';go_wp2_with fail;refine C.o.mono ?_;rintro e w5 ⟨rfl,r5,b5⟩;have HS5:AO (FS w g gL (D6 hs (IS zs)) (IS zs) w5):=HS.o.mix hgl hg0 r5 b5;clear r5 b5 C HS;go_wp2_with (first
    |(refine EJ rfl (aM 6) (aM 21) rfl Tryz.sizeBlk gL (List.replicate 128 0) (IS zs) rfl rfl AL (GG _) HS5.o.row ?_)
    |fail)
   intro w6 r6 b6;have HS6:AO (FS w g gL (D6 hs (IS zs)) (List.replicate 128 0) w6):=HS5.o.put hgl hV r6 b6;clear r6 b6 HS5;go_wp2
   go_step3
   exact⟨rfl,gL,_,_,_,_,_,_,_,_,_,_,_,_,_,_,_,_,_,_,rfl,HS6.o⟩
  case p1=>
   clear A HR HT;rintro a' w' ⟨gL,u3,u4,u5,u7,u8,u9,u10,u11,u12,u13,u14,u15,u16,u17,u18,u19,u20,u21,rfl,hs'⟩;have HS:=Cd hs';clear hs';go_wp2_with fail;have B:=Cd (MP gL len (List.replicate 128 0) w' HS.o.row AL HU.o);refine B.o.mono ?_;rintro e w4 ⟨rfl,r4,b4⟩;have HS4:AO (FS w g gL (D6 hs (IS zs)) (GR (List.replicate 128 0) len) w4):=HS.o.put hgl hV r4 b4;have C:=Cd (JG g gL (D6 hs (IS zs)) (GR (List.replicate 128 0) len) w4 HS4.o.wds (Fl _ _) HS4.o.row (IU AL _) (Ke (QF _) _) HS4.o.tab hg0);clear r4 b4 B HS;go_wp2_with fail;refine C.o.mono ?_;rintro e w5 ⟨rfl,r5,b5⟩;have HS5:AO (FS w g gL (IT hs zs len) (GR (List.replicate 128 0) len) w5):=by rw[HF.o];exact HS4.o.mix hgl hg0 r5 b5
   clear r5 b5 C HS4;go_wp2;rw[R0];refine Ab (results_none rfl _ _ _) rfl ?_;exact⟨rfl,HS5.o.wds,HS5.o.fr⟩
theorem Jm (x:Int) (w:aC) (hx:EE x) :
  Calls tP 98 #[Z8 .u64 x] w λe w'=>∃ v,e=aK v/\DM w' w.heap.size v (JE x)/\Below w.heap.size w w':=by
 obtain⟨hx0,hx1⟩:=hx;go_enter func98,ntmps98;go_wp2
 go_loopw [3,4] (λv i wr=>∃ j:Nat,j<=8/\i=Z8 .i64 (56-8*(j:Int))/\DM wr w.heap.size v ((JE x).take j)/\Below w.heap.size w wr) (λ_ i _=>(intOf i+8).toNat)
 case atStart=>exact⟨0,AJ,rfl,DM.empty _ _ Cl,Cg.alloc Cl _⟩
 case round=>
  obtain⟨j,hj,rfl,hown,hbel⟩:=hrel;by_cases hlj:j<8
  ·have hlj':(0:Int)<=56-8*(j:Int):=AJ
   have hsz:=hbel.size;have HE:=Cd (MV x j hlj);have HLJ:AO (((JE x).take j).length+1<=1099511627776):=by show _<=_;rw[Ap,EB];omega
   have HO:=Cd hown;have HB:=Cd hbel;clear hown hbel;go_wp2_with (at_builtin;refine DI _ rfl _ _ rfl w.heap.size _ _ rfl (HO.o.alloc _) ⟨wr.heap.size,0,aA⟩ 1 1 [x/2^(56-8*j)%256] rfl rfl ?c1 HLJ.o ?c3 ?_);all_goals first|(intro j' hj';obtain rfl:j'=0:=AJ
                                                                                                                                                                                                                              simp[Addr.add];done)|skip
   case c3=>rw[A7];omega
   intro v' w2 hown' hbel' _;have HO2:AO (DM w2 w.heap.size v' ((JE x).take (j+1))):=by rw[HE.o];exact hown'
   have HB2:AO (Below w.heap.size w w2):=(HB.o.alloc hsz _).trans hbel';clear hown' hbel' HO HB HE HLJ;go_wp2;go_roundw
   case rel=>exact⟨j+1,AJ,by go_num,HO2.o,HB2.o⟩
   case measure=>simp[intOf];omega
  ·obtain rfl:j=8:=AJ
   have HOW:=Cd hown;rw[Ad (by rw[EB];exact Ac _)] at HOW;have HBE:=Cd hbel;clear hown hbel;go_wp2
   go_ret
   exact⟨_,rfl,HOW.o,HBE.o⟩
def lenOf:aB->Nat
 |Z7 _ n _=>n
 |_=>0
def GH (n:Nat):Nat:=(239-n%128)%128
theorem Fy (n:Nat):(n+1+GH n)%128=112/\GH n<128:=by unfold GH;omega
theorem R3 (n j:Nat) (h:j<GH n):(n+1+j)%128≠112:=by unfold GH at h;omega
def Eq (zs:List Int):List Int:=zs++[128]++List.replicate (GH zs.length) 0++List.replicate 8 0++JE (8*(zs.length:Int))
theorem MZ {w w':aC} {B:Nat} {v:aB} {zs:List Int} (h:DM w B v zs) (hb:Below w.heap.size w w'):DM w' B v zs:=by
 refine⟨⟨h.1.1,?_⟩,h.2⟩;rcases h.1.2 with h'|⟨g,c,cur,h1,h2,h3,h4⟩
 ·exact .inl h'
 ·exact .inr ⟨g,c,cur,h1,h2,by rw[hb.block g (AR.1 h3).1];exact h3,h4⟩
theorem R4 (b off cap n:Nat) (zs:List Int) (w:aC) (hn:zs.length=n) (hb:b<w.heap.size) (hc:∀ i,i<zs.length->w.cell? ⟨b,off+i,aA⟩=aE (Z8 .u8 (zs.getD i 0))) (hm:n<=2097152) :
  Calls tP 96 #[Z7 (aE ⟨b,off,aA⟩) n cap] w λe w'=>∃ v,e=aK v/\DM w' w.heap.size v (Eq zs)/\Below w.heap.size w w':=by
 have HC:=Cd hc;have HN:=Cd hn;have HE0:=Cd (DM.empty w w.heap.size Cl);have HAL:AO (Below w.heap.size w (w.alloc (aJ #[] 5))):=Cg.alloc Cl _;clear hc hn;go_enter func96,ntmps96;go_wp2_with (at_builtin;refine DI _ rfl _ _ rfl w.heap.size _ [] rfl HE0.o ⟨b,off,aA⟩ n cap zs rfl HN.o ?c1 (by simp;omega) AL ?_)
 case c1=>
  intro j hj;rw[Az,HAL.o.cell (p:=⟨b,off+j,aA⟩) hb];exact HC.o j (by rw[HN.o];exact hj)
 intro v1 w1 o1 b1 _;have HO1:AO (DM w1 w.heap.size v1 zs):=o1;have HB1:AO (Below w.heap.size w w1):=HAL.o.trans b1;clear o1 b1 HE0 HAL;have HLN:AO (zs.length+1<=1099511627776):=by show _<=_;rw[HN.o];omega
 have hs1:=HB1.o.size;go_wp2_with (at_builtin;refine DI _ rfl _ _ rfl w.heap.size _ _ rfl (HO1.o.alloc _) ⟨w1.heap.size,0,aA⟩ 1 1 [128] rfl rfl ?c1 HLN.o ?c3 ?_);all_goals first|(intro j' hj';obtain rfl:j'=0:=AJ
                                                                                                                                                                                   simp[Addr.add];done)|skip
 case c3=>rw[A7];omega
 intro v2 w2 o2 b2 _;have HO2:AO (DM w2 w.heap.size v2 (zs++[128]++List.replicate 0 0)):=by show DM _ _ _ _;simpa using o2
 have HB2:AO (Below w.heap.size w w2):=(HB1.o.alloc hs1 _).trans b2;clear o2 b2 HO1 HB1 HLN hs1;go_wp2
 go_loopw [3] (λv wr=>∃ j:Nat,j<=GH n/\DM wr w.heap.size v (zs++[128]++List.replicate j 0)/\Below w.heap.size w wr) (λv _=>n+200-lenOf v)
 case atStart=>exact⟨0,Au _,HO2.o,HB2.o⟩
 case round=>
  clear HO2 HB2;obtain⟨j,hj,hown,hbel⟩:=hrel;have hsz:=hbel.size;obtain⟨g,c,rfl,hg1,hg2,hg3⟩:=hown.base;have HO:=Cd hown;have HB:=Cd hbel;have hps:=Fy n;have hll:(zs++[128]++List.replicate j 0).length=n+1+j:=by simp[HN.o];omega
  rw[hll] at HO hg3 |-;have HLL:=Cd hll;clear hown hbel hll;obtain⟨L,hL⟩:∃ L,L=n+1+j:=⟨_,rfl⟩
  rw[<-hL] at HO hg3 HLL |-;have hLb:L<=2097700:=AJ
  by_cases hlt:j<GH n
  ·have hne:=R3 n j hlt;have hne':¬ ((L:Int)%128=112):=AJ
   have HJ:AO (j+1<=GH n):=by show _<=_;omega
   have HLm:AO (L<n+200):=by show _<_;omega
   clear hne hL hps hj hlt;have HLJ:AO ((zs++[128]++List.replicate j 0).length+1<=1099511627776):=by show _<=_;rw[HLL.o];omega
   have hO:=HO.o;obtain⟨ys,hys⟩:∃ ys,ys=zs++[128]++List.replicate j 0:=⟨_,rfl⟩
   rw[<-hys] at HO HLL HLJ;clear hO;have HYS:AO (zs++[128]++List.replicate (j+1) 0=ys++[0]):=by show _=_;rw[hys,List.replicate_succ'];simp
   clear hys;go_wp2_with (at_builtin;refine DI _ rfl _ _ rfl w.heap.size _ _ rfl (HO.o.alloc _) ⟨wr.heap.size,0,aA⟩ 1 1 [0] rfl rfl ?d1 HLJ.o ?d3 ?_);all_goals first|(intro j' hj';obtain rfl:j'=0:=AJ
                                                                                                                                                                       simp[Addr.add];done)|skip
   case d3=>rw[A7];omega
   intro v2 w2 o2 b2 _;obtain⟨g',c2,e2,_,_,_⟩:=o2.base;have HO2:AO (DM w2 w.heap.size v2 (zs++[128]++List.replicate (j+1) 0)):=by rw[HYS.o];exact o2
   have HB2:AO (Below w.heap.size w w2):=(HB.o.alloc hsz _).trans b2;have HV2:AO (lenOf v2=L+1):=by rw[e2];show _=_;simp[lenOf,HLL.o]
   clear o2 b2 HO HB HLJ HYS e2;go_wp2;go_roundw
   case rel=>exact⟨j+1,HJ.o,HO2.o,HB2.o⟩
   case measure=>
    have h1:=HV2.o;have h2:=HLm.o;have h3:lenOf (Z7 (aE ⟨g,0,aA⟩) L c)=L:=rfl
    first|(rw[h3,h1];omega)|(simp[lenOf,h1] at *;omega)
  ·obtain rfl:j=GH n:=AJ
   have hne':((L:Int)%128=112):=AJ
   have HLJ:AO ((zs++[128]++List.replicate (GH n) 0).length+8<=1099511627776):=by show _<=_;rw[HLL.o];omega
   clear hL hps hj hlt;obtain⟨ys,hys⟩:∃ ys,ys=zs++[128]++List.replicate (GH n) 0:=⟨_,rfl⟩
   rw[<-hys] at HO HLL HLJ;have HYS:AO (Eq zs=ys++[0,0,0,0,0,0,0,0]++JE (8*(n:Int))):=by show _=_;rw[hys];unfold Eq;rw[HN.o];rfl
   clear hys;go_wp2_with (at_builtin;refine DI _ rfl _ _ rfl w.heap.size _ _ rfl (HO.o.alloc _) ⟨wr.heap.size,0,aA⟩ 8 8 [0,0,0,0,0,0,0,0] rfl rfl ?e1 HLJ.o ?e3 ?_)
   case e1=>
    intro j' hj';have:j'=0\/j'=1\/j'=2\/j'=3\/j'=4\/j'=5\/j'=6\/j'=7:=AJ
    rcases this with rfl|rfl|rfl|rfl|rfl|rfl|rfl|rfl<;>simp[Addr.add]
   case e3=>rw[A7];omega
   intro v2 w2 o2 b2 _;have HO2:=Cd o2;have HB2:AO (Below w.heap.size w w2):=(HB.o.alloc hsz _).trans b2;clear o2 b2 HO HB HLJ;have e8:(8:Int)*(n:Int)<18446744073709551616:=AJ
   have A:=Cd (Jm (8*(n:Int)) w2 ⟨AJ,AJ⟩);go_wp2_with fail;refine A.o.mono ?_;rintro e w3 ⟨v3,rfl,o3,b3⟩;obtain⟨g3,c3,rfl,_,hg3',hc3⟩:=o3.base;have HO3:AO (DM w3 w.heap.size v2 (ys++[0,0,0,0,0,0,0,0])):=by
    obtain⟨hh,g2,c2,e2⟩:=HO2.o;exact MZ ⟨hh,g2,c2,e2⟩ b3
   have HB3:AO (Below w.heap.size w w3):=HB2.o.trans (b3.mono HB2.o.size);have HP3:=Cd o3.part;have HLY:AO ((ys++[0,0,0,0,0,0,0,0]).length+8<=1099511627776):=by show _<=_;rw[Ak,HLL.o];simp;omega
   have hsz3:=HB3.o.size;rw[EB] at hc3 |-;clear o3 b3 A HO2 HB2;go_wp2_with (at_builtin;refine DI _ rfl _ _ rfl w.heap.size _ _ rfl HO3.o ⟨g3,0,aA⟩ 8 c3 (JE (8*(n:Int))) rfl (EB _) ?f1 HLY.o ?f3 ?_)
   case f1=>
    intro j' hj';obtain⟨b',o',c',e',_,hcc⟩:=HP3.o;cases e';rw[Az];exact hcc j' (by rw[EB];exact hj')
   case f3=>exact hsz3
   intro v4 w4 o4 b4 _;have HO4:AO (DM w4 w.heap.size v4 (Eq zs)):=by rw[HYS.o,List.append_assoc];exact o4
   have HB4:AO (Below w.heap.size w w4):=HB3.o.trans b4;clear o4 b4 HO3 HB3 HP3;go_wp2
   go_ret
   exact⟨_,rfl,HO4.o,HB4.o⟩
end Go.Proofs.YtjdhhgaelgemcaaGreatDoor
