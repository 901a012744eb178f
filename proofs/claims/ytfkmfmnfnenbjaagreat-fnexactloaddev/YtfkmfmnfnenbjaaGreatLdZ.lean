import Derived.Test.YtfkmfmnfnenbjaaGreatLdV
import Derived.Test.YtfkmfmnfnenbjaaGreatLdW
import Derived.Test.YtfkmfmnfnenbjaaGreatLdY
import Derived.Test.YtfkmfmnfnenbjaaGreatMDevVal
import Derived.Deep.Cut
namespace Go.Proofs.YtfkmfmnfnenbjaaGreat
open Go.ChangeShapes Go.WideShapes Go.ChangeAt Go.RowKit
set_option linter.unusedVariables false
def ImW (w:World) (v:Value) (r:ImR):Prop:=∃ aSD nSD cSD aSU nSU cSU aF mF cF aD nD cD aU nU cU aT cT,
 v=.agg #[.bool r.ok,.int .u32 r.g,.int .u32 r.t,.slice aSD nSD cSD,.slice aSU nSU cSU,.slice aF mF cF,.slice aD nD cD,.slice aU nU cU,.int .i64 r.k,.slice aT r.n cT,.int .u32 r.nx]∧
 At .i64 w aSD r.sD∧At .i64 w aSU r.sU∧FAt w aF r.F∧At .i64 w aD r.D∧At .i64 w aU r.U∧At .i64 w aT r.T∧r.sD.length=nSD∧r.sU.length=nSU∧r.F.length=mF*4∧r.D.length=nD∧r.U.length=nU∧r.T.length=r.n*2
theorem ImW.no (w:World):ImW w (.agg #[.bool false,.int .u32 0,.int .u32 0,.slice none 0 0,.slice none 0 0,.slice none 0 0,.slice none 0 0,.slice none 0 0,.int .i64 0,.slice none 0 0,.int .u32 0]) imNo:=
 ⟨none,0,0,none,0,0,none,0,0,none,0,0,none,0,0,none,0,rfl,.inl rfl,.inl rfl,.inl rfl,.inl rfl,.inl rfl,.inl rfl,rfl,rfl,rfl,rfl,rfl,rfl⟩
theorem At.wrL {R:Nat} {w w0 w':World} {a:Option Addr} {zs:List Int} (h:At .i64 w a zs) (l:Lies (R+1) w0 a) (hw:Wr R w w'):At .i64 w' a zs:=
 h.keepT (by rw[hw.size];exact Nat.le_refl _) (fun ad e _=>hw.block _ (by have:=(l ad e).1;omega))
theorem FW.fatS {lo:Nat} {w:World} {g m c:Nat} {F:List Int} (h:FW lo w (.slice (some ⟨g,0,none⟩) m c) F):FAt w (some ⟨g,0,none⟩) F:=by
 obtain⟨g',m',c',e,h1,h2,h3,h4,h5⟩:=h
 injection e with e1
 injection e1 with e1
 injection e1 with e1
 subst e1
 exact .inr ⟨g,0,rfl,h4,fun i hi=>by rw[Nat.zero_add];exact h5 i hi⟩
theorem nwK_pick {zs:List Int} {ps:List PD} {A B:DkR} (hA:slF zs ps 0=A) (hB:slF zs ps 1=B):((!A.ok && !B.ok)=true→(nwK zs ps 2).ok=false)∧((!A.ok && !B.ok)=false→(nwK zs ps 2).ok=true∧nwK zs ps 2=if(!A.ok || (B.ok && decide (A.g<B.g)))=true then B else A):=by
 have h1:nwK zs ps 1=if A.ok=true then A else dkNo:=by
  show(if _ then _ else _)=_
  rw[hA];cases h:A.ok with
  |false=>simp[nwK]
  |true=>rw[if_pos ⟨rfl,.inl rfl⟩];simp
 have h2:nwK zs ps 2=if B.ok=true∧((nwK zs ps 1).ok=false∨(nwK zs ps 1).g<B.g) then B else nwK zs ps 1:=by
  show(if _ then _ else _)=_
  rw[hB]
 rw[h2,h1]
 cases ha:A.ok<;>cases hb:B.ok<;>simp[ha,hb,dkNo]
 by_cases hg:A.g<B.g
 ·simp[hg,hb]
 ·simp[hg,ha]
theorem EY.wr {w wr w':World} {cs zr:Array Value} {T:TypeId} {R:Nat} (h:EY w cs zr T wr) (hw:Wr R wr w') (hR:w.heap.size+2≤R):EY w cs zr T w':=
 ⟨h.bel.trans (hw.below (by omega)),by rw[hw.block _ (by omega)];exact h.dev,by rw[hw.block _ (by omega)];exact h.res⟩
theorem cp_wpv {lo:Nat} {w:World} {k:Int} {D U:List Int} {pD pU pT:Option Addr} {lD qD lU qU qT:Nat} (i1:Iow lo w (.slice pD lD qD) D) (i2:Iow lo w (.slice pU lU qU) U) (i3:TapO lo w (.slice pT 0 qT) [] 0):WPV lo w (.agg #[.bool true,.slice pD lD qD,.slice pU lU qU,.int .i64 k,.slice pT 0 qT]) ⟨true,D,U,k,[],0⟩:=by
 obtain⟨h1,h2,h3⟩:=i1.sat
 obtain⟨h4,h5,h6⟩:=i2.sat
 obtain⟨h7,h8,h9⟩:=i3.tapV.sat
 obtain⟨c1,c2⟩:=i3.cap
 exact⟨pD,lD,qD,pU,lU,qU,pT,0,qT,rfl,h1.at_,h4.at_,h7.at_,h2,h5,rfl,h3,h6,h9,c1,c2⟩
def SnB (lo NC:Nat) (w:World) (s:DkR):Prop:=∃ aD nD cD aU nU cU,w.heap[NC]?=some (.cells #[.int .u32 s.g,.int .u32 s.t,.slice aD nD cD,.slice aU nU cU] 30 (0,0))∧At .i64 w aD s.D∧At .i64 w aU s.U∧s.D.length=nD∧s.U.length=nU∧Lies lo w aD∧Lies lo w aU
set_option maxRecDepth 100000 in
set_option maxHeartbeats 8000000 in
theorem sld_any (a x:Option Addr) (Ln c m cx:Nat) (f:Int) (d:Bool) (zs:List Int) (ps:List PD) (w:World) (hl:zs.length=Ln) (hm:ps.length=m) (hA:At .u8 w a zs) (hP:PAt w x ps) (hc:Ln≤c) (hL:Ln≤1048576) (hM:m≤1048576) (hps:∀ i,(ps.getD i (0,[])).2.length≤1048576) (bz:Byte zs) (bp:∀ i,Byte (ps.getD i (0,[])).2) :
  Calls Tryz.prog 5 #[.agg #[.slice a Ln c,.slice x m cx,.int .i64 f,.bool d]] w fun e w'=>∃ v,e=.returned v∧ImW w' v (imG zs ps f)∧Below w.heap.size w w':=by
 have HE0:=hid_ofL (EY.start w #[.slice a Ln c,.slice x m cx,.int .i64 f,.bool d] #[.bool false,.int .u32 0,.int .u32 0,.slice none 0 0,.slice none 0 0,.slice none 0 0,.slice none 0 0,.slice none 0 0,.int .i64 0,.slice none 0 0,.int .u32 0] 36)
 have HSD:Hid ((Tryz.prog.info? 40).map (·.size)=some 4):=by show _=_;kernel_rfl
 have HSI:Hid ((Tryz.prog.info? 36).map (·.size)=some 11):=by show _=_;kernel_rfl
 have HSR:Hid ((Tryz.prog.info? 51).map (·.size)=some 5):=by show _=_;kernel_rfl
 have HSN:Hid ((Tryz.prog.info? 30).map (·.size)=some 4):=by show _=_;kernel_rfl
 have HSS:Hid ((Tryz.prog.info? 34).map (·.size)=some 4):=by show _=_;kernel_rfl
 have HSA:Hid ((Tryz.prog.info? 56).map (·.size)=some 5):=by show _=_;kernel_rfl
 have HV:=hid_ofL (fun ww (b:Below w.heap.size w ww)=>sval_any (.agg #[.slice a Ln c,.slice x m cx,.int .i64 f,.bool d]) zs ps f d ww ⟨a,c,x,cx,by rw[hl,hm],hA.below b,hP.below b,by rw[hl];exact hc⟩ (by omega) (by omega) hps)
 have HFF:=hid_ofL (fun (hv:validB Ln ps f=true)=>(⟨hl,hm,hv,hc,bz,bp⟩:DvF Ln c m f zs ps))
 have HIG:Hid (imG zs ps f=if validB Ln ps f=true then imF zs ps (Ln/64-4) else imNo):=by show _=_;unfold imG;rw[hl]
 have HAP:=hid_ofL (And.intro hA (And.intro hP hps))
 clear hA hP hps bz bp
 go_enter Tryz.func5,Tryz.ntmps5
 go_upto_region 1 with fail
 generalize (w.alloc (.cells #[.slice a Ln c,.slice x m cx,.int .i64 f,.bool d] 40)).alloc (.cells #[.bool false,.int .u32 0,.int .u32 0,.slice none 0 0,.slice none 0 0,.slice none 0 0,.slice none 0 0,.slice none 0 0,.int .i64 0,.slice none 0 0,.int .u32 0] 36)=w0 at *
 go_wp2_with (first
  |(refine wpList_load_row rfl 40 (.tmp 1) rfl w.heap.size rfl 40 _ (0,0) _ HE0.out.dev Tryz.underlying40 rfl HSD.out ?_)
  |fail)
 refine(HV.out w0 HE0.out.bel).mono ?_
 rintro e w1 ⟨rfl,b1⟩
 rw[hl]
 have HE1:=hid_ofL (HE0.out.below b1)
 clear HE0 HV b1
 cases hv:validB Ln ps f with
 |false=>
  have HI:Hid (imG zs ps f=imNo):=by show _=_;rw[HIG.out,hv];rfl
  clear HIG HFF HAP;go_wp2_with (first
   |(refine wpList_store_row rfl 36 (.tmp 2) (.tmp 11) rfl (w.heap.size+1) #[.bool false,.int .u32 0,.int .u32 0,.slice none 0 0,.slice none 0 0,.slice none 0 0,.slice none 0 0,.slice none 0 0,.int .i64 0,.slice none 0 0,.int .u32 0] rfl rfl 36 _ HE1.out.res HSI.out rfl (by simp[Value.oneCell']) ?_)
   |fail)
  (try simp only[Exit.inBlock,Exit.then])
  exact bodyPost_ret (v:=.agg #[.bool false,.int .u32 0,.int .u32 0,.slice none 0 0,.slice none 0 0,.slice none 0 0,.slice none 0 0,.slice none 0 0,.int .i64 0,.slice none 0 0,.int .u32 0]) (results_cell_row rfl _ _ (w.heap.size+1) 36 _ (0,0) _ rfl (setRow_heap _ _ _ _ _ _ HE1.out.res) Tryz.underlying36 rfl HSI.out) rfl ⟨_,rfl,by rw[HI.out];exact ImW.no _,HE1.out.bel.trans ((Wr.setRow _ _ _).below (Nat.le_succ _))⟩
 |true=>
  have F0:=HFF.out hv;have HI:Hid (imG zs ps f=imF zs ps (Ln/64-4)):=by show _=_;rw[HIG.out,if_pos hv]
  have HSL:Hid (∀ ww,Below w.heap.size w ww→(Calls Tryz.prog 16 #[.agg #[.slice a Ln c,.slice x m cx,.int .i64 f,.bool d],.int .i64 0] ww fun e w'=>∃ v,e=.returned v∧DVW ww.heap.size w' v (slF zs ps 0)∧Below ww.heap.size ww w')∧(Calls Tryz.prog 16 #[.agg #[.slice a Ln c,.slice x m cx,.int .i64 f,.bool d],.int .i64 1] ww fun e w'=>∃ v,e=.returned v∧DVW ww.heap.size w' v (slF zs ps 1)∧Below ww.heap.size ww w')):=
   fun ww b=>⟨slot_any a x Ln c m cx f d zs ps ww F0 (HAP.out.1.below b) (HAP.out.2.1.below b) hL HAP.out.2.2 0 (by decide),slot_any a x Ln c m cx f d zs ps ww F0 (HAP.out.1.below b) (HAP.out.2.1.below b) hL HAP.out.2.2 1 (by decide)⟩
  have HJ:Hid (∀ ww,Calls Tryz.prog 18 #[.agg #[.slice a Ln c,.slice x m cx,.int .i64 f,.bool d]] ww fun e w'=>e=.returned (.int .i64 ((Ln/64-4:Nat):Int))∧Below ww.heap.size ww w'):=fun ww=>jour_any a x Ln c m cx f d ww hL (by have:=F0.base;omega) (by have:=F0.base;omega)
  have HRD0:Hid (∀ ww (q:Nat),q<4294967296→Below w.heap.size w ww→Calls Tryz.prog 17 #[.agg #[.slice a Ln c,.slice x m cx,.int .i64 f,.bool d],.int .u32 (q:Int),.int .i64 ((Ln/64-4:Nat):Int)] ww fun e w'=>∃ v,e=.returned v∧FW ww.heap.size w' v (jrF zs ps (Ln/64-4) q (Ln/64-4))∧Below ww.heap.size ww w'):=
   fun ww q hq b=>l6r_any a x Ln c m cx f d zs ps F0 hL HAP.out.2.2 (Ln/64-4) q ww (by have:=F0.base;omega) hq (HAP.out.1.below b) (HAP.out.2.1.below b)
  have HJR:=hid_ofL (fun q=>(F0.jr q).2);have hJ2:Ln/64-4≤252:=by have:=F0.base;omega
  have HNW:=hid_ofL (nwK_snp (zs:=zs) (ps:=ps) 2);have HPK:Hid (∀ A B,slF zs ps 0=A→slF zs ps 1=B→_):=fun A B h1 h2=>nwK_pick (zs:=zs) (ps:=ps) (A:=A) (B:=B) h1 h2
  have HIF:Hid (imF zs ps (Ln/64-4)=if(nwK zs ps 2).ok=true then imR (nwK zs ps 2) (jrF zs ps (Ln/64-4) (nwK zs ps 2).t.toNat (Ln/64-4)) else imNo):=rfl;clear HFF HIG F0 hv HAP hL hc hM;generalize Ln/64-4=J at *;have hz1:=HE1.out.lt;go_wp2_with (first
   |(refine wpList_load_row rfl 40 (.tmp 1) rfl w.heap.size rfl 40 _ (0,0) _ HE1.out.dev Tryz.underlying40 rfl HSD.out ?_)
   |fail)
  refine(HSL.out w1 HE1.out.bel).1.mono ?_;rintro e w2 ⟨v2,rfl,hv2,b2⟩;have HE2:=hid_ofL (HE1.out.below b2);obtain⟨rA,hrA⟩:∃ r,slF zs ps 0=r:=⟨_,rfl⟩
  rw[hrA] at hv2;obtain⟨okA,gA,tA,DA,UA⟩:=rA;obtain⟨aDA,nDA,cDA,aUA,nUA,cUA,rfl,kA1,kA2,kA3,kA4,kA5,kA6⟩:=hv2;dsimp only at kA1 kA2 kA3 kA4;have bA:Below w2.heap.size w2 (w2.alloc (.cells #[.bool okA,.int .u32 gA,.int .u32 tA,.slice aDA nDA cDA,.slice aUA nUA cUA] 51)):=(Below.refl _ _).alloc (Nat.le_refl _) _;have HRA:Hid ((w2.alloc (.cells #[.bool okA,.int .u32 gA,.int .u32 tA,.slice aDA nDA cDA,.slice aUA nUA cUA] 51)).heap[w2.heap.size]?=some (.cells #[.bool okA,.int .u32 gA,.int .u32 tA,.slice aDA nDA cDA,.slice aUA nUA cUA] 51 (0,0))):=heap_alloc_new w2 _;have HE3:=hid_ofL (HE2.out.below bA);have HLA:Hid (At .i64 (w2.alloc (.cells #[.bool okA,.int .u32 gA,.int .u32 tA,.slice aDA nDA cDA,.slice aUA nUA cUA] 51)) aDA DA∧At .i64 (w2.alloc (.cells #[.bool okA,.int .u32 gA,.int .u32 tA,.slice aDA nDA cDA,.slice aUA nUA cUA] 51)) aUA UA∧Lies (w.heap.size+2) (w2.alloc (.cells #[.bool okA,.int .u32 gA,.int .u32 tA,.slice aDA nDA cDA,.slice aUA nUA cUA] 51)) aDA∧Lies (w.heap.size+2) (w2.alloc (.cells #[.bool okA,.int .u32 gA,.int .u32 tA,.slice aDA nDA cDA,.slice aUA nUA cUA] 51)) aUA):=⟨kA1.below bA,kA2.below bA,kA5.mono (by omega) bA.size,kA6.mono (by omega) bA.size⟩
  have HNA:=hid_ofL (And.intro kA3 kA4);have HSA0:=hid_ofL hrA;have hz2:=HE2.out.lt;have hzA:w2.heap.size<(w2.alloc (.cells #[.bool okA,.int .u32 gA,.int .u32 tA,.slice aDA nDA cDA,.slice aUA nUA cUA] 51)).heap.size:=by simp
  clear kA1 kA2 kA3 kA4 kA5 kA6 b2 bA HE1 HE2 hrA
  go_upto_region 4 with (first
   |(refine wpList_store_row rfl 51 (.tmp 3) (.tmp 13) rfl w2.heap.size #[.bool okA,.int .u32 gA,.int .u32 tA,.slice aDA nDA cDA,.slice aUA nUA cUA] rfl rfl 51 _ (heap_alloc_new w2 _) HSR.out rfl (all5s _ _ _ _ _ _ _ _ _) ?_)
   |fail)
  try rw[World.setRow_alloc_new]
  generalize w2.alloc (.cells #[.bool okA,.int .u32 gA,.int .u32 tA,.slice aDA nDA cDA,.slice aUA nUA cUA] 51)=w3 at *;generalize w2.heap.size=NA at *;go_wp2_with (first
   |(refine wpList_load_row rfl 40 (.tmp 1) rfl w.heap.size rfl 40 _ (0,0) _ HE3.out.dev Tryz.underlying40 rfl HSD.out ?_)
   |fail)
  refine(HSL.out w3 HE3.out.bel).2.mono ?_;rintro e w4 ⟨v4,rfl,hv4,b4⟩;have HE4:=hid_ofL (HE3.out.below b4);obtain⟨rB,hrB⟩:∃ r,slF zs ps 1=r:=⟨_,rfl⟩
  rw[hrB] at hv4;obtain⟨okB,gB,tB,DB,UB⟩:=rB;obtain⟨aDB,nDB,cDB,aUB,nUB,cUB,rfl,kB1,kB2,kB3,kB4,kB5,kB6⟩:=hv4;dsimp only at kB1 kB2 kB3 kB4;have bB:Below w4.heap.size w4 (w4.alloc (.cells #[.bool okB,.int .u32 gB,.int .u32 tB,.slice aDB nDB cDB,.slice aUB nUB cUB] 51)):=(Below.refl _ _).alloc (Nat.le_refl _) _;have b34:=b4.trans (bB.mono b4.size);have hz3:=HE3.out.lt;have HRB:Hid ((w4.alloc (.cells #[.bool okB,.int .u32 gB,.int .u32 tB,.slice aDB nDB cDB,.slice aUB nUB cUB] 51)).heap[w4.heap.size]?=some (.cells #[.bool okB,.int .u32 gB,.int .u32 tB,.slice aDB nDB cDB,.slice aUB nUB cUB] 51 (0,0))):=heap_alloc_new w4 _;have HRA5:Hid ((w4.alloc (.cells #[.bool okB,.int .u32 gB,.int .u32 tB,.slice aDB nDB cDB,.slice aUB nUB cUB] 51)).heap[NA]?=some (.cells #[.bool okA,.int .u32 gA,.int .u32 tA,.slice aDA nDA cDA,.slice aUA nUA cUA] 51 (0,0))):=by show _=_;rw[b34.block _ hzA];exact HRA.out
  have HE5:=hid_ofL (HE4.out.below bB);have HL5:Hid ((At .i64 (w4.alloc (.cells #[.bool okB,.int .u32 gB,.int .u32 tB,.slice aDB nDB cDB,.slice aUB nUB cUB] 51)) aDA DA∧At .i64 (w4.alloc (.cells #[.bool okB,.int .u32 gB,.int .u32 tB,.slice aDB nDB cDB,.slice aUB nUB cUB] 51)) aUA UA∧Lies (w.heap.size+2) (w4.alloc (.cells #[.bool okB,.int .u32 gB,.int .u32 tB,.slice aDB nDB cDB,.slice aUB nUB cUB] 51)) aDA∧Lies (w.heap.size+2) (w4.alloc (.cells #[.bool okB,.int .u32 gB,.int .u32 tB,.slice aDB nDB cDB,.slice aUB nUB cUB] 51)) aUA)∧(At .i64 (w4.alloc (.cells #[.bool okB,.int .u32 gB,.int .u32 tB,.slice aDB nDB cDB,.slice aUB nUB cUB] 51)) aDB DB∧At .i64 (w4.alloc (.cells #[.bool okB,.int .u32 gB,.int .u32 tB,.slice aDB nDB cDB,.slice aUB nUB cUB] 51)) aUB UB∧Lies (w.heap.size+2) (w4.alloc (.cells #[.bool okB,.int .u32 gB,.int .u32 tB,.slice aDB nDB cDB,.slice aUB nUB cUB] 51)) aDB∧Lies (w.heap.size+2) (w4.alloc (.cells #[.bool okB,.int .u32 gB,.int .u32 tB,.slice aDB nDB cDB,.slice aUB nUB cUB] 51)) aUB)):=
   ⟨⟨HLA.out.1.below b34,HLA.out.2.1.below b34,HLA.out.2.2.1.mono (Nat.le_refl _) b34.size,HLA.out.2.2.2.mono (Nat.le_refl _) b34.size⟩,kB1.below bB,kB2.below bB,kB5.mono (by omega) bB.size,kB6.mono (by omega) bB.size⟩
  have HNB:=hid_ofL (And.intro kB3 kB4);have HPK2:=hid_ofL (HPK.out _ _ HSA0.out hrB);have hz4:=HE4.out.lt;have hzB:w4.heap.size<(w4.alloc (.cells #[.bool okB,.int .u32 gB,.int .u32 tB,.slice aDB nDB cDB,.slice aUB nUB cUB] 51)).heap.size:=by simp
  have hAB:NA<w4.heap.size:=by have:=b4.size;omega
  clear kB1 kB2 kB3 kB4 kB5 kB6 b4 bB b34 HE3 HE4 HLA HRA HSL HPK hrB HSA0 hz3 hzA
  go_upto_region 5 with (first
   |(refine wpList_store_row rfl 51 (.tmp 4) (.tmp 15) rfl w4.heap.size #[.bool okB,.int .u32 gB,.int .u32 tB,.slice aDB nDB cDB,.slice aUB nUB cUB] rfl rfl 51 _ (heap_alloc_new w4 _) HSR.out rfl (all5s _ _ _ _ _ _ _ _ _) ?_)
   |fail)
  try rw[World.setRow_alloc_new]
  generalize w4.alloc (.cells #[.bool okB,.int .u32 gB,.int .u32 tB,.slice aDB nDB cDB,.slice aUB nUB cUB] 51)=w5 at *;generalize w4.heap.size=NB at *;try dsimp only at HPK2
  try dsimp only[Act.put]
  go_cut [23] from 24 (fun v ww=>v=.bool (!okA && !okB)∧ww=w5)
  case first=>
   have a0:=cell_of_row w5 NA 0 _ _ _ HRA5.out;have b0:=cell_of_row w5 NB 0 _ _ _ HRB.out;simp at a0 b0;cases okA
   ·cases okB;all_goals
     go_wp2
     go_meet
     case rel=>exact⟨rfl,rfl⟩
   ·go_wp2
    go_meet
    case rel=>exact⟨rfl,rfl⟩
  case rest=>
   obtain⟨rfl,rfl⟩:=hcut;cases hnn:(!okA && !okB) with
   |true=>
    have HI2:Hid (imG zs ps f=imNo):=by show _=_;rw[HI.out,HIF.out,if_neg (by rw[HPK2.out.1 hnn];simp)]
    clear HI HIF HPK2 HNW HRD0;go_wp2_with (first
     |(refine wpList_store_row rfl 36 (.tmp 2) (.tmp 24) rfl (w.heap.size+1) #[.bool false,.int .u32 0,.int .u32 0,.slice none 0 0,.slice none 0 0,.slice none 0 0,.slice none 0 0,.slice none 0 0,.int .i64 0,.slice none 0 0,.int .u32 0] rfl rfl 36 _ HE5.out.res HSI.out rfl (by simp[Value.oneCell']) ?_)
     |fail)
    (try simp only[Exit.inBlock,Exit.then])
    exact bodyPost_ret (v:=.agg #[.bool false,.int .u32 0,.int .u32 0,.slice none 0 0,.slice none 0 0,.slice none 0 0,.slice none 0 0,.slice none 0 0,.int .i64 0,.slice none 0 0,.int .u32 0]) (results_cell_row rfl _ _ (w.heap.size+1) 36 _ (0,0) _ rfl (setRow_heap _ _ _ _ _ _ HE5.out.res) Tryz.underlying36 rfl HSI.out) rfl ⟨_,rfl,by rw[HI2.out];exact ImW.no _,HE5.out.bel.trans ((Wr.setRow _ _ _).below (Nat.le_succ _))⟩
   |false=>
    obtain⟨hno,hpk⟩:=HPK2.out.2 hnn;have HNO:=hid_ofL hno;have HPK3:=hid_ofL hpk;have HRM:=fun j v=>(fun hj=>by
     have hj4:j<4:=by have:=(List.getElem?_eq_some_iff.1 hj).1;simpa using this
     rw[cell_of_row wc NA (1+j) _ _ _ HRA5.out];obtain rfl|rfl|rfl|rfl:j=0∨j=1∨j=2∨j=3:=by omega
     all_goals(simp at hj;subst hj;rfl):([.int .u32 gA,.int .u32 tA,.slice aDA nDA cDA,.slice aUA nUA cUA]:List Value)[j]?=some v→wc.cell? ⟨NA,1+j,none⟩=some v)
    have HRM':Hid (wc.rangeAt NA 1 [.int .u32 gA,.int .u32 tA,.slice aDA nDA cDA,.slice aUA nUA cUA]):=HRM;have bC:Below wc.heap.size wc (wc.alloc (.cells #[.int .u32 gA,.int .u32 tA,.slice aDA nDA cDA,.slice aUA nUA cUA] 30)):=(Below.refl _ _).alloc (Nat.le_refl _) _;have HE6:=hid_ofL (HE5.out.below bC);have HRC6:Hid ((wc.alloc (.cells #[.int .u32 gA,.int .u32 tA,.slice aDA nDA cDA,.slice aUA nUA cUA] 30)).heap[wc.heap.size]?=some (.cells #[.int .u32 gA,.int .u32 tA,.slice aDA nDA cDA,.slice aUA nUA cUA] 30 (0,0))):=heap_alloc_new wc _;have hNA:=(Array.getElem?_eq_some_iff.1 HRA5.out).1;have HRA6:Hid ((wc.alloc (.cells #[.int .u32 gA,.int .u32 tA,.slice aDA nDA cDA,.slice aUA nUA cUA] 30)).heap[NA]?=some (.cells #[.bool okA,.int .u32 gA,.int .u32 tA,.slice aDA nDA cDA,.slice aUA nUA cUA] 51 (0,0))):=by show _=_;rw[bC.block _ hNA];exact HRA5.out
    have HRB6:Hid ((wc.alloc (.cells #[.int .u32 gA,.int .u32 tA,.slice aDA nDA cDA,.slice aUA nUA cUA] 30)).heap[NB]?=some (.cells #[.bool okB,.int .u32 gB,.int .u32 tB,.slice aDB nDB cDB,.slice aUB nUB cUB] 51 (0,0))):=by show _=_;rw[bC.block _ hzB];exact HRB.out
    have HSBA:Hid (SnB (w.heap.size+2) wc.heap.size (wc.alloc (.cells #[.int .u32 gA,.int .u32 tA,.slice aDA nDA cDA,.slice aUA nUA cUA] 30)) ⟨okA,gA,tA,DA,UA⟩):=⟨aDA,nDA,cDA,aUA,nUA,cUA,HRC6.out,HL5.out.1.1.below bC,HL5.out.1.2.1.below bC,HNA.out.1,HNA.out.2,HL5.out.1.2.2.1.mono (Nat.le_refl _) bC.size,HL5.out.1.2.2.2.mono (Nat.le_refl _) bC.size⟩
    have HSBB:Hid (∀ ww,Wr wc.heap.size (wc.alloc (.cells #[.int .u32 gA,.int .u32 tA,.slice aDA nDA cDA,.slice aUA nUA cUA] 30)) ww→ww.heap[wc.heap.size]?=some (.cells #[.int .u32 gB,.int .u32 tB,.slice aDB nDB cDB,.slice aUB nUB cUB] 30 (0,0))→SnB (w.heap.size+2) wc.heap.size ww ⟨okB,gB,tB,DB,UB⟩):=fun ww hw hr=>⟨aDB,nDB,cDB,aUB,nUB,cUB,hr,(HL5.out.2.1.below bC).keepT (by rw[hw.size];exact Nat.le_refl _) (fun ad e _=>hw.block _ (by have:=(HL5.out.2.2.2.1 ad e).2;omega)),(HL5.out.2.2.1.below bC).keepT (by rw[hw.size];exact Nat.le_refl _) (fun ad e _=>hw.block _ (by have:=(HL5.out.2.2.2.2 ad e).2;omega)),HNB.out.1,HNB.out.2,HL5.out.2.2.2.1.mono (Nat.le_refl _) (by rw[hw.size];exact bC.size),HL5.out.2.2.2.2.mono (Nat.le_refl _) (by rw[hw.size];exact bC.size)⟩
    have hNC:w.heap.size+2≤wc.heap.size:=by have:=HE5.out.lt;omega
    clear HRM bC HE5 HRA5 HRB HL5 HPK2 HNA HNB hno hpk
    go_upto_region 8 with (first
     |(refine wpList_load_mid rfl 30 (.tmp 25) rfl NA 1 rfl [.int .u32 gA,.int .u32 tA,.slice aDA nDA cDA,.slice aUA nUA cUA] _ HRM'.out Tryz.underlying30 rfl HSN.out ?_)
     |(refine wpList_store_row rfl 30 (.tmp 5) (.tmp 26) rfl wc.heap.size #[.int .u32 gA,.int .u32 tA,.slice aDA nDA cDA,.slice aUA nUA cUA] rfl rfl 30 _ (heap_alloc_new wc _) HSN.out rfl (by simp[Value.oneCell']) ?_)
     |fail)
    try rw[World.setRow_alloc_new]
    generalize wc.alloc (.cells #[.int .u32 gA,.int .u32 tA,.slice aDA nDA cDA,.slice aUA nUA cUA] 30)=w6 at *;generalize wc.heap.size=NC at *;clear HRM';try dsimp only[Act.put]
    go_cut [42] from 43 (fun v ww=>v=.bool (!okA || (okB && decide (gA<gB)))∧ww=w6)
    case first=>
     have a0:=cell_of_row w6 NA 0 _ _ _ HRA6.out;have b0:=cell_of_row w6 NB 0 _ _ _ HRB6.out;have a1:=cell_of_row w6 NA 1 _ _ _ HRA6.out;have b1:=cell_of_row w6 NB 1 _ _ _ HRB6.out;simp at a0 b0 a1 b1;cases okA
     ·go_wp2
      go_meet
      case rel=>exact⟨rfl,rfl⟩
     ·cases okB
      ·go_wp2
       go_meet
       case rel=>exact⟨rfl,rfl⟩
      ·by_cases hg:gA<gB;all_goals
        go_wp2
        go_meet
        case rel=>exact⟨by simp[hg],rfl⟩
    case rest=>
     obtain⟨rfl,hwc⟩:=hcut;obtain rfl:wc=w6:=hwc
     go_upto_if 42 with fail
     generalize hpk:(!okA || (okB && decide (gA<gB)))=pk at *;try dsimp only[Act.put]
     go_cut [] from 43 (fun ww=>EY w #[.slice a Ln c,.slice x m cx,.int .i64 f,.bool d] #[.bool false,.int .u32 0,.int .u32 0,.slice none 0 0,.slice none 0 0,.slice none 0 0,.slice none 0 0,.slice none 0 0,.int .i64 0,.slice none 0 0,.int .u32 0] 36 ww∧SnB (w.heap.size+2) NC ww (nwK zs ps 2))
     case first=>
      cases pk with
      |false=>
       have hs:=HPK3.out;rw[if_neg (by simp)] at hs;have HS:=hid_ofL hs;clear hs;go_wp2
       go_meet
       case rel=>exact⟨HE6.out,by rw[HS.out];exact HSBA.out⟩
      |true=>
       have hs:=HPK3.out;rw[if_pos rfl] at hs;have HS:=hid_ofL hs;clear hs;have HRM:Hid (wc.rangeAt NB 1 [.int .u32 gB,.int .u32 tB,.slice aDB nDB cDB,.slice aUB nUB cUB]):=fun j v hj=>by
        have hj4:j<4:=by have:=(List.getElem?_eq_some_iff.1 hj).1;simpa using this
        rw[cell_of_row wc NB (1+j) _ _ _ HRB6.out];obtain rfl|rfl|rfl|rfl:j=0∨j=1∨j=2∨j=3:=by omega
        all_goals(simp at hj;subst hj;rfl)
       go_wp2_with (first
        |(refine wpList_load_mid rfl 30 (.tmp 43) rfl NB 1 rfl [.int .u32 gB,.int .u32 tB,.slice aDB nDB cDB,.slice aUB nUB cUB] _ HRM.out Tryz.underlying30 rfl HSN.out ?_)
        |(refine wpList_store_row rfl 30 (.tmp 5) (.tmp 44) rfl NC #[.int .u32 gB,.int .u32 tB,.slice aDB nDB cDB,.slice aUB nUB cUB] rfl rfl 30 _ HRC6.out HSN.out rfl (by simp[Value.oneCell']) ?_)
        |fail)
       go_meet
       case rel=>exact⟨HE6.out.wr (Wr.setRow _ _ _) hNC,by rw[HS.out];exact HSBB.out _ (Wr.setRow _ _ _) (setRow_heap _ _ _ _ _ _ HRC6.out)⟩
     case rest=>
      clear HE6 HRC6 HRA6 HRB6 HSBA HSBB HPK3 hpk
      rename World=>w7
      obtain⟨hE7,hS7⟩:=hcut;have HE7:=hid_ofL hE7;have hsn:=HNW.out HNO.out;have HI2:Hid (imG zs ps f=imR (nwK zs ps 2) (jrF zs ps J (nwK zs ps 2).t.toNat J)):=by show _=_;rw[HI.out,HIF.out,if_pos HNO.out]
      have HOK:=HNO.out;obtain⟨s,hs⟩:∃ s,nwK zs ps 2=s:=⟨_,rfl⟩
      rw[hs] at hS7 hsn HI2 HOK;obtain⟨so,sg,st,sD,sU⟩:=s;dsimp only at hS7 hsn HOK;subst HOK;obtain⟨aD,nD,cD,aU,nU,cU,hRC,k1,k2,k3,k4,k5,k6⟩:=hS7;dsimp only at hRC k1 k2 k3 k4;have HRC:=hid_ofL hRC;have HLC:=hid_ofL (Array.getElem?_eq_some_iff.1 hRC).1;have HL7:=hid_ofL (And.intro k1 (And.intro k2 (And.intro k5 k6)));obtain⟨q1,q2,q3,q4,q5,q6⟩:=hsn;have hst0:0≤st:=by omega
      have HLN:Hid (sD.length=nD∧sU.length=nU∧nD≤16∧nU≤256):=⟨k3,k4,by omega,by have:=q6.le;omega⟩
      have HFB:=hid_ofL (jrF_frb zs ps J HJR.out J st.toNat);have HFN:=hid_ofL (jrF_len zs ps J J st.toNat);have HSTP:StP sD sU (nU:Int) [] 0:=by rw[←k4];exact SnP.st ⟨q1,q2,q3,q4,q5,q6⟩
      have HST:=hid_ofL HSTP;have HRD:Hid (∀ ww,Below w.heap.size w ww→Calls Tryz.prog 17 #[.agg #[.slice a Ln c,.slice x m cx,.int .i64 f,.bool d],.int .u32 st,.int .i64 (J:Int)] ww fun e w'=>∃ v,e=.returned v∧FW ww.heap.size w' v (jrF zs ps J st.toNat J)∧Below ww.heap.size ww w'):=fun ww b=>by
       have:=HRD0.out ww st.toNat (by omega) b;rw[Int.toNat_of_nonneg hst0] at this;exact this
      have HAS:=hid_ofL (apK_st (r:=⟨true,sD,sU,(nU:Int),[],0⟩) HFB.out HSTP rfl);dsimp only at HI2;clear hE7 hRC k1 k2 k3 k4 k5 k6 HSTP HRD0 HNW HNO HI HIF hs HJR q1 q2 q4 q5 q6;generalize jrF zs ps J st.toNat J=F at *
      go_upto_region 10 with fail
      refine wp_region_any (by kernel_rfl) ?_;refine wpAny_slotsU (fun _ a b=>Below a.heap.size a b) (frame:=(fun (a b c d e f g h i j k l m n o p q r s u v w x y z A B C D E F G H I J K L M N O P Q R S T U V W X Y Z a0 a1 a2 a3 a4 a5 a6 a7 a8 a9 b0 b1:Value)=>fun (t:Nat→Value)=>({ tmps:=List.toArray [a,b,c,d,e,f,t 6,g,h,i,j,k,l,m,n,o,p,q,r,s,u,v,w,x,y,z,A,B,C,D,E,F,G,H,I,J,K,L,M,N,O,P,Q,R,S,t 0,t 1,t 2,t 3,t 4,t 5,T,U,V,W,X,Y,Z,a0,a1,a2,a3,a4,a5,a6,a7,a8,a9,b0,b1],defers:=[] }:Act)) _ _ _ _ _ _ _ _ _ _ _ _ _ _ _ _ _ _ _ _ _ _ _ _ _ _ _ _ _ _ _ _ _ _ _ _ _ _ _ _ _ _ _ _ _ _ _ _ _ _ _ _ _ _ _ _ _ _ _ _ _ _ _)
       (Ext:=fun L u w'=>ApX w7 [] L u w') (Good:=fun i L w' v=>if i=0 then v=.agg #[.slice a Ln c,.slice x m cx,.int .i64 f,.bool d] else if i=1 then v=.pointer (some ⟨NC,1,none⟩) else if i=2 then v=.int .u32 st else if i=3 then v=.agg #[.slice a Ln c,.slice x m cx,.int .i64 f,.bool d] else if i=4 then v=.int .i64 (J:Int) else if i=5 then FW (w.heap.size+2) w' v F else if i=6 then FW (w.heap.size+2) w' v F else True) ?hstab (by kernel_rfl) ?hop ?hdone _ _ ((fun (x0 x1 x2 x3 x4 x5 x6:Value)=>fun (i:Nat)=>if i=0 then x0 else if i=1 then x1 else if i=2 then x2 else if i=3 then x3 else if i=4 then x4 else if i=5 then x5 else if i=6 then x6 else undef) _ _ _ _ _ _ _) _ (by simp) ?ext ?start (by simp)
      case start=>intro i hi h;exact absurd h (by rw[Array.getD_eq_getD_getElem?,Array.getElem?_replicate];split<;>simp)
      case ext=>exact(ApX.start w7 [] _ _ (fun i=>by rw[Array.getD_eq_getD_getElem?,Array.getElem?_replicate];split<;>rfl)).drew
      case hstab=>
       intro j L w9 w' i v hM _ _ h;by_cases h5:j=5
       ·subst h5;simp at h ⊢;exact h.below hM
       by_cases h6:j=6
       ·subst h6;simp at h ⊢;exact h.below hM
       simp only[if_neg h5,if_neg h6] at h ⊢;exact h
      case hop=>
       intro i o L t w' ho hLi hx hdep K hK;have hi:i<7:=(Array.getElem?_eq_some_iff.1 ho).1;obtain rfl|rfl|rfl|rfl|rfl|rfl|rfl:i=0∨i=1∨i=2∨i=3∨i=4∨i=5∨i=6:=by omega
       all_goals(simp at ho;subst ho)
       ·clear hdep;have hr:w'.heap[w.heap.size]?=some (.cells #[.slice a Ln c,.slice x m cx,.int .i64 f,.bool d] 40 (0,0)):=by rw[hx.below.block _ (by have:=HE7.out.lt;omega)];exact HE7.out.dev
        have hK':=hK w' (.agg #[.slice a Ln c,.slice x m cx,.int .i64 f,.bool d]) (by simp) (hx.step 0 _ (Below.refl _ _) (fun h=>absurd h (by decide))) (Below.refl _ _);clear hK;rw[if_pos (by rfl)];refine wp_load_row 40 (.tmp 1) rfl (w.heap.size) rfl 40 _ (0,0) _ hr Tryz.underlying40 rfl HSD.out ?_;simpa[upd,Act.put] using hK'
       ·clear hdep;have hK':=hK w' (.pointer (some ⟨NC,1,none⟩)) (by simp) (hx.step 1 _ (Below.refl _ _) (fun h=>absurd h (by decide))) (Below.refl _ _);clear hK;rw[if_pos (by rfl)];go_simp;simpa[upd] using hK'
       ·have d1:t 1=.pointer (some ⟨NC,1,none⟩):=by simpa using(hdep ⟨1,.data⟩ (by simp) rfl).2
        clear hdep;have cc:w'.cell? ⟨NC,1,none⟩=some (.int .u32 st):=by rw[hx.below.cell (p:=⟨NC,1,none⟩) HLC.out,cell_of_row _ _ _ _ _ _ HRC.out];rfl
        have hK':=hK w' (.int .u32 st) (by simp) (hx.step 2 _ (Below.refl _ _) (fun h=>absurd h (by decide))) (Below.refl _ _);clear hK;rw[if_pos (by rfl)];go_simp;simpa[upd,d1] using hK'
       ·clear hdep;have hr:w'.heap[w.heap.size]?=some (.cells #[.slice a Ln c,.slice x m cx,.int .i64 f,.bool d] 40 (0,0)):=by rw[hx.below.block _ (by have:=HE7.out.lt;omega)];exact HE7.out.dev
        have hK':=hK w' (.agg #[.slice a Ln c,.slice x m cx,.int .i64 f,.bool d]) (by simp) (hx.step 3 _ (Below.refl _ _) (fun h=>absurd h (by decide))) (Below.refl _ _);clear hK;rw[if_pos (by rfl)];refine wp_load_row 40 (.tmp 1) rfl (w.heap.size) rfl 40 _ (0,0) _ hr Tryz.underlying40 rfl HSD.out ?_;simpa[upd,Act.put] using hK'
       ·have d3:t 3=.agg #[.slice a Ln c,.slice x m cx,.int .i64 f,.bool d]:=by simpa using(hdep ⟨3,.data⟩ (by simp) rfl).2
        clear hdep;have A:=HJ.out w';have hK':∀ ww,Below w'.heap.size w' ww→K _ ww:=fun ww hb=>hK ww (.int .i64 (J:Int)) (by simp) (hx.step 4 _ hb (fun h=>absurd h (by decide))) hb
        clear hK;rw[if_pos (by rfl)];go_simp;try simp only[d3]
        refine A.mono ?_;rintro e w9 ⟨rfl,hb9⟩;have hK2:=hK' w9 hb9;clear hK' A hb9;go_simp;simpa[upd,d3] using hK2
       ·have d0:t 0=.agg #[.slice a Ln c,.slice x m cx,.int .i64 f,.bool d]:=by simpa using(hdep ⟨0,.data⟩ (by simp) rfl).2
        have d2:t 2=.int .u32 st:=by simpa using(hdep ⟨2,.data⟩ (by simp) rfl).2
        have d4:t 4=.int .i64 (J:Int):=by simpa using(hdep ⟨4,.data⟩ (by simp) rfl).2
        clear hdep;have bw:Below w.heap.size w w':=HE7.out.bel.trans (hx.below.mono HE7.out.bel.size);have hz:=HE7.out.lt;have hz2:=hx.below.size;have A:=HRD.out w' bw;have hK':∀ ww v,FW (w.heap.size+2) ww v F→Below w'.heap.size w' ww→K _ ww:=fun ww v hv hb=>hK ww v (by simpa using hv) (hx.step 5 v hb (fun h=>absurd h (by decide))) hb
        clear hK;rw[if_pos (by rfl)];go_simp;try simp only[d0,d2,d4]
        refine A.mono ?_;rintro e w9 ⟨v9,rfl,p9,hb9⟩;have hK2:=hK' w9 v9 (p9.mono (by omega)) hb9;clear hK' A p9 hb9;go_simp;simpa[upd,d0,d2,d4] using hK2
       ·have f5:FW (w.heap.size+2) w' (t 5) F:=by simpa using(hdep ⟨5,.data⟩ (by simp) rfl).2
        clear hdep;have hK':=hK w' (t 5) (by simpa using f5) (hx.step 6 _ (Below.refl _ _) (fun h=>absurd h (by decide))) (Below.refl _ _);clear hK;rw[if_pos (by rfl)];go_simp;simpa[upd] using hK'
      case hdone=>
       intro L t w8 hx hg;have f6:FW (w.heap.size+2) w8 (t 6) F:=by simpa using hg 6 (by decide)
       have HE8:=hid_ofL (HE7.out.below hx.below);have HC8:Hid (w8.heap[NC]?=some (.cells #[.int .u32 sg,.int .u32 st,.slice aD nD cD,.slice aU nU cU] 30 (0,0))∧At .i64 w8 aD sD∧At .i64 w8 aU sU∧Lies (w.heap.size+2) w8 aD∧Lies (w.heap.size+2) w8 aU):=⟨by rw[hx.below.block _ HLC.out];exact HRC.out,HL7.out.1.below hx.below,HL7.out.2.1.below hx.below,HL7.out.2.2.1.mono (Nat.le_refl _) hx.below.size,HL7.out.2.2.2.mono (Nat.le_refl _) hx.below.size⟩
       obtain⟨gF,mF,cF,e6,hgF,hFl,hFc,hFlt,hFcell⟩:=f6;have HFF:Hid (FW (w.heap.size+2) w8 (.slice (some ⟨gF,0,none⟩) mF cF) F):=⟨gF,mF,cF,rfl,hgF,hFl,hFc,hFlt,hFcell⟩
       have hmF:mF≤252:=by
        obtain⟨k,hk,e⟩:=HFN.out;omega
       dsimp only;rw[e6];have HFL:=hid_ofL hFl;clear e6 hg hx hFl hFc hFcell HRD HJ HRC HLC HE7 HL7 HFN;have A:=hid_ofL (sto_any sg st aD aU nD cD nU cU sD sU w8 HLN.out.1 HLN.out.2.1 (by have:=HLN.out.2.2.1;omega) (by have:=HLN.out.2.2.2;omega) HC8.out.2.1 HC8.out.2.2.1);go_wp2_with (first
        |(refine wpList_load_row rfl 30 (.tmp 5) rfl NC rfl 30 _ (0,0) _ HC8.out.1 Tryz.underlying30 rfl HSN.out ?_)
        |fail)
       refine A.out.mono ?_;rintro e w9 ⟨cs,rfl,hcp,b9⟩;obtain⟨pD,lD,qD,pU,lU,qU,pT,qT,rfl,i1,i2,i3⟩:=hcp;have hz8:=HE8.out.lt;have HWV:Hid (WPV w8.heap.size w9 (.agg #[.bool true,.slice pD lD qD,.slice pU lU qU,.int .i64 (nU:Int),.slice pT 0 qT]) ⟨true,sD,sU,nU,[],0⟩):=cp_wpv i1 i2 i3;have HE9:=hid_ofL (HE8.out.below b9);have HC9:Hid (w9.heap[NC]?=some (.cells #[.int .u32 sg,.int .u32 st,.slice aD nD cD,.slice aU nU cU] 30 (0,0))∧At .i64 w9 aD sD∧At .i64 w9 aU sU∧Lies (w.heap.size+2) w9 aD∧Lies (w.heap.size+2) w9 aU):=⟨by rw[b9.block _ (Array.getElem?_eq_some_iff.1 HC8.out.1).1];exact HC8.out.1,HC8.out.2.1.below b9,HC8.out.2.2.1.below b9,HC8.out.2.2.2.1.mono (Nat.le_refl _) b9.size,HC8.out.2.2.2.2.mono (Nat.le_refl _) b9.size⟩
       have HF9:=hid_ofL (HFF.out.below b9);have hz9:=b9.size;have B:=hid_ofL (thr_any pD pU pT lD qD lU qU 0 qT sD sU (nU:Int) [] (some ⟨gF,0,none⟩) mF cF F w9 w8.heap.size _ rfl HWV.out hz9 HST.out rfl (HF9.out.fatS) HFL.out (by omega) HFB.out);clear A b9 i1 i2 i3 HE8 HC8 HFF HWV;go_wp2_with fail;refine B.out.mono ?_;rintro e w10 ⟨v10,rfl,hv10,b10⟩;have HR1:Hid (imA ⟨true,sg,st,sD,sU⟩ F=apK ⟨true,sD,sU,(nU:Int),[],0⟩ F mF):=by
        show apK _ _ _=_
        rw[HFL.out,Nat.mul_div_cancel _ (by decide),HLN.out.2.1]
       have hstR:=HAS.out mF (by rw[HFL.out];exact Nat.le_refl _);obtain⟨r1,hr1⟩:∃ r,apK ⟨true,sD,sU,(nU:Int),[],0⟩ F mF=r:=⟨_,rfl⟩
       rw[hr1] at hv10 HR1 hstR;obtain⟨bD,mD,kD,bU,mU,kU,bT,mT,kT,rfl,g1,g2,g3,g4,g5,g6,t1,t2,t3,c1,c2⟩:=hv10;have HE10:=hid_ofL (HE9.out.below b10);have HC10:Hid (w10.heap[NC]?=some (.cells #[.int .u32 sg,.int .u32 st,.slice aD nD cD,.slice aU nU cU] 30 (0,0))∧At .i64 w10 aD sD∧At .i64 w10 aU sU∧Lies (w.heap.size+2) w10 aD∧Lies (w.heap.size+2) w10 aU):=⟨by rw[b10.block _ (Array.getElem?_eq_some_iff.1 HC9.out.1).1];exact HC9.out.1,HC9.out.2.1.below b10,HC9.out.2.2.1.below b10,HC9.out.2.2.2.1.mono (Nat.le_refl _) b10.size,HC9.out.2.2.2.2.mono (Nat.le_refl _) b10.size⟩
       have HF10:=hid_ofL (HF9.out.below b10);have HG:=hid_ofL (And.intro (And.intro g1 (And.intro g2 g3)) (And.intro (And.intro g4 (And.intro g5 g6)) (And.intro t1 (And.intro t2 t3))));have HSTR:=hid_ofL hstR;clear B b10 g1 g2 g3 g4 g5 g6 t1 t2 t3 c1 c2 HE9 HC9 HF9 hr1 hstR HAS
       go_upto_region 12 with (first
        |(refine wpList_store_row rfl 56 (.tmp 7) (.tmp 54) rfl w10.heap.size #[.bool r1.ok,.slice bD mD kD,.slice bU mU kU,.int .i64 r1.k,.slice bT mT kT] rfl rfl 56 _ (heap_alloc_new w10 _) HSA.out rfl (by simp[Value.oneCell']) ?_)
        |fail)
       try rw[World.setRow_alloc_new]
       have bb:Below w10.heap.size w10 (w10.alloc (.cells #[.bool r1.ok,.slice bD mD kD,.slice bU mU kU,.int .i64 r1.k,.slice bT mT kT] 56)):=(Below.refl _ _).alloc (Nat.le_refl _) _;have HRT:Hid ((w10.alloc (.cells #[.bool r1.ok,.slice bD mD kD,.slice bU mU kU,.int .i64 r1.k,.slice bT mT kT] 56)).heap[w10.heap.size]?=some (.cells #[.bool r1.ok,.slice bD mD kD,.slice bU mU kU,.int .i64 r1.k,.slice bT mT kT] 56 (0,0))):=heap_alloc_new w10 _;have HE11:=hid_ofL (HE10.out.below bb);have HR11:=hid_ofL (show(w10.alloc (.cells #[.bool r1.ok,.slice bD mD kD,.slice bU mU kU,.int .i64 r1.k,.slice bT mT kT] 56)).heap[NC]?=some (.cells #[.int .u32 sg,.int .u32 st,.slice aD nD cD,.slice aU nU cU] 30 (0,0)) by rw[bb.block _ (Array.getElem?_eq_some_iff.1 HC10.out.1).1];exact HC10.out.1);have HV11:Hid (At .i64 (w10.alloc (.cells #[.bool r1.ok,.slice bD mD kD,.slice bU mU kU,.int .i64 r1.k,.slice bT mT kT] 56)) aD sD∧At .i64 (w10.alloc (.cells #[.bool r1.ok,.slice bD mD kD,.slice bU mU kU,.int .i64 r1.k,.slice bT mT kT] 56)) aU sU∧FW (w.heap.size+2) (w10.alloc (.cells #[.bool r1.ok,.slice bD mD kD,.slice bU mU kU,.int .i64 r1.k,.slice bT mT kT] 56)) (.slice (some ⟨gF,0,none⟩) mF cF) F∧At .i64 (w10.alloc (.cells #[.bool r1.ok,.slice bD mD kD,.slice bU mU kU,.int .i64 r1.k,.slice bT mT kT] 56)) bD r1.D∧At .i64 (w10.alloc (.cells #[.bool r1.ok,.slice bD mD kD,.slice bU mU kU,.int .i64 r1.k,.slice bT mT kT] 56)) bU r1.U∧At .i64 (w10.alloc (.cells #[.bool r1.ok,.slice bD mD kD,.slice bU mU kU,.int .i64 r1.k,.slice bT mT kT] 56)) bT r1.T):=⟨HC10.out.2.1.below bb,HC10.out.2.2.1.below bb,HF10.out.below bb,HG.out.1.1.below bb,HG.out.1.2.1.below bb,HG.out.1.2.2.below bb⟩
       have HLI:Hid (Lies (w.heap.size+2) w10 aD∧Lies (w.heap.size+2) w10 aU∧Lies (w.heap.size+2) w10 bD∧Lies (w.heap.size+2) w10 bU∧Lies (w.heap.size+2) w10 bT):=⟨HC10.out.2.2.2.1,HC10.out.2.2.2.2,HG.out.2.2.1.mono (by omega) (Nat.le_refl _),HG.out.2.2.2.1.mono (by omega) (Nat.le_refl _),HG.out.2.2.2.2.mono (by omega) (Nat.le_refl _)⟩
       have HLE:=hid_ofL HG.out.2.1;clear HG HE10 HC10 HF10 bb;generalize w10.alloc (.cells #[.bool r1.ok,.slice bD mD kD,.slice bU mU kU,.int .i64 r1.k,.slice bT mT kT] 56)=w11 at *;generalize w10.heap.size=NT at *;cases hok:r1.ok with
       |false=>
        have HI3:Hid (imG zs ps f=imNo):=by show _=_;rw[HI2.out];unfold imR;rw[if_neg (by rw[HR1.out,hok];simp)]
        have cT:=cell_of_row w11 NT 0 _ _ _ HRT.out;simp[hok] at cT;clear HI2 HR1 HSTR HLE HV11 HLI HRT HR11;go_wp2_with (first
         |(refine wpList_store_row rfl 36 (.tmp 2) (.tmp 58) rfl (w.heap.size+1) #[.bool false,.int .u32 0,.int .u32 0,.slice none 0 0,.slice none 0 0,.slice none 0 0,.slice none 0 0,.slice none 0 0,.int .i64 0,.slice none 0 0,.int .u32 0] rfl rfl 36 _ HE11.out.res HSI.out rfl (by simp[Value.oneCell']) ?_)
         |fail)
        (try simp only[Exit.inBlock,Exit.then])
        exact bodyPost_ret (v:=.agg #[.bool false,.int .u32 0,.int .u32 0,.slice none 0 0,.slice none 0 0,.slice none 0 0,.slice none 0 0,.slice none 0 0,.int .i64 0,.slice none 0 0,.int .u32 0]) (results_cell_row rfl _ _ (w.heap.size+1) 36 _ (0,0) _ rfl (setRow_heap _ _ _ _ _ _ HE11.out.res) Tryz.underlying36 rfl HSI.out) rfl ⟨_,rfl,by rw[HI3.out];exact ImW.no _,HE11.out.bel.trans ((Wr.setRow _ _ _).below (Nat.le_succ _))⟩
       |true=>
        obtain⟨hs1,hs2⟩:=HSTR.out hok;have hmT:r1.n=mT:=by have:=HLE.out.2.2;omega
        have HI3:Hid (imG zs ps f=⟨true,sg,st,sD,sU,F,r1.D,r1.U,r1.k,r1.T,mT,st+mF⟩):=by
         show _=_
         rw[HI2.out];unfold imR;rw[if_pos (by rw[HR1.out,hok]),HR1.out,HFL.out,Nat.mul_div_cancel _ (by decide),hmT]
        have cT:=cell_of_row w11 NT 0 _ _ _ HRT.out;simp[hok] at cT;have hra:w11.rangeAt NT 1 [.slice bD mD kD,.slice bU mU kU,.int .i64 r1.k,.slice bT mT kT]:=fun j v hj=>by
         have hj4:j<4:=by have:=(List.getElem?_eq_some_iff.1 hj).1;simpa using this
         rw[cell_of_row w11 NT (1+j) _ _ _ HRT.out];obtain rfl|rfl|rfl|rfl:j=0∨j=1∨j=2∨j=3:=by omega
         all_goals(simp at hj;subst hj;rfl)
        have HRA:=hid_ofL hra;have c1:=cell_of_row w11 NC 1 _ _ _ HR11.out;simp at c1;have ew:(st+(mF:Int))%4294967296=st+mF:=by omega
        have ew0:(mF:Int)%4294967296=mF:=by omega
        have HO:=hid_ofL hok;clear HI2 HR1 HSTR hra hs1 hs2 hmT hok;go_wp2_with (first
         |(refine wpList_load_row rfl 30 (.tmp 5) rfl NC rfl 30 _ (0,0) _ HR11.out Tryz.underlying30 rfl HSN.out ?_)
         |(refine wpList_load_mid rfl 34 (.tmp 61) rfl NT 1 rfl [.slice bD mD kD,.slice bU mU kU,.int .i64 r1.k,.slice bT mT kT] _ HRA.out Tryz.underlying34 rfl HSS.out ?_)
         |(refine wpList_store_row rfl 36 (.tmp 2) (.tmp 69) rfl (w.heap.size+1) #[.bool true,.int .u32 sg,.int .u32 st,.slice aD nD cD,.slice aU nU cU,.slice (some ⟨gF,0,none⟩) mF cF,.slice bD mD kD,.slice bU mU kU,.int .i64 r1.k,.slice bT mT kT,.int .u32 (st+mF)] rfl rfl 36 _ HE11.out.res HSI.out rfl (by simp[Value.oneCell']) ?_)
         |fail)
        (try simp only[Exit.inBlock,Exit.then])
        refine bodyPost_ret (v:=.agg #[.bool true,.int .u32 sg,.int .u32 st,.slice aD nD cD,.slice aU nU cU,.slice (some ⟨gF,0,none⟩) mF cF,.slice bD mD kD,.slice bU mU kU,.int .i64 r1.k,.slice bT mT kT,.int .u32 (st+mF)]) (results_cell_row rfl _ _ (w.heap.size+1) 36 _ (0,0) _ rfl (setRow_heap _ _ _ _ _ _ HE11.out.res) Tryz.underlying36 rfl HSI.out) rfl ⟨_,rfl,?_,HE11.out.bel.trans ((Wr.setRow _ _ _).below (Nat.le_succ _))⟩;rw[HI3.out];have hw:=Wr.setRow (w.heap.size+1) w11 #[.bool true,.int .u32 sg,.int .u32 st,.slice aD nD cD,.slice aU nU cU,.slice (some ⟨gF,0,none⟩) mF cF,.slice bD mD kD,.slice bU mU kU,.int .i64 r1.k,.slice bT mT kT,.int .u32 (st+mF)];obtain⟨v1,v2,v3,v4,v5,v6⟩:=HV11.out;obtain⟨l1,l2,l3,l4,l5⟩:=HLI.out;obtain⟨gF',mF',cF',e',h1,h2,h3,h4,h5⟩:=v3;injection e' with e1 e2 e3
        injection e1 with e1
        injection e1 with e1
        subst e1 e2 e3;exact⟨aD,nD,cD,aU,nU,cU,some ⟨gF,0,none⟩,mF,cF,bD,mD,kD,bU,mU,kU,bT,kT,rfl,v1.wrL l1 hw,v2.wrL l2 hw,.inr ⟨gF,0,rfl,by rw[hw.size];exact h4,fun i hi=>by rw[Nat.zero_add,World.cell?_of_block (a:=⟨gF,i,none⟩) (w:=w11) (hw.block gF (by omega))];exact h5 i hi⟩,v4.wrL l3 hw,v5.wrL l4 hw,v6.wrL l5 hw,HLN.out.1,HLN.out.2.1,HFL.out,HLE.out.1,HLE.out.2.1,HLE.out.2.2⟩
end Go.Proofs.YtfkmfmnfnenbjaaGreat
