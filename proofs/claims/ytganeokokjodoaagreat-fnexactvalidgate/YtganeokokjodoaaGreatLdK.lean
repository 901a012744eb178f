import Derived.Test.YtganeokokjodoaaGreatMApV
import Derived.Test.YtganeokokjodoaaGreatMSwB
import Derived.Test.YtganeokokjodoaaGreatMSnV
namespace Go.Proofs.YtganeokokjodoaaGreat
open Go.ChangeShapes Go.WideShapes Go.ChangeAt Go.RowKit
set_option linter.unusedVariables false
structure EX (w:World) (cs:Array Value) (wr:World):Prop where
 bel:Below w.heap.size w wr
 dev:wr.heap[w.heap.size]?=some (.cells cs 40 (0,0))
 res:wr.heap[w.heap.size+1]?=some (.cells #[.bool false,.int .u32 0,.int .u32 0,.slice none 0 0,.slice none 0 0,.slice none 0 0,.slice none 0 0,.slice none 0 0,.int .i64 0,.slice none 0 0,.int .u32 0] 36 (0,0))
theorem EX.lt {w wr:World} {cs:Array Value} (h:EX w cs wr):w.heap.size+1<wr.heap.size:=(Array.getElem?_eq_some_iff.1 h.res).1
theorem EX.keep {w wr w':World} {cs:Array Value} {H:Nat} (h:EX w cs wr) (b:Below H wr w') (hH:w.heap.size+2≤H):EX w cs w':=
 ⟨h.bel.trans (b.mono (by omega)),by rw[b.block _ (by omega)];exact h.dev,by rw[b.block _ (by omega)];exact h.res⟩
theorem EX.below {w wr w':World} {cs:Array Value} (h:EX w cs wr) (b:Below wr.heap.size wr w'):EX w cs w':=h.keep b h.lt
theorem EX.start (w:World) (cs:Array Value):EX w cs ((w.alloc (.cells cs 40)).alloc (.cells #[.bool false,.int .u32 0,.int .u32 0,.slice none 0 0,.slice none 0 0,.slice none 0 0,.slice none 0 0,.slice none 0 0,.int .i64 0,.slice none 0 0,.int .u32 0] 36)):=by
 refine⟨((Below.refl _ _).alloc (Nat.le_refl _) _).alloc (by simp) _,?_,?_⟩
 ·rw[Below.heap_alloc _ _ w.heap.size (by simp)];exact heap_alloc_new w _
 ·have:=heap_alloc_new (w.alloc (.cells cs 40)) (.cells #[.bool false,.int .u32 0,.int .u32 0,.slice none 0 0,.slice none 0 0,.slice none 0 0,.slice none 0 0,.slice none 0 0,.int .i64 0,.slice none 0 0,.int .u32 0] 36);rw[World.size_alloc] at this;exact this
theorem S3.wr {lo R:Nat} {w w':World} {aD aU aT:Option Addr} {nD nU nT:Nat} {D U T:List Int} (h:S3 lo w aD aU aT nD nU nT D U T) (hw:Wr R w w') (hR:R<lo):S3 lo w' aD aU aT nD nU nT D U T:=h.keep (by rw[hw.size];exact Nat.le_refl _) (fun k hk _=>hw.block k (by omega))
theorem lies_lt {lo n c K:Nat} {w:World} {a:Option Addr} (h:Lies lo w a) (hs:w.heap.size≤K):∀ k,(Value.slice a n c).ownBlock=some k→k<K:=fun k hk=>by
 cases a with
 |none=>cases hk
 |some ad=>cases hk;have:=(h ad rfl).2;omega
def StQ (lo:Nat) (r:ApR) (aT:Option Addr) (cT:Nat) (w:World) (v:Value):Prop:=∃ aD nD cD aU nU cU,v=.agg #[.slice aD nD cD,.slice aU nU cU,.int .i64 r.k,.slice aT r.n cT]∧Iow lo w (.slice aD nD cD) r.D∧Iow lo w (.slice aU nU cU) r.U∧Aprt aD aU
theorem StQ.below {lo:Nat} {r:ApR} {aT:Option Addr} {cT:Nat} {w w':World} {v:Value} (h:StQ lo r aT cT w v) (b:Below w.heap.size w w'):StQ lo r aT cT w' v:=by
 obtain⟨aD,nD,cD,aU,nU,cU,e,h1,h2,h3⟩:=h;exact⟨aD,nD,cD,aU,nU,cU,e,h1.below b,h2.below b,h3⟩
theorem ApV.aprt {aD aU:Option Addr} {nD cD nU cU:Nat} (h:ApV (.slice aD nD cD) (.slice aU nU cU)):Aprt aD aU:=fun x y hx hy e=>by
 subst hx;subst hy
 exact h x.block rfl (by show some y.block=some x.block;rw[e])
def ImB (hd:List Value) (lo:Nat) (r:ApR) (aT:Option Addr) (cT:Nat) (nx:Value) (w:World) (v:Value):Prop:=∃ aD nD cD aU nU cU,v=.agg (hd++[.slice aD nD cD,.slice aU nU cU,.int .i64 r.k,.slice aT r.n cT,nx]).toArray∧Iow lo w (.slice aD nD cD) r.D∧Iow lo w (.slice aU nU cU) r.U∧Aprt aD aU
theorem ImB.below {hd:List Value} {lo:Nat} {r:ApR} {aT:Option Addr} {cT:Nat} {nx:Value} {w w':World} {v:Value} (h:ImB hd lo r aT cT nx w v) (b:Below w.heap.size w w'):ImB hd lo r aT cT nx w' v:=by
 obtain⟨aD,nD,cD,aU,nU,cU,e,h1,h2,h3⟩:=h;exact⟨aD,nD,cD,aU,nU,cU,e,h1.below b,h2.below b,h3⟩
def FinI (R:Nat) (hd:List Value) (lo:Nat) (r:ApR) (aT:Option Addr) (cT:Nat) (nx:Value) (W:World) (u:Nat→Value) (w:World):Prop:=∃ aD nD cD aU nU cU,w.heap[R]?=some (.cells (hd++[.slice aD nD cD,.slice aU nU cU,.int .i64 r.k,.slice aT r.n cT,nx]).toArray 36 (0,0))∧Iow lo w (.slice aD nD cD) r.D∧Iow lo w (.slice aU nU cU) r.U∧Aprt aD aU∧∃ w',Below W.heap.size W w'∧Wr R w' w
set_option maxRecDepth 100000 in
set_option maxHeartbeats 8000000 in
theorem ild_any (a x:Option Addr) (L c m cx:Nat) (f:Int) (d:Bool) (zs:List Int) (ps:List PD) (w:World) (hl:zs.length=L) (hm:ps.length=m) (hA:At .u8 w a zs) (hP:PAt w x ps) (hc:L≤c) (hL:L≤1048576) (hM:m≤1048576) (hps:∀ i,(ps.getD i (0,[])).2.length≤1048576) (bz:Byte zs) (bp:∀ i,Byte (ps.getD i (0,[])).2) :
  Calls Tryz.prog 8 #[.agg #[.slice a L c,.slice x m cx,.int .i64 f,.bool d]] w fun e w'=>∃ v,e=.returned v∧ImV w.heap.size w' v (imG zs ps f)∧Below w.heap.size w w':=by
 have HE0:=hid_ofL (EX.start w #[.slice a L c,.slice x m cx,.int .i64 f,.bool d])
 have HAP:=hid_ofL (And.intro hA hP)
 have HSD:Hid ((Tryz.prog.info? 40).map (·.size)=some 4):=by show _=_;kernel_rfl
 have HSI:Hid ((Tryz.prog.info? 36).map (·.size)=some 11):=by show _=_;kernel_rfl
 have HSR:Hid ((Tryz.prog.info? 67).map (·.size)=some 5):=by show _=_;kernel_rfl
 have HSB:Hid ((Tryz.prog.info? 82).map (·.size)=some 66):=by show _=_;kernel_rfl
 have HV:=hid_ofL (fun ww (b:Below w.heap.size w ww)=>ival_any (.agg #[.slice a L c,.slice x m cx,.int .i64 f,.bool d]) zs ps f d ww ⟨a,c,x,cx,by rw[hl,hm],hA.below b,hP.below b,by rw[hl];exact hc⟩ (by omega) (by omega) hps)
 have HFF:=hid_ofL (fun (hv:validB L ps f=true)=>(⟨hl,hm,hv,hc,bz,bp⟩:DvF L c m f zs ps))
 have HIG:Hid (imG zs ps f=if validB L ps f=true then imF zs ps (L/64-4) else imNo):=by show _=_;unfold imG;rw[hl]
 clear hA hP hps bz bp
 go_enter Tryz.func8,Tryz.ntmps8
 go_upto_region 1 with fail
 generalize (w.alloc (.cells #[.slice a L c,.slice x m cx,.int .i64 f,.bool d] 40)).alloc (.cells #[.bool false,.int .u32 0,.int .u32 0,.slice none 0 0,.slice none 0 0,.slice none 0 0,.slice none 0 0,.slice none 0 0,.int .i64 0,.slice none 0 0,.int .u32 0] 36)=w0 at *
 go_wp2_with (first
  |(refine wpList_load_row rfl 40 (.tmp 1) rfl w.heap.size rfl 40 _ (0,0) _ HE0.out.dev Tryz.underlying40 rfl HSD.out ?_)
  |fail)
 refine(HV.out w0 HE0.out.bel).mono ?_
 rintro e w1 ⟨rfl,b1⟩
 rw[hl]
 have HE1:=hid_ofL (HE0.out.below b1)
 clear HE0 HV b1
 cases hv:validB L ps f with
 |false=>
  have HI:Hid (imG zs ps f=imNo):=by show _=_;rw[HIG.out,hv];rfl
  clear HIG HFF;go_wp2_with (first
   |(refine wpList_store_row rfl 36 (.tmp 2) (.tmp 11) rfl (w.heap.size+1) #[.bool false,.int .u32 0,.int .u32 0,.slice none 0 0,.slice none 0 0,.slice none 0 0,.slice none 0 0,.slice none 0 0,.int .i64 0,.slice none 0 0,.int .u32 0] rfl rfl 36 _ HE1.out.res HSI.out rfl (by simp[Value.oneCell']) ?_)
   |fail)
  (try simp only[Exit.inBlock,Exit.then])
  exact bodyPost_ret (v:=.agg #[.bool false,.int .u32 0,.int .u32 0,.slice none 0 0,.slice none 0 0,.slice none 0 0,.slice none 0 0,.slice none 0 0,.int .i64 0,.slice none 0 0,.int .u32 0]) (results_cell_row rfl _ _ (w.heap.size+1) 36 _ (0,0) _ rfl (setRow_heap _ _ _ _ _ _ HE1.out.res) Tryz.underlying36 rfl HSI.out) rfl ⟨_,rfl,by rw[HI.out];exact ImV.no _ _,HE1.out.bel.trans ((Wr.setRow _ _ _).below (Nat.le_succ _))⟩
 |true=>
  have F:=HFF.out hv;have HI:Hid (imG zs ps f=imF zs ps (L/64-4)):=by show _=_;rw[HIG.out,if_pos hv]
  have HF:=hid_ofL F;have HDI:=hid_ofL (fun ww (e:EX w #[.slice a L c,.slice x m cx,.int .i64 f,.bool d] ww)=>(⟨e.dev,HAP.out.1.below e.bel,HAP.out.2.below e.bel⟩:DvI ww w.heap.size a x L c m cx f d zs ps));have A:=hid_ofL (newest_any (HDI.out w1 HE1.out) F);have HJR:=hid_ofL (fun q=>(F.jr q).2);have hJ2:L/64-4≤252:=by have:=F.base;omega
  clear HFF HIG F hv HAP;go_wp2_with fail;refine A.out.mono ?_;rintro e w2 ⟨v2,rfl,hv2,b2⟩;obtain⟨aSD,nSD,cSD,aSU,nSU,cSU,rfl,s3⟩:=hv2;have HE2:=hid_ofL (HE1.out.below b2);have HS2:=hid_ofL s3;have hz12:=b2.size;have hz1:=HE1.out.lt;have HNW:=hid_ofL (nwK_snp (zs:=zs) (ps:=ps) 2);have HIF:Hid (imF zs ps (L/64-4)=if(nwK zs ps 2).ok=true then imR (nwK zs ps 2) (jrF zs ps (L/64-4) (nwK zs ps 2).t.toNat (L/64-4)) else imNo):=rfl;clear A b2 s3 HE1;generalize nwK zs ps 2=s at *;have b3:Below w2.heap.size w2 (w2.alloc (.cells #[.bool s.ok,.int .u32 s.g,.int .u32 s.t,.slice aSD nSD cSD,.slice aSU nSU cSU] 67)):=(Below.refl _ _).alloc (Nat.le_refl _) _;have HR3:Hid ((w2.alloc (.cells #[.bool s.ok,.int .u32 s.g,.int .u32 s.t,.slice aSD nSD cSD,.slice aSU nSU cSU] 67)).heap[w2.heap.size]?=some (.cells #[.bool s.ok,.int .u32 s.g,.int .u32 s.t,.slice aSD nSD cSD,.slice aSU nSU cSU] 67 (0,0))):=heap_alloc_new w2 _;have HE3:=hid_ofL (HE2.out.below b3);have HS3:=hid_ofL (HS2.out.below b3);have HUB:Hid ((∀ ad,aSD=some ad→ad.block<w2.heap.size)∧(∀ ad,aSU=some ad→ad.block<w2.heap.size)):=⟨fun ad e=>(HS2.out.ld ad e).2,fun ad e=>(HS2.out.lu ad e).2⟩
  go_upto_region 4 with (first
   |(refine wpList_store_row rfl 67 (.tmp 3) (.tmp 12) rfl w2.heap.size #[.bool s.ok,.int .u32 s.g,.int .u32 s.t,.slice aSD nSD cSD,.slice aSU nSU cSU] rfl rfl 67 _ (heap_alloc_new w2 _) HSR.out rfl (all5s _ _ _ _ _ _ _ _ _) ?_)
   |fail)
  rw[World.setRow_alloc_new];have hz3:w2.heap.size<(w2.alloc (.cells #[.bool s.ok,.int .u32 s.g,.int .u32 s.t,.slice aSD nSD cSD,.slice aSU nSU cSU] 67)).heap.size:=by simp
  clear HE2 HS2 b3;generalize w2.alloc (.cells #[.bool s.ok,.int .u32 s.g,.int .u32 s.t,.slice aSD nSD cSD,.slice aSU nSU cSU] 67)=w3 at *;generalize w2.heap.size=N at *;cases hok:s.ok with
  |false=>
   have HI2:Hid (imG zs ps f=imNo):=by show _=_;rw[HI.out,HIF.out,if_neg (by rw[hok];simp)]
   have c0:=cell_of_row w3 N 0 _ _ _ HR3.out;simp[hok] at c0;clear HI HIF;go_wp2_with (first
    |(refine wpList_store_row rfl 36 (.tmp 2) (.tmp 16) rfl (w.heap.size+1) #[.bool false,.int .u32 0,.int .u32 0,.slice none 0 0,.slice none 0 0,.slice none 0 0,.slice none 0 0,.slice none 0 0,.int .i64 0,.slice none 0 0,.int .u32 0] rfl rfl 36 _ HE3.out.res HSI.out rfl (by simp[Value.oneCell']) ?_)
    |fail)
   (try simp only[Exit.inBlock,Exit.then])
   exact bodyPost_ret (v:=.agg #[.bool false,.int .u32 0,.int .u32 0,.slice none 0 0,.slice none 0 0,.slice none 0 0,.slice none 0 0,.slice none 0 0,.int .i64 0,.slice none 0 0,.int .u32 0]) (results_cell_row rfl _ _ (w.heap.size+1) 36 _ (0,0) _ rfl (setRow_heap _ _ _ _ _ _ HE3.out.res) Tryz.underlying36 rfl HSI.out) rfl ⟨_,rfl,by rw[HI2.out];exact ImV.no _ _,HE3.out.bel.trans ((Wr.setRow _ _ _).below (Nat.le_succ _))⟩
  |true=>
   have hsn:=HNW.out hok;have HR4:Hid (w3.heap[N]?=some (.cells #[.bool true,.int .u32 s.g,.int .u32 s.t,.slice aSD nSD cSD,.slice aSU nSU cSU] 67 (0,0))):=by show _=_;have:=HR3.out;rw[hok] at this;exact this
   have HI2:Hid (imG zs ps f=imR s (jrF zs ps (L/64-4) s.t.toNat (L/64-4))):=by show _=_;rw[HI.out,HIF.out,if_pos hok]
   have c0:=cell_of_row w3 N 0 _ _ _ HR4.out;have c2:=cell_of_row w3 N 2 _ _ _ HR4.out;simp at c0 c2;have B:=hid_ofL (journal_any (HDI.out w3 HE3.out) HF.out s.t.toNat (by have:=hsn.2.2.1;omega));have ht:((s.t.toNat:Nat):Int)=s.t:=Int.toNat_of_nonneg (by have:=hsn.2.1;omega);rw[ht] at B;have HT:=hid_ofL (And.intro hsn.2.1 hsn.2.2.1);have HST:=hid_ofL hsn.st;have HFRB:=hid_ofL (jrF_frb zs ps (L/64-4) HJR.out (L/64-4) s.t.toNat);obtain⟨nj,hnj,hjl⟩:=jrF_len zs ps (L/64-4) (L/64-4) s.t.toNat;clear HI HIF HNW hsn HR3 ht HJR HF;generalize jrF zs ps (L/64-4) s.t.toNat (L/64-4)=F at *;go_wp2_with fail;refine B.out.mono ?_;rintro e w4 ⟨vF,nF,rfl,hFO,b4⟩;obtain rfl:nF=nj:=by have:=hFO.len;omega
   have HE4:=hid_ofL (HE3.out.below b4);have HS4:=hid_ofL (HS3.out.below b4);have HR5:Hid (w4.heap[N]?=some (.cells #[.bool true,.int .u32 s.g,.int .u32 s.t,.slice aSD nSD cSD,.slice aSU nSU cSU] 67 (0,0))):=by show _=_;rw[b4.block N (Nat.lt_of_lt_of_le hz3 (Nat.le_refl _))];exact HR4.out
   have HFO:=hid_ofL hFO;obtain⟨aF,cF,rfl,hFA,hFc,hFl⟩:=hFO.form;have HFA:=hid_ofL (And.intro hFA hFl);have hz34:=b4.size;have d3:=cell_of_row w4 N 3 _ _ _ HR5.out;have d4:=cell_of_row w4 N 4 _ _ _ HR5.out;simp at d3 d4;have A:=hid_ofL (snst1_any N aSD aSU nSD cSD nSU cSU w4 (by omega) d3 d4);clear B b4 hFO hFA hFl HE3 HS3 HR4 c0 c2 d3 d4 HDI;go_wp2_with fail;refine A.out.mono ?_;rintro e w5 ⟨rfl,b5⟩;have hnu:=HS4.out.nu;have hnd:=HS4.out.nd;have HE5:=hid_ofL (HE4.out.below b5);have HS5:=hid_ofL (HS4.out.below b5);have hz45:=b5.size;have HB45:=hid_ofL b5;have hsl:=HST.out.2.2.1.le;have hdl:=HST.out.2.1;have hstp:StP s.D s.U (nSU:Int) [] 0:=by rw[←hnu];exact HST.out
   have HOB:=hid_ofL (openBook_any aSD aSU none nSD cSD nSU cSU 0 0 s.D s.U (nSU:Int) [] w5 hnd hnu rfl (by omega) (by omega) (by omega) HS5.out.d.at_ HS5.out.u.at_ (.inl rfl) (fun _=>⟨rfl,rfl⟩) (by omega) (by omega));have HSB1:=hid_ofL (stB_yes hstp);clear A b5 HE4 hsl hdl hstp;go_wp2_with fail;refine HOB.out.mono ?_;rintro e w6 ⟨bk,rfl,hbs,hbo,b6,hob⟩;obtain⟨db,ub,v9,hbk,hsd,hsu,hto⟩:=hob HSB1.out;rw[HSB1.out];have HSB2:Hid ((Tryz.prog.info? 82).map (·.size)=some bk.size):=by show _=_;rw[hbs];exact HSB.out
   have HZB:Hid ((Tryz.zeroCells82).size=bk.size):=by show _=_;rw[hbs];exact zc_size
   have HBO:=hid_ofL hbo;have b7:Below w6.heap.size w6 (w6.alloc (.cells bk 82)):=(Below.refl _ _).alloc (Nat.le_refl _) _;have hz56:=b6.size;have HB57:Hid (Below w5.heap.size w5 (w6.alloc (.cells bk 82))):=b6.trans (b7.mono hz56);have hr7:(w6.alloc (.cells bk 82)).heap[w6.heap.size]?=some (.cells bk 82 (0,0)):=heap_alloc_new w6 _;have hz7:w6.heap.size<(w6.alloc (.cells bk 82)).heap.size:=by simp
   have HBE:=hid_ofL hbk;clear hbk
   go_upto_region 8 with (first
    |(refine wpList_store_row rfl 82 (.tmp 5) (.tmp 25) rfl w6.heap.size bk rfl rfl 82 _ (heap_alloc_new w6 _) HSB2.out HZB.out HBO.out ?_)
    |fail)
   rw[World.setRow_alloc_new];have hto7:TapO w5.heap.size (w6.alloc (.cells bk 82)) v9 [] 0:=hto.alloc _;have hne:NeG w6.heap.size v9:=fun t ht e=>by
    rcases hto.2 with⟨h',_⟩|⟨g,c,cur,h',hb,hh,_⟩
    ·rw[h'] at ht;simp[Value.ownBlock] at ht
    ·rw[h'] at ht;simp[Value.ownBlock] at ht;have:=(Array.getElem?_eq_some_iff.1 hh).1;omega
   have hbk:=HBE.out;clear HBE;subst hbk;have hAX:AX (w6.alloc (.cells (bkC db ub (nSU:Int) v9) 82)) w5.heap.size w5.heap.size w6.heap.size ⟨true,s.D,s.U,(s.U.length:Int),[],0⟩ (w6.alloc (.cells (bkC db ub (nSU:Int) v9) 82)):=
    ⟨Below.refl _ _,db,ub,v9,⟨by rw[hnu];exact hr7,hsd.1,hsu.1,hsd.2.1,hsu.2.1⟩,hsd,hsu,hto7.tapV,hne⟩
   have HB47:=hid_ofL (HB45.out.trans (HB57.out.mono hz45));have hFA7:=HFA.out.1.below HB47.out;have C:=hid_ofL (applyAll_any aF nF cF F _ w6.heap.size w5.heap.size w5.heap.size ⟨true,s.D,s.U,(s.U.length:Int),[],0⟩ rfl hFA7 hjl (by omega) HFRB.out (fun x hx=>by have:=(HFA.out.2 x hx).2;omega) hAX HST.out rfl hz56 (Nat.le_refl _) (by omega) (by omega));have hF4:F.length/4=nF:=by omega
   have HSTK:=hid_ofL (apK_st (r:=⟨true,s.D,s.U,(s.U.length:Int),[],0⟩) HFRB.out HST.out rfl nF (by omega));have HIM:Hid (imA s F=apK ⟨true,s.D,s.U,(s.U.length:Int),[],0⟩ F nF):=by show _=_;unfold imA;rw[hF4]
   have HIR:Hid (imR s F=if(imA s F).ok=true then ⟨true,s.g,s.t,s.D,s.U,F,(imA s F).D,(imA s F).U,(imA s F).k,(imA s F).T,(imA s F).n,s.t+(nF:Int)⟩ else imNo):=by show _=_;unfold imR;rw[hF4]
   rw[←HIM.out] at C HSTK;clear hto hto7 hne hAX hFA7 hsd hsu hr7 hbs hbo b6 b7 hob HOB HSB1 HSB2 HZB HBO HIM hF4;generalize w6.alloc (.cells (bkC db ub (nSU:Int) v9) 82)=w7 at *;generalize imA s F=r at *;go_wp2_with fail;refine C.out.mono ?_;rintro e w8 ⟨rfl,b8,hax⟩;have HE8:=hid_ofL ((HE5.out.keep HB57.out (by have:=HE5.out.lt;omega)).keep b8 (by have:=HE5.out.lt;omega));have HB48:=hid_ofL (HB47.out.trans (b8.mono hz45));have HR8:Hid (w8.heap[N]?=some (.cells #[.bool true,.int .u32 s.g,.int .u32 s.t,.slice aSD nSD cSD,.slice aSU nSU cSU] 67 (0,0))):=by show _=_;rw[HB48.out.block N (by omega)];exact HR5.out
   clear C HE5 HS5 HB45 HB57 HB47;cases hrk:r.ok with
   |false=>
    have HI3:Hid (imG zs ps f=imNo):=by show _=_;rw[HI2.out,HIR.out,if_neg (by rw[hrk];simp)]
    clear hax b8 HI2 HIR;go_wp2_with (first
     |(refine wpList_store_row rfl 36 (.tmp 2) (.tmp 34) rfl (w.heap.size+1) #[.bool false,.int .u32 0,.int .u32 0,.slice none 0 0,.slice none 0 0,.slice none 0 0,.slice none 0 0,.slice none 0 0,.int .i64 0,.slice none 0 0,.int .u32 0] rfl rfl 36 _ HE8.out.res HSI.out rfl (by simp[Value.oneCell']) ?_)
     |fail)
    (try simp only[Exit.inBlock,Exit.then])
    exact bodyPost_ret (v:=.agg #[.bool false,.int .u32 0,.int .u32 0,.slice none 0 0,.slice none 0 0,.slice none 0 0,.slice none 0 0,.slice none 0 0,.int .i64 0,.slice none 0 0,.int .u32 0]) (results_cell_row rfl _ _ (w.heap.size+1) 36 _ (0,0) _ rfl (setRow_heap _ _ _ _ _ _ HE8.out.res) Tryz.underlying36 rfl HSI.out) rfl ⟨_,rfl,by rw[HI3.out];exact ImV.no _ _,HE8.out.bel.trans ((Wr.setRow _ _ _).below (Nat.le_succ _))⟩
   |true=>
    have HI3:Hid (imG zs ps f=⟨true,s.g,s.t,s.D,s.U,F,r.D,r.U,r.k,r.T,r.n,s.t+(nF:Int)⟩):=by show _=_;rw[HI2.out,HIR.out,if_pos hrk]
    obtain⟨d',u',v',r1,r2,r3,r4,r5⟩:=(hax hrk).bk;obtain⟨aT,cT,rfl⟩:=r4.slice;obtain⟨hstr,hTr⟩:=HSTK.out hrk;have HST2:=hid_ofL (fun ww (b:Below w8.heap.size w8 ww)=>by
     have HS:=state_any aT r.n cT (fun v=>decide ((v:Int)∈r.D)) (fun v=>decide ((v:Int)∈r.U)) (r1.below b r1.lt) (r2.congr (fun v _=>by simp)) (r3.congr (fun v _=>by simp));rw[hstr.1.eq_upTo _ (fun v _=>by simp),hstr.2.2.1.eq_upTo _ (fun v _=>by simp)] at HS;exact HS.mono (R':=fun e w'=>∃ aD nD cD aU nU cU,e=.returned (.agg #[.slice aD nD cD,.slice aU nU cU,.int .i64 r.k,.slice aT r.n cT])∧Iow ww.heap.size w' (.slice aD nD cD) r.D∧Iow ww.heap.size w' (.slice aU nU cU) r.U∧Aprt aD aU∧Below ww.heap.size ww w') (by
      rintro e w' ⟨aD,nD,cD,aU,nU,cU,rfl,i1,i2,ap,bb⟩;exact⟨aD,nD,cD,aU,nU,cU,rfl,i1,i2,ap.aprt,bb⟩))
    have HTV:=hid_ofL r4;have HS8:=hid_ofL (HS4.out.below HB48.out);have HFO8:=hid_ofL (HFO.out.below HB48.out);have hz78:=b8.size;have hN8:N<w8.heap.size:=by omega
    have HUB2:Hid ((∀ ad,aSD=some ad→ad.block<w3.heap.size)∧(∀ ad,aSU=some ad→ad.block<w3.heap.size)∧(∀ k,(Value.slice aF nF cF).ownBlock=some k→k<w5.heap.size)):=
     ⟨fun ad e=>by have:=HUB.out.1 ad e;omega,fun ad e=>by have:=HUB.out.2 ad e;omega,lies_lt HFA.out.2 (by omega)⟩
    have f2:=cell_of_row w8 N 2 _ _ _ HR8.out;simp at f2;have hnF:(nF:Int)≤252:=by omega
    obtain⟨ht0,ht1⟩:=HT.out;have hz35:w3.heap.size≤w5.heap.size:=by omega
    have hz1N:w1.heap.size≤N:=hz12;have hz58:w5.heap.size≤w8.heap.size:=by omega
    clear hax b8 HI2 HIR r1 r2 r3 r4 r5 hstr hTr HSTK HS4 HFO HB48 HR5 HUB HFA HST;generalize hW3:w3.heap.size=W3 at *;generalize hW5:w5.heap.size=W5 at *;go_wp2;refine wp_region_any (by kernel_rfl) ?_;refine wpAny_slotsF 6 (fun _ a b=>Below a.heap.size a b) (frame:=(fun (a b c d e f g h i j k l m n o p q r s u v w x y z A B C D E F G H I J K L M N O P Q:Value)=>fun (t:Nat→Value)=>({ tmps:=List.toArray [a,b,c,d,e,f,g,h,i,j,k,l,m,n,o,p,q,r,s,u,v,w,x,y,z,A,B,C,D,E,F,G,H,I,J,K,L,M,N,O,P,Q,t 0,t 1,t 2,t 3,t 4,t 5],defers:=[] }:Act)) _ _ _ _ _ _ _ _ _ _ _ _ _ _ _ _ _ _ _ _ _ _ _ _ _ _ _ _ _ _ _ _ _ _ _ _ _ _ _ _ _ _)
     (Ext:=fun L u w'=>ApH w8 [] L u w') (Good:=fun i L w' v=>if i=0 then v=.pointer (some ⟨N,1,none⟩) else if i=1 then v=.agg #[.int .u32 s.g,.int .u32 s.t,.slice aSD nSD cSD,.slice aSU nSU cSU] else if i=2 then v=.slice aF nF cF else if i=3 then StQ w8.heap.size r aT cT w' v else if i=4 then v=.int .u32 (s.t+(nF:Int)) else if i=5 then ImB ([.bool true,.int .u32 s.g,.int .u32 s.t,.slice aSD nSD cSD,.slice aSU nSU cSU,.slice aF nF cF]:List Value) w8.heap.size r aT cT (.int .u32 (s.t+(nF:Int))) w' v else True) (Fin:=FinI (w.heap.size+1) ([.bool true,.int .u32 s.g,.int .u32 s.t,.slice aSD nSD cSD,.slice aSU nSU cSU,.slice aF nF cF]:List Value) w8.heap.size r aT cT (.int .u32 (s.t+(nF:Int))) w8) rfl (by kernel_rfl) ?hstab (by kernel_rfl) ?hop ?hend ?hdone _ _ ((fun (x0 x1 x2 x3 x4 x5:Value)=>fun (i:Nat)=>if i=0 then x0 else if i=1 then x1 else if i=2 then x2 else if i=3 then x3 else if i=4 then x4 else if i=5 then x5 else undef) _ _ _ _ _ _) _ (by simp) ?none ?ext (by simp)
    case none=>intro i;rw[Array.getD_eq_getD_getElem?,Array.getElem?_replicate];split<;>rfl
    case ext=>exact ApH.start w8 [] _ _ (fun i=>by rw[Array.getD_eq_getD_getElem?,Array.getElem?_replicate];split<;>rfl) ⟨rfl,rfl,rfl,Nat.le_refl _,fun _ _=>rfl⟩
    case hstab=>
     intro j L w9 w' i v _ hM _ _ h;by_cases h3:j=3
     ·subst h3;simp at h ⊢;exact h.below hM
     by_cases h5:j=5
     ·subst h5;simp at h ⊢;exact h.below hM
     simp only[if_neg h3,if_neg h5] at h ⊢;exact h
    case hop=>
     intro i o L t w' hi ho hLi hx hdep K hK;obtain rfl|rfl|rfl|rfl|rfl|rfl:i=0∨i=1∨i=2∨i=3∨i=4∨i=5:=by omega
     all_goals(simp at ho;subst ho)
     ·clear hdep;have hK':=hK w' (.pointer (some ⟨N,1,none⟩)) (by simp) (hx.step 0 _ (Below.refl _ _) (fun h=>absurd h (by decide))) (Below.refl _ _);clear hK;rw[if_pos (by rfl)];go_simp;simpa[upd] using hK'
     ·have d0:t 0=.pointer (some ⟨N,1,none⟩):=by simpa using(hdep ⟨0,.data⟩ (by simp) rfl).2
      clear hdep;have hrw:w'.heap[N]?=some (.cells #[.bool true,.int .u32 s.g,.int .u32 s.t,.slice aSD nSD cSD,.slice aSU nSU cSU] 67 (0,0)):=by rw[hx.below.block N hN8];exact HR8.out
      have e1:=cell_of_row w' N 1 _ _ _ hrw;have e2:=cell_of_row w' N 2 _ _ _ hrw;have e3:=cell_of_row w' N 3 _ _ _ hrw;have e4:=cell_of_row w' N 4 _ _ _ hrw;simp at e1 e2 e3 e4;clear hrw;have hK':=hK w' (.agg #[.int .u32 s.g,.int .u32 s.t,.slice aSD nSD cSD,.slice aSU nSU cSU]) (by simp) (hx.step 1 _ (Below.refl _ _) (fun h=>absurd h (by decide))) (Below.refl _ _);clear hK;rw[if_pos (by rfl)];go_simp;simpa[upd,d0,e1,e2,e3,e4] using hK'
     ·clear hdep;have hK':=hK w' (.slice aF nF cF) (by simp) (hx.step 2 _ (Below.refl _ _) (fun h=>absurd h (by decide))) (Below.refl _ _);clear hK;rw[if_pos (by rfl)];go_simp;simpa[upd] using hK'
     ·clear hdep;have A:=HST2.out w' hx.below;have hK':∀ ww v,StQ w8.heap.size r aT cT ww v→Below w'.heap.size w' ww→K _ ww:=fun ww v hv hb=>hK ww v (by simpa using hv) (hx.step 3 v hb (fun h=>absurd h (by decide))) hb
      clear hK;rw[if_pos (by rfl)];go_simp;try simp only[]
      refine A.mono ?_;rintro e w9 ⟨aD,nD,cD,aU,nU,cU,rfl,i1,i2,ap,hb9⟩;have hK2:=hK' w9 (.agg #[.slice aD nD cD,.slice aU nU cU,.int .i64 r.k,.slice aT r.n cT]) ⟨aD,nD,cD,aU,nU,cU,rfl,i1.mono hx.below.size,i2.mono hx.below.size,ap⟩ hb9;clear hK' A i1 i2 ap hb9;go_simp;simpa[upd] using hK2
     ·clear hdep;have hK':=hK w' (.int .u32 (s.t+(nF:Int))) (by simp) (hx.step 4 _ (Below.refl _ _) (fun h=>absurd h (by decide))) (Below.refl _ _);clear hK;rw[if_pos (by rfl)];go_simp;simpa[upd] using hK'
     ·have d1:t 1=.agg #[.int .u32 s.g,.int .u32 s.t,.slice aSD nSD cSD,.slice aSU nSU cSU]:=by simpa using(hdep ⟨1,.data⟩ (by simp) rfl).2
      have d2:t 2=.slice aF nF cF:=by simpa using(hdep ⟨2,.data⟩ (by simp) rfl).2
      have f3:StQ w8.heap.size r aT cT w' (t 3):=by simpa using(hdep ⟨3,.data⟩ (by simp) rfl).2
      have d4:t 4=.int .u32 (s.t+(nF:Int)):=by simpa using(hdep ⟨4,.data⟩ (by simp) rfl).2
      clear hdep;refine Exists.elim f3 fun aD hh=>?_
      obtain⟨nD,cD,aU,nU,cU,d3,i1,i2,ap⟩:=hh;have hK':=hK w' (.agg (([.bool true,.int .u32 s.g,.int .u32 s.t,.slice aSD nSD cSD,.slice aSU nSU cSU,.slice aF nF cF]:List Value)++([.slice aD nD cD,.slice aU nU cU,.int .i64 r.k,.slice aT r.n cT,(.int .u32 (s.t+(nF:Int)))]:List Value)).toArray) (by simpa[ImB] using⟨aD,nD,cD,aU,nU,cU,⟨⟨rfl,rfl,rfl⟩,⟨rfl,rfl,rfl⟩⟩,i1,i2,ap⟩) (hx.step 5 _ (Below.refl _ _) (fun h=>absurd h (by decide))) (Below.refl _ _);clear hK i1 i2;rw[if_pos (by rfl)];go_simp;simpa[upd,d1,d2,d3,d4] using hK'
    case hend=>
     intro o L t w' ho hx hg K hK;simp at ho;subst ho;have f5:ImB ([.bool true,.int .u32 s.g,.int .u32 s.t,.slice aSD nSD cSD,.slice aSU nSU cSU,.slice aF nF cF]:List Value) w8.heap.size r aT cT (.int .u32 (s.t+(nF:Int))) w' (t 5):=by simpa using(hg 5 (by decide)).2
     clear hg;obtain⟨aD,nD,cD,aU,nU,cU,d5,i1,i2,ap⟩:=f5;have hrs:w'.heap[w.heap.size+1]?=some (.cells #[.bool false,.int .u32 0,.int .u32 0,.slice none 0 0,.slice none 0 0,.slice none 0 0,.slice none 0 0,.slice none 0 0,.int .i64 0,.slice none 0 0,.int .u32 0] 36 (0,0)):=by rw[hx.below.block _ (by have:=HE8.out.lt;omega)];exact HE8.out.res
     have hK':∀ ww,Wr (w.heap.size+1) w' ww→ww.heap[w.heap.size+1]?=some (.cells (([.bool true,.int .u32 s.g,.int .u32 s.t,.slice aSD nSD cSD,.slice aSU nSU cSU,.slice aF nF cF]:List Value)++([.slice aD nD cD,.slice aU nU cU,.int .i64 r.k,.slice aT r.n cT,(.int .u32 (s.t+(nF:Int)))]:List Value)).toArray 36 (0,0))→K _ ww:=fun ww hw hr=>hK ww undef ⟨aD,nD,cD,aU,nU,cU,hr,i1.wr hw (by have:=HE8.out.lt;omega),i2.wr hw (by have:=HE8.out.lt;omega),ap,w',hx.below,hw⟩
     clear hK;rw[if_pos (by rfl)];refine wp_store_row 36 (.tmp 2) (.tmp 47) rfl (w.heap.size+1) _ rfl d5 36 _ hrs HSI.out rfl (by simp[Value.oneCell']) ?_;have hK2:=hK' _ (Wr.setRow _ _ _) (setRow_heap _ _ _ _ _ _ hrs);clear hK';simpa[upd,Act.put] using hK2
    case hdone=>
     intro t w9 hf;obtain⟨aD,nD,cD,aU,nU,cU,hr9,i1,i2,ap,w',b9,hw9⟩:=hf;have HR9:=hid_ofL hr9;have HFN:Hid (ImV w.heap.size w9 (.agg (([.bool true,.int .u32 s.g,.int .u32 s.t,.slice aSD nSD cSD,.slice aSU nSU cSU,.slice aF nF cF]:List Value)++([.slice aD nD cD,.slice aU nU cU,.int .i64 r.k,.slice aT r.n cT,(.int .u32 (s.t+(nF:Int)))]:List Value)).toArray) (imG zs ps f)∧Below w.heap.size w w9):=by
      have hR:=HE8.out.lt;refine⟨?_,(HE8.out.bel.trans (b9.mono HE8.out.bel.size)).trans (hw9.below (Nat.le_succ _))⟩;rw[HI3.out];obtain⟨x1,x2,x3⟩:=i1.sat;obtain⟨y1,y2,y3⟩:=i2.sat;obtain⟨t1,t2,t3⟩:=HTV.out.sat;have t1':=t1.below b9;have hz9:=b9.size;have hs9:=hw9.size;refine⟨aSD,nSD,cSD,aSU,nSU,cSU,.slice aF nF cF,nF,aD,nD,cD,aU,nU,cU,aT,cT,W3,W5,rfl,?_,HUB2.out.1,HUB2.out.2.1,?_,HUB2.out.2.2,?_,by omega,by omega⟩
      ·have q:=(HS8.out.below b9).wr hw9 (by omega);exact⟨q.d,q.u,q.t,q.nd,q.nu,q.nt,q.ld.mono (by omega) (Nat.le_refl _),q.lu.mono (by omega) (Nat.le_refl _),q.lt.mono (by omega) (Nat.le_refl _),q.du,q.dt,q.ut⟩
      ·exact(HFO8.out.below b9).keep (fun k hk _=>hw9.block k (by omega))
      ·refine⟨x1,y1,t1'.keep (by rw[hs9];exact Nat.le_refl _) (fun ad e _=>hw9.block _ (by have:=(t3 ad e).1;omega)),x2,y2,t2,x3.mono (by omega) (Nat.le_refl _),y3.mono (by omega) (Nat.le_refl _),fun ad e=>⟨(t3 ad e).1,by have:=(t3 ad e).2;omega⟩,ap,fun p q hp hq=>by have:=(x3 p hp).1;have:=(t3 q hq).2;omega,fun p q hp hq=>by have:=(y3 p hp).1;have:=(t3 q hq).2;omega⟩
     clear hr9 i1 i2 ap b9 hw9;go_wp2_with fail;exact bodyPost_ret (v:=.agg (([.bool true,.int .u32 s.g,.int .u32 s.t,.slice aSD nSD cSD,.slice aSU nSU cSU,.slice aF nF cF]:List Value)++([.slice aD nD cD,.slice aU nU cU,.int .i64 r.k,.slice aT r.n cT,(.int .u32 (s.t+(nF:Int)))]:List Value)).toArray) (results_cell_row rfl _ _ (w.heap.size+1) 36 _ (0,0) _ rfl HR9.out Tryz.underlying36 rfl HSI.out) rfl ⟨_,rfl,HFN.out.1,HFN.out.2⟩
end Go.Proofs.YtganeokokjodoaaGreat
