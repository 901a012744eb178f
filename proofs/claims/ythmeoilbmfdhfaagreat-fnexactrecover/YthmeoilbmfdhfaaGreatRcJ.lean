import Derived.Test.YthmeoilbmfdhfaaGreatMPuR
namespace Go.Proofs.YthmeoilbmfdhfaaGreat
open Go.ChangeShapes Go.WideShapes Go.ChangeAt Go.RowKit
set_option linter.unusedVariables false
theorem run_q0 (w:World) (g c:Nat) (hc:128≤c):(Instr.sliceAt 22 (.slice (some ⟨g,0,none⟩) 128 c) none (some (.int .i64 64)) none).run Tryz.prog w=.ok (.slice (some ⟨g,0,none⟩) 64 c) w:=by
 have h2:(64:Int)≤(c:Int):=by omega
 unfold Instr.sliceAt;simp[run_underlying Tryz.underlying22,go_sem,Instr.sliceBounds,h2,Addr.add];try omega
theorem run_q1 (w:World) (g c:Nat) (hc:128≤c):(Instr.sliceAt 22 (.slice (some ⟨g,0,none⟩) 128 c) (some (.int .i64 64)) none none).run Tryz.prog w=.ok (.slice (some ⟨g,64,none⟩) 64 (c-64)) w:=by
 have h4:¬ (c=64):=by omega
 unfold Instr.sliceAt;simp[run_underlying Tryz.underlying22,go_sem,Instr.sliceBounds,h4,Addr.add];try omega
theorem run_f5 (w:World) (o:Bool) (aD aU aT:Option Addr) (nD cD nU cU nT cT:Nat) (k:Int):(Instr.field 68 (.agg #[.bool o,.slice aD nD cD,.slice aU nU cU,.int .i64 k,.slice aT nT cT]) 1).run Tryz.prog w=.ok (.agg #[.slice aD nD cD,.slice aU nU cU,.int .i64 k,.slice aT nT cT]) w:=by kernel_rfl
structure CX (w:World) (M:Nat) (C I:Array Value) (wr:World):Prop where
 below:Below w.heap.size w wr
 b0:wr.heap[w.heap.size]?=some (.cells C 48 (0,0))
 b1:wr.heap[w.heap.size+1]?=some (.cells zrR 50 (0,0))
 bm:wr.heap[M]?=some (.cells I 36 (0,0))
 lm:w.heap.size+1<M
section
variable {w wr w':World} {M:Nat} {C I:Array Value}
theorem CX.lt (h:CX w M C I wr):M<wr.heap.size:=(Array.getElem?_eq_some_iff.1 h.bm).1
theorem CX.call (h:CX w M C I wr) (b:Below wr.heap.size wr w'):CX w M C I w':=by
 have:=h.lt;have:=h.lm;exact⟨h.below.trans (b.mono h.below.size),by rw[b.block _ (by omega)];exact h.b0,by rw[b.block _ (by omega)];exact h.b1,by rw[b.block _ (by omega)];exact h.bm,h.lm⟩
theorem CX.put {Q:Nat} (h:CX w M C I wr) (hw:Wr Q wr w') (hQ:M<Q):CX w M C I w':=by
 have:=h.lm;exact⟨h.below.trans (hw.below (by omega)),by rw[hw.block _ (by omega)];exact h.b0,by rw[hw.block _ (by omega)];exact h.b1,by rw[hw.block _ (by omega)];exact h.bm,h.lm⟩
end
section
variable {lo:Nat} {w w' W:World} {v:Value} {k:Int} {D U:List Int} {T:TypeId} {Z:Array Value} {L:Nat→Bool} {u:Nat→Value}
def STv (lo:Nat) (w:World) (v:Value) (k:Int) (D U:List Int):Prop:=∃ cs,v=.agg cs∧CpFin lo k D U [] 0 w cs
theorem STv.below (h:STv lo w v k D U) (b:Below w.heap.size w w'):STv lo w' v k D U:=by obtain⟨cs,e,h⟩:=h;exact⟨cs,e,h.below b⟩
structure Tr9 (w:World) (v:Value):Prop
theorem Tr9.below (h:Tr9 w v) (b:Below w.heap.size w w'):Tr9 w' v:=⟨⟩
def NwB (lo:Nat) (T:TypeId) (Z:Array Value) (w:World) (v:Value):Prop:=∃ q,v=.pointer (some ⟨q,0,none⟩)∧lo≤q∧w.heap[q]?=some (.cells Z T (0,0))
theorem NwB.below (h:NwB lo T Z w v) (b:Below w.heap.size w w'):NwB lo T Z w' v:=by
 obtain⟨q,e,h1,h2⟩:=h;exact⟨q,e,h1,by rw[b.block q (Array.getElem?_eq_some_iff.1 h2).1];exact h2⟩
def StB (w:World) (ST:Array Value) (a:ApR):Prop:=∃ aD nD cD aU nU cU aT nT cT,ST=#[.slice aD nD cD,.slice aU nU cU,.int .i64 a.k,.slice aT nT cT]∧At .i64 w aD a.D∧At .i64 w aU a.U∧a.D.length=nD∧a.U.length=nU
structure ApK (W:World) (L:Nat→Bool) (u:Nat→Value) (w:World):Prop extends ApH W [11,13] L u w where
 fld:L 12=true→L 11=true∧∃ a b c d e,u 11=.agg #[a,b,c,d,e]∧u 12=.agg #[b,c,d,e]
theorem ApK.start (W:World) (L:Nat→Bool) (u:Nat→Value) (h:∀ i,L i=false) {w:World} (b:Below W.heap.size W w):ApK W L u w:=⟨ApH.start W _ L u h b,fun e=>by rw[h] at e;cases e⟩
theorem ApK.step (h:ApK W L u w) (i:Nat) (v:Value) (b:Below w.heap.size w w') (hv:i∈[11,13]→FreshH w w' v) (h1:i≠11∧i≠12:=by decide):ApK W (updK L i) (upd u i v) w':=
 ⟨h.toApH.step i v b hv,by
  simp only[updK,upd,if_neg (show ¬ 12=i from fun e=>h1.2 e.symm),if_neg (show ¬ 11=i from fun e=>h1.1 e.symm)];exact h.fld⟩
theorem ApK.s11 (h:ApK W L u w) (hL:L 11=false) (v:Value) (b:Below w.heap.size w w') (hv:FreshH w w' v):ApK W (updK L 11) (upd u 11 v) w':=
 ⟨h.toApH.step 11 v b (fun _=>hv),fun e=>by
  simp[updK] at e;have:=(h.fld e).1;rw[hL] at this;cases this⟩
theorem ApK.s12 (h:ApK W L u w) (hL:L 11=true) {a b c d e:Value} (hu:u 11=.agg #[a,b,c,d,e]):ApK W (updK L 12) (upd u 12 (.agg #[b,c,d,e])) w:=
 ⟨h.toApH.step 12 _ (Below.refl _ _) (fun h=>absurd h (by decide)),fun _=>⟨by simp[updK,hL],a,b,c,d,e,by simp[upd,hu],by simp[upd]⟩⟩
theorem DvY.fresh {w0:World} {zs:List Int} {ps:List PD} {f:Int} {d:Bool} (h:DvY w0.heap.size w v zs ps f d):FreshH w0 w v:=by
 obtain⟨da,dc,ca,cc,E,rfl,h1,h2,h3,h4,h5,⟨qs,hP,hq⟩,h7⟩:=h;intro k hk;obtain⟨x,hx,ad,hA,rfl⟩:=has_agg.1 hk;simp at hx;rcases hx with rfl|rfl|rfl|rfl
 ·have:=h3 ad hA;omega
 ·obtain⟨q1,q2,_⟩:=ownsRow_lt hP.row ad.block (by rw[show ca=some ad from hA];rfl);omega
 all_goals cases hA
theorem WPV.frs {r:ApR} (h:WPV w.heap.size w' v r):FreshH w w' v:=by
 obtain⟨aD,nD,cD,aU,nU,cU,aT,nT,cT,rfl,_,_,_,_,_,_,l1,l2,l3,_⟩:=h;intro k hk;obtain⟨x,hx,ad,hA,rfl⟩:=has_agg.1 hk;simp at hx;rcases hx with rfl|rfl|rfl|rfl|rfl
 ·cases hA
 ·exact l1 ad hA
 ·exact l2 ad hA
 ·cases hA
 ·exact l3 ad hA
theorem at_take {a:Option Addr} {zs:List Int} {kd:IntKind} (h:At kd w a zs) (m:Nat):At kd w a (zs.take m):=by
 rcases h with h|⟨b,o,e,hl,hc⟩
 ·left;rw[h];simp
 ·exact .inr ⟨b,o,e,hl,fun i hi=>by rw[List.length_take] at hi;rw[hc i (by omega)];simp[List.getD,List.getElem?_take_of_lt (show i<m by omega)]⟩
theorem at_drop {b o:Nat} {zs:List Int} {kd:IntKind} (h:At kd w (some ⟨b,o,none⟩) zs) (m:Nat):At kd w (some ⟨b,o+m,none⟩) (zs.drop m):=by
 rcases h with h|⟨b',o',e,hl,hc⟩
 ·left;rw[h];simp
 ·cases e;exact .inr ⟨b,o+m,rfl,hl,fun i hi=>by rw[List.length_drop] at hi;rw[Nat.add_assoc,hc (m+i) (by omega)];simp[List.getD]⟩
end
set_option maxRecDepth 100000 in
set_option maxHeartbeats 16000000 in
theorem scm_any {lo:Nat} (C:Array Value) (zs ks:List Int) (f:Int) (r:ImR) (n:Nat) (w:World) (h:GM lo w C zs [] ks f false r) (hI:ImF zs f r n) (hle:ImLe r) (bz:Byte zs) (hk:ks.length≤1048576) :
  Calls Tryz.prog 63 #[.agg C] w fun e w'=>∃ X,e=.returned (.agg X)∧RM w.heap.size w' X (cpC zs f r) (cpD zs f r).1 (cpD zs f r).2.1 ks (cpD zs f r).2.2.1 (cpD zs f r).2.2.2 (cpI zs f r)∧Below w.heap.size w w':=by
 have HGA:=hid_ofV h.gat;obtain⟨da,dc,ca,cc,ka,kc,aSD,nSD,cSD,aSU,nSU,cSU,aF,mF,cF,aD,nD,cD,aU,nU,cU,aT,cT,B1,U,rfl,⟨c1,c2⟩,h1,h2,h4,h5,h8,h9,h10⟩:=h;simp only[List.length_nil] at *;have hz:zs.length≤1048576:=by have:=hI.v;unfold vBase at this;omega
 have HVB:=hid_ofV hI.v;have HZL:=hid_ofV hz;have HBZ:=hid_ofV bz;have HLL:=hid_ofV (And.intro hle hk);have HGN:=hid_ofV hI.g0;have HDA:Hid (DAt w (.agg #[.slice da zs.length dc,.slice ca 0 cc,.int .i64 f,.bool false]) zs [] f false):=⟨da,dc,ca,cc,rfl,h1.1,h8.at_,c1⟩
 have HIM:Hid (ImQ w (.agg #[.bool r.ok,.int .u32 r.g,.int .u32 r.t,.slice aSD nSD cSD,.slice aSU nSU cSU,.slice aF mF cF,.slice aD nD cD,.slice aU nU cU,.int .i64 r.k,.slice aT r.n cT,.int .u32 r.nx]) r):=⟨aSD,nSD,cSD,aSU,nSU,cSU,aF,mF,cF,aD,nD,cD,aU,nU,cU,aT,cT,rfl,h4⟩
 have HGT:Hid (∀ ww,Below w.heap.size w ww→Calls Tryz.prog 56 #[.agg #[.slice da zs.length dc,.slice ca 0 cc,.int .i64 f,.bool false],.slice ka ks.length kc,.agg #[.bool r.ok,.int .u32 r.g,.int .u32 r.t,.slice aSD nSD cSD,.slice aSU nSU cSU,.slice aF mF cF,.slice aD nD cD,.slice aU nU cU,.int .i64 r.k,.slice aT r.n cT,.int .u32 r.nx]] ww fun e w'=>∃ C,e=.returned (.agg C)∧GM ww.heap.size w' C zs [] ks f false r∧Below ww.heap.size ww w'):=fun ww b=>sgm_any _ _ zs [] ks f false r ka kc ww (HDA.out.below b) (h2.1.below b) (HIM.out.below b) hle hz (by simp) (by simp) hk
 obtain⟨mm,hmn,hcm⟩:=hI.cut;have hmF:mF=n:=by have:=hI.len;have:=h4.2.2.2.2.2.2.2.2.1;omega
 have hnU:r.sU.length=nSU:=h4.2.2.2.2.2.2.2.1;have hnD:r.sD.length=nSD:=h4.2.2.2.2.2.2.1;have HCT:Hid (∀ ww,Below w.heap.size w ww→Calls Tryz.prog 113 #[.agg #[.bool r.ok,.int .u32 r.g,.int .u32 r.t,.slice aSD nSD cSD,.slice aSU nSU cSU,.slice aF mF cF,.slice aD nD cD,.slice aU nU cU,.int .i64 r.k,.slice aT r.n cT,.int .u32 r.nx]] ww fun e w'=>e=.returned (.int .u32 (cutI r))∧Below ww.heap.size ww w'):=fun ww b=>by
  have:=sct_any aSD aSU aF aD aU aT nSD cSD nSU cSU mF cF nD cD nU cU r.n cT r.sD r.sU r.F r.D r.U r.T r.g r.t r.k r.nx r.ok ww h4.2.2.2.2.2.2.2.2.1 (by have:=hI.nJ;have:=hI.v;unfold vBase at this;omega) (by have:=hle;unfold ImLe at this;omega) (h4.2.2.1.below b);rw[show cutI r=cutV r.ok nSU r.F mF r.k r.nx by unfold cutI;rw[hnU,show r.F.length/4=mF by have:=hI.len;omega]];exact this
 have HW:Hid (BG2 w 48 50 #[.slice da zs.length dc,.slice ca 0 cc,.int .i64 f,.bool false,.slice ka ks.length kc,.bool r.ok,.int .u32 r.g,.int .u32 r.t,.slice aSD nSD cSD,.slice aSU nSU cSU,.slice aF mF cF,.slice aD nD cD,.slice aU nU cU,.int .i64 r.k,.slice aT r.n cT,.int .u32 r.nx] zrR ((w.alloc (.cells #[.slice da zs.length dc,.slice ca 0 cc,.int .i64 f,.bool false,.slice ka ks.length kc,.bool r.ok,.int .u32 r.g,.int .u32 r.t,.slice aSD nSD cSD,.slice aSU nSU cSU,.slice aF mF cF,.slice aD nD cD,.slice aU nU cU,.int .i64 r.k,.slice aT r.n cT,.int .u32 r.nx] 48)).alloc (.cells zrR 50))):=BG2.start _ _ _ _ _;have HSI:Hid ((Tryz.prog.info? 36).map (·.size)=some 11):=by show _=_;kernel_rfl
 have HSN:Hid ((Tryz.prog.info? 30).map (·.size)=some 4):=by show _=_;kernel_rfl
 have HSS:Hid ((Tryz.prog.info? 34).map (·.size)=some 4):=by show _=_;kernel_rfl
 have HI:=hid_ofV hI;have H4:=hid_ofV h4;have HNN:Hid (mF=n∧r.sU.length=nSU∧r.sD.length=nSD∧mm≤n∧mF≤cF):=⟨hmF,hnU,hnD,hmn,c2⟩
 obtain⟨cu,hcu⟩:∃ cu,cutI r=cu:=⟨_,rfl⟩
 rw[hcu] at HCT hcm;have HCU:=hid_ofV hcu;have HCM:=hid_ofV hcm;clear h1 h2 h4 h5 h8 h9 h10 c1 c2 hz hI hle bz hk hmF hnU hnD hmn hcu hcm;go_enter Tryz.func63,Tryz.ntmps63
 go_upto_region 1 with fail
 change Code.wp _ _ _ _ ((w.alloc (.cells #[.slice da zs.length dc,.slice ca 0 cc,.int .i64 f,.bool false,.slice ka ks.length kc,.bool r.ok,.int .u32 r.g,.int .u32 r.t,.slice aSD nSD cSD,.slice aSU nSU cSU,.slice aF mF cF,.slice aD nD cD,.slice aU nU cU,.int .i64 r.k,.slice aT r.n cT,.int .u32 r.nx] 48)).alloc (.cells zrR 50));generalize ((w.alloc (.cells #[.slice da zs.length dc,.slice ca 0 cc,.int .i64 f,.bool false,.slice ka ks.length kc,.bool r.ok,.int .u32 r.g,.int .u32 r.t,.slice aSD nSD cSD,.slice aSU nSU cSU,.slice aF mF cF,.slice aD nD cD,.slice aU nU cU,.int .i64 r.k,.slice aT r.n cT,.int .u32 r.nx] 48)).alloc (.cells zrR 50))=w1 at *;have HRG:Hid (w1.rangeAt w.heap.size 5 [.bool r.ok,.int .u32 r.g,.int .u32 r.t,.slice aSD nSD cSD,.slice aSU nSU cSU,.slice aF mF cF,.slice aD nD cD,.slice aU nU cU,.int .i64 r.k,.slice aT r.n cT,.int .u32 r.nx]):=mid_row HW.out.b0 5 _ rfl;have HZ1:Hid ((w1.alloc (.cells #[.bool false,.int .u32 0,.int .u32 0,.slice none 0 0,.slice none 0 0,.slice none 0 0,.slice none 0 0,.slice none 0 0,.int .i64 0,.slice none 0 0,.int .u32 0] 36)).heap[w1.heap.size]?=some (.cells #[.bool false,.int .u32 0,.int .u32 0,.slice none 0 0,.slice none 0 0,.slice none 0 0,.slice none 0 0,.slice none 0 0,.int .i64 0,.slice none 0 0,.int .u32 0] 36 (0,0))):=heap_alloc_new w1 _
 go_upto_region 2 with (first
  |(refine wpList_load_mid rfl 36 (.tmp 9) rfl w.heap.size 5 rfl _ _ HRG.out Tryz.underlying36 rfl HSI.out ?_)
  |(refine wpList_store_row rfl 36 (.tmp 3) (.tmp 10) rfl w1.heap.size #[.bool r.ok,.int .u32 r.g,.int .u32 r.t,.slice aSD nSD cSD,.slice aSU nSU cSU,.slice aF mF cF,.slice aD nD cD,.slice aU nU cU,.int .i64 r.k,.slice aT r.n cT,.int .u32 r.nx] rfl rfl 36 _ HZ1.out HSI.out rfl (by simp[Value.oneCell']) ?_)
  |fail)
 rw[World.setRow_alloc_new];clear HZ1 HRG;have b2:Below w1.heap.size w1 (w1.alloc (.cells #[.bool r.ok,.int .u32 r.g,.int .u32 r.t,.slice aSD nSD cSD,.slice aSU nSU cSU,.slice aF mF cF,.slice aD nD cD,.slice aU nU cU,.int .i64 r.k,.slice aT r.n cT,.int .u32 r.nx] 36)):=(Below.refl _ _).alloc (Nat.le_refl _) _;have l1:=(Array.getElem?_eq_some_iff.1 HW.out.b1).1;have HX2:Hid (CX w w1.heap.size #[.slice da zs.length dc,.slice ca 0 cc,.int .i64 f,.bool false,.slice ka ks.length kc,.bool r.ok,.int .u32 r.g,.int .u32 r.t,.slice aSD nSD cSD,.slice aSU nSU cSU,.slice aF mF cF,.slice aD nD cD,.slice aU nU cU,.int .i64 r.k,.slice aT r.n cT,.int .u32 r.nx] #[.bool r.ok,.int .u32 r.g,.int .u32 r.t,.slice aSD nSD cSD,.slice aSU nSU cSU,.slice aF mF cF,.slice aD nD cD,.slice aU nU cU,.int .i64 r.k,.slice aT r.n cT,.int .u32 r.nx] (w1.alloc (.cells #[.bool r.ok,.int .u32 r.g,.int .u32 r.t,.slice aSD nSD cSD,.slice aSU nSU cSU,.slice aF mF cF,.slice aD nD cD,.slice aU nU cU,.int .i64 r.k,.slice aT r.n cT,.int .u32 r.nx] 36))):=⟨HW.out.below.trans (b2.mono HW.out.below.size),by rw[b2.block _ (by omega)];exact HW.out.b0,by rw[b2.block _ l1];exact HW.out.b1,heap_alloc_new w1 _,l1⟩
 clear b2 l1 HW;generalize w1.alloc (.cells #[.bool r.ok,.int .u32 r.g,.int .u32 r.t,.slice aSD nSD cSD,.slice aSU nSU cSU,.slice aF mF cF,.slice aD nD cD,.slice aU nU cU,.int .i64 r.k,.slice aT r.n cT,.int .u32 r.nx] 36)=w2 at *;generalize w1.heap.size=M at *;go_wp2_with (first
  |(refine wpList_load_row rfl 36 (.tmp 3) rfl M rfl 36 _ (0,0) _ HX2.out.bm Tryz.underlying36 rfl HSI.out ?_)
  |fail)
 refine(HCT.out w2 HX2.out.below).mono ?_;rintro e w4 ⟨rfl,b4⟩;have HX4:=hid_ofV (HX2.out.call b4);clear b4 HX2 HCT;have k2:w4.cell? ⟨M,2,none⟩=some (.int .u32 r.t):=by rw[cell_of_row w4 M 2 _ _ _ HX4.out.bm];rfl
 by_cases hc:cu=r.t
 ·have HO:Hid (cpC zs f r=9∧cpD zs f r=(zs,[],f,false)∧cpI zs f r=r):=⟨by unfold cpC;rw[if_pos (by rw[HCU.out];exact hc)],(cp_same (.inl (by rw[HCU.out];exact hc))).1,(cp_same (zs:=zs) (f:=f) (.inl (by rw[HCU.out];exact hc))).2⟩
  go_upto_region 4 with fail
  clear k2 hc;have k4:w4.cell? ⟨w.heap.size,4,none⟩=some (.slice ka ks.length kc):=by rw[cell_of_row _ _ _ _ _ _ HX4.out.b0];rfl
  have HRD:Hid (w4.rangeAt w.heap.size 0 [.slice da zs.length dc,.slice ca 0 cc,.int .i64 f,.bool false]):=mid_row HX4.out.b0 0 _ rfl;go_wp2_with (first
   |(refine wpList_load_mid rfl 40 (.tmp 18) rfl w.heap.size 0 rfl _ _ HRD.out Tryz.underlying40 rfl Tryz.sizeDv ?_)
   |(refine wpList_load_row rfl 36 (.tmp 3) rfl M rfl 36 _ (0,0) _ HX4.out.bm Tryz.underlying36 rfl HSI.out ?_)
   |fail)
  refine(HGT.out w4 HX4.out.below).mono ?_;rintro e w9 ⟨C9,rfl,g9,b9⟩;clear k4;have HR9:Hid (w9.heap[w.heap.size+1]?=some (.cells zrR 50 (0,0))):=(b9.block _ (Array.getElem?_eq_some_iff.1 HX4.out.b1).1).trans HX4.out.b1;obtain⟨X9,hX⟩:∃ X9:Array Value,#[.int .i64 9]++C9=X9:=⟨_,rfl⟩
  have hR9:RM w4.heap.size w9 X9 9 zs [] ks f false r:=⟨C9,hX.symm,g9⟩
  have HX9:Hid (C9.size=16∧(Tryz.prog.info? 50).map (·.size)=some X9.size∧zrR.size=X9.size∧X9.all (·.oneCell')=true):=⟨g9.row.1,by rw[hR9.row.1];exact Tryz.sizeR,by rw[hR9.row.1];rfl,hR9.row.2⟩
  have HF:Hid (RM w4.heap.size w9 X9 9 zs [] ks f false r∧Below w.heap.size w w9∧w.heap.size+1<w4.heap.size):=⟨hR9,HX4.out.below.trans (b9.mono HX4.out.below.size),(Array.getElem?_eq_some_iff.1 HX4.out.b1).1⟩
  clear g9 hR9 b9;go_wp2_with (first
   |(refine wpList_bR rfl _ (.tmp 23) rfl 9 C9 rfl rfl HX9.out.1 ?_;rw[hX])
   |(refine wpList_store_row rfl 50 (.tmp 2) (.tmp 24) rfl (w.heap.size+1) X9 rfl rfl 50 _ HR9.out HX9.out.2.1 HX9.out.2.2.1 HX9.out.2.2.2 ?_)
   |fail)
  (try simp only[Exit.inBlock,Exit.then])
  have hw9:=Wr.setRow (w.heap.size+1) w9 X9;have hfin:RM w.heap.size (w9.setRow (w.heap.size+1) X9) X9 (cpC zs f r) (cpD zs f r).1 (cpD zs f r).2.1 ks (cpD zs f r).2.2.1 (cpD zs f r).2.2.2 (cpI zs f r):=by
   rw[HO.out.1,HO.out.2.1,HO.out.2.2];exact(HF.out.1.keep (Nat.le_of_eq hw9.size.symm) (fun k hk _=>hw9.block k (by have:=HF.out.2.2;omega))).mono (by have:=HF.out.2.2;omega)
  have hbel:Below w.heap.size w (w9.setRow (w.heap.size+1) X9):=HF.out.2.1.trans (hw9.below (by omega));have hres:=setRow_heap w9 (w.heap.size+1) _ X9 _ _ HR9.out;clear hw9;exact bodyPost_ret (v:=.agg X9) (results_cell_row rfl _ _ (w.heap.size+1) 50 _ (0,0) _ rfl hres Tryz.underlying50 rfl HX9.out.2.1) rfl ⟨X9,rfl,hfin,hbel⟩
 have k1:w4.cell? ⟨M,1,none⟩=some (.int .u32 r.g):=by rw[cell_of_row w4 M 1 _ _ _ HX4.out.bm];rfl
 by_cases hg:r.g=4000000000
 ·have HO:Hid (cpC zs f r=8∧cpD zs f r=(zs,[],f,false)∧cpI zs f r=r):=⟨by unfold cpC;rw[if_neg (by rw[HCU.out];exact hc),if_pos hg],(cp_same (.inr hg)).1,(cp_same (zs:=zs) (f:=f) (.inr hg)).2⟩
  go_upto_region 6 with fail
  clear k1 k2 hg hc;have k4:w4.cell? ⟨w.heap.size,4,none⟩=some (.slice ka ks.length kc):=by rw[cell_of_row _ _ _ _ _ _ HX4.out.b0];rfl
  have HRD:Hid (w4.rangeAt w.heap.size 0 [.slice da zs.length dc,.slice ca 0 cc,.int .i64 f,.bool false]):=mid_row HX4.out.b0 0 _ rfl;go_wp2_with (first
   |(refine wpList_load_mid rfl 40 (.tmp 29) rfl w.heap.size 0 rfl _ _ HRD.out Tryz.underlying40 rfl Tryz.sizeDv ?_)
   |(refine wpList_load_row rfl 36 (.tmp 3) rfl M rfl 36 _ (0,0) _ HX4.out.bm Tryz.underlying36 rfl HSI.out ?_)
   |fail)
  refine(HGT.out w4 HX4.out.below).mono ?_;rintro e w9 ⟨C9,rfl,g9,b9⟩;clear k4;have HR9:Hid (w9.heap[w.heap.size+1]?=some (.cells zrR 50 (0,0))):=(b9.block _ (Array.getElem?_eq_some_iff.1 HX4.out.b1).1).trans HX4.out.b1;obtain⟨X9,hX⟩:∃ X9:Array Value,#[.int .i64 8]++C9=X9:=⟨_,rfl⟩
  have hR9:RM w4.heap.size w9 X9 8 zs [] ks f false r:=⟨C9,hX.symm,g9⟩
  have HX9:Hid (C9.size=16∧(Tryz.prog.info? 50).map (·.size)=some X9.size∧zrR.size=X9.size∧X9.all (·.oneCell')=true):=⟨g9.row.1,by rw[hR9.row.1];exact Tryz.sizeR,by rw[hR9.row.1];rfl,hR9.row.2⟩
  have HF:Hid (RM w4.heap.size w9 X9 8 zs [] ks f false r∧Below w.heap.size w w9∧w.heap.size+1<w4.heap.size):=⟨hR9,HX4.out.below.trans (b9.mono HX4.out.below.size),(Array.getElem?_eq_some_iff.1 HX4.out.b1).1⟩
  clear g9 hR9 b9;go_wp2_with (first
   |(refine wpList_bR rfl _ (.tmp 34) rfl 8 C9 rfl rfl HX9.out.1 ?_;rw[hX])
   |(refine wpList_store_row rfl 50 (.tmp 2) (.tmp 35) rfl (w.heap.size+1) X9 rfl rfl 50 _ HR9.out HX9.out.2.1 HX9.out.2.2.1 HX9.out.2.2.2 ?_)
   |fail)
  (try simp only[Exit.inBlock,Exit.then])
  have hw9:=Wr.setRow (w.heap.size+1) w9 X9;have hfin:RM w.heap.size (w9.setRow (w.heap.size+1) X9) X9 (cpC zs f r) (cpD zs f r).1 (cpD zs f r).2.1 ks (cpD zs f r).2.2.1 (cpD zs f r).2.2.2 (cpI zs f r):=by
   rw[HO.out.1,HO.out.2.1,HO.out.2.2];exact(HF.out.1.keep (Nat.le_of_eq hw9.size.symm) (fun k hk _=>hw9.block k (by have:=HF.out.2.2;omega))).mono (by have:=HF.out.2.2;omega)
  have hbel:Below w.heap.size w (w9.setRow (w.heap.size+1) X9):=HF.out.2.1.trans (hw9.below (by omega));have hres:=setRow_heap w9 (w.heap.size+1) _ X9 _ _ HR9.out;clear hw9;exact bodyPost_ret (v:=.agg X9) (results_cell_row rfl _ _ (w.heap.size+1) 50 _ (0,0) _ rfl hres Tryz.underlying50 rfl HX9.out.2.1) rfl ⟨X9,rfl,hfin,hbel⟩
 have hE:=cp_else (zs:=zs) (f:=f) (r:=r) (by rw[HCU.out];exact hc) hg;have HO:Hid (cpC zs f r=afC 9 (cmT zs f r)∧cpD zs f r=cmT zs f r∧cpI zs f r=afI r (cmT zs f r)):=⟨hE.2.2,hE.1,hE.2.1⟩
 have hm0:0<mm:=by have:=HCM.out;omega
 obtain⟨fb,fo,rfl,hfb,hfc⟩:=H4.out.2.2.1.get (by have:=HI.out.len;have:=HNN.out;omega);have hT:=HI.out.top;have hT1:=HI.out.t1;have HMM:Hid (mm≤cF∧mm*4≤r.F.length∧(cu-r.t)%4294967296=(mm:Int)∧mm≤1000):=by
  have:=HCM.out;have:=HNN.out;have:=HI.out.len;have hv:=HVB.out;unfold vBase at hv;have:=HI.out.nJ;exact⟨by omega,by omega,by omega,by omega⟩
 have hsp:=HI.out.snp hg;have HSP:Hid (SnP (r.g+1) cu (cmA r).D (cmA r).U∧(cmA r).D.length≤16∧(cmA r).U.length≤256):=by
  have h:=hsp.1;rw[HCU.out] at h;exact⟨h,h.2.2.2.2.1,h.2.2.2.2.2.le⟩
 have HUT:Hid (U32 cu):=by have:=HCM.out;have:=HNN.out;exact⟨by omega,by omega⟩
 have HSO:Hid (∀ ww,Below w.heap.size w ww→Calls Tryz.prog 32 #[.agg #[.int .u32 r.g,.int .u32 r.t,.slice aSD nSD cSD,.slice aSU nSU cSU]] ww fun e w'=>∃ cs,e=.returned (.agg cs)∧CpFin ww.heap.size (nSU:Int) r.sD r.sU [] 0 w' cs∧Below ww.heap.size ww w'):=fun ww b=>sto_any r.g r.t aSD aSU nSD cSD nSU cSU r.sD r.sU ww HNN.out.2.2.1 HNN.out.2.1 (by have:=HLL.out.1;have:=HNN.out;unfold ImLe at *;omega) (by have:=HLL.out.1;have:=HNN.out;unfold ImLe at *;omega) (H4.out.1.below b) (H4.out.2.1.below b)
 have HTH:Hid (∀ ww,Below w.heap.size w ww→w4.heap.size≤ww.heap.size→∀ cs,CpFin w4.heap.size (nSU:Int) r.sD r.sU [] 0 ww cs→Calls Tryz.prog 31 #[.agg cs,.slice (some ⟨fb,fo,none⟩) mm cF] ww fun e w'=>∃ v,e=.returned v∧WPV w4.heap.size w' v (cmA r)∧FreshH ww w' v∧Below ww.heap.size ww w'):=fun ww b hs cs hcp=>by
  obtain⟨pD,lD,qD,pU,lU,qU,pT,qT,rfl,i1,i2,i3⟩:=hcp;have e:cmA r=apK ⟨true,r.sD,r.sU,(nSU:Int),[],0⟩ (r.F.take (mm*4)) mm:=by
   unfold cmA;rw[HCU.out,show(cu-r.t).toNat=mm by have:=HCM.out;omega,HNN.out.2.1,apK_take mm (Nat.le_refl _)]
  have hst:=HI.out.st;rw[HNN.out.2.1] at hst;refine(thq_any pD pU pT lD qD lU qU 0 qT r.sD r.sU (nSU:Int) [] (some ⟨fb,fo,none⟩) mm cF (r.F.take (mm*4)) ww w4.heap.size _ rfl (cp_wpv i1 i2 i3) hs hst rfl ((H4.out.2.2.1.below b).take _) (by rw[List.length_take];have:=HMM.out;omega) HMM.out.2.2.2 (HI.out.fr.take _)).mono ?_;rintro e9 w9 ⟨v9,h1,h2,h3⟩;rw[thL_pos hm0,←e] at h2;exact⟨v9,h1,h2.monoY hs,h2.frs,h3⟩
 clear hE hsp hT hT1 hm0 hfb hfc HGT;have hc':(cu == r.t)=false:=by simp[hc]
 have hg':(r.g == 4000000000)=false:=by simp[hg]
 clear hc hg
 go_upto_region 7 with fail
 clear k1 k2;refine wp_region_any (by kernel_rfl) ?_;refine wpAny_slotsF 14 (fun _ a b=>Below a.heap.size a b) (frame:=(fun (a b c d e f g h i j k l m n o p q r s u v w x y z A B C D E F G H I J K L M N O P Q R S T U V W X Y Z a0 a1 a2 a3 a4 a5 a6 a7 a8 a9 b0 b1 b2 b3 b4 b5 b6 b7 b8 b9:Value)=>fun (t:Nat→Value)=>({ tmps:=List.toArray [a,b,c,d,e,t 13,f,g,h,i,j,k,l,m,n,o,p,q,r,s,u,v,w,x,y,z,A,B,C,D,E,F,G,H,I,J,t 0,t 1,t 2,t 3,t 4,t 5,t 6,t 7,t 8,t 9,t 10,t 11,t 12,K,L,M,N,O,P,Q,R,S,T,U,V,W,X,Y,Z,a0,a1,a2,a3,a4,a5,a6,a7,a8,a9,b0,b1,b2,b3,b4,b5,b6,b7,b8,b9],defers:=[] }:Act)) _ _ _ _ _ _ _ _ _ _ _ _ _ _ _ _ _ _ _ _ _ _ _ _ _ _ _ _ _ _ _ _ _ _ _ _ _ _ _ _ _ _ _ _ _ _ _ _ _ _ _ _ _ _ _ _ _ _ _ _ _ _ _ _ _ _ _ _ _ _ _)
  (Ext:=fun L u w'=>ApK w4 L u w') (Good:=fun i L w' v=>if i=0 then v=.pointer (some ⟨M,1,none⟩) else if i=1 then v=.agg #[.int .u32 r.g,.int .u32 r.t,.slice aSD nSD cSD,.slice aSU nSU cSU] else if i=2 then STv w4.heap.size w' v (nSU:Int) r.sD r.sU else if i=3 then v=.pointer (some ⟨M,5,none⟩) else if i=4 then v=.slice (some ⟨fb,fo,none⟩) mF cF else if i=5 then v=.int .u32 cu else if i=6 then v=.pointer (some ⟨M,1,none⟩) else if i=7 then v=.pointer (some ⟨M,2,none⟩) else if i=8 then v=.int .u32 r.t else if i=9 then v=.int .u32 mm else if i=10 then v=.slice (some ⟨fb,fo,none⟩) mm cF else if i=11 then WPV w4.heap.size w' v (cmA r) else if i=12 then Tr9 w' v else if i=13 then NwB w4.heap.size 34 #[.slice none 0 0,.slice none 0 0,.int .i64 0,.slice none 0 0] w' v else True) (Fin:=fun u ww=>∃ Sb ST,u 13=.pointer (some ⟨Sb,0,none⟩)∧ww.heap[Sb]?=some (.cells ST 34 (0,0))∧StB ww ST (cmA r)∧Below w4.heap.size w4 ww) rfl (by kernel_rfl) ?hstab (by kernel_rfl) ?hop ?hend ?hdone _ _ ((fun (x0 x1 x2 x3 x4 x5 x6 x7 x8 x9 x10 x11 x12 x13:Value)=>fun (i:Nat)=>if i=0 then x0 else if i=1 then x1 else if i=2 then x2 else if i=3 then x3 else if i=4 then x4 else if i=5 then x5 else if i=6 then x6 else if i=7 then x7 else if i=8 then x8 else if i=9 then x9 else if i=10 then x10 else if i=11 then x11 else if i=12 then x12 else if i=13 then x13 else undef) _ _ _ _ _ _ _ _ _ _ _ _ _ _) _ (by simp) ?none ?ext (by simp)
 case none=>intro i;rw[Array.getD_eq_getD_getElem?,Array.getElem?_replicate];split<;>rfl
 case ext=>exact ApK.start w4 _ _ (fun i=>by rw[Array.getD_eq_getD_getElem?,Array.getElem?_replicate];split<;>rfl) ⟨rfl,rfl,rfl,Nat.le_refl _,fun _ _=>rfl⟩
 case hstab=>
  intro j L w9 w' i v _ hM _ _ h;by_cases h2:j=2
  ·subst h2;simp at h ⊢;exact h.below hM
  by_cases h11:j=11
  ·subst h11;simp at h ⊢;exact h.below hM
  by_cases h12:j=12
  ·subst h12;simp at h ⊢;exact h.below hM
  by_cases h13:j=13
  ·subst h13;simp at h ⊢;exact h.below hM
  simp only[if_neg h2,if_neg h11,if_neg h12,if_neg h13] at h ⊢;exact h
 case hop=>
  intro i o L t w' hi ho hLi hx hdep K hK;have cX:∀ q9:Nat,w'.cell? ⟨M,q9,none⟩=(#[.bool r.ok,.int .u32 r.g,.int .u32 r.t,.slice aSD nSD cSD,.slice aSU nSU cSU,.slice (some ⟨fb,fo,none⟩) mF cF,.slice aD nD cD,.slice aU nU cU,.int .i64 r.k,.slice aT r.n cT,.int .u32 r.nx]:Array Value)[q9]?:=fun q9=>by rw[cell_of_row w' M q9 _ _ _ ((hx.below.block _ (Array.getElem?_eq_some_iff.1 HX4.out.bm).1).trans HX4.out.bm)]
  have hwS:IntKind.u32.wrap (cu-r.t)=(mm:Int):=by rw[←HMM.out.2.2.1];exact IntKind.wrap_u32 _
  have hsl:=run_slF w' fb fo mF cF mm HMM.out.1;obtain rfl|rfl|rfl|rfl|rfl|rfl|rfl|rfl|rfl|rfl|rfl|rfl|rfl|rfl:i=0∨i=1∨i=2∨i=3∨i=4∨i=5∨i=6∨i=7∨i=8∨i=9∨i=10∨i=11∨i=12∨i=13:=by omega
  all_goals(simp at ho;subst ho)
  all_goals try(have hK':=hK w' _ rfl (hx.step _ _ (Below.refl _ _) (fun h=>absurd h (by decide))) (Below.refl _ _);clear hK;simp[Region.binds] at hdep;rw[if_pos (by rfl)];go_simp;simpa[hc',hg',upd,hdep,hwS,hsl] using hK')
  ·have d1:t 1=.agg #[.int .u32 r.g,.int .u32 r.t,.slice aSD nSD cSD,.slice aSU nSU cSU]:=by simpa using(hdep ⟨1,.data⟩ (by simp) rfl).2
   clear hdep;have bw:Below w.heap.size w w':=HX4.out.below.trans (hx.below.mono HX4.out.below.size);have hsz:w4.heap.size≤w'.heap.size:=hx.below.size;have A:=HSO.out w' bw;have hK':∀ ww v,STv w4.heap.size ww v (nSU:Int) r.sD r.sU→Below w'.heap.size w' ww→K _ ww:=fun ww v hv hb=>hK ww v (by simpa using hv) (hx.step 2 v hb (fun h=>absurd h (by decide))) hb
   clear hK;rw[if_pos (by rfl)];go_simp;try simp only[d1]
   refine A.mono ?_;rintro e w9 ⟨cs9,rfl,h9,hb9⟩;have hK2:=hK' w9 (.agg cs9) ⟨cs9,rfl,h9.mono hsz⟩ hb9;clear hK' A h9 hb9;go_simp;simpa[hc',hg',upd,d1,hwS,hsl] using hK2
  ·have f2:STv w4.heap.size w' (t 2) (nSU:Int) r.sD r.sU:=by simpa using(hdep ⟨2,.data⟩ (by simp) rfl).2
   have d10:t 10=.slice (some ⟨fb,fo,none⟩) mm cF:=by simpa using(hdep ⟨10,.data⟩ (by simp) rfl).2
   clear hdep;obtain⟨cs,e2,hcp⟩:=f2;have hsz:w4.heap.size≤w'.heap.size:=hx.below.size;have bw:Below w.heap.size w w':=HX4.out.below.trans (hx.below.mono HX4.out.below.size);have A:=HTH.out w' bw hsz cs hcp;have hK':∀ ww v,WPV w4.heap.size ww v (cmA r)→FreshH w' ww v→Below w'.heap.size w' ww→K _ ww:=fun ww v hv hf hb=>hK ww v (by simpa using hv) (hx.s11 hLi v hb hf) hb
   clear hK hcp;rw[if_pos (by rfl)];go_simp;try simp only[e2,d10]
   refine A.mono ?_;rintro e w9 ⟨v9,rfl,h9,hf9,hb9⟩;have hK2:=hK' w9 v9 h9 hf9 hb9;clear hK' A h9 hf9 hb9;go_simp;simpa[hc',hg',upd,e2,d10] using hK2
  ·have l11:L 11=true:=(hdep ⟨11,.data⟩ (by simp) rfl).1;have f11:WPV w4.heap.size w' (t 11) (cmA r):=by simpa using(hdep ⟨11,.data⟩ (by simp) rfl).2
   clear hdep;obtain⟨bD,mD,kD,bU,mU,kU,bT,mT,kT,e11,_⟩:=f11;have hfd:=run_f5 w' (cmA r).ok bD bU bT mD kD mU kU mT kT (cmA r).k;have hK':=hK w' (.agg #[.slice bD mD kD,.slice bU mU kU,.int .i64 (cmA r).k,.slice bT mT kT]) (by simpa using Tr9.mk) (hx.s12 l11 e11) (Below.refl _ _);clear hK;rw[if_pos (by rfl)];go_simp;simpa[hc',hg',upd,e11,hfd] using hK'
  ·clear hdep;have hsz:w4.heap.size≤w'.heap.size:=hx.below.size;have bb:Below w'.heap.size w' (w'.alloc (.cells #[.slice none 0 0,.slice none 0 0,.int .i64 0,.slice none 0 0] 34)):=(Below.refl _ _).alloc (Nat.le_refl _) _;have hnw:NwB w4.heap.size 34 #[.slice none 0 0,.slice none 0 0,.int .i64 0,.slice none 0 0] (w'.alloc (.cells #[.slice none 0 0,.slice none 0 0,.int .i64 0,.slice none 0 0] 34)) (.pointer (some ⟨w'.heap.size,0,none⟩)):=⟨w'.heap.size,rfl,hsz,heap_alloc_new w' _⟩
   have hfr:FreshH w' (w'.alloc (.cells #[.slice none 0 0,.slice none 0 0,.int .i64 0,.slice none 0 0] 34)) (.pointer (some ⟨w'.heap.size,0,none⟩)):=fun k hk=>by rw[has_ptr.1 hk];exact⟨Nat.le_refl _,by simp⟩
   have hK':=hK (w'.alloc (.cells #[.slice none 0 0,.slice none 0 0,.int .i64 0,.slice none 0 0] 34)) (.pointer (some ⟨w'.heap.size,0,none⟩)) (by simpa using hnw) (hx.step 13 _ bb (fun _=>hfr)) bb;clear hK bb hnw hfr;rw[if_pos (by rfl)];go_simp;simpa[hc',hg',upd] using hK'
 case hend=>
  intro o L t w' ho hx hg K hK;simp at ho;subst ho;have l11:L 11=true:=(hg 11 (by decide)).1;have f11:WPV w4.heap.size w' (t 11) (cmA r):=by simpa using(hg 11 (by decide)).2
  have l12:L 12=true:=(hg 12 (by decide)).1;have f12:Tr9 w' (t 12):=by simpa using(hg 12 (by decide)).2
  have l13:L 13=true:=(hg 13 (by decide)).1;have f13:NwB w4.heap.size 34 #[.slice none 0 0,.slice none 0 0,.int .i64 0,.slice none 0 0] w' (t 13):=by simpa using(hg 13 (by decide)).2
  clear hg;have hap:=hx.ap 11 (by decide) 13 (by decide) (by decide) l11 l13;obtain⟨_,a9,b9,c9,d9,g9,e11,e12⟩:=hx.fld l12;obtain⟨bD,mD,kD,bU,mU,kU,bT,mT,kT,e11',q1,q2,q3,q4,q5,q6,_⟩:=f11;rw[e11] at e11';simp only[Value.agg.injEq,Array.mk.injEq,List.cons.injEq] at e11';obtain⟨rfl,rfl,rfl,rfl,rfl,_⟩:=e11';obtain⟨q,e13,hq,hbx⟩:=f13;have hn1:∀ ad,bD=some ad→ad.block≠q:=fun ad e h=>by
   rw[e11,e13] at hap;exact hap ad.block (has_slice 1 rfl e) (has_ptr.2 h)
  have hn2:∀ ad,bU=some ad→ad.block≠q:=fun ad e h=>by
   rw[e11,e13] at hap;exact hap ad.block (has_slice 2 rfl e) (has_ptr.2 h)
  have hK':∀ ww,Wr q w' ww→ww.heap[q]?=some (.cells #[.slice bD mD kD,.slice bU mU kU,.int .i64 (cmA r).k,.slice bT mT kT] 34 (0,0))→K _ ww:=fun ww hw hr=>hK ww undef ⟨q,_,by simp[upd];exact e13,hr,⟨bD,mD,kD,bU,mU,kU,bT,mT,kT,rfl,q1.keep (fun ad e=>hw.block _ (hn1 ad e)) (Nat.le_of_eq hw.size.symm),q2.keep (fun ad e=>hw.block _ (hn2 ad e)) (Nat.le_of_eq hw.size.symm),q4,q5⟩,hx.below.trans (hw.below hq)⟩
  clear hK q1 q2 q3 hn1 hn2;rw[if_pos (by rfl)];refine wp_store_row 34 (.tmp 5) (.tmp 48) rfl q _ e13 e12 34 _ hbx HSS.out rfl (by simp[Value.oneCell']) ?_;have hK2:=hK' _ (Wr.setRow _ _ _) (setRow_heap _ _ _ _ _ _ hbx);clear hK';simpa[hc',hg',upd,Act.put] using hK2
 case hdone=>
  intro t w5 hf;obtain⟨Sb,ST,eS,hr,⟨bD,mD,kD,bU,mU,kU,bT,mT,kT,rfl,q1,q2,q4,q5⟩,b5⟩:=hf;have HX5:Hid (CX w M #[.slice da zs.length dc,.slice ca 0 cc,.int .i64 f,.bool false,.slice ka ks.length kc,.bool r.ok,.int .u32 r.g,.int .u32 r.t,.slice aSD nSD cSD,.slice aSU nSU cSU,.slice (some ⟨fb,fo,none⟩) mF cF,.slice aD nD cD,.slice aU nU cU,.int .i64 r.k,.slice aT r.n cT,.int .u32 r.nx] #[.bool r.ok,.int .u32 r.g,.int .u32 r.t,.slice aSD nSD cSD,.slice aSU nSU cSU,.slice (some ⟨fb,fo,none⟩) mF cF,.slice aD nD cD,.slice aU nU cU,.int .i64 r.k,.slice aT r.n cT,.int .u32 r.nx] w5):=HX4.out.call b5;have k1:w5.cell? ⟨M,1,none⟩=some (.int .u32 r.g):=by rw[cell_of_row w5 M 1 _ _ _ HX5.out.bm];rfl
  have s0:w5.cell? ⟨Sb,0,none⟩=some (.slice bD mD kD):=by rw[cell_of_row w5 Sb 0 _ _ _ hr];rfl
  have s1:w5.cell? ⟨Sb,1,none⟩=some (.slice bU mU kU):=by rw[cell_of_row w5 Sb 1 _ _ _ hr];rfl
  have hwG:(r.g+1)%4294967296=r.g+1:=by have:=HGN.out;omega
  have HES:Hid (Calls Tryz.prog 52 #[.agg #[.int .u32 (r.g+1),.int .u32 cu,.slice bD mD kD,.slice bU mU kU]] w5 fun e w'=>∃ v,e=.returned v∧Own w' w5.heap.size v (cmL r)∧Below w5.heap.size w5 w'):=by
   show Calls _ _ _ _ _
   have hs:=HSP.out;rw[show cmL r=snL (r.g+1) cu (cmA r).D (cmA r).U by unfold cmL;rw[HCU.out]];exact sesn_any (r.g+1) cu bD bU mD kD mU kU (cmA r).D (cmA r).U w5 q4 q5 (by have:=hs.2.1;omega) (by have:=hs.2.2;omega) q1 q2 ⟨by have:=HGN.out;omega,by have:=HGN.out;omega⟩ HUT.out hs.1
  simp only[eS];clear eS hr q1 q2 q4 q5 b5 HSO HTH;go_wp2_with fail;refine HES.out.mono ?_;rintro e w6 ⟨v6,rfl,ho6,b6⟩;obtain⟨g,gc,rfl,hg1,hg2,hg3,hg4,_⟩:=ho6.at_;have hL6:(cmL r).length=128:=END_len;rw[hL6];have HX6:Hid (CX w M #[.slice da zs.length dc,.slice ca 0 cc,.int .i64 f,.bool false,.slice ka ks.length kc,.bool r.ok,.int .u32 r.g,.int .u32 r.t,.slice aSD nSD cSD,.slice aSU nSU cSU,.slice (some ⟨fb,fo,none⟩) mF cF,.slice aD nD cD,.slice aU nU cU,.int .i64 r.k,.slice aT r.n cT,.int .u32 r.nx] #[.bool r.ok,.int .u32 r.g,.int .u32 r.t,.slice aSD nSD cSD,.slice aSU nSU cSU,.slice (some ⟨fb,fo,none⟩) mF cF,.slice aD nD cD,.slice aU nU cU,.int .i64 r.k,.slice aT r.n cT,.int .u32 r.nx] w6):=HX5.out.call b6;have HGC:Hid (128≤gc):=by rw[hL6] at hg3;exact hg3
  obtain⟨z0,hz0⟩:∃ z0,(cmL r).take 64=z0:=⟨_,rfl⟩
  obtain⟨z1,hz1⟩:∃ z1,(cmL r).drop 64=z1:=⟨_,rfl⟩
  obtain⟨sl,hsl⟩:∃ sl:Int,(r.g+1)%2=sl:=⟨_,rfl⟩
  obtain⟨s,hs⟩:∃ s:Nat,((r.g+1)%2*2).toNat=s:=⟨_,rfl⟩
  have hsl2:0≤sl∧sl<2∧(s:Int)=2*sl:=by have:=HGN.out;omega
  have HZZ:Hid (z0.length=64∧z1.length=64):=⟨by rw[←hz0,List.length_take,hL6];rfl,by rw[←hz1,List.length_drop,hL6]⟩
  have HBY:Hid (Byte z0∧Byte z1):=by have:=snL_byte HSP.out.1 ⟨by have:=HGN.out;omega,by have:=HGN.out;omega⟩ HUT.out;have hb:Byte (cmL r):=by unfold cmL;rw[HCU.out];exact this
                                     exact⟨by rw[←hz0];exact hb.take _,by rw[←hz1];exact hb.drop _⟩
  have HB0:Hid (At .u8 w6 (some ⟨g,0,none⟩) z0):=by rw[←hz0];exact at_take hg4 64
  have HB1:Hid (At .u8 w6 (some ⟨g,64,none⟩) z1):=by rw[←hz1];exact at_drop hg4 64
  have HST2:Hid ((s+2)*64≤zs.length):=by have:=HVB.out;unfold vBase at this;show _≤_;omega
  have HM1:Hid (DOk zs.length (zs,[],f,false)∧DOk zs.length (dW (zs,[],f,false) (s:Int) z0)):=⟨DOk.start HBZ.out HVB.out.2.2.2.2.2,(DOk.start HBZ.out HVB.out.2.2.2.2.2).w (.inl rfl) _ HZZ.out.1 HBY.out.1⟩
  have HMD:=hid_ofV (DOk.mid HVB.out HBZ.out (by have:=HST2.out;omega:(s+1)*64≤zs.length) HZZ.out.1 HBY.out.1);have HM2:Hid (DOk zs.length (dY (dW (zs,[],f,false) (s:Int) z0))∧DOk zs.length (dW (dY (dW (zs,[],f,false) (s:Int) z0)) ((s:Int)+1) z1)):=⟨HMD.out.1,HMD.out.1.w HMD.out.2 _ HZZ.out.2 HBY.out.2⟩
  have HCE:Hid ((dY (dW (dY (dW (zs,[],f,false) (s:Int) z0)) ((s:Int)+1) z1))=cmT zs f r∧DOk zs.length (cmT zs f r)):=by
   have e:(dY (dW (dY (dW (zs,[],f,false) (s:Int) z0)) ((s:Int)+1) z1))=cmT zs f r:=by rw[cm_eq HVB.out HST2.out HZZ.out.1 HZZ.out.2];unfold cmT;rw[hz0,hz1,hs]
   exact⟨e,by rw[←e,cm_eq HVB.out HST2.out HZZ.out.1 HZZ.out.2];exact DOk.fin HVB.out HBZ.out HST2.out HZZ.out.1 HBY.out.1 HZZ.out.2 HBY.out.2⟩
  have HW1:Hid (∀ ww,Below w.heap.size w ww→Below w6.heap.size w6 ww→Calls Tryz.prog 54 #[.agg #[.slice da zs.length dc,.slice ca 0 cc,.int .i64 f,.bool false],.int .i64 (s:Int),.slice (some ⟨g,0,none⟩) 64 gc] ww fun e w'=>∃ r,e=.returned r∧DAt w' r (dW (zs,[],f,false) (s:Int) z0).1 (dW (zs,[],f,false) (s:Int) z0).2.1 (dW (zs,[],f,false) (s:Int) z0).2.2.1 (dW (zs,[],f,false) (s:Int) z0).2.2.2∧Below ww.heap.size ww w'):=fun ww b b'=>swD (o:=(zs,[],f,false)) (HDA.out.below b) HM1.out.1 HZL.out _ (HB0.out.below b') HZZ.out.1
  have HY1:Hid (∀ ww v,DAt ww v (dW (zs,[],f,false) (s:Int) z0).1 (dW (zs,[],f,false) (s:Int) z0).2.1 (dW (zs,[],f,false) (s:Int) z0).2.2.1 (dW (zs,[],f,false) (s:Int) z0).2.2.2→Calls Tryz.prog 53 #[v] ww fun e w'=>∃ r,e=.returned r∧DvY ww.heap.size w' r (dY (dW (zs,[],f,false) (s:Int) z0)).1 (dY (dW (zs,[],f,false) (s:Int) z0)).2.1 (dY (dW (zs,[],f,false) (s:Int) z0)).2.2.1 (dY (dW (zs,[],f,false) (s:Int) z0)).2.2.2∧Below ww.heap.size ww w'):=fun ww v h=>syD9 h HM1.out.2 HZL.out
  have k16:w6.cell? ⟨M,1,none⟩=some (.int .u32 r.g):=by rw[cell_of_row w6 M 1 _ _ _ HX6.out.bm];rfl
  have hwM:IntKind.i64.wrap (2*sl)=(s:Int):=by rw[IntKind.wrap_i64];omega
  have hwA:IntKind.i64.wrap ((s:Int)+1)=(s:Int)+1:=by rw[IntKind.wrap_i64];omega
  have hwR:(r.g+1).tmod 2=sl:=by rw[←hsl];exact Int.tmod_eq_emod_of_nonneg (by have:=HGN.out;omega)
  have hwL:IntKind.i64.wrap sl=sl:=by rw[IntKind.wrap_i64];omega
  have hwE:sl%4294967296=sl:=by omega
  clear ho6 b6 hg1 hg2 hg3 hg4 hL6 hz0 hz1 hs hsl2 k1 s0 s1 HES HMD HX5
  go_upto_region 10 with fail
  clear k16 hwG hwR hwL hwE;go_wp2_with fail;refine wp_region_any (by kernel_rfl) ?_;refine wpAny_slotsF 9 (fun _ a b=>Below a.heap.size a b) (frame:=(fun (a b c d e f g h i j k l m n o p q r s u v w x y z A B C D E F G H I J K L M N O P Q R S T U V W X Y Z a0 a1 a2 a3 a4 a5 a6 a7 a8 a9 b0 b1 b2 b3 b4 b5 b6 b7 b8 b9 c0 c1 c2 c3 c4:Value)=>fun (t:Nat→Value)=>({ tmps:=List.toArray [a,b,c,d,e,f,g,h,t 8,i,j,k,l,m,n,o,p,q,r,s,u,v,w,x,y,z,A,B,C,D,E,F,G,H,I,J,K,L,M,N,O,P,Q,R,S,T,U,V,W,X,Y,Z,a0,a1,a2,a3,a4,a5,a6,a7,a8,a9,b0,b1,b2,b3,t 0,t 1,t 2,t 3,t 4,t 5,t 6,t 7,b4,b5,b6,b7,b8,b9,c0,c1,c2,c3,c4],defers:=[] }:Act)) _ _ _ _ _ _ _ _ _ _ _ _ _ _ _ _ _ _ _ _ _ _ _ _ _ _ _ _ _ _ _ _ _ _ _ _ _ _ _ _ _ _ _ _ _ _ _ _ _ _ _ _ _ _ _ _ _ _ _ _ _ _ _ _ _ _ _ _ _ _ _ _ _ _ _ _)
   (Ext:=fun L u w'=>ApH w6 [7,8] L u w') (Good:=fun i L w' v=>if i=0 then v=.pointer (some ⟨w.heap.size,0,none⟩) else if i=1 then v=.agg #[.slice da zs.length dc,.slice ca 0 cc,.int .i64 f,.bool false] else if i=2 then v=.int .i64 sl else if i=3 then v=.int .i64 (s:Int) else if i=4 then v=.slice (some ⟨g,0,none⟩) 128 gc else if i=5 then v=.slice (some ⟨g,0,none⟩) 64 gc else if i=6 then DAt w' v (dW (zs,[],f,false) (s:Int) z0).1 (dW (zs,[],f,false) (s:Int) z0).2.1 (dW (zs,[],f,false) (s:Int) z0).2.2.1 (dW (zs,[],f,false) (s:Int) z0).2.2.2 else if i=7 then DvY w6.heap.size w' v (dY (dW (zs,[],f,false) (s:Int) z0)).1 (dY (dW (zs,[],f,false) (s:Int) z0)).2.1 (dY (dW (zs,[],f,false) (s:Int) z0)).2.2.1 (dY (dW (zs,[],f,false) (s:Int) z0)).2.2.2 else if i=8 then NwB w6.heap.size 40 #[.slice none 0 0,.slice none 0 0,.int .i64 0,.bool false] w' v else True) (Fin:=fun u ww=>∃ Q V,u 8=.pointer (some ⟨Q,0,none⟩)∧ww.heap[Q]?=some (.cells V 40 (0,0))∧DAt ww (.agg V) (dY (dW (zs,[],f,false) (s:Int) z0)).1 (dY (dW (zs,[],f,false) (s:Int) z0)).2.1 (dY (dW (zs,[],f,false) (s:Int) z0)).2.2.1 (dY (dW (zs,[],f,false) (s:Int) z0)).2.2.2∧V.size=4∧w6.heap.size≤Q∧Below w6.heap.size w6 ww) rfl (by kernel_rfl) ?hstab (by kernel_rfl) ?hop ?hend ?hdone _ _ ((fun (x0 x1 x2 x3 x4 x5 x6 x7 x8:Value)=>fun (i:Nat)=>if i=0 then x0 else if i=1 then x1 else if i=2 then x2 else if i=3 then x3 else if i=4 then x4 else if i=5 then x5 else if i=6 then x6 else if i=7 then x7 else if i=8 then x8 else undef) _ _ _ _ _ _ _ _ _) _ (by simp) ?none ?ext (by simp)
  case none=>intro i;rw[Array.getD_eq_getD_getElem?,Array.getElem?_replicate];split<;>rfl
  case ext=>exact ApH.start w6 [7,8] _ _ (fun i=>by rw[Array.getD_eq_getD_getElem?,Array.getElem?_replicate];split<;>rfl) ⟨rfl,rfl,rfl,Nat.le_refl _,fun _ _=>rfl⟩
  case hstab=>
   intro j L w9 w' i v _ hM _ _ h;by_cases h6:j=6
   ·subst h6;simp at h ⊢;exact h.below hM
   by_cases h7:j=7
   ·subst h7;simp at h ⊢;exact h.below hM
   by_cases h8:j=8
   ·subst h8;simp at h ⊢;exact h.below hM
   simp only[if_neg h6,if_neg h7,if_neg h8] at h ⊢;exact h
  case hop=>
   intro i o L t w' hi ho hLi hx hdep K hK;have cG:∀ q9:Nat,w'.cell? ⟨w.heap.size,q9,none⟩=(#[.slice da zs.length dc,.slice ca 0 cc,.int .i64 f,.bool false,.slice ka ks.length kc,.bool r.ok,.int .u32 r.g,.int .u32 r.t,.slice aSD nSD cSD,.slice aSU nSU cSU,.slice (some ⟨fb,fo,none⟩) mF cF,.slice aD nD cD,.slice aU nU cU,.int .i64 r.k,.slice aT r.n cT,.int .u32 r.nx]:Array Value)[q9]?:=fun q9=>by rw[cell_of_row w' w.heap.size q9 _ _ _ ((hx.below.block _ (Array.getElem?_eq_some_iff.1 HX6.out.b0).1).trans HX6.out.b0)]
   have hsq:=run_q0 w' g gc HGC.out;obtain rfl|rfl|rfl|rfl|rfl|rfl|rfl|rfl|rfl:i=0∨i=1∨i=2∨i=3∨i=4∨i=5∨i=6∨i=7∨i=8:=by omega
   all_goals(simp at ho;subst ho)
   all_goals try(have hK':=hK w' _ rfl (hx.step _ _ (Below.refl _ _) (fun h=>absurd h (by decide))) (Below.refl _ _);clear hK;simp[Region.binds] at hdep;rw[if_pos (by rfl)];go_simp;simpa[hc',hg',upd,hdep,hwM,hsq] using hK')
   ·have d1:t 1=.agg #[.slice da zs.length dc,.slice ca 0 cc,.int .i64 f,.bool false]:=by simpa using(hdep ⟨1,.data⟩ (by simp) rfl).2
    have d3:t 3=.int .i64 (s:Int):=by simpa using(hdep ⟨3,.data⟩ (by simp) rfl).2
    have d5:t 5=.slice (some ⟨g,0,none⟩) 64 gc:=by simpa using(hdep ⟨5,.data⟩ (by simp) rfl).2
    clear hdep;have bw:Below w.heap.size w w':=HX6.out.below.trans (hx.below.mono HX6.out.below.size);have A:=HW1.out w' bw hx.below;have hK':∀ ww v,DAt ww v (dW (zs,[],f,false) (s:Int) z0).1 (dW (zs,[],f,false) (s:Int) z0).2.1 (dW (zs,[],f,false) (s:Int) z0).2.2.1 (dW (zs,[],f,false) (s:Int) z0).2.2.2→Below w'.heap.size w' ww→K _ ww:=fun ww v hv hb=>hK ww v (by simpa using hv) (hx.step 6 v hb (fun h=>absurd h (by decide))) hb
    clear hK;rw[if_pos (by rfl)];go_simp;try simp only[d1,d3,d5]
    refine A.mono ?_;rintro e w9 ⟨v9,rfl,h9,hb9⟩;have hK2:=hK' w9 v9 h9 hb9;clear hK' A h9 hb9;go_simp;simpa[hc',hg',upd,d1,d3,d5,hwM,hsq] using hK2
   ·have f6:DAt w' (t 6) (dW (zs,[],f,false) (s:Int) z0).1 (dW (zs,[],f,false) (s:Int) z0).2.1 (dW (zs,[],f,false) (s:Int) z0).2.2.1 (dW (zs,[],f,false) (s:Int) z0).2.2.2:=by simpa using(hdep ⟨6,.data⟩ (by simp) rfl).2
    clear hdep;have hsz:w6.heap.size≤w'.heap.size:=hx.below.size;have A:=HY1.out w' (t 6) f6;have hK':∀ ww v,DvY w6.heap.size ww v (dY (dW (zs,[],f,false) (s:Int) z0)).1 (dY (dW (zs,[],f,false) (s:Int) z0)).2.1 (dY (dW (zs,[],f,false) (s:Int) z0)).2.2.1 (dY (dW (zs,[],f,false) (s:Int) z0)).2.2.2→FreshH w' ww v→Below w'.heap.size w' ww→K _ ww:=fun ww v hv hf hb=>hK ww v (by simpa using hv) (hx.step 7 v hb (fun _=>hf)) hb
    clear hK;rw[if_pos (by rfl)];go_simp;try simp only[]
    refine A.mono ?_;rintro e w9 ⟨v9,rfl,h9,hb9⟩;have hK2:=hK' w9 v9 (h9.mono hsz) h9.fresh hb9;clear hK' A h9 hb9;go_simp;simpa[hc',hg',upd,hwM,hsq] using hK2
   ·clear hdep;have hsz:w6.heap.size≤w'.heap.size:=hx.below.size;have bb:Below w'.heap.size w' (w'.alloc (.cells #[.slice none 0 0,.slice none 0 0,.int .i64 0,.bool false] 40)):=(Below.refl _ _).alloc (Nat.le_refl _) _;have hnw:NwB w6.heap.size 40 #[.slice none 0 0,.slice none 0 0,.int .i64 0,.bool false] (w'.alloc (.cells #[.slice none 0 0,.slice none 0 0,.int .i64 0,.bool false] 40)) (.pointer (some ⟨w'.heap.size,0,none⟩)):=⟨w'.heap.size,rfl,hsz,heap_alloc_new w' _⟩
    have hfr:FreshH w' (w'.alloc (.cells #[.slice none 0 0,.slice none 0 0,.int .i64 0,.bool false] 40)) (.pointer (some ⟨w'.heap.size,0,none⟩)):=fun k hk=>by rw[has_ptr.1 hk];exact⟨Nat.le_refl _,by simp⟩
    have hK':=hK (w'.alloc (.cells #[.slice none 0 0,.slice none 0 0,.int .i64 0,.bool false] 40)) (.pointer (some ⟨w'.heap.size,0,none⟩)) (by simpa using hnw) (hx.step 8 _ bb (fun _=>hfr)) bb;clear hK bb hnw hfr;rw[if_pos (by rfl)];go_simp;simpa[hc',hg',upd] using hK'
  case hend=>
   intro o L t w' ho hx hg K hK;simp at ho;subst ho;have l7:L 7=true:=(hg 7 (by decide)).1;have f7:DvY w6.heap.size w' (t 7) (dY (dW (zs,[],f,false) (s:Int) z0)).1 (dY (dW (zs,[],f,false) (s:Int) z0)).2.1 (dY (dW (zs,[],f,false) (s:Int) z0)).2.2.1 (dY (dW (zs,[],f,false) (s:Int) z0)).2.2.2:=by simpa using(hg 7 (by decide)).2
   have l8:L 8=true:=(hg 8 (by decide)).1;have f8:NwB w6.heap.size 40 #[.slice none 0 0,.slice none 0 0,.int .i64 0,.bool false] w' (t 8):=by simpa using(hg 8 (by decide)).2
   clear hg;have hap:=hx.ap 7 (by decide) 8 (by decide) (by decide) l7 l8;obtain⟨q,e8,hq,hbx⟩:=f8;obtain⟨da9,dc9,ca9,cc9,E,e7,q1,q2,q3,q4,q5,⟨qs,hP,hqs⟩,q7⟩:=f7;have hne:∀ ad,da9=some ad→ad.block≠q:=fun ad e h=>by
    rw[e7,e8] at hap;exact hap ad.block (has_slice 0 rfl e) (has_ptr.2 h)
   have hK':∀ ww,Wr q w' ww→ww.heap[q]?=some (.cells #[.slice da9 (dY (dW (zs,[],f,false) (s:Int) z0)).1.length dc9,.slice ca9 (dY (dW (zs,[],f,false) (s:Int) z0)).2.1.length cc9,.int .i64 (dY (dW (zs,[],f,false) (s:Int) z0)).2.2.1,.bool (dY (dW (zs,[],f,false) (s:Int) z0)).2.2.2] 40 (0,0))→K _ ww:=fun ww hw hr=>hK ww undef ⟨q,_,by simp[upd];exact e8,hr,(show DvY w6.heap.size ww _ (dY (dW (zs,[],f,false) (s:Int) z0)).1 (dY (dW (zs,[],f,false) (s:Int) z0)).2.1 (dY (dW (zs,[],f,false) (s:Int) z0)).2.2.1 (dY (dW (zs,[],f,false) (s:Int) z0)).2.2.2 from⟨da9,dc9,ca9,cc9,E,rfl,q1.keep (fun ad e=>hw.block _ (hne ad e)) (Nat.le_of_eq hw.size.symm),q2.keep (fun ad e=>hw.block _ (hne ad e)) (Nat.le_of_eq hw.size.symm),q3,q4,by rw[hw.size];exact q5,⟨qs,hP.keepD (T:=40) (fun k cur t hh ht=>hw.block k (fun e=>by rw[e,hbx] at hh;simp at hh;exact ht hh.2.symm)) (.inl rfl),hqs⟩,q7⟩).at_,rfl,hq,hx.below.trans (hw.below hq)⟩
   clear hK q1 q2 q3 hne hP hqs;rw[if_pos (by rfl)];refine wp_store_row 40 (.tmp 8) (.tmp 73) rfl q _ e8 e7 40 _ hbx Tryz.sizeDv rfl (by simp[Value.oneCell']) ?_;have hK2:=hK' _ (Wr.setRow _ _ _) (setRow_heap _ _ _ _ _ _ hbx);clear hK';simpa[hc',hg',upd,Act.put] using hK2
  case hdone=>
   intro t w7 hf;obtain⟨Q,V,eQ,hr,hD,hV4,hQ6,b7⟩:=hf;have HX7:Hid (CX w M #[.slice da zs.length dc,.slice ca 0 cc,.int .i64 f,.bool false,.slice ka ks.length kc,.bool r.ok,.int .u32 r.g,.int .u32 r.t,.slice aSD nSD cSD,.slice aSU nSU cSU,.slice (some ⟨fb,fo,none⟩) mF cF,.slice aD nD cD,.slice aU nU cU,.int .i64 r.k,.slice aT r.n cT,.int .u32 r.nx] #[.bool r.ok,.int .u32 r.g,.int .u32 r.t,.slice aSD nSD cSD,.slice aSU nSU cSU,.slice (some ⟨fb,fo,none⟩) mF cF,.slice aD nD cD,.slice aU nU cU,.int .i64 r.k,.slice aT r.n cT,.int .u32 r.nx] w7):=HX6.out.call b7;have HQ:Hid (w7.heap[Q]?=some (.cells V 40 (0,0))∧V.size=4∧(Tryz.prog.info? 40).map (·.size)=some V.size∧Q<w7.heap.size∧M<Q):=⟨hr,hV4,by rw[hV4];exact Tryz.sizeDv,(Array.getElem?_eq_some_iff.1 hr).1,by have:=(Array.getElem?_eq_some_iff.1 HX6.out.bm).1;omega⟩
   have HW2:Hid (∀ ww,Below w7.heap.size w7 ww→Calls Tryz.prog 54 #[.agg V,.int .i64 ((s:Int)+1),.slice (some ⟨g,64,none⟩) 64 (gc-64)] ww fun e w'=>∃ r,e=.returned r∧DAt w' r (dW (dY (dW (zs,[],f,false) (s:Int) z0)) ((s:Int)+1) z1).1 (dW (dY (dW (zs,[],f,false) (s:Int) z0)) ((s:Int)+1) z1).2.1 (dW (dY (dW (zs,[],f,false) (s:Int) z0)) ((s:Int)+1) z1).2.2.1 (dW (dY (dW (zs,[],f,false) (s:Int) z0)) ((s:Int)+1) z1).2.2.2∧Below ww.heap.size ww w'):=fun ww b=>swD (hD.below b) HM2.out.1 HZL.out _ (HB1.out.below ((b7.trans (b.mono b7.size)))) HZZ.out.2
   have HY2:Hid (∀ ww v,DAt ww v (dW (dY (dW (zs,[],f,false) (s:Int) z0)) ((s:Int)+1) z1).1 (dW (dY (dW (zs,[],f,false) (s:Int) z0)) ((s:Int)+1) z1).2.1 (dW (dY (dW (zs,[],f,false) (s:Int) z0)) ((s:Int)+1) z1).2.2.1 (dW (dY (dW (zs,[],f,false) (s:Int) z0)) ((s:Int)+1) z1).2.2.2→Calls Tryz.prog 53 #[v] ww fun e w'=>∃ r,e=.returned r∧DvY ww.heap.size w' r (dY (dW (dY (dW (zs,[],f,false) (s:Int) z0)) ((s:Int)+1) z1)).1 (dY (dW (dY (dW (zs,[],f,false) (s:Int) z0)) ((s:Int)+1) z1)).2.1 (dY (dW (dY (dW (zs,[],f,false) (s:Int) z0)) ((s:Int)+1) z1)).2.2.1 (dY (dW (dY (dW (zs,[],f,false) (s:Int) z0)) ((s:Int)+1) z1)).2.2.2∧Below ww.heap.size ww w'):=fun ww v h=>syD9 h HM2.out.2 HZL.out
   simp only[eQ];clear eQ hr hD hV4 hQ6 b7;go_wp2_with fail;refine wp_region_any (by kernel_rfl) ?_;refine wpAny_slotsF 8 (fun _ a b=>Below a.heap.size a b) (frame:=(fun (a b c d e f g h i j k l m n o p q r s u v w x y z A B C D E F G H I J K L M N O P Q R S T U V W X Y Z a0 a1 a2 a3 a4 a5 a6 a7 a8 a9 b0 b1 b2 b3 b4 b5 b6 b7 b8 b9 c0 c1 c2 c3 c4 c5:Value)=>fun (t:Nat→Value)=>({ tmps:=List.toArray [a,b,c,d,e,f,g,h,i,j,k,l,m,n,o,p,q,r,s,u,v,w,x,y,z,A,B,C,D,E,F,G,H,I,J,K,L,M,N,O,P,Q,R,S,T,U,V,W,X,Y,Z,a0,a1,a2,a3,a4,a5,a6,a7,a8,a9,b0,b1,b2,b3,b4,b5,b6,b7,b8,b9,c0,c1,c2,t 0,t 1,t 2,t 3,t 4,t 5,t 6,t 7,c3,c4,c5],defers:=[] }:Act)) _ _ _ _ _ _ _ _ _ _ _ _ _ _ _ _ _ _ _ _ _ _ _ _ _ _ _ _ _ _ _ _ _ _ _ _ _ _ _ _ _ _ _ _ _ _ _ _ _ _ _ _ _ _ _ _ _ _ _ _ _ _ _ _ _ _ _ _ _ _ _ _ _ _ _ _ _)
    (Ext:=fun L u w'=>ApH w7 [] L u w') (Good:=fun i L w' v=>if i=0 then v=.agg V else if i=1 then v=.int .i64 sl else if i=2 then v=.int .i64 (s:Int) else if i=3 then v=.int .i64 ((s:Int)+1) else if i=4 then v=.slice (some ⟨g,0,none⟩) 128 gc else if i=5 then v=.slice (some ⟨g,64,none⟩) 64 (gc-64) else if i=6 then DAt w' v (dW (dY (dW (zs,[],f,false) (s:Int) z0)) ((s:Int)+1) z1).1 (dW (dY (dW (zs,[],f,false) (s:Int) z0)) ((s:Int)+1) z1).2.1 (dW (dY (dW (zs,[],f,false) (s:Int) z0)) ((s:Int)+1) z1).2.2.1 (dW (dY (dW (zs,[],f,false) (s:Int) z0)) ((s:Int)+1) z1).2.2.2 else if i=7 then DvY w7.heap.size w' v (dY (dW (dY (dW (zs,[],f,false) (s:Int) z0)) ((s:Int)+1) z1)).1 (dY (dW (dY (dW (zs,[],f,false) (s:Int) z0)) ((s:Int)+1) z1)).2.1 (dY (dW (dY (dW (zs,[],f,false) (s:Int) z0)) ((s:Int)+1) z1)).2.2.1 (dY (dW (dY (dW (zs,[],f,false) (s:Int) z0)) ((s:Int)+1) z1)).2.2.2 else True) (Fin:=fun _ ww=>∃ V,ww.heap[Q]?=some (.cells V 40 (0,0))∧DAt ww (.agg V) (dY (dW (dY (dW (zs,[],f,false) (s:Int) z0)) ((s:Int)+1) z1)).1 (dY (dW (dY (dW (zs,[],f,false) (s:Int) z0)) ((s:Int)+1) z1)).2.1 (dY (dW (dY (dW (zs,[],f,false) (s:Int) z0)) ((s:Int)+1) z1)).2.2.1 (dY (dW (dY (dW (zs,[],f,false) (s:Int) z0)) ((s:Int)+1) z1)).2.2.2∧V.size=4∧∃ w8,Below w7.heap.size w7 w8∧Wr Q w8 ww) rfl (by kernel_rfl) ?hstab (by kernel_rfl) ?hop ?hend ?hdone _ _ ((fun (x0 x1 x2 x3 x4 x5 x6 x7:Value)=>fun (i:Nat)=>if i=0 then x0 else if i=1 then x1 else if i=2 then x2 else if i=3 then x3 else if i=4 then x4 else if i=5 then x5 else if i=6 then x6 else if i=7 then x7 else undef) _ _ _ _ _ _ _ _) _ (by simp) ?none ?ext (by simp)
   case none=>intro i;rw[Array.getD_eq_getD_getElem?,Array.getElem?_replicate];split<;>rfl
   case ext=>exact ApH.start w7 [] _ _ (fun i=>by rw[Array.getD_eq_getD_getElem?,Array.getElem?_replicate];split<;>rfl) ⟨rfl,rfl,rfl,Nat.le_refl _,fun _ _=>rfl⟩
   case hstab=>
    intro j L w9 w' i v _ hM _ _ h;by_cases h6:j=6
    ·subst h6;simp at h ⊢;exact h.below hM
    by_cases h7:j=7
    ·subst h7;simp at h ⊢;exact h.below hM
    simp only[if_neg h6,if_neg h7] at h ⊢;exact h
   case hop=>
    intro i o L t w' hi ho hLi hx hdep K hK;have hsq:=run_q1 w' g gc HGC.out;obtain rfl|rfl|rfl|rfl|rfl|rfl|rfl|rfl:i=0∨i=1∨i=2∨i=3∨i=4∨i=5∨i=6∨i=7:=by omega
    all_goals(simp at ho;subst ho)
    all_goals try(have hK':=hK w' _ rfl (hx.step _ _ (Below.refl _ _) (fun h=>absurd h (by decide))) (Below.refl _ _);clear hK;simp[Region.binds] at hdep;rw[if_pos (by rfl)];go_simp;simpa[hc',hg',upd,hdep,hwM,hwA,hsq] using hK')
    ·clear hdep;have hK':=hK w' (.agg V) (by simp) (hx.step 0 _ (Below.refl _ _) (fun h=>absurd h (by decide))) (Below.refl _ _);clear hK;rw[if_pos (by rfl)];refine wp_load_row 40 (.tmp 8) rfl Q rfl 40 _ (0,0) _ ((hx.below.block _ HQ.out.2.2.2.1).trans HQ.out.1) Tryz.underlying40 rfl HQ.out.2.2.1 ?_;simpa[hc',hg',upd,Act.put] using hK'
    ·have d0:t 0=.agg V:=by simpa using(hdep ⟨0,.data⟩ (by simp) rfl).2
     have d3:t 3=.int .i64 ((s:Int)+1):=by simpa using(hdep ⟨3,.data⟩ (by simp) rfl).2
     have d5:t 5=.slice (some ⟨g,64,none⟩) 64 (gc-64):=by simpa using(hdep ⟨5,.data⟩ (by simp) rfl).2
     clear hdep;have A:=HW2.out w' hx.below;have hK':∀ ww v,DAt ww v (dW (dY (dW (zs,[],f,false) (s:Int) z0)) ((s:Int)+1) z1).1 (dW (dY (dW (zs,[],f,false) (s:Int) z0)) ((s:Int)+1) z1).2.1 (dW (dY (dW (zs,[],f,false) (s:Int) z0)) ((s:Int)+1) z1).2.2.1 (dW (dY (dW (zs,[],f,false) (s:Int) z0)) ((s:Int)+1) z1).2.2.2→Below w'.heap.size w' ww→K _ ww:=fun ww v hv hb=>hK ww v (by simpa using hv) (hx.step 6 v hb (fun h=>absurd h (by decide))) hb
     clear hK;rw[if_pos (by rfl)];go_simp;try simp only[d0,d3,d5]
     refine A.mono ?_;rintro e w9 ⟨v9,rfl,h9,hb9⟩;have hK2:=hK' w9 v9 h9 hb9;clear hK' A h9 hb9;go_simp;simpa[hc',hg',upd,d0,d3,d5,hwM,hwA,hsq] using hK2
    ·have f6:DAt w' (t 6) (dW (dY (dW (zs,[],f,false) (s:Int) z0)) ((s:Int)+1) z1).1 (dW (dY (dW (zs,[],f,false) (s:Int) z0)) ((s:Int)+1) z1).2.1 (dW (dY (dW (zs,[],f,false) (s:Int) z0)) ((s:Int)+1) z1).2.2.1 (dW (dY (dW (zs,[],f,false) (s:Int) z0)) ((s:Int)+1) z1).2.2.2:=by simpa using(hdep ⟨6,.data⟩ (by simp) rfl).2
     clear hdep;have hsz:w7.heap.size≤w'.heap.size:=hx.below.size;have A:=HY2.out w' (t 6) f6;have hK':∀ ww v,DvY w7.heap.size ww v (dY (dW (dY (dW (zs,[],f,false) (s:Int) z0)) ((s:Int)+1) z1)).1 (dY (dW (dY (dW (zs,[],f,false) (s:Int) z0)) ((s:Int)+1) z1)).2.1 (dY (dW (dY (dW (zs,[],f,false) (s:Int) z0)) ((s:Int)+1) z1)).2.2.1 (dY (dW (dY (dW (zs,[],f,false) (s:Int) z0)) ((s:Int)+1) z1)).2.2.2→Below w'.heap.size w' ww→K _ ww:=fun ww v hv hb=>hK ww v (by simpa using hv) (hx.step 7 v hb (fun h=>absurd h (by decide))) hb
     clear hK;rw[if_pos (by rfl)];go_simp;try simp only[]
     refine A.mono ?_;rintro e w9 ⟨v9,rfl,h9,hb9⟩;have hK2:=hK' w9 v9 (h9.mono hsz) hb9;clear hK' A h9 hb9;go_simp;simpa[hc',hg',upd,hwM,hwA,hsq] using hK2
   case hend=>
    intro o L t w' ho hx hg K hK;simp at ho;subst ho;have f7:DvY w7.heap.size w' (t 7) (dY (dW (dY (dW (zs,[],f,false) (s:Int) z0)) ((s:Int)+1) z1)).1 (dY (dW (dY (dW (zs,[],f,false) (s:Int) z0)) ((s:Int)+1) z1)).2.1 (dY (dW (dY (dW (zs,[],f,false) (s:Int) z0)) ((s:Int)+1) z1)).2.2.1 (dY (dW (dY (dW (zs,[],f,false) (s:Int) z0)) ((s:Int)+1) z1)).2.2.2:=by simpa using(hg 7 (by decide)).2
    clear hg;have hbx:=(hx.below.block _ HQ.out.2.2.2.1).trans HQ.out.1;obtain⟨da9,dc9,ca9,cc9,E,e7,q1,q2,q3,q4,q5,q6,q7⟩:=f7;have hK':∀ ww,Wr Q w' ww→ww.heap[Q]?=some (.cells #[.slice da9 (dY (dW (dY (dW (zs,[],f,false) (s:Int) z0)) ((s:Int)+1) z1)).1.length dc9,.slice ca9 (dY (dW (dY (dW (zs,[],f,false) (s:Int) z0)) ((s:Int)+1) z1)).2.1.length cc9,.int .i64 (dY (dW (dY (dW (zs,[],f,false) (s:Int) z0)) ((s:Int)+1) z1)).2.2.1,.bool (dY (dW (dY (dW (zs,[],f,false) (s:Int) z0)) ((s:Int)+1) z1)).2.2.2] 40 (0,0))→K _ ww:=fun ww hw hr=>hK ww undef ⟨_,hr,((show DvY w7.heap.size w' _ (dY (dW (dY (dW (zs,[],f,false) (s:Int) z0)) ((s:Int)+1) z1)).1 (dY (dW (dY (dW (zs,[],f,false) (s:Int) z0)) ((s:Int)+1) z1)).2.1 (dY (dW (dY (dW (zs,[],f,false) (s:Int) z0)) ((s:Int)+1) z1)).2.2.1 (dY (dW (dY (dW (zs,[],f,false) (s:Int) z0)) ((s:Int)+1) z1)).2.2.2 from⟨da9,dc9,ca9,cc9,E,rfl,q1,q2,q3,q4,q5,q6,q7⟩).keep (fun j hj _=>hw.block j (by have:=HQ.out.2.2.2.1;omega)) (Nat.le_of_eq hw.size.symm)).at_,rfl,w',hx.below,hw⟩
    clear hK q1 q2 q3 q6;rw[if_pos (by rfl)];refine wp_store_row 40 (.tmp 8) (.tmp 81) rfl Q _ rfl e7 40 _ hbx Tryz.sizeDv (by have:=HQ.out.2.1;simpa using this) (by simp[Value.oneCell']) ?_;have hK2:=hK' _ (Wr.setRow _ _ _) (setRow_heap _ _ _ _ _ _ hbx);clear hK';simpa[hc',hg',upd,Act.put] using hK2
   case hdone=>
    intro t w9 hf;obtain⟨V2,hr,hD,hV4,w8,b8,hw8⟩:=hf;rw[HCE.out.1] at hD;have HX9:Hid (CX w M #[.slice da zs.length dc,.slice ca 0 cc,.int .i64 f,.bool false,.slice ka ks.length kc,.bool r.ok,.int .u32 r.g,.int .u32 r.t,.slice aSD nSD cSD,.slice aSU nSU cSU,.slice (some ⟨fb,fo,none⟩) mF cF,.slice aD nD cD,.slice aU nU cU,.int .i64 r.k,.slice aT r.n cT,.int .u32 r.nx] #[.bool r.ok,.int .u32 r.g,.int .u32 r.t,.slice aSD nSD cSD,.slice aSU nSU cSU,.slice (some ⟨fb,fo,none⟩) mF cF,.slice aD nD cD,.slice aU nU cU,.int .i64 r.k,.slice aT r.n cT,.int .u32 r.nx] w9):=(HX7.out.call b8).put hw8 HQ.out.2.2.2.2;have HQ9:Hid (w9.heap[Q]?=some (.cells V2 40 (0,0))∧(Tryz.prog.info? 40).map (·.size)=some V2.size):=⟨hr,by rw[hV4];exact Tryz.sizeDv⟩
    have HSA:Hid (Calls Tryz.prog 114 #[.agg #[.slice da zs.length dc,.slice ca 0 cc,.int .i64 f,.bool false,.slice ka ks.length kc,.bool r.ok,.int .u32 r.g,.int .u32 r.t,.slice aSD nSD cSD,.slice aSU nSU cSU,.slice (some ⟨fb,fo,none⟩) mF cF,.slice aD nD cD,.slice aU nU cU,.int .i64 r.k,.slice aT r.n cT,.int .u32 r.nx],.agg V2,.int .i64 9] w9 fun e w'=>∃ X,e=.returned (.agg X)∧RM w9.heap.size w' X (cpC zs f r) (cpD zs f r).1 (cpD zs f r).2.1 ks (cpD zs f r).2.2.1 (cpD zs f r).2.2.2 (cpI zs f r)∧Below w9.heap.size w9 w'):=by
     rw[HO.out.1,HO.out.2.1,HO.out.2.2];have hk:=HCE.out.2;exact saf_any #[.slice da zs.length dc,.slice ca 0 cc,.int .i64 f,.bool false,.slice ka ks.length kc,.bool r.ok,.int .u32 r.g,.int .u32 r.t,.slice aSD nSD cSD,.slice aSU nSU cSU,.slice (some ⟨fb,fo,none⟩) mF cF,.slice aD nD cD,.slice aU nU cU,.int .i64 r.k,.slice aT r.n cT,.int .u32 r.nx] (.agg V2) zs [] f false (cmT zs f r) ks 9 r w9 (HGA.out.below HX9.out.below) hD HLL.out.1 (by rw[hk.len];exact HZL.out) (by have:=hk.pl;omega) (fun i=>by have:=hk.ps i;omega) hk.bz hk.bp HLL.out.2
    clear hr hD hV4 b8 hw8;go_wp2_with (first
     |(refine wpList_load_row rfl 48 (.tmp 1) rfl w.heap.size rfl 48 _ (0,0) _ HX9.out.b0 Tryz.underlying48 rfl Tryz.sizeG ?_)
     |(refine wpList_load_row rfl 40 (.tmp 8) rfl Q rfl 40 _ (0,0) _ HQ9.out.1 Tryz.underlying40 rfl HQ9.out.2 ?_)
     |fail)
    refine HSA.out.mono ?_;rintro e w10 ⟨X9,rfl,hR9,b9⟩;have HR9:Hid (w10.heap[w.heap.size+1]?=some (.cells zrR 50 (0,0))):=(b9.block _ (Array.getElem?_eq_some_iff.1 HX9.out.b1).1).trans HX9.out.b1;have HXX:Hid ((Tryz.prog.info? 50).map (·.size)=some X9.size∧zrR.size=X9.size∧X9.all (·.oneCell')=true):=⟨by rw[hR9.row.1];exact Tryz.sizeR,by rw[hR9.row.1];rfl,hR9.row.2⟩
    have HF:Hid (RM w9.heap.size w10 X9 (cpC zs f r) (cpD zs f r).1 (cpD zs f r).2.1 ks (cpD zs f r).2.2.1 (cpD zs f r).2.2.2 (cpI zs f r)∧Below w.heap.size w w10∧w.heap.size+1<w9.heap.size):=⟨hR9,HX9.out.below.trans (b9.mono HX9.out.below.size),(Array.getElem?_eq_some_iff.1 HX9.out.b1).1⟩
    clear hR9 b9;go_wp2_with (first
     |(refine wpList_store_row rfl 50 (.tmp 2) (.tmp 84) rfl (w.heap.size+1) X9 rfl rfl 50 _ HR9.out HXX.out.1 HXX.out.2.1 HXX.out.2.2 ?_)
     |fail)
    (try simp only[Exit.inBlock,Exit.then])
    have hw9:=Wr.setRow (w.heap.size+1) w10 X9;have hfin:=(HF.out.1.keep (Nat.le_of_eq hw9.size.symm) (fun k hk _=>hw9.block k (by have:=HF.out.2.2;omega))).mono (show w.heap.size≤w9.heap.size by have:=HF.out.2.2;omega);have hbel:Below w.heap.size w (w10.setRow (w.heap.size+1) X9):=HF.out.2.1.trans (hw9.below (by omega));have hres:=setRow_heap w10 (w.heap.size+1) _ X9 _ _ HR9.out;clear hw9;exact bodyPost_ret (v:=.agg X9) (results_cell_row rfl _ _ (w.heap.size+1) 50 _ (0,0) _ rfl hres Tryz.underlying50 rfl HXX.out.1) rfl ⟨X9,rfl,hfin,hbel⟩
end Go.Proofs.YthmeoilbmfdhfaaGreat
