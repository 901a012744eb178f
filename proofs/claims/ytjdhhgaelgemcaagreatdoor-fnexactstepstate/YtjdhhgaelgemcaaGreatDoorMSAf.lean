import Derived.Test.YtjdhhgaelgemcaaGreatDoorMSPow12
import Derived.OwnWalk
import Derived.ScopeJumps
import Derived.WalkMore
namespace Go.Proofs.YtjdhhgaelgemcaaGreatDoor
open Go.ChangeShapes Go.WideShapes Go.ChangeAt Go.RowKit
set_option linter.unusedVariables false
def PtW (w:World) (g:Nat) (cs:Array Value):Prop:=w.heap[g]?=some (.cells cs 109 (0,0))
theorem PtW.below {w w':World} {g B:Nat} {cs:Array Value} (h:PtW w g cs) (b:Below B w w') (hg:g<B):PtW w' g cs:=by unfold PtW;rw[b.block g hg];exact h
theorem PtW.lt {w:World} {g:Nat} {cs:Array Value} (h:PtW w g cs):g<w.heap.size:=(Array.getElem?_eq_some_iff.1 h).1
theorem PtW.new (w:World):PtW (w.alloc (.cells #[.slice none 0 0,.slice none 0 0,.slice none 0 0,.slice none 0 0] 109)) w.heap.size #[.slice none 0 0,.slice none 0 0,.slice none 0 0,.slice none 0 0]:=heap_alloc_new w _
theorem Tryz.sizePt:(Tryz.prog.info? 109).map (·.size)=some 4:=by kernel_rfl
theorem wpList_storePt {w:World} {ops:Array Oper} {rest:List Oper} {o:Oper} {a:Act} {Q:Exit→Act→World→Prop} (hgd:o.guard=none) (x y:Operand) (ho:o.op=.store 109 x y)
  (G:Nat) (s1 s2 s3 s4:Value) (old:Array Value) (h1:s1.oneCell'=true) (h2:s2.oneCell'=true) (h3:s3.oneCell'=true) (h4:s4.oneCell'=true) (hx:a.eval x=.pointer (some ⟨G,0,none⟩)) (hy:a.eval y=.agg #[s1,s2,s3,s4]) (hl:old.size=4) (hr:PtW w G old)
  (hK:∀ w',PtW w' G #[s1,s2,s3,s4]→Wr G w w'→wpList Tryz.prog ops Q rest (a.put o.dst undef) w') :
  wpList Tryz.prog ops Q (o::rest) a w:=
 wpList_store_row hgd 109 x y ho G #[s1,s2,s3,s4] hx hy 109 _ hr Tryz.sizePt (by simp[hl]) (by simp[h1,h2,h3,h4]) (hK _ (setRow_heap _ _ _ _ _ _ hr) (Wr.setRow _ _ _))
def AfP (w:World) (a a':Option Addr) (cap cap':Nat) (x y:Int) (e:Ending) (w':World):Prop:=
 ∃ gz cz gt ct,e=.returned (.agg #[.slice a 16 cap,.slice a' 16 cap',.slice (some ⟨gz,0,none⟩) 16 cz,.slice (some ⟨gt,0,none⟩) 16 ct])∧FeA w' (some ⟨gz,0,none⟩) (1%fp)∧FeA w' (some ⟨gt,0,none⟩) (x*y%fp)∧Below w.heap.size w w'∧w.heap.size≤gz∧w.heap.size≤gt
theorem FeA.wr {w w':World} {g V:Nat} {x:Int} (h:FeA w (some ⟨g,0,none⟩) x) (hw:Wr V w w') (hne:g≠V):FeA w' (some ⟨g,0,none⟩) x:=by
 obtain⟨zs,h1,h2,h3⟩:=h;refine⟨zs,?_,h2,h3⟩;obtain⟨b,o,e,hb,hc⟩:=h1.get (by have:=h2.1;omega);cases e;exact .inr ⟨g,0,rfl,by rw[hw.size];exact hb,fun i hi=>by rw[World.cell?_of_block (a:=⟨g,0+i,none⟩) (w:=w) (hw.block g hne)];exact hc i hi⟩
set_option maxHeartbeats 2000000 in
theorem affine_any (a a':Option Addr) (cap cap':Nat) (x y:Int) (w:World) (ha:FeA w a x) (ha':FeA w a' y) :
  Calls Tryz.prog 94 #[.slice a 16 cap,.slice a' 16 cap'] w (AfP w a a' cap cap' x y):=by
 have b0:Below w.heap.size w (w.alloc (.cells #[.slice none 0 0,.slice none 0 0,.slice none 0 0,.slice none 0 0] 109)):=below_new3 _ _;have HP0:Hid (PtW (w.alloc (.cells #[.slice none 0 0,.slice none 0 0,.slice none 0 0,.slice none 0 0] 109)) w.heap.size #[.slice none 0 0,.slice none 0 0,.slice none 0 0,.slice none 0 0]):=PtW.new w;have HS0:Hid (SR w (w.alloc (.cells #[.slice none 0 0,.slice none 0 0,.slice none 0 0,.slice none 0 0] 109)) [(a,x),(a',y)]):=⟨b0,fun e he=>by
  simp only[List.mem_cons,List.not_mem_nil,or_false] at he;rcases he with rfl|rfl
  ·exact ha.below b0
  ·exact ha'.below b0⟩
 clear ha ha' b0;go_enter Tryz.func94,Tryz.ntmps94;go_wp2_with fail;refine(small_any 1 _ (by decide) (by decide)).mono ?_;rintro e w1 ⟨g1,c1,rfl,k1,l1,hf,hb⟩;have HP1:Hid (PtW w1 w.heap.size #[.slice none 0 0,.slice none 0 0,.slice none 0 0,.slice none 0 0]):=HP0.out.below hb HP0.out.lt;have HS1:Hid (SR w w1 [(some ⟨g1,0,none⟩,1%fp),(a,x),(a',y)]):=HS0.out.add hf hb;have hg1:w.heap.size<g1:=by have:=HP0.out.lt;omega
 clear hf hb HS0 HP0;go_wp2_with fail;refine(fmul_any _ _ cap cap' x y _ (HS1.out.at 1 _ _ rfl) (HS1.out.at 2 _ _ rfl)).mono ?_;rintro e w2 ⟨g2,c2,rfl,k2,l2,hf,hb⟩;have HP2:Hid (PtW w2 w.heap.size #[.slice none 0 0,.slice none 0 0,.slice none 0 0,.slice none 0 0]):=HP1.out.below hb HP1.out.lt;have HS2:Hid (SR w w2 [(some ⟨g2,0,none⟩,x*y%fp),(some ⟨g1,0,none⟩,1%fp),(a,x),(a',y)]):=HS1.out.add hf hb;have hg2:w.heap.size<g2:=by have:=HP1.out.lt;omega
 clear hf hb HS1 HP1;go_wp2_with (first
  |(refine wpList_storePt rfl (.tmp 4) (.tmp 11) rfl w.heap.size _ _ _ _ _ rfl rfl rfl rfl rfl rfl rfl HP2.out ?_)
  |fail)
 intro w3 hp3 hw3;have HP3:Hid (PtW w3 w.heap.size #[.slice a 16 cap,.slice a' 16 cap',.slice (some ⟨g1,0,none⟩) 16 c1,.slice (some ⟨g2,0,none⟩) 16 c2]):=hp3;have HF:Hid (FeA w3 (some ⟨g1,0,none⟩) (1%fp)∧FeA w3 (some ⟨g2,0,none⟩) (x*y%fp)∧Below w.heap.size w w3):=
  ⟨(HS2.out.at 1 _ _ rfl).wr hw3 (by omega),(HS2.out.at 0 _ _ rfl).wr hw3 (by omega),HS2.out.below.trans (hw3.below (Nat.le_refl _))⟩
 clear hp3 hw3 HS2 HP2;go_wp2;exact bodyPost_ret (v:=.agg #[.slice a 16 cap,.slice a' 16 cap',.slice (some ⟨g1,0,none⟩) 16 c1,.slice (some ⟨g2,0,none⟩) 16 c2]) (results_cell_row rfl _ _ w.heap.size 109 _ (0,0) _ rfl HP3.out Tryz.underlying109 rfl Tryz.sizePt) rfl ⟨g1,c1,g2,c2,rfl,HF.out.1,HF.out.2.1,HF.out.2.2,by omega,by omega⟩
theorem results_pt {fn:Func} {p u:Tmp} (h:fn.results=#[.tmp u,.cell p 109]) (tmps:Array Value) (w:World) (g:Nat) (s1 s2 s3 s4:Value)
  (v:Value) (hv:tmps.getD u undef=v) (hp:tmps.getD p undef=.pointer (some ⟨g,0,none⟩)) (hg:PtW w g #[s1,s2,s3,s4]) :
  (results fn tmps).run Tryz.prog w=.ok (.tuple #[v,.agg #[s1,s2,s3,s4]]) w:=by
 have hp':tmps[p]?.getD undef=.pointer (some ⟨g,0,none⟩):=by simpa using hp
 have hv':tmps[u]?.getD undef=v:=by simpa using hv
 have hl:=run_loadVar_row (P:=Tryz.prog) w g 109 109 #[s1,s2,s3,s4] (0,0) _ hg Tryz.underlying109 rfl Tryz.sizePt;simp[results,h,hp',hv',asAddr,hl]
theorem fp_lit':fp=57896044618658097711785492504343953926634992332820282019728792003956564819949:=by decide
def mY (zs:List Int):Int:=val 256 zs%(fp+19)
def mO (zs:List Int):Int:=zs.getD 31 0/128
def mB (zs:List Int) (D:Int):Bool:=(zs.length == 32) && decide (mY zs<fp) && mdOk (mY zs) D && !(mO zs == 1 && decide (mdX (mY zs) D=0%fp))
def mX (zs:List Int) (D:Int):Int:=if mdX (mY zs) D%2=mO zs then mdX (mY zs) D else(0%fp-mdX (mY zs) D)%fp
def MD (w:World) (zs:List Int) (D:Int) (e:Ending) (w':World):Prop:=
 ∃ s1 s2 s3 s4:Value,e=.returned (.tuple #[.bool (mB zs D),.agg #[s1,s2,s3,s4]])∧Below w.heap.size w w'∧(s1.oneCell'=true∧s2.oneCell'=true∧s3.oneCell'=true∧s4.oneCell'=true)∧
  (mB zs D=true→∃ g1 c1 g2 c2 g3 c3 g4 c4,s1=.slice (some ⟨g1,0,none⟩) 16 c1∧s2=.slice (some ⟨g2,0,none⟩) 16 c2∧s3=.slice (some ⟨g3,0,none⟩) 16 c3∧s4=.slice (some ⟨g4,0,none⟩) 16 c4∧
   FeA w' (some ⟨g1,0,none⟩) (mX zs D)∧FeA w' (some ⟨g2,0,none⟩) (mY zs)∧FeA w' (some ⟨g3,0,none⟩) (1%fp)∧FeA w' (some ⟨g4,0,none⟩) (mX zs D*mY zs%fp))
theorem val_par (ds:List Int) (h:ds.length=16):val 65536 ds%2=ds.getD 0 0%2:=by
 cases ds with
 |nil=>simp at h
 |cons d r=>simp only[val,List.getD_cons_zero];omega
theorem ls_fe {w:World} {a:Option Addr} {x:Int} (h:LsA w a x):FeA w a (x%fp):=by
 obtain⟨zs,h1,h2,h3,h4⟩:=h;exact⟨zs,h1,⟨h2,fun i=>by have:=h3 i;omega⟩,by unfold fv;rw[h4]⟩
set_option maxHeartbeats 4000000 in
theorem decodeS_any (p a':Option Addr) (n cap cap':Nat) (zs:List Int) (D:Int) (w:World) (hn:zs.length=n) (hm:n≤1048576) (ha:At .u8 w p zs) (hz:Byte zs) (hD:FeA w a' D) :
  Calls Tryz.prog 72 #[.slice p n cap,.slice a' 16 cap'] w (MD w zs D):=by
 have b0:Below w.heap.size w (w.alloc (.cells #[.slice none 0 0,.slice none 0 0,.slice none 0 0,.slice none 0 0] 109)):=below_new3 _ _;have HP0:Hid (PtW (w.alloc (.cells #[.slice none 0 0,.slice none 0 0,.slice none 0 0,.slice none 0 0] 109)) w.heap.size #[.slice none 0 0,.slice none 0 0,.slice none 0 0,.slice none 0 0]):=PtW.new w;by_cases h32:n=32
 ·have H32:Hid (32≤n∧n≤32):=by show _∧_;omega
  have h32':((n:Int) == 32)=true:=by rw[h32];rfl
  have HLN:Hid ((zs.length == 32)=true):=by show _=_;rw[hn,h32];rfl
  have HA0:Hid (At .u8 w p zs):=ha;have HZ:Hid (Byte zs):=hz;have HB0:Hid (Below w.heap.size w (w.alloc (.cells #[.slice none 0 0,.slice none 0 0,.slice none 0 0,.slice none 0 0] 109))):=b0;have HD0:Hid (FeA w a' D):=hD;have hsz0:=HP0.out.lt;clear h32 b0 ha hz hD;go_enter Tryz.func72,Tryz.ntmps72;go_wp2_with fail;refine(fromBytes_any p n cap zs _ hn H32.out.1 H32.out.2 (HA0.out.below HB0.out) HZ.out).mono ?_;rintro e w1 ⟨gy,cy,rfl,ky,ly,hly,hb1⟩;have HP1:Hid (PtW w1 w.heap.size #[.slice none 0 0,.slice none 0 0,.slice none 0 0,.slice none 0 0]):=HP0.out.below hb1 hsz0;have HB1:Hid (Below w.heap.size w w1):=HB0.out.trans (hb1.mono HB0.out.size);have HLY:Hid (LsA w1 (some ⟨gy,0,none⟩) (mY zs)):=hly;have hgy:w.heap.size<gy:=by omega
  clear hly hb1 HP0 HB0;go_wp2_with fail;refine(least_any _ cy (mY zs%fp) _ (ls_fe HLY.out)).mono ?_;rintro e w2 ⟨gl,cl,rfl,kl,ll,hll,hb2⟩;have HP2:Hid (PtW w2 w.heap.size #[.slice none 0 0,.slice none 0 0,.slice none 0 0,.slice none 0 0]):=HP1.out.below hb2 HP1.out.lt;have HB2:Hid (Below w.heap.size w w2):=HB1.out.trans (hb2.mono HB1.out.size);have hly2:=HLY.out.below hb2;have HFY:Hid (FeA w2 (some ⟨gy,0,none⟩) (mY zs%fp)):=ls_fe hly2;obtain⟨xs,hA1,hx1,hx2,hx3⟩:=hly2;obtain⟨ys,hA2,hy1,hy2,hy3⟩:=hll;have HEQ:Hid (mY zs=mY zs%fp↔∀ i,i<16→xs.getD i 0=ys.getD i 0):=by
   show _↔_
   rw[←hx3] at hy3 ⊢;rw[←hy3];exact ls_eq hx1 hy1 hx2 hy2
  have HC1:Hid (∀ i,i<16→w2.cell? ⟨gy,i,none⟩=some (.int .i64 (xs.getD i 0))):=fun i hi=>by
   obtain⟨b,o,e,_,h⟩:=hA1.get (by omega);cases e;have:=h i (by omega)
   rwa [Nat.zero_add] at this
  have HC2:Hid (∀ i,i<16→w2.cell? ⟨gl,i,none⟩=some (.int .i64 (ys.getD i 0))):=fun i hi=>by
   obtain⟨b,o,e,_,h⟩:=hA2.get (by omega);cases e;have:=h i (by omega)
   rwa [Nat.zero_add] at this
  have HYP:Hid (mY zs=mY zs%fp↔mY zs<fp):=by
   show _↔_
   have h0:0≤mY zs:=by unfold mY;rw[fp_lit'];omega
   rw[fp_lit'] at *;omega
  clear hb2 HB1 HP1 HLY hA1 hA2 hx1 hx2 hx3 hy1 hy2 hy3;go_wp2
  go_loopw [8] (fun i wr=>∃(k q:Nat),k≤16∧i=.int .i64 k∧wr=w2.drewN q∧∀ i,i<k→xs.getD i 0=ys.getD i 0) (fun i _=>16-(intOf i).toNat)
  case atStart=>exact⟨0,0,by decide,rfl,rfl,fun i hi=>by omega⟩
  case round=>
   obtain⟨k,q,hk,rfl,rfl,hall⟩:=hrel;have HALL:Hid (∀ i,i<k→xs.getD i 0=ys.getD i 0):=hall;clear hall;by_cases hlt:k<16
   ·have hlt':(k:Int)<16:=by omega
    have c1':=HC1.out k hlt;have c2':=HC2.out k hlt;have HXY:Hid (∀ d e:Int,xs.getD k 0=d→ys.getD k 0=e→d=e→∀ i,i<k+1→xs.getD i 0=ys.getD i 0):=fun d e h1 h2 h3 i hi=>by
     by_cases h:i=k
     ·subst h;rw[h1,h2,h3]
     ·exact HALL.out i (by omega)
    have HNE:Hid (xs.getD k 0≠ys.getD k 0→mB zs D=false):=fun h=>by
     have:decide (mY zs<fp)=false:=decide_eq_false (fun e=>h (HEQ.out.1 (HYP.out.2 e) k hlt));unfold mB;rw[this];simp
    by_cases hxy:xs.getD k 0=ys.getD k 0
    ·have HS:Hid (∀ i,i<k+1→xs.getD i 0=ys.getD i 0):=HXY.out _ _ rfl rfl hxy;rw[←hxy] at c2';clear HXY HNE hxy;generalize xs.getD k 0=d at *;go_wp2
     go_quiet (fail)
     rw[dN_dN];clear c1' c2';go_wp2;go_roundw
     case rel=>exact⟨k+1,q+nq,by omega,by go_num,rfl,HS.out⟩
     case measure=>simp[intOf];omega
    ·have HR:Hid (mB zs D=false):=HNE.out hxy;clear HXY HNE;generalize xs.getD k 0=d at *;generalize ys.getD k 0=d' at *;have hdd:(d == d')=false:=by simpa using hxy
     have hdn:(d != d')=true:=by simpa using hxy
     clear hxy;go_wp2
     go_quiet (fail)
     rw[dN_dN];clear c1' c2' hdd hdn;have HPQ:Hid (PtW (w2.drewN (q+nq)) w.heap.size #[.slice none 0 0,.slice none 0 0,.slice none 0 0,.slice none 0 0]):=HP2.out;have HBQ:Hid (Below w.heap.size w (w2.drewN (q+nq))):=⟨HB2.out.os,HB2.out.tape,HB2.out.output,HB2.out.size,HB2.out.block⟩
     clear HP2 HB2 HC1 HC2;generalize w2.drewN (q+nq)=w5 at *;go_wp2_with (first
      |(refine wpList_storePt rfl (.tmp 5) (.tmp 33) rfl w.heap.size _ _ _ _ _ rfl rfl rfl rfl rfl rfl rfl HPQ.out ?_)
      |fail)
     intro wxa hpx hwx;have HPX:Hid (PtW wxa w.heap.size #[.slice none 0 0,.slice none 0 0,.slice none 0 0,.slice none 0 0]):=hpx;have HBX:Hid (Below w.heap.size w wxa):=HBQ.out.trans (hwx.below (Nat.le_refl _));clear hpx hwx HPQ HBQ;go_wp2;refine bodyPost_ret (v:=.tuple #[.bool false,.agg #[.slice none 0 0,.slice none 0 0,.slice none 0 0,.slice none 0 0]]) (results_pt rfl _ _ w.heap.size _ _ _ _ _ rfl rfl HPX.out) rfl ⟨_,_,_,_,by rw[HR.out],HBX.out,by exact⟨rfl,rfl,rfl,rfl⟩,fun h=>?_⟩;rw[HR.out] at h;cases h
   ·have HYL:Hid (mY zs<fp):=HYP.out.1 (HEQ.out.2 (fun i hi=>HALL.out i (by omega)));have hlt':¬ (k:Int)<16:=by omega
    have HP3:Hid (PtW (w2.drewN q) w.heap.size #[.slice none 0 0,.slice none 0 0,.slice none 0 0,.slice none 0 0]):=HP2.out;have HB3:Hid (Below w.heap.size w (w2.drewN q)):=⟨HB2.out.os,HB2.out.tape,HB2.out.output,HB2.out.size,HB2.out.block⟩
    have HF3:Hid (FeA (w2.drewN q) (some ⟨gy,0,none⟩) (mY zs)):=by
     have h:=HFY.out;rw[←HYP.out.2 HYL.out] at h;exact h
    have hsq:w2.heap.size≤(w2.drewN q).heap.size:=Nat.le_refl _;clear HP2 HB2 HC1 HC2 HEQ HALL HYP HFY;generalize w2.drewN q=w3 at *;go_wp2_with fail;have hgl3:=HP3.out.lt;have hg3:gy<w3.heap.size:=by omega
    refine(root_any _ a' cy cap' (mY zs) D _ HF3.out (HD0.out.below HB3.out)).mono ?_;rintro e w4 ⟨gx,cx,rfl,kx,lx,hfx,hb4⟩;have HP4:Hid (PtW w4 w.heap.size #[.slice none 0 0,.slice none 0 0,.slice none 0 0,.slice none 0 0]):=HP3.out.below hb4 HP3.out.lt;have HB4:Hid (Below w.heap.size w w4):=HB3.out.trans (hb4.mono HB3.out.size);have HF4:Hid (FeA w4 (some ⟨gy,0,none⟩) (mY zs)):=HF3.out.below hb4;have HX4:Hid (FeA w4 (some ⟨gx,0,none⟩) (mdX (mY zs) D)):=hfx;have hgx:w.heap.size<gx:=by omega
    clear hfx hb4 HP3 HB3 HF3;cases hok:mdOk (mY zs) D
    ·have HR:Hid (mB zs D=false):=by
      show _=_
      unfold mB;rw[hok];simp
     clear hok;go_wp2_with (first
      |(refine wpList_storePt rfl (.tmp 5) (.tmp 42) rfl w.heap.size _ _ _ _ _ rfl rfl rfl rfl rfl rfl rfl HP4.out ?_)
      |fail)
     intro wxb hpx hwx;have HPX:Hid (PtW wxb w.heap.size #[.slice none 0 0,.slice none 0 0,.slice none 0 0,.slice none 0 0]):=hpx;have HBX:Hid (Below w.heap.size w wxb):=HB4.out.trans (hwx.below (Nat.le_refl _));clear hpx hwx HP4 HB4;go_wp2;refine bodyPost_ret (v:=.tuple #[.bool false,.agg #[.slice none 0 0,.slice none 0 0,.slice none 0 0,.slice none 0 0]]) (results_pt rfl _ _ w.heap.size _ _ _ _ _ rfl rfl HPX.out) rfl ⟨_,_,_,_,by rw[HR.out],HBX.out,by exact⟨rfl,rfl,rfl,rfl⟩,fun h=>?_⟩;rw[HR.out] at h;cases h
    ·obtain⟨bb,off,rfl,hbb,hcc⟩:=(HA0.out.below HB4.out).get (by have:=H32.out;omega);have c31:=hcc 31 (by have:=H32.out;omega);obtain⟨q0,q1⟩:=HZ.out.get 31;have HMB:Hid (mB zs D=!(mO zs == 1 && decide (mdX (mY zs) D=0%fp))):=by
      show _=_
      unfold mB;rw[hok,HLN.out,decide_eq_true HYL.out];simp
     have HMO:Hid (mO zs=zs.getD 31 0/128):=rfl;clear hok hcc HA0 HZ HLN;generalize zs.getD 31 0=d31 at *;have htd:d31.tdiv 128=d31/128:=Int.tdiv_eq_ediv_of_nonneg q0;have hi31:(31:Int)<(n:Int):=by have:=H32.out;omega
     have hwd:IntKind.i64.wrap (d31/128)=d31/128:=by rw[IntKind.wrap_i64];omega
     have hwu:IntKind.u8.wrap (d31/128)=d31/128:=by rw[IntKind.wrap_u8];omega
     by_cases hod:128≤d31
     ·have hd1:d31/128=1:=by omega
      have HOD:Hid (d31/128=1):=hd1;go_wp2_with fail;refine(small_any 0 _ (by decide) (by decide)).mono ?_;rintro e w5 ⟨g5,c5,rfl,k5,l5,hf5,hb5⟩;have HP5:Hid (PtW w5 w.heap.size #[.slice none 0 0,.slice none 0 0,.slice none 0 0,.slice none 0 0]):=HP4.out.below hb5 HP4.out.lt;have HB5:Hid (Below w.heap.size w w5):=HB4.out.trans (hb5.mono HB4.out.size);have HF5:Hid (FeA w5 (some ⟨gy,0,none⟩) (mY zs)):=HF4.out.below hb5;have HX5:Hid (FeA w5 (some ⟨gx,0,none⟩) (mdX (mY zs) D)):=HX4.out.below hb5;have hlt5:=HP5.out.lt;have H05:Hid (FeA w5 (some ⟨g5,0,none⟩) (0%fp)):=hf5;clear hf5 hb5 HP4 HB4 HF4 HX4 c31;go_wp2_with fail;refine(equal_any _ _ cx c5 (mdX (mY zs) D) (0%fp) _ HX5.out H05.out).mono ?_;rintro e w6 ⟨rfl,hb6⟩;have HP6:Hid (PtW w6 w.heap.size #[.slice none 0 0,.slice none 0 0,.slice none 0 0,.slice none 0 0]):=HP5.out.below hb6 HP5.out.lt;have HB6:Hid (Below w.heap.size w w6):=HB5.out.trans (hb6.mono HB5.out.size);have HF6:Hid (FeA w6 (some ⟨gy,0,none⟩) (mY zs)):=HF5.out.below hb6;have HX6:Hid (FeA w6 (some ⟨gx,0,none⟩) (mdX (mY zs) D)):=HX5.out.below hb6;have hlt6:=HP6.out.lt;clear hb6 HP5 HB5 HF5 HX5 H05;by_cases hz0:mdX (mY zs) D=0%fp
      ·have HR:Hid (mB zs D=false):=by
        show _=_
        rw[HMB.out,HMO.out,HOD.out,decide_eq_true hz0];rfl
       rw[decide_eq_true hz0];clear hz0;go_wp2_with (first
        |(refine wpList_storePt rfl (.tmp 5) (.tmp 55) rfl w.heap.size _ _ _ _ _ rfl rfl rfl rfl rfl rfl rfl HP6.out ?_)
        |fail)
       intro wxc hpx hwx;have HPX:Hid (PtW wxc w.heap.size #[.slice none 0 0,.slice none 0 0,.slice none 0 0,.slice none 0 0]):=hpx;have HBX:Hid (Below w.heap.size w wxc):=HB6.out.trans (hwx.below (Nat.le_refl _));clear hpx hwx HP6 HB6;go_wp2;refine bodyPost_ret (v:=.tuple #[.bool false,.agg #[.slice none 0 0,.slice none 0 0,.slice none 0 0,.slice none 0 0]]) (results_pt rfl _ _ w.heap.size _ _ _ _ _ rfl rfl HPX.out) rfl ⟨_,_,_,_,by rw[HR.out],HBX.out,by exact⟨rfl,rfl,rfl,rfl⟩,fun h=>?_⟩;rw[HR.out] at h;cases h
      ·have HMT:Hid (mB zs D=true):=by
        show _=_
        rw[HMB.out,HMO.out,HOD.out,decide_eq_false hz0];rfl
       rw[decide_eq_false hz0];clear hz0;go_wp2_with fail;refine(least_any _ cx (mdX (mY zs) D) _ HX6.out).mono ?_;rintro e wl ⟨g6,c6,rfl,k6,l6,hl6,hb6⟩;have HPL:Hid (PtW wl w.heap.size #[.slice none 0 0,.slice none 0 0,.slice none 0 0,.slice none 0 0]):=HP6.out.below hb6 HP6.out.lt;have HBL:Hid (Below w.heap.size w wl):=HB6.out.trans (hb6.mono HB6.out.size);have HFL:Hid (FeA wl (some ⟨gy,0,none⟩) (mY zs)):=HF6.out.below hb6;have HXL:Hid (FeA wl (some ⟨gx,0,none⟩) (mdX (mY zs) D)):=HX6.out.below hb6;have hltL:=HPL.out.lt;obtain⟨ds,hA6,hs1,hs2,hs3⟩:=hl6;have c60:wl.cell? ⟨g6,0,none⟩=some (.int .i64 (ds.getD 0 0)):=by
        obtain⟨b,o,e,_,h⟩:=hA6.get (by omega);cases e;exact h 0 (by omega)
       have hpar:ds.getD 0 0%2=mdX (mY zs) D%2:=by rw[←hs3];exact(val_par ds hs1).symm
       have HPAR:Hid (ds.getD 0 0%2=mdX (mY zs) D%2):=hpar;obtain⟨e0,e1⟩:=hs2 0;clear hs3 hs2 hA6 hb6 hpar HP6 HB6 HF6 HX6 hs1;generalize ds.getD 0 0=dd at *;have htm:dd.tmod 2=dd%2:=Int.tmod_eq_emod_of_nonneg e0;by_cases hpp:dd%2=1
       ·have HMX:Hid (mX zs D=mdX (mY zs) D):=by
         show _=_
         unfold mX;rw[if_pos (by rw[HMO.out,←HPAR.out,hpp,HOD.out])]
        go_wp2_with fail;refine(affine_any _ _ cx cy (mdX (mY zs) D) (mY zs) _ HXL.out HFL.out).mono ?_;rintro e wa ⟨gz,cz,gt,ct,rfl,hfz,hft,hba,hz1,hz2⟩;have HPA:Hid (PtW wa w.heap.size #[.slice none 0 0,.slice none 0 0,.slice none 0 0,.slice none 0 0]):=HPL.out.below hba HPL.out.lt;have HBA:Hid (Below w.heap.size w wa):=HBL.out.trans (hba.mono HBL.out.size);have HFA:Hid (FeA wa (some ⟨gy,0,none⟩) (mY zs)):=HFL.out.below hba;have HXA:Hid (FeA wa (some ⟨gx,0,none⟩) (mdX (mY zs) D)):=HXL.out.below hba;have hltA:=HPA.out.lt;have HZA:Hid (FeA wa (some ⟨gz,0,none⟩) (1%fp)∧FeA wa (some ⟨gt,0,none⟩) (mdX (mY zs) D*mY zs%fp)):=⟨hfz,hft⟩
        have hnz:gz≠w.heap.size∧gt≠w.heap.size∧gx≠w.heap.size∧gy≠w.heap.size:=by omega
        have HNZ:Hid (gz≠w.heap.size∧gt≠w.heap.size∧gx≠w.heap.size∧gy≠w.heap.size):=hnz;clear hfz hft hba hnz HPL HBL HFL HXL;go_wp2_with (first
         |(refine wpList_storePt rfl (.tmp 5) (.tmp 68) rfl w.heap.size _ _ _ _ _ rfl rfl rfl rfl rfl rfl rfl HPA.out ?_)
         |fail)
        intro wb hpb hwb;have HPB:Hid (PtW wb w.heap.size #[.slice (some ⟨gx,0,none⟩) 16 cx,.slice (some ⟨gy,0,none⟩) 16 cy,.slice (some ⟨gz,0,none⟩) 16 cz,.slice (some ⟨gt,0,none⟩) 16 ct]):=hpb;have HALLB:Hid (Below w.heap.size w wb∧FeA wb (some ⟨gx,0,none⟩) (mX zs D)∧FeA wb (some ⟨gy,0,none⟩) (mY zs)∧FeA wb (some ⟨gz,0,none⟩) (1%fp)∧FeA wb (some ⟨gt,0,none⟩) (mX zs D*mY zs%fp)):=by
         rw[HMX.out];exact⟨HBA.out.trans (hwb.below (Nat.le_refl _)),HXA.out.wr hwb HNZ.out.2.2.1,HFA.out.wr hwb HNZ.out.2.2.2,HZA.out.1.wr hwb HNZ.out.1,HZA.out.2.wr hwb HNZ.out.2.1⟩
        clear hpb hwb HPA HBA HFA HXA HZA HNZ;go_wp2;exact bodyPost_ret (v:=.tuple #[.bool true,.agg #[.slice (some ⟨gx,0,none⟩) 16 cx,.slice (some ⟨gy,0,none⟩) 16 cy,.slice (some ⟨gz,0,none⟩) 16 cz,.slice (some ⟨gt,0,none⟩) 16 ct]]) (results_pt rfl _ _ w.heap.size _ _ _ _ _ rfl rfl HPB.out) rfl ⟨_,_,_,_,by rw[HMT.out],HALLB.out.1,by exact⟨rfl,rfl,rfl,rfl⟩,fun _=>⟨gx,cx,gy,cy,gz,cz,gt,ct,rfl,rfl,rfl,rfl,HALLB.out.2.1,HALLB.out.2.2.1,HALLB.out.2.2.2.1,HALLB.out.2.2.2.2⟩⟩
       ·have hpq:dd%2=0:=by omega
        have HMX:Hid (mX zs D=(0%fp-mdX (mY zs) D)%fp):=by
         show _=_
         unfold mX;rw[if_neg (by rw[HMO.out,←HPAR.out,hpq,HOD.out];decide)]
        clear hpp;go_wp2_with fail;refine(small_any 0 _ (by decide) (by decide)).mono ?_;rintro e wm ⟨g7,c7,rfl,k7,l7,hf7,hb7⟩;have HPM:Hid (PtW wm w.heap.size #[.slice none 0 0,.slice none 0 0,.slice none 0 0,.slice none 0 0]):=HPL.out.below hb7 HPL.out.lt;have HBM:Hid (Below w.heap.size w wm):=HBL.out.trans (hb7.mono HBL.out.size);have HFM:Hid (FeA wm (some ⟨gy,0,none⟩) (mY zs)):=HFL.out.below hb7;have HXM:Hid (FeA wm (some ⟨gx,0,none⟩) (mdX (mY zs) D)):=HXL.out.below hb7;have hltM:=HPM.out.lt;have H07:Hid (FeA wm (some ⟨g7,0,none⟩) (0%fp)):=hf7;clear hf7 hb7 HPL HBL HFL HXL c60;go_wp2_with fail;refine(fsub_any _ _ c7 cx (0%fp) (mdX (mY zs) D) _ H07.out HXM.out).mono ?_;rintro e wn ⟨g8,c8,rfl,k8,l8,hf8,hb8⟩;have HPN0:Hid (PtW wn w.heap.size #[.slice none 0 0,.slice none 0 0,.slice none 0 0,.slice none 0 0]):=HPM.out.below hb8 HPM.out.lt;have HBN0:Hid (Below w.heap.size w wn):=HBM.out.trans (hb8.mono HBM.out.size);have HFN0:Hid (FeA wn (some ⟨gy,0,none⟩) (mY zs)):=HFM.out.below hb8;have HXN0:Hid (FeA wn (some ⟨gx,0,none⟩) (mdX (mY zs) D)):=HXM.out.below hb8;have hltN0:=HPN0.out.lt;have HPN:Hid (PtW wn w.heap.size #[.slice none 0 0,.slice none 0 0,.slice none 0 0,.slice none 0 0]):=HPN0.out;have HBN:Hid (Below w.heap.size w wn):=HBN0.out;have HFN:Hid (FeA wn (some ⟨gy,0,none⟩) (mY zs)):=HFN0.out;have HXN:Hid (FeA wn (some ⟨g8,0,none⟩) ((0%fp-mdX (mY zs) D)%fp)):=hf8;have hg8:w.heap.size<g8:=by omega
        clear hf8 hb8 HPM HBM HFM HXM HPN0 HBN0 HFN0 HXN0;go_wp2_with fail;refine(affine_any _ _ c8 cy ((0%fp-mdX (mY zs) D)%fp) (mY zs) _ HXN.out HFN.out).mono ?_;rintro e wa ⟨gz,cz,gt,ct,rfl,hfz,hft,hba,hz1,hz2⟩;have HPA:Hid (PtW wa w.heap.size #[.slice none 0 0,.slice none 0 0,.slice none 0 0,.slice none 0 0]):=HPN.out.below hba HPN.out.lt;have HBA:Hid (Below w.heap.size w wa):=HBN.out.trans (hba.mono HBN.out.size);have HFA:Hid (FeA wa (some ⟨gy,0,none⟩) (mY zs)):=HFN.out.below hba;have HXA:Hid (FeA wa (some ⟨g8,0,none⟩) ((0%fp-mdX (mY zs) D)%fp)):=HXN.out.below hba;have hltA:=HPA.out.lt;have HZA:Hid (FeA wa (some ⟨gz,0,none⟩) (1%fp)∧FeA wa (some ⟨gt,0,none⟩) ((0%fp-mdX (mY zs) D)%fp*mY zs%fp)):=⟨hfz,hft⟩
        have hnz:gz≠w.heap.size∧gt≠w.heap.size∧g8≠w.heap.size∧gy≠w.heap.size:=by omega
        have HNZ:Hid (gz≠w.heap.size∧gt≠w.heap.size∧g8≠w.heap.size∧gy≠w.heap.size):=hnz;clear hfz hft hba hnz HPN HBN HFN HXN;go_wp2_with (first
         |(refine wpList_storePt rfl (.tmp 5) (.tmp 68) rfl w.heap.size _ _ _ _ _ rfl rfl rfl rfl rfl rfl rfl HPA.out ?_)
         |fail)
        intro wb hpb hwb;have HPB:Hid (PtW wb w.heap.size #[.slice (some ⟨g8,0,none⟩) 16 c8,.slice (some ⟨gy,0,none⟩) 16 cy,.slice (some ⟨gz,0,none⟩) 16 cz,.slice (some ⟨gt,0,none⟩) 16 ct]):=hpb;have HALLB:Hid (Below w.heap.size w wb∧FeA wb (some ⟨g8,0,none⟩) (mX zs D)∧FeA wb (some ⟨gy,0,none⟩) (mY zs)∧FeA wb (some ⟨gz,0,none⟩) (1%fp)∧FeA wb (some ⟨gt,0,none⟩) (mX zs D*mY zs%fp)):=by
         rw[HMX.out];exact⟨HBA.out.trans (hwb.below (Nat.le_refl _)),HXA.out.wr hwb HNZ.out.2.2.1,HFA.out.wr hwb HNZ.out.2.2.2,HZA.out.1.wr hwb HNZ.out.1,HZA.out.2.wr hwb HNZ.out.2.1⟩
        clear hpb hwb HPA HBA HFA HXA HZA HNZ;go_wp2;exact bodyPost_ret (v:=.tuple #[.bool true,.agg #[.slice (some ⟨g8,0,none⟩) 16 c8,.slice (some ⟨gy,0,none⟩) 16 cy,.slice (some ⟨gz,0,none⟩) 16 cz,.slice (some ⟨gt,0,none⟩) 16 ct]]) (results_pt rfl _ _ w.heap.size _ _ _ _ _ rfl rfl HPB.out) rfl ⟨_,_,_,_,by rw[HMT.out],HALLB.out.1,by exact⟨rfl,rfl,rfl,rfl⟩,fun _=>⟨g8,c8,gy,cy,gz,cz,gt,ct,rfl,rfl,rfl,rfl,HALLB.out.2.1,HALLB.out.2.2.1,HALLB.out.2.2.2.1,HALLB.out.2.2.2.2⟩⟩
     ·have hd0:d31/128=0:=by omega
      have HOD:Hid (d31/128=0):=hd0;have HMT:Hid (mB zs D=true):=by
       show _=_
       rw[HMB.out,HMO.out,HOD.out];rfl
      go_wp2_with fail;clear c31;refine(least_any _ cx (mdX (mY zs) D) _ HX4.out).mono ?_;rintro e wl ⟨g6,c6,rfl,k6,l6,hl6,hb6⟩;have HPL:Hid (PtW wl w.heap.size #[.slice none 0 0,.slice none 0 0,.slice none 0 0,.slice none 0 0]):=HP4.out.below hb6 HP4.out.lt;have HBL:Hid (Below w.heap.size w wl):=HB4.out.trans (hb6.mono HB4.out.size);have HFL:Hid (FeA wl (some ⟨gy,0,none⟩) (mY zs)):=HF4.out.below hb6;have HXL:Hid (FeA wl (some ⟨gx,0,none⟩) (mdX (mY zs) D)):=HX4.out.below hb6;have hltL:=HPL.out.lt;obtain⟨ds,hA6,hs1,hs2,hs3⟩:=hl6;have c60:wl.cell? ⟨g6,0,none⟩=some (.int .i64 (ds.getD 0 0)):=by
       obtain⟨b,o,e,_,h⟩:=hA6.get (by omega);cases e;exact h 0 (by omega)
      have hpar:ds.getD 0 0%2=mdX (mY zs) D%2:=by rw[←hs3];exact(val_par ds hs1).symm
      have HPAR:Hid (ds.getD 0 0%2=mdX (mY zs) D%2):=hpar;obtain⟨e0,e1⟩:=hs2 0;clear hs3 hs2 hA6 hb6 hpar HP4 HB4 HF4 HX4 hs1;generalize ds.getD 0 0=dd at *;have htm:dd.tmod 2=dd%2:=Int.tmod_eq_emod_of_nonneg e0;by_cases hpp:dd%2=0
      ·have HMX:Hid (mX zs D=mdX (mY zs) D):=by
        show _=_
        unfold mX;rw[if_pos (by rw[HMO.out,←HPAR.out,hpp,HOD.out])]
       go_wp2_with fail;refine(affine_any _ _ cx cy (mdX (mY zs) D) (mY zs) _ HXL.out HFL.out).mono ?_;rintro e wa ⟨gz,cz,gt,ct,rfl,hfz,hft,hba,hz1,hz2⟩;have HPA:Hid (PtW wa w.heap.size #[.slice none 0 0,.slice none 0 0,.slice none 0 0,.slice none 0 0]):=HPL.out.below hba HPL.out.lt;have HBA:Hid (Below w.heap.size w wa):=HBL.out.trans (hba.mono HBL.out.size);have HFA:Hid (FeA wa (some ⟨gy,0,none⟩) (mY zs)):=HFL.out.below hba;have HXA:Hid (FeA wa (some ⟨gx,0,none⟩) (mdX (mY zs) D)):=HXL.out.below hba;have hltA:=HPA.out.lt;have HZA:Hid (FeA wa (some ⟨gz,0,none⟩) (1%fp)∧FeA wa (some ⟨gt,0,none⟩) (mdX (mY zs) D*mY zs%fp)):=⟨hfz,hft⟩
       have hnz:gz≠w.heap.size∧gt≠w.heap.size∧gx≠w.heap.size∧gy≠w.heap.size:=by omega
       have HNZ:Hid (gz≠w.heap.size∧gt≠w.heap.size∧gx≠w.heap.size∧gy≠w.heap.size):=hnz;clear hfz hft hba hnz HPL HBL HFL HXL;go_wp2_with (first
        |(refine wpList_storePt rfl (.tmp 5) (.tmp 68) rfl w.heap.size _ _ _ _ _ rfl rfl rfl rfl rfl rfl rfl HPA.out ?_)
        |fail)
       intro wb hpb hwb;have HPB:Hid (PtW wb w.heap.size #[.slice (some ⟨gx,0,none⟩) 16 cx,.slice (some ⟨gy,0,none⟩) 16 cy,.slice (some ⟨gz,0,none⟩) 16 cz,.slice (some ⟨gt,0,none⟩) 16 ct]):=hpb;have HALLB:Hid (Below w.heap.size w wb∧FeA wb (some ⟨gx,0,none⟩) (mX zs D)∧FeA wb (some ⟨gy,0,none⟩) (mY zs)∧FeA wb (some ⟨gz,0,none⟩) (1%fp)∧FeA wb (some ⟨gt,0,none⟩) (mX zs D*mY zs%fp)):=by
        rw[HMX.out];exact⟨HBA.out.trans (hwb.below (Nat.le_refl _)),HXA.out.wr hwb HNZ.out.2.2.1,HFA.out.wr hwb HNZ.out.2.2.2,HZA.out.1.wr hwb HNZ.out.1,HZA.out.2.wr hwb HNZ.out.2.1⟩
       clear hpb hwb HPA HBA HFA HXA HZA HNZ;go_wp2;exact bodyPost_ret (v:=.tuple #[.bool true,.agg #[.slice (some ⟨gx,0,none⟩) 16 cx,.slice (some ⟨gy,0,none⟩) 16 cy,.slice (some ⟨gz,0,none⟩) 16 cz,.slice (some ⟨gt,0,none⟩) 16 ct]]) (results_pt rfl _ _ w.heap.size _ _ _ _ _ rfl rfl HPB.out) rfl ⟨_,_,_,_,by rw[HMT.out],HALLB.out.1,by exact⟨rfl,rfl,rfl,rfl⟩,fun _=>⟨gx,cx,gy,cy,gz,cz,gt,ct,rfl,rfl,rfl,rfl,HALLB.out.2.1,HALLB.out.2.2.1,HALLB.out.2.2.2.1,HALLB.out.2.2.2.2⟩⟩
      ·have hpq:dd%2=1:=by omega
       have HMX:Hid (mX zs D=(0%fp-mdX (mY zs) D)%fp):=by
        show _=_
        unfold mX;rw[if_neg (by rw[HMO.out,←HPAR.out,hpq,HOD.out];decide)]
       clear hpp;go_wp2_with fail;refine(small_any 0 _ (by decide) (by decide)).mono ?_;rintro e wm ⟨g7,c7,rfl,k7,l7,hf7,hb7⟩;have HPM:Hid (PtW wm w.heap.size #[.slice none 0 0,.slice none 0 0,.slice none 0 0,.slice none 0 0]):=HPL.out.below hb7 HPL.out.lt;have HBM:Hid (Below w.heap.size w wm):=HBL.out.trans (hb7.mono HBL.out.size);have HFM:Hid (FeA wm (some ⟨gy,0,none⟩) (mY zs)):=HFL.out.below hb7;have HXM:Hid (FeA wm (some ⟨gx,0,none⟩) (mdX (mY zs) D)):=HXL.out.below hb7;have hltM:=HPM.out.lt;have H07:Hid (FeA wm (some ⟨g7,0,none⟩) (0%fp)):=hf7;clear hf7 hb7 HPL HBL HFL HXL c60;go_wp2_with fail;refine(fsub_any _ _ c7 cx (0%fp) (mdX (mY zs) D) _ H07.out HXM.out).mono ?_;rintro e wn ⟨g8,c8,rfl,k8,l8,hf8,hb8⟩;have HPN0:Hid (PtW wn w.heap.size #[.slice none 0 0,.slice none 0 0,.slice none 0 0,.slice none 0 0]):=HPM.out.below hb8 HPM.out.lt;have HBN0:Hid (Below w.heap.size w wn):=HBM.out.trans (hb8.mono HBM.out.size);have HFN0:Hid (FeA wn (some ⟨gy,0,none⟩) (mY zs)):=HFM.out.below hb8;have HXN0:Hid (FeA wn (some ⟨gx,0,none⟩) (mdX (mY zs) D)):=HXM.out.below hb8;have hltN0:=HPN0.out.lt;have HPN:Hid (PtW wn w.heap.size #[.slice none 0 0,.slice none 0 0,.slice none 0 0,.slice none 0 0]):=HPN0.out;have HBN:Hid (Below w.heap.size w wn):=HBN0.out;have HFN:Hid (FeA wn (some ⟨gy,0,none⟩) (mY zs)):=HFN0.out;have HXN:Hid (FeA wn (some ⟨g8,0,none⟩) ((0%fp-mdX (mY zs) D)%fp)):=hf8;have hg8:w.heap.size<g8:=by omega
       clear hf8 hb8 HPM HBM HFM HXM HPN0 HBN0 HFN0 HXN0;go_wp2_with fail;refine(affine_any _ _ c8 cy ((0%fp-mdX (mY zs) D)%fp) (mY zs) _ HXN.out HFN.out).mono ?_;rintro e wa ⟨gz,cz,gt,ct,rfl,hfz,hft,hba,hz1,hz2⟩;have HPA:Hid (PtW wa w.heap.size #[.slice none 0 0,.slice none 0 0,.slice none 0 0,.slice none 0 0]):=HPN.out.below hba HPN.out.lt;have HBA:Hid (Below w.heap.size w wa):=HBN.out.trans (hba.mono HBN.out.size);have HFA:Hid (FeA wa (some ⟨gy,0,none⟩) (mY zs)):=HFN.out.below hba;have HXA:Hid (FeA wa (some ⟨g8,0,none⟩) ((0%fp-mdX (mY zs) D)%fp)):=HXN.out.below hba;have hltA:=HPA.out.lt;have HZA:Hid (FeA wa (some ⟨gz,0,none⟩) (1%fp)∧FeA wa (some ⟨gt,0,none⟩) ((0%fp-mdX (mY zs) D)%fp*mY zs%fp)):=⟨hfz,hft⟩
       have hnz:gz≠w.heap.size∧gt≠w.heap.size∧g8≠w.heap.size∧gy≠w.heap.size:=by omega
       have HNZ:Hid (gz≠w.heap.size∧gt≠w.heap.size∧g8≠w.heap.size∧gy≠w.heap.size):=hnz;clear hfz hft hba hnz HPN HBN HFN HXN;go_wp2_with (first
        |(refine wpList_storePt rfl (.tmp 5) (.tmp 68) rfl w.heap.size _ _ _ _ _ rfl rfl rfl rfl rfl rfl rfl HPA.out ?_)
        |fail)
       intro wb hpb hwb;have HPB:Hid (PtW wb w.heap.size #[.slice (some ⟨g8,0,none⟩) 16 c8,.slice (some ⟨gy,0,none⟩) 16 cy,.slice (some ⟨gz,0,none⟩) 16 cz,.slice (some ⟨gt,0,none⟩) 16 ct]):=hpb;have HALLB:Hid (Below w.heap.size w wb∧FeA wb (some ⟨g8,0,none⟩) (mX zs D)∧FeA wb (some ⟨gy,0,none⟩) (mY zs)∧FeA wb (some ⟨gz,0,none⟩) (1%fp)∧FeA wb (some ⟨gt,0,none⟩) (mX zs D*mY zs%fp)):=by
        rw[HMX.out];exact⟨HBA.out.trans (hwb.below (Nat.le_refl _)),HXA.out.wr hwb HNZ.out.2.2.1,HFA.out.wr hwb HNZ.out.2.2.2,HZA.out.1.wr hwb HNZ.out.1,HZA.out.2.wr hwb HNZ.out.2.1⟩
       clear hpb hwb HPA HBA HFA HXA HZA HNZ;go_wp2;exact bodyPost_ret (v:=.tuple #[.bool true,.agg #[.slice (some ⟨g8,0,none⟩) 16 c8,.slice (some ⟨gy,0,none⟩) 16 cy,.slice (some ⟨gz,0,none⟩) 16 cz,.slice (some ⟨gt,0,none⟩) 16 ct]]) (results_pt rfl _ _ w.heap.size _ _ _ _ _ rfl rfl HPB.out) rfl ⟨_,_,_,_,by rw[HMT.out],HALLB.out.1,by exact⟨rfl,rfl,rfl,rfl⟩,fun _=>⟨g8,c8,gy,cy,gz,cz,gt,ct,rfl,rfl,rfl,rfl,HALLB.out.2.1,HALLB.out.2.2.1,HALLB.out.2.2.2.1,HALLB.out.2.2.2.2⟩⟩
 ·have h32':((n:Int) == 32)=false:=by simp;omega
  have HR:Hid (mB zs D=false):=by
   show _=_
   unfold mB;have:(zs.length == 32)=false:=by simp;omega
   rw[this];rfl
  have HB0:Hid (Below w.heap.size w (w.alloc (.cells #[.slice none 0 0,.slice none 0 0,.slice none 0 0,.slice none 0 0] 109))):=b0;clear h32 b0;go_enter Tryz.func72,Tryz.ntmps72;go_wp2_with (first
   |(refine wpList_storePt rfl (.tmp 5) (.tmp 15) rfl w.heap.size _ _ _ _ _ rfl rfl rfl rfl rfl rfl rfl HP0.out ?_)
   |fail)
  intro w3 hp3 hw3;have HP3:Hid (PtW w3 w.heap.size #[.slice none 0 0,.slice none 0 0,.slice none 0 0,.slice none 0 0]):=hp3;have HB3:Hid (Below w.heap.size w w3):=HB0.out.trans (hw3.below (Nat.le_refl _));clear hp3 hw3 HP0 HB0;go_wp2;refine bodyPost_ret (v:=.tuple #[.bool false,.agg #[.slice none 0 0,.slice none 0 0,.slice none 0 0,.slice none 0 0]]) (results_pt rfl _ _ w.heap.size _ _ _ _ _ rfl rfl HP3.out) rfl ⟨_,_,_,_,by rw[HR.out],HB3.out,by exact⟨rfl,rfl,rfl,rfl⟩,fun h=>?_⟩;rw[HR.out] at h;cases h
def txtW (hs:List Int):List Int:=hs.flatMap by8
theorem txtW_snoc (hs:List Int) (k:Nat) (h:k<hs.length):txtW (hs.take (k+1))=txtW (hs.take k)++by8 (hs.getD k 0):=by
 unfold txtW;rw[take_snocI hs k h,List.flatMap_append];simp
theorem by8_take (v:Int) (i:Nat) (h:i<8):(by8 v).take (i+1)=(by8 v).take i++[v/2^(56-8*i)%256]:=by
 rw[take_snocI _ _ (by rw[by8_len];exact h),by8_get v i h]
theorem txtW_len (hs:List Int):(txtW hs).length=8*hs.length:=by
 unfold txtW
 induction hs with
 |nil=>rfl
 |cons a l ih=>rw[List.flatMap_cons,List.length_append,by8_len,ih,List.length_cons];omega
theorem txtW_byte (hs:List Int):Byte (txtW hs):=fun z hz=>by
 unfold txtW at hz;obtain⟨v,_,h⟩:=List.mem_flatMap.1 hz;exact by8_byte v z h
set_option maxRecDepth 100000 in
set_option maxHeartbeats 2000000 in
theorem textI_any (g:Nat) (hs:List Int) (w:World) (hr:RowW w g 173 hs) (h8:W8 hs) :
  Calls Tryz.prog 136 #[.pointer (some ⟨g,0,none⟩)] w fun e w'=>∃ v,e=.returned v∧Own w' w.heap.size v (txtW hs)∧Below w.heap.size w w':=by
 have hgl:=hr.lt;have HR:=hid_ofS hr;have H8:=hid_ofS h8;clear hr h8;obtain⟨i0,hi,hz0,hz1,hz2⟩:=info_parts Tryz.infoU8';have HI:=hid_ofS (And.intro hi (And.intro hz0 (And.intro hz1 hz2)));clear hi hz0 hz1 hz2;go_enter Tryz.func136,Tryz.ntmps136;go_wp2_with (refine wpList_make_own _ rfl _ _ 26 rfl w.heap.size 5 i0 (.int .u8 0) 1 Tryz.underlying26 HI.out.1 HI.out.2.1 HI.out.2.2.1 .i64 .i64 64 64 rfl rfl rfl (by rw[HI.out.2.2.2];decide) (by decide) (Nat.le_refl _) ?_);intro w1 o1 b1;have HO1:Hid (Own w1 w.heap.size (.slice (some ⟨w.heap.size,0,none⟩) 0 64) (txtW (hs.take 0))):=⟨o1,_,_,rfl⟩
 have HB1:Hid (Below w.heap.size w w1):=(Below.refl _ _).grown b1 (Nat.le_refl _) (fun k hk=>by cases hk);clear o1 b1;go_wp2
 go_loopw [3,9] (fun v i wr=>∃ k:Nat,k≤8∧i=.int .i64 k∧Own wr w.heap.size v (txtW (hs.take k))∧Below w.heap.size w wr) (fun _ i _=>8-(intOf i).toNat)
 case atStart=>exact⟨0,by omega,rfl,HO1.out,HB1.out⟩
 case round=>
  clear HO1 HB1;obtain⟨k,hk,rfl,hown,hbel⟩:=hrel;by_cases hlt:k<8
  ·have hlt':(k:Int)<8:=by omega
   have hc:=(HR.out.below hbel hgl).cell k (by rw[H8.out.1];exact hlt);have hu:=H8.out.2 k;have HSN:=hid_ofS (txtW_snoc hs k (by rw[H8.out.1];exact hlt));have HPL:=hid_ofS (txtW_len (hs.take k));rw[List.length_take,H8.out.1] at HPL;have HO:=hid_ofS hown;have HB:=hid_ofS hbel;clear hown hbel;obtain⟨x,hx⟩:∃ x,x=hs.getD k 0:=⟨_,rfl⟩
   rw[←hx] at hc hu HSN;clear hx;obtain⟨p,hp⟩:∃ p,p=txtW (hs.take k):=⟨_,rfl⟩
   rw[←hp] at HO HSN HPL;clear hp;obtain⟨hu0,hu1⟩:=hu;have hlp:p.length≤64:=by have:=HPL.out;omega
   go_wp2
   go_loopw [3,14] (fun v i wr=>∃ j:Nat,j≤8∧i=.int .i64 j∧Own wr w.heap.size v (p++(by8 x).take j)∧Below w.heap.size w wr) (fun _ i _=>8-(intOf i).toNat)
   case atStart=>exact⟨0,by omega,rfl,by simpa using HO.out,HB.out⟩
   case round=>
    clear HO HB hc;obtain⟨j,hj,rfl,hown,hbel⟩:=hrel;by_cases hlj:j<8
    ·have hlj':(j:Int)<8:=by omega
     have hsz:=hbel.size;have HE:=hid_ofS (by8_take x j hlj);have HLJ:Hid ((p++(by8 x).take j).length+1≤1099511627776):=by show _≤_;rw[List.length_append,List.length_take,by8_len];omega
     have HO:=hid_ofS hown;have HB:=hid_ofS hbel;clear hown hbel;go_wp2_with (at_builtin;refine wpList_app _ rfl _ _ rfl w.heap.size _ _ rfl (HO.out.alloc _) ⟨wr.heap.size,0,none⟩ 1 1 [x/2^(56-8*j)%256] rfl rfl ?c1 HLJ.out ?c3 ?_);all_goals first|(intro j' hj';obtain rfl:j'=0:=by omega
                                                                                                                                                                                                                                                        simp[Addr.add];done)|skip
     case c3=>rw[World.size_alloc];omega
     intro v' w2 hown' hbel' _;have HO2:Hid (Own w2 w.heap.size v' (p++(by8 x).take (j+1))):=by rw[HE.out];exact hown'
     have HB2:Hid (Below w.heap.size w w2):=(HB.out.alloc hsz _).trans hbel';clear hown' hbel' HO HB HE HLJ;go_wp2;go_roundw
     case rel=>exact⟨j+1,by omega,by go_num,HO2.out,HB2.out⟩
     case measure=>simp[intOf];omega
    ·obtain rfl:j=8:=by omega
     rw[List.take_of_length_le (by rw[by8_len];exact Nat.le_refl _),←HSN.out] at hown;have HOW:=hid_ofS hown;have HBE:=hid_ofS hbel;clear hown hbel;go_wp2;go_roundw
     case rel=>exact⟨k+1,by omega,by go_num,HOW.out,HBE.out⟩
     case measure=>simp[intOf];omega
  ·obtain rfl:k=8:=by omega
   have HOW:=hid_ofS hown;rw[List.take_of_length_le (by rw[H8.out.1];exact Nat.le_refl _)] at HOW;have HBE:=hid_ofS hbel;clear hown hbel;go_wp2
   go_ret
   exact⟨_,rfl,HOW.out,HBE.out⟩
def mrk (zs:List Int):List Int:=(blkOf zs).set zs.length 128
def lenB (bs:List Int) (n:Int):List Int:=ov8 (ov8 bs 112 (n/2^61) 8) 120 (IntKind.u64.wrap (n*8)) 8
def finL (hs zs:List Int) (n:Int):List Int:=
 if zs.length<112 then mixL hs (lenB (mrk zs) n) else mixL (mixL hs (mrk zs)) (lenB (List.replicate 128 0) n)
theorem mrk_len (zs:List Int):(mrk zs).length=128:=by unfold mrk;rw[List.length_set,blkOf_len]
theorem ov8_byte {bs:List Int} (h:Byte bs) (o:Nat) (v:Int) (k:Nat):Byte (ov8 bs o v k):=by
 induction k with
 |zero=>exact h
 |succ k ih=>
  intro z hz;rcases List.mem_or_eq_of_mem_set hz with h'|rfl
  ·exact ih z h'
  ·omega
theorem mrk_byte {zs:List Int} (h:Byte zs):Byte (mrk zs):=by
 intro z hz;rcases List.mem_or_eq_of_mem_set hz with h'|rfl
 ·exact blkOf_byte h z h'
 ·exact⟨by decide,by decide⟩
theorem lenB_len {bs:List Int} (h:bs.length=128) (n:Int):(lenB bs n).length=128:=by unfold lenB;rw[ov8_len,ov8_len,h]
theorem lenB_byte {bs:List Int} (h:Byte bs) (n:Int):Byte (lenB bs n):=ov8_byte (ov8_byte h _ _ _) _ _ _
theorem zero_byte (n:Nat):Byte (List.replicate n 0):=fun z h=>by rw[(List.mem_replicate.1 h).2];exact⟨by decide,by decide⟩
theorem jump_ret (l:Nat) (J:Act→World→Prop) (Q:Exit→Act→World→Prop) (a:Act) (w:World):Exit.jump l J Q .ret a w=Q .ret a w:=rfl
theorem wp_scope_two {P:Program} {a:Act} {w:World} {Q:Exit→Act→World→Prop} {c r0 r1:Code} (J0 J1:Act→World→Prop) (h0:findLabel c 0=some r0) (h1:findLabel c 1=some r1)
  (first:c.wp P (Exit.jump 0 J0 Q) a w) (p0:∀ a w,J0 a w→r0.wp P (Exit.jump 1 J1 Q) a w) (p1:∀ a w,J1 a w→r1.wp P (Exit.jump 0 (fun _ _=>False) Q) a w):(Code.scope c).wp P Q a w:=by
 intro b k cs;have hg0:gotoIn 0 (.inScope c::k)=some (.code r0::.inScope c::k):=by simp[gotoIn,h0]
 have hg1:gotoIn 1 (.inScope c::k)=some (.code r1::.inScope c::k):=by simp[gotoIn,h1]
 have k1:∀ a w,J1 a w→∃ e a' w',Q e a' w'∧Arrives P (lone (b.at a (.code r1::.inScope c::k)) cs w) b k cs e a' w':=by
  intro a w hJ;obtain⟨e,a₁,w₁,hq,harr⟩:=p1 a w hJ b (.inScope c::k) cs;cases e with
  |normal=>exact⟨.normal,a₁,w₁,hq,Steps.trans harr (.one step_inScope)⟩
  |exit id=>exact⟨.exit id,a₁,w₁,hq,fun k' hk=>harr k' (by simp[exitTo,hk])⟩
  |goto l'=>exact absurd hq.2 id
  |ret=>exact⟨_,a₁,w₁,hq,harr⟩
  |panic ch=>exact⟨_,a₁,w₁,hq,harr⟩
  |outgrown=>exact⟨_,a₁,w₁,hq,harr⟩
 have k0:∀ a w,J0 a w→∃ e a' w',Q e a' w'∧Arrives P (lone (b.at a (.code r0::.inScope c::k)) cs w) b k cs e a' w':=by
  intro a w hJ;obtain⟨e,a₁,w₁,hq,harr⟩:=p0 a w hJ b (.inScope c::k) cs;cases e with
  |normal=>exact⟨.normal,a₁,w₁,hq,Steps.trans harr (.one step_inScope)⟩
  |exit id=>exact⟨.exit id,a₁,w₁,hq,fun k' hk=>harr k' (by simp[exitTo,hk])⟩
  |goto l'=>
   obtain⟨rfl,hJ'⟩:=hq;obtain⟨e₂,a₂,w₂,hq₂,harr₂⟩:=k1 a₁ w₁ hJ';exact⟨e₂,a₂,w₂,hq₂,.of_steps (harr _ hg1) harr₂⟩
  |ret=>exact⟨_,a₁,w₁,hq,harr⟩
  |panic ch=>exact⟨_,a₁,w₁,hq,harr⟩
  |outgrown=>exact⟨_,a₁,w₁,hq,harr⟩
 obtain⟨e,a₁,w₁,hq,harr⟩:=first b (.inScope c::k) cs
 cases e with
 |normal=>exact⟨.normal,a₁,w₁,hq,.head step_scope (Steps.trans harr (.one step_inScope))⟩
 |exit id=>exact⟨.exit id,a₁,w₁,hq,fun k' hk=>.head step_scope (harr k' (by simp[exitTo,hk]))⟩
 |goto l'=>
  obtain⟨rfl,hJ'⟩:=hq;obtain⟨e₂,a₂,w₂,hq₂,harr₂⟩:=k0 a₁ w₁ hJ';exact⟨e₂,a₂,w₂,hq₂,.of_steps (.head step_scope (harr _ hg0)) harr₂⟩
 |ret=>exact⟨_,a₁,w₁,hq,.of_steps (.one step_scope) harr⟩
 |panic ch=>exact⟨_,a₁,w₁,hq,.of_steps (.one step_scope) harr⟩
 |outgrown=>exact⟨_,a₁,w₁,hq,.of_steps (.one step_scope) harr⟩
structure FS (w:World) (g gL:Nat) (hs bs:List Int) (y:World):Prop where
 row:Row y gL 176 bs
 wds:RowW y g 173 hs
 tab:TabIn y
 fr:FrG g w y
 hi:w.heap.size≤gL
theorem FS.mix {w:World} {g gL:Nat} {hs hs' bs:List Int} {y y':World} (h:FS w g gL hs bs y) (hg:g<w.heap.size) (h0:g≠1) (hr:RowW y' g 173 hs') (hf:FrG g y y'):FS w g gL hs' bs y':=
 ⟨hf.row h.row (by have:=h.hi;omega),hr,h.tab.frg (fun k hk e=>hf.block k hk (by omega)),h.fr.trans hf,h.hi⟩
theorem FS.put {w:World} {g gL:Nat} {hs bs bs':List Int} {y y':World} (h:FS w g gL hs bs y) (hg:g<w.heap.size) (h0:1<w.heap.size) (hr:Row y' gL 176 bs') (hw:Wr gL y y'):FS w g gL hs bs' y':=by
 have:=h.hi;exact⟨hr,hw.rowW h.wds (by omega),h.tab.frg (fun k hk e=>hw.block k (by omega)),⟨hw.os.trans h.fr.os,hw.tape.trans h.fr.tape,hw.output.trans h.fr.output,by rw[hw.size];exact h.fr.size,fun k hk hkg=>(hw.block k (by omega)).trans (h.fr.block k hk hkg)⟩,h.hi⟩
set_option maxRecDepth 100000 in
set_option maxHeartbeats 2000000 in
theorem fin_any (g:Nat) (hs:List Int) (a:Option Addr) (n cap:Nat) (zs:List Int) (len:Int) (w:World) (hr:RowW w g 173 hs) (h8:W8 hs) (hn:zs.length=n) (ha:At .u8 w a zs) (hz:Byte zs) (hm:n<128) (hT:TabIn w) (hg0:g≠1) (hu:U64 len) :
  Calls Tryz.prog 135 #[.pointer (some ⟨g,0,none⟩),.slice a n cap,.int .u64 len] w fun e w'=>e=.returned (.tuple #[])∧RowW w' g 173 (finL hs zs len)∧FrG g w w':=by
 have hV:1<w.heap.size:=block_lt_of_cell (a:=⟨1,0,none⟩) (hT 0 (by decide));have hgl:=hr.lt;have z1:=zvBlk;have z2:=zsBlk;have z3:=znBlk;have A:=hid_ofS (blk_any a n cap zs w hn ha (by omega));have HR:=hid_ofS hr;have H8:=hid_ofS h8;have HT:=hid_ofS hT;have HU:=hid_ofS hu;have HZ:=hid_ofS hz;have HN:=hid_ofS hn;have hm':(n:Int)<128:=by omega
 clear hr h8 hT hu hz hn ha;by_cases hc:n<112
 ·have hc':(n:Int)<112:=by omega
  have HF:Hid (finL hs zs len=mixL hs (lenB (mrk zs) len)):=by show _=_;unfold finL;rw[HN.out,if_pos hc]
  go_enter Tryz.func135,Tryz.ntmps135
  go_step3
  go_wp2_with fail;refine A.out.mono ?_;rintro e w1 ⟨rfl,b1⟩;have HB1:=hid_ofS b1;clear A b1;have HZN:Hid (Row (w1.alloc (.cells zBlk 176)) w1.heap.size 176 (List.replicate 128 0)):=by show _=_;rw[heap_alloc_new,zcBlk]
  have HAL:Hid (Below w1.heap.size w1 (w1.alloc (.cells zBlk 176))):=(Below.refl _ _).alloc (Nat.le_refl _) _;have HLB:=hid_ofS (blkOf_len zs);go_wp2_with (first
   |(refine wpList_storeB rfl (.tmp 6) (.tmp 8) rfl Tryz.sizeBlk w1.heap.size (blkOf zs) (List.replicate 128 0) rfl rfl HLB.out (by simp) HZN.out ?_)
   |fail)
  intro w2 hr2 hw2;have hs1:=HB1.out.size;have F2:FS w g w1.heap.size hs (blkOf zs) w2:=⟨hr2,hw2.rowW ((HR.out.below HB1.out hgl).below HAL.out (by omega)) (by omega),((HT.out.frg (fun k hk _=>HB1.out.block k hk)).frg (fun k hk _=>HAL.out.block k hk)).frg (fun k _ e=>hw2.block k (by omega)),
   ⟨hw2.os.trans (HAL.out.os.trans HB1.out.os),hw2.tape.trans (HAL.out.tape.trans HB1.out.tape),hw2.output.trans (HAL.out.output.trans HB1.out.output),by rw[hw2.size];exact Nat.le_trans hs1 HAL.out.size,fun k hk _=>(hw2.block k (by omega)).trans ((HAL.out.block k (by omega)).trans (HB1.out.block k hk))⟩,hs1⟩
  have hcl:=hr2.cell n (by rw[blkOf_len];exact hm);have hfz:=hr2.frozen n;have HS:Hid (FS w g w1.heap.size hs (mrk zs) (w2.setCell ⟨w1.heap.size,n,none⟩ (.int .u8 128))):=by
   have:=F2.put hgl hV (hr2.set n 128) ((Wr.refl _ _).setCell n _);unfold mrk;rw[HN.out];exact this
  clear F2 hr2 hw2 HB1 HAL HZN HLB HR HT;obtain⟨w3,hw3⟩:∃ w3,w3=w2.setCell ⟨w1.heap.size,n,none⟩ (.int .u8 128):=⟨_,rfl⟩
  rw[←hw3] at HS;have HW3:=hid_ofS hw3;clear hw3
  go_upto_region 2 with fail
  rw[←HW3.out];clear hcl hfz HW3 z1 z2 z3;go_wp2
  go_step3
  go_wp2_with fail;have B:=hid_ofS (setL_any w1.heap.size len (mrk zs) w3 HS.out.row (mrk_len _) HU.out);refine B.out.mono ?_;rintro e w4 ⟨rfl,r4,b4⟩;have HS4:Hid (FS w g w1.heap.size hs (lenB (mrk zs) len) w4):=HS.out.put hgl hV r4 b4;have C:=hid_ofS (mix_any g w1.heap.size hs (lenB (mrk zs) len) w4 HS4.out.wds H8.out HS4.out.row (lenB_len (mrk_len _) _) (lenB_byte (mrk_byte HZ.out) _) HS4.out.tab hg0);clear r4 b4 B HS;go_wp2_with fail;refine C.out.mono ?_;rintro e w5 ⟨rfl,r5,b5⟩;have HS5:Hid (FS w g w1.heap.size (finL hs zs len) (lenB (mrk zs) len) w5):=by rw[HF.out];exact HS4.out.mix hgl hg0 r5 b5
  clear r5 b5 C HS4;go_wp2;rw[Exit.noGoto_ret];refine bodyPost_ret (results_none rfl _ _ _) rfl ?_;exact⟨rfl,HS5.out.wds,HS5.out.fr⟩
 ·have hc':¬ ((n:Int)<112):=by omega
  have HF:Hid (finL hs zs len=mixL (mixL hs (mrk zs)) (lenB (List.replicate 128 0) len)):=by show _=_;unfold finL;rw[HN.out,if_neg hc]
  go_enter Tryz.func135,Tryz.ntmps135;refine wp_scope_two
   (fun a' w'=>∃ gL u3 u4 u5 u7 u8 u9 u10 u11 u12 u13 u14 u15 u16 u17 u18 u19 u20 u21,a'=⟨#[.pointer (some ⟨g,0,none⟩),.slice a n cap,.int .u64 len,u3,u4,u5,.pointer (some ⟨gL,0,none⟩),u7,u8,u9,u10,u11,u12,u13,u14,u15,u16,u17,u18,u19,u20,u21],[]⟩∧FS w g gL hs (mrk zs) w')
   (fun a' w'=>∃ gL u3 u4 u5 u7 u8 u9 u10 u11 u12 u13 u14 u15 u16 u17 u18 u19 u20 u21,a'=⟨#[.pointer (some ⟨g,0,none⟩),.slice a n cap,.int .u64 len,u3,u4,u5,.pointer (some ⟨gL,0,none⟩),u7,u8,u9,u10,u11,u12,u13,u14,u15,u16,u17,u18,u19,u20,u21],[]⟩∧FS w g gL (mixL hs (mrk zs)) (List.replicate 128 0) w')
   rfl rfl ?first ?p0 ?p1
  case first=>
   go_wp2_with fail;refine A.out.mono ?_;rintro e w1 ⟨rfl,b1⟩;have HB1:=hid_ofS b1;clear A b1;have HZN:Hid (Row (w1.alloc (.cells zBlk 176)) w1.heap.size 176 (List.replicate 128 0)):=by show _=_;rw[heap_alloc_new,zcBlk]
   have HAL:Hid (Below w1.heap.size w1 (w1.alloc (.cells zBlk 176))):=(Below.refl _ _).alloc (Nat.le_refl _) _;have HLB:=hid_ofS (blkOf_len zs);go_wp2_with (first
    |(refine wpList_storeB rfl (.tmp 6) (.tmp 8) rfl Tryz.sizeBlk w1.heap.size (blkOf zs) (List.replicate 128 0) rfl rfl HLB.out (by simp) HZN.out ?_)
    |fail)
   intro w2 hr2 hw2;have hs1:=HB1.out.size;have F2:FS w g w1.heap.size hs (blkOf zs) w2:=⟨hr2,hw2.rowW ((HR.out.below HB1.out hgl).below HAL.out (by omega)) (by omega),((HT.out.frg (fun k hk _=>HB1.out.block k hk)).frg (fun k hk _=>HAL.out.block k hk)).frg (fun k _ e=>hw2.block k (by omega)),
    ⟨hw2.os.trans (HAL.out.os.trans HB1.out.os),hw2.tape.trans (HAL.out.tape.trans HB1.out.tape),hw2.output.trans (HAL.out.output.trans HB1.out.output),by rw[hw2.size];exact Nat.le_trans hs1 HAL.out.size,fun k hk _=>(hw2.block k (by omega)).trans ((HAL.out.block k (by omega)).trans (HB1.out.block k hk))⟩,hs1⟩
   have hcl:=hr2.cell n (by rw[blkOf_len];exact hm);have hfz:=hr2.frozen n;have HS:Hid (FS w g w1.heap.size hs (mrk zs) (w2.setCell ⟨w1.heap.size,n,none⟩ (.int .u8 128))):=by
    have:=F2.put hgl hV (hr2.set n 128) ((Wr.refl _ _).setCell n _);unfold mrk;rw[HN.out];exact this
   clear F2 hr2 hw2 HB1 HAL HZN HLB HR HT;obtain⟨w3,hw3⟩:∃ w3,w3=w2.setCell ⟨w1.heap.size,n,none⟩ (.int .u8 128):=⟨_,rfl⟩
   rw[←hw3] at HS;have HW3:=hid_ofS hw3;clear hw3
   go_upto_region 2 with fail
   rw[←HW3.out];clear hcl hfz HW3 z1 z2 z3;go_wp2
   go_step3
   exact⟨rfl,w1.heap.size,_,_,_,_,_,_,_,_,_,_,_,_,_,_,_,_,_,_,rfl,HS.out⟩
  case p0=>
   clear A HR HT;rintro a' w' ⟨gL,u3,u4,u5,u7,u8,u9,u10,u11,u12,u13,u14,u15,u16,u17,u18,u19,u20,u21,rfl,hs'⟩;have HS:=hid_ofS hs';have C:=hid_ofS (mix_any g gL hs (mrk zs) w' hs'.wds H8.out hs'.row (mrk_len _) (mrk_byte HZ.out) hs'.tab hg0);clear hs';go_wp2_with fail;refine C.out.mono ?_;rintro e w5 ⟨rfl,r5,b5⟩;have HS5:Hid (FS w g gL (mixL hs (mrk zs)) (mrk zs) w5):=HS.out.mix hgl hg0 r5 b5;clear r5 b5 C HS;go_wp2_with (first
    |(refine wpList_storeB rfl (.tmp 6) (.tmp 21) rfl Tryz.sizeBlk gL (List.replicate 128 0) (mrk zs) rfl rfl (by simp) (mrk_len _) HS5.out.row ?_)
    |fail)
   intro w6 r6 b6;have HS6:Hid (FS w g gL (mixL hs (mrk zs)) (List.replicate 128 0) w6):=HS5.out.put hgl hV r6 b6;clear r6 b6 HS5;go_wp2
   go_step3
   exact⟨rfl,gL,_,_,_,_,_,_,_,_,_,_,_,_,_,_,_,_,_,_,rfl,HS6.out⟩
  case p1=>
   clear A HR HT;rintro a' w' ⟨gL,u3,u4,u5,u7,u8,u9,u10,u11,u12,u13,u14,u15,u16,u17,u18,u19,u20,u21,rfl,hs'⟩;have HS:=hid_ofS hs';clear hs';go_wp2_with fail;have B:=hid_ofS (setL_any gL len (List.replicate 128 0) w' HS.out.row (by simp) HU.out);refine B.out.mono ?_;rintro e w4 ⟨rfl,r4,b4⟩;have HS4:Hid (FS w g gL (mixL hs (mrk zs)) (lenB (List.replicate 128 0) len) w4):=HS.out.put hgl hV r4 b4;have C:=hid_ofS (mix_any g gL (mixL hs (mrk zs)) (lenB (List.replicate 128 0) len) w4 HS4.out.wds (mixL_w8 _ _) HS4.out.row (lenB_len (by simp) _) (lenB_byte (zero_byte _) _) HS4.out.tab hg0);clear r4 b4 B HS;go_wp2_with fail;refine C.out.mono ?_;rintro e w5 ⟨rfl,r5,b5⟩;have HS5:Hid (FS w g gL (finL hs zs len) (lenB (List.replicate 128 0) len) w5):=by rw[HF.out];exact HS4.out.mix hgl hg0 r5 b5
   clear r5 b5 C HS4;go_wp2;rw[jump_ret];refine bodyPost_ret (results_none rfl _ _ _) rfl ?_;exact⟨rfl,HS5.out.wds,HS5.out.fr⟩
set_option maxHeartbeats 1000000 in
theorem bytesS_any (x:Int) (w:World) (hx:U64 x) :
  Calls Tryz.prog 98 #[.int .u64 x] w fun e w'=>∃ v,e=.returned v∧Own w' w.heap.size v (by8 x)∧Below w.heap.size w w':=by
 obtain⟨hx0,hx1⟩:=hx;go_enter Tryz.func98,Tryz.ntmps98;go_wp2
 go_loopw [3,4] (fun v i wr=>∃ j:Nat,j≤8∧i=.int .i64 (56-8*(j:Int))∧Own wr w.heap.size v ((by8 x).take j)∧Below w.heap.size w wr) (fun _ i _=>(intOf i+8).toNat)
 case atStart=>exact⟨0,by omega,rfl,Own.empty _ _ (Nat.le_refl _),(Below.refl _ _).alloc (Nat.le_refl _) _⟩
 case round=>
  obtain⟨j,hj,rfl,hown,hbel⟩:=hrel;by_cases hlj:j<8
  ·have hlj':(0:Int)≤56-8*(j:Int):=by omega
   have hsz:=hbel.size;have HE:=hid_ofS (by8_take x j hlj);have HLJ:Hid (((by8 x).take j).length+1≤1099511627776):=by show _≤_;rw[List.length_take,by8_len];omega
   have HO:=hid_ofS hown;have HB:=hid_ofS hbel;clear hown hbel;go_wp2_with (at_builtin;refine wpList_app _ rfl _ _ rfl w.heap.size _ _ rfl (HO.out.alloc _) ⟨wr.heap.size,0,none⟩ 1 1 [x/2^(56-8*j)%256] rfl rfl ?c1 HLJ.out ?c3 ?_);all_goals first|(intro j' hj';obtain rfl:j'=0:=by omega
                                                                                                                                                                                                                                                      simp[Addr.add];done)|skip
   case c3=>rw[World.size_alloc];omega
   intro v' w2 hown' hbel' _;have HO2:Hid (Own w2 w.heap.size v' ((by8 x).take (j+1))):=by rw[HE.out];exact hown'
   have HB2:Hid (Below w.heap.size w w2):=(HB.out.alloc hsz _).trans hbel';clear hown' hbel' HO HB HE HLJ;go_wp2;go_roundw
   case rel=>exact⟨j+1,by omega,by go_num,HO2.out,HB2.out⟩
   case measure=>simp[intOf];omega
  ·obtain rfl:j=8:=by omega
   have HOW:=hid_ofS hown;rw[List.take_of_length_le (by rw[by8_len];exact Nat.le_refl _)] at HOW;have HBE:=hid_ofS hbel;clear hown hbel;go_wp2
   go_ret
   exact⟨_,rfl,HOW.out,HBE.out⟩
def lenOf:Value→Nat
 |.slice _ n _=>n
 |_=>0
def padZ (n:Nat):Nat:=(239-n%128)%128
theorem padZ_spec (n:Nat):(n+1+padZ n)%128=112∧padZ n<128:=by unfold padZ;omega
theorem padZ_min (n j:Nat) (h:j<padZ n):(n+1+j)%128≠112:=by unfold padZ at h;omega
def padL (zs:List Int):List Int:=zs++[128]++List.replicate (padZ zs.length) 0++List.replicate 8 0++by8 (8*(zs.length:Int))
theorem own_grow {w w':World} {B:Nat} {v:Value} {zs:List Int} (h:Own w B v zs) (hb:Below w.heap.size w w'):Own w' B v zs:=by
 refine⟨⟨h.1.1,?_⟩,h.2⟩;rcases h.1.2 with h'|⟨g,c,cur,h1,h2,h3,h4⟩
 ·exact .inl h'
 ·exact .inr ⟨g,c,cur,h1,h2,by rw[hb.block g (Array.getElem?_eq_some_iff.1 h3).1];exact h3,h4⟩
set_option maxRecDepth 100000 in
set_option maxHeartbeats 2000000 in
theorem padS_any (b off cap n:Nat) (zs:List Int) (w:World) (hn:zs.length=n) (hb:b<w.heap.size) (hc:∀ i,i<zs.length→w.cell? ⟨b,off+i,none⟩=some (.int .u8 (zs.getD i 0))) (hm:n≤2097152) :
  Calls Tryz.prog 96 #[.slice (some ⟨b,off,none⟩) n cap] w fun e w'=>∃ v,e=.returned v∧Own w' w.heap.size v (padL zs)∧Below w.heap.size w w':=by
 have HC:=hid_ofS hc;have HN:=hid_ofS hn;have HE0:=hid_ofS (Own.empty w w.heap.size (Nat.le_refl _));have HAL:Hid (Below w.heap.size w (w.alloc (.cells #[] 5))):=(Below.refl _ _).alloc (Nat.le_refl _) _;clear hc hn;go_enter Tryz.func96,Tryz.ntmps96;go_wp2_with (at_builtin;refine wpList_app _ rfl _ _ rfl w.heap.size _ [] rfl HE0.out ⟨b,off,none⟩ n cap zs rfl HN.out ?c1 (by simp;omega) (by simp) ?_)
 case c1=>
  intro j hj;rw[Addr.add_lit,HAL.out.cell (p:=⟨b,off+j,none⟩) hb];exact HC.out j (by rw[HN.out];exact hj)
 intro v1 w1 o1 b1 _;have HO1:Hid (Own w1 w.heap.size v1 zs):=o1;have HB1:Hid (Below w.heap.size w w1):=HAL.out.trans b1;clear o1 b1 HE0 HAL;have HLN:Hid (zs.length+1≤1099511627776):=by show _≤_;rw[HN.out];omega
 have hs1:=HB1.out.size;go_wp2_with (at_builtin;refine wpList_app _ rfl _ _ rfl w.heap.size _ _ rfl (HO1.out.alloc _) ⟨w1.heap.size,0,none⟩ 1 1 [128] rfl rfl ?c1 HLN.out ?c3 ?_);all_goals first|(intro j' hj';obtain rfl:j'=0:=by omega
                                                                                                                                                                                                   simp[Addr.add];done)|skip
 case c3=>rw[World.size_alloc];omega
 intro v2 w2 o2 b2 _;have HO2:Hid (Own w2 w.heap.size v2 (zs++[128]++List.replicate 0 0)):=by show Own _ _ _ _;simpa using o2
 have HB2:Hid (Below w.heap.size w w2):=(HB1.out.alloc hs1 _).trans b2;clear o2 b2 HO1 HB1 HLN hs1;go_wp2
 go_loopw [3] (fun v wr=>∃ j:Nat,j≤padZ n∧Own wr w.heap.size v (zs++[128]++List.replicate j 0)∧Below w.heap.size w wr) (fun v _=>n+200-lenOf v)
 case atStart=>exact⟨0,Nat.zero_le _,HO2.out,HB2.out⟩
 case round=>
  clear HO2 HB2;obtain⟨j,hj,hown,hbel⟩:=hrel;have hsz:=hbel.size;obtain⟨g,c,rfl,hg1,hg2,hg3⟩:=hown.base;have HO:=hid_ofS hown;have HB:=hid_ofS hbel;have hps:=padZ_spec n;have hll:(zs++[128]++List.replicate j 0).length=n+1+j:=by simp[HN.out];omega
  rw[hll] at HO hg3 ⊢;have HLL:=hid_ofS hll;clear hown hbel hll;obtain⟨L,hL⟩:∃ L,L=n+1+j:=⟨_,rfl⟩
  rw[←hL] at HO hg3 HLL ⊢;have hLb:L≤2097700:=by omega
  by_cases hlt:j<padZ n
  ·have hne:=padZ_min n j hlt;have hne':¬ ((L:Int)%128=112):=by omega
   have HJ:Hid (j+1≤padZ n):=by show _≤_;omega
   have HLm:Hid (L<n+200):=by show _<_;omega
   clear hne hL hps hj hlt;have HLJ:Hid ((zs++[128]++List.replicate j 0).length+1≤1099511627776):=by show _≤_;rw[HLL.out];omega
   have hO:=HO.out;obtain⟨ys,hys⟩:∃ ys,ys=zs++[128]++List.replicate j 0:=⟨_,rfl⟩
   rw[←hys] at HO HLL HLJ;clear hO;have HYS:Hid (zs++[128]++List.replicate (j+1) 0=ys++[0]):=by show _=_;rw[hys,List.replicate_succ'];simp
   clear hys;go_wp2_with (at_builtin;refine wpList_app _ rfl _ _ rfl w.heap.size _ _ rfl (HO.out.alloc _) ⟨wr.heap.size,0,none⟩ 1 1 [0] rfl rfl ?d1 HLJ.out ?d3 ?_);all_goals first|(intro j' hj';obtain rfl:j'=0:=by omega
                                                                                                                                                                                     simp[Addr.add];done)|skip
   case d3=>rw[World.size_alloc];omega
   intro v2 w2 o2 b2 _;obtain⟨g',c2,e2,_,_,_⟩:=o2.base;have HO2:Hid (Own w2 w.heap.size v2 (zs++[128]++List.replicate (j+1) 0)):=by rw[HYS.out];exact o2
   have HB2:Hid (Below w.heap.size w w2):=(HB.out.alloc hsz _).trans b2;have HV2:Hid (lenOf v2=L+1):=by rw[e2];show _=_;simp[lenOf,HLL.out]
   clear o2 b2 HO HB HLJ HYS e2;go_wp2;go_roundw
   case rel=>exact⟨j+1,HJ.out,HO2.out,HB2.out⟩
   case measure=>
    have h1:=HV2.out;have h2:=HLm.out;have h3:lenOf (.slice (some ⟨g,0,none⟩) L c)=L:=rfl
    first|(rw[h3,h1];omega)|(simp[lenOf,h1] at *;omega)
  ·obtain rfl:j=padZ n:=by omega
   have hne':((L:Int)%128=112):=by omega
   have HLJ:Hid ((zs++[128]++List.replicate (padZ n) 0).length+8≤1099511627776):=by show _≤_;rw[HLL.out];omega
   clear hL hps hj hlt;obtain⟨ys,hys⟩:∃ ys,ys=zs++[128]++List.replicate (padZ n) 0:=⟨_,rfl⟩
   rw[←hys] at HO HLL HLJ;have HYS:Hid (padL zs=ys++[0,0,0,0,0,0,0,0]++by8 (8*(n:Int))):=by show _=_;rw[hys];unfold padL;rw[HN.out];rfl
   clear hys;go_wp2_with (at_builtin;refine wpList_app _ rfl _ _ rfl w.heap.size _ _ rfl (HO.out.alloc _) ⟨wr.heap.size,0,none⟩ 8 8 [0,0,0,0,0,0,0,0] rfl rfl ?e1 HLJ.out ?e3 ?_)
   case e1=>
    intro j' hj';have:j'=0∨j'=1∨j'=2∨j'=3∨j'=4∨j'=5∨j'=6∨j'=7:=by omega
    rcases this with rfl|rfl|rfl|rfl|rfl|rfl|rfl|rfl<;>simp[Addr.add]
   case e3=>rw[World.size_alloc];omega
   intro v2 w2 o2 b2 _;have HO2:=hid_ofS o2;have HB2:Hid (Below w.heap.size w w2):=(HB.out.alloc hsz _).trans b2;clear o2 b2 HO HB HLJ;have e8:(8:Int)*(n:Int)<18446744073709551616:=by omega
   have A:=hid_ofS (bytesS_any (8*(n:Int)) w2 ⟨by omega,by omega⟩);go_wp2_with fail;refine A.out.mono ?_;rintro e w3 ⟨v3,rfl,o3,b3⟩;obtain⟨g3,c3,rfl,_,hg3',hc3⟩:=o3.base;have HO3:Hid (Own w3 w.heap.size v2 (ys++[0,0,0,0,0,0,0,0])):=by
    obtain⟨hh,g2,c2,e2⟩:=HO2.out;exact own_grow ⟨hh,g2,c2,e2⟩ b3
   have HB3:Hid (Below w.heap.size w w3):=HB2.out.trans (b3.mono HB2.out.size);have HP3:=hid_ofS o3.part;have HLY:Hid ((ys++[0,0,0,0,0,0,0,0]).length+8≤1099511627776):=by show _≤_;rw[List.length_append,HLL.out];simp;omega
   have hsz3:=HB3.out.size;rw[by8_len] at hc3 ⊢;clear o3 b3 A HO2 HB2;go_wp2_with (at_builtin;refine wpList_app _ rfl _ _ rfl w.heap.size _ _ rfl HO3.out ⟨g3,0,none⟩ 8 c3 (by8 (8*(n:Int))) rfl (by8_len _) ?f1 HLY.out ?f3 ?_)
   case f1=>
    intro j' hj';obtain⟨b',o',c',e',_,hcc⟩:=HP3.out;cases e';rw[Addr.add_lit];exact hcc j' (by rw[by8_len];exact hj')
   case f3=>exact hsz3
   intro v4 w4 o4 b4 _;have HO4:Hid (Own w4 w.heap.size v4 (padL zs)):=by rw[HYS.out,List.append_assoc];exact o4
   have HB4:Hid (Below w.heap.size w w4):=HB3.out.trans b4;clear o4 b4 HO3 HB3 HP3;go_wp2
   go_ret
   exact⟨_,rfl,HO4.out,HB4.out⟩
end Go.Proofs.YtjdhhgaelgemcaaGreatDoor
