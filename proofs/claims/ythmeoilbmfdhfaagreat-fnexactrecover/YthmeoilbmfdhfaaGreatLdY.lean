import Derived.Test.YthmeoilbmfdhfaaGreatSwL
import Derived.Test.YthmeoilbmfdhfaaGreatMApV
import Derived.Test.YthmeoilbmfdhfaaGreatMFrE
import Derived.Test.YthmeoilbmfdhfaaGreatMSwJa
import Derived.Test.YthmeoilbmfdhfaaGreatMAppG
namespace Go.Proofs.YthmeoilbmfdhfaaGreat
open Go.ChangeShapes Go.WideShapes Go.ChangeAt Go.RowKit
set_option linter.unusedVariables false
theorem apK_no {r:ApR} {F:List Int} (hr:r.ok=true):∀ i,(apK r F i).ok=false→apK r F i=apNo
 |0,h=>by rw[show apK r F 0=r from rfl,hr] at h;cases h
 |i+1,h=>by
  cases h':(apK r F i).ok with
  |false=>exact apK_stop h'
  |true=>rw[apK_go h'] at h ⊢;exact apR_no h
theorem apK_rest {r:ApR} {F:List Int} {i n:Nat} (hr:r.ok=true) (h:(apK r F i).ok=false) (hi:i≤n):apK r F n=apK r F i:=by
 by_cases e:i=n
 ·rw[e]
 ·have:=apK_end h (n-(i+1));rw[show i+1+(n-(i+1))=n by omega] at this;rw[this,apK_no hr i h]
def Two (l0 lo:Nat) (w:World) (a:Option Addr):Prop:=∀ ad,a=some ad→l0≤ad.block∧ad.block<w.heap.size∧(ad.block<lo∨lo+3≤ad.block)
def WPQ (l0 lo:Nat) (w:World) (v:Value) (r:ApR):Prop:=
 ∃ aD nD cD aU nU cU aT nT cT,v=.agg #[.bool r.ok,.slice aD nD cD,.slice aU nU cU,.int .i64 r.k,.slice aT nT cT]∧At .i64 w aD r.D∧At .i64 w aU r.U∧At .i64 w aT r.T∧r.D.length=nD∧r.U.length=nU∧r.T.length=nT*2∧Two l0 lo w aD∧Two l0 lo w aU∧Two l0 lo w aT∧nT≤cT∧cT≤9223372036854775807
theorem At.wrT {l0 lo R:Nat} {w w':World} {a:Option Addr} {zs:List Int} (h:At .i64 w a zs) (t:Two l0 lo w a) (hw:Wr R w w') (h1:lo≤R) (h2:R<lo+3):At .i64 w' a zs:=
 h.keepT (by rw[hw.size];exact Nat.le_refl _) (fun ad e _=>hw.block _ (by have:=(t ad e).2.2;omega))
theorem Two.wr {l0 lo R:Nat} {w w':World} {a:Option Addr} (t:Two l0 lo w a) (hw:Wr R w w'):Two l0 lo w' a:=fun ad e=>by rw[hw.size];exact t ad e
theorem WPQ.wr {l0 lo R:Nat} {w w':World} {v:Value} {r:ApR} (h:WPQ l0 lo w v r) (hw:Wr R w w') (h1:lo≤R) (h2:R<lo+3):WPQ l0 lo w' v r:=by
 obtain⟨aD,nD,cD,aU,nU,cU,aT,nT,cT,e,g1,g2,g3,g4,g5,g6,t1,t2,t3,c1,c2⟩:=h;exact⟨aD,nD,cD,aU,nU,cU,aT,nT,cT,e,g1.wrT t1 hw h1 h2,g2.wrT t2 hw h1 h2,g3.wrT t3 hw h1 h2,g4,g5,g6,t1.wr hw,t2.wr hw,t3.wr hw,c1,c2⟩
theorem WPQ.wpv {l0 lo:Nat} {w:World} {v:Value} {r:ApR} (h:WPQ l0 lo w v r):WPV l0 w v r:=by
 obtain⟨aD,nD,cD,aU,nU,cU,aT,nT,cT,e,g1,g2,g3,g4,g5,g6,t1,t2,t3,c1,c2⟩:=h;exact⟨aD,nD,cD,aU,nU,cU,aT,nT,cT,e,g1,g2,g3,g4,g5,g6,fun ad e=>⟨(t1 ad e).1,(t1 ad e).2.1⟩,fun ad e=>⟨(t2 ad e).1,(t2 ad e).2.1⟩,fun ad e=>⟨(t3 ad e).1,(t3 ad e).2.1⟩,c1,c2⟩
theorem WPV.wpq {l0 lo:Nat} {w:World} {v:Value} {r:ApR} (h:WPV (lo+3) w v r) (hl:l0≤lo):WPQ l0 lo w v r:=by
 obtain⟨aD,nD,cD,aU,nU,cU,aT,nT,cT,e,g1,g2,g3,g4,g5,g6,t1,t2,t3,c1,c2⟩:=h;exact⟨aD,nD,cD,aU,nU,cU,aT,nT,cT,e,g1,g2,g3,g4,g5,g6,fun ad e=>(by have:=t1 ad e;omega),fun ad e=>(by have:=t2 ad e;omega),fun ad e=>(by have:=t3 ad e;omega),c1,c2⟩
theorem WPV.monoY {lo lo':Nat} {w:World} {v:Value} {r:ApR} (h:WPV lo w v r) (hl:lo'≤lo):WPV lo' w v r:=by
 obtain⟨aD,nD,cD,aU,nU,cU,aT,nT,cT,e,h1,h2,h3,h4,h5,h6,l1,l2,l3⟩:=h;exact⟨aD,nD,cD,aU,nU,cU,aT,nT,cT,e,h1,h2,h3,h4,h5,h6,l1.mono hl (Nat.le_refl _),l2.mono hl (Nat.le_refl _),l3.1.mono hl (Nat.le_refl _),l3.2⟩
structure TX (w:World) (l0:Nat) (r:ApR) (wr:World):Prop where
 bel:Below w.heap.size w wr
 lo:l0≤w.heap.size
 res:wr.heap[w.heap.size+1]?=some (.cells #[.bool false,.slice none 0 0,.slice none 0 0,.int .i64 0,.slice none 0 0] 68 (0,0))
 row:∃ cs,wr.heap[w.heap.size+2]?=some (.cells cs 68 (0,0))∧WPQ l0 w.heap.size wr (.agg cs) r
def thL (l0 S q:Nat):Nat:=if q=0 then l0 else S
theorem thL_succ {l0 S q:Nat}:thL l0 S (q+1)=S:=by simp[thL]
theorem thL_pos {l0 S q:Nat} (h:0<q):thL l0 S q=S:=by unfold thL;rw[if_neg (by omega)]
theorem TX.next {w:World} {l0:Nat} {r r1:ApR} {wr w' ww:World} {cs:Array Value} (h:TX w l0 r wr) (b:Below wr.heap.size wr w') (hv:WPV (w.heap.size+3) w' (.agg cs) r1) (hw:Wr (w.heap.size+2) w' ww) (hr:ww.heap[w.heap.size+2]?=some (.cells cs 68 (0,0))):TX w w.heap.size r1 ww:=by
 have hl:=(Array.getElem?_eq_some_iff.1 h.res).1;exact⟨(h.bel.trans (b.mono h.bel.size)).trans (hw.below (by omega)),Nat.le_refl _,by rw[hw.block _ (by omega),b.block _ hl];exact h.res,cs,hr,(hv.wpq (Nat.le_refl _)).wr hw (by omega) (by omega)⟩
set_option maxRecDepth 100000 in
set_option maxHeartbeats 4000000 in
theorem thq_any (aD aU aT:Option Addr) (nD cD nU cU nT cT:Nat) (D U:List Int) (k:Int) (T:List Int) (fa:Option Addr) (n c:Nat) (F:List Int) (w:World) (l0:Nat) (r0:ApR) (hr0:r0=⟨true,D,U,k,T,nT⟩)
  (hv:WPV l0 w (.agg #[.bool true,.slice aD nD cD,.slice aU nU cU,.int .i64 k,.slice aT nT cT]) r0) (hl0:l0≤w.heap.size) (hst:StP D U k T nT) (hT:T.length=nT*2) (hF:FAt w fa F) (hl:F.length=n*4) (hn:n≤1000) (hFB:FrB F) :
  Calls Tryz.prog 31 #[.agg #[.slice aD nD cD,.slice aU nU cU,.int .i64 k,.slice aT nT cT],.slice fa n c] w fun e w'=>∃ v,e=.returned v∧WPV (thL l0 w.heap.size n) w' v (apK r0 F n)∧Below w.heap.size w w':=by
 have hok0:r0.ok=true:=by rw[hr0]
 have HSS:Hid ((Tryz.prog.info? 34).map (·.size)=some 4):=by show _=_;kernel_rfl
 have HSA:Hid ((Tryz.prog.info? 68).map (·.size)=some 5):=by show _=_;kernel_rfl
 have HSF:Hid ((Tryz.prog.info? 112).map (·.size)=some 4):=by show _=_;kernel_rfl
 have HST:=hid_ofL (fun i hi=>apK_st (r:=r0) hFB (by rw[hr0];exact hst) (by rw[hr0];exact hT) i hi);have HFB:=hid_ofL hFB;have HFA:=hid_ofL hF;have HL:=hid_ofL hl;have HO:=hid_ofL hok0;have HX0:Hid (TX w l0 r0 (((((w.alloc (.cells #[.slice aD nD cD,.slice aU nU cU,.int .i64 k,.slice aT nT cT] 34)).alloc (.cells #[.bool false,.slice none 0 0,.slice none 0 0,.int .i64 0,.slice none 0 0] 68)).alloc (.cells #[.bool true,.slice aD nD cD,.slice aU nU cU,.int .i64 k,.slice aT nT cT] 68))))):=by
  obtain⟨aD',nD',cD',aU',nU',cU',aT',nT',cT',e,g1,g2,g3,g4,g5,g6,t1,t2,t3,c1,c2⟩:=hv;subst hr0;simp at e;obtain⟨⟨rfl,rfl,rfl⟩,⟨rfl,rfl,rfl⟩,rfl,rfl,rfl⟩:=e;have b1:Below w.heap.size w ((w.alloc (.cells #[.slice aD nD cD,.slice aU nU cU,.int .i64 k,.slice aT nT cT] 34)).alloc (.cells #[.bool false,.slice none 0 0,.slice none 0 0,.int .i64 0,.slice none 0 0] 68)):=((Below.refl _ _).alloc (Nat.le_refl _) _).alloc (by simp) _;have bb:Below w.heap.size w (((w.alloc (.cells #[.slice aD nD cD,.slice aU nU cU,.int .i64 k,.slice aT nT cT] 34)).alloc (.cells #[.bool false,.slice none 0 0,.slice none 0 0,.int .i64 0,.slice none 0 0] 68)).alloc (.cells #[.bool true,.slice aD nD cD,.slice aU nU cU,.int .i64 k,.slice aT nT cT] 68)):=b1.alloc (by simp;omega) _;refine⟨bb,hl0,?_,_,?_,aD,nD,cD,aU,nU,cU,aT,nT,cT,rfl,g1.below bb,g2.below bb,g3.below bb,g4,g5,g6,fun ad e=>?_,fun ad e=>?_,fun ad e=>?_,c1,c2⟩
  ·rw[Below.heap_alloc _ _ _ (by simp)];have:=heap_alloc_new (w.alloc (.cells #[.slice aD nD cD,.slice aU nU cU,.int .i64 k,.slice aT nT cT] 34)) (.cells #[.bool false,.slice none 0 0,.slice none 0 0,.int .i64 0,.slice none 0 0] 68);rw[World.size_alloc] at this;exact this
  ·have:=heap_alloc_new ((w.alloc (.cells #[.slice aD nD cD,.slice aU nU cU,.int .i64 k,.slice aT nT cT] 34)).alloc (.cells #[.bool false,.slice none 0 0,.slice none 0 0,.int .i64 0,.slice none 0 0] 68)) (.cells #[.bool true,.slice aD nD cD,.slice aU nU cU,.int .i64 k,.slice aT nT cT] 68);rw[World.size_alloc,World.size_alloc] at this;exact this
  ·have:=t1 ad e;have:=bb.size;omega
  ·have:=t2 ad e;have:=bb.size;omega
  ·have:=t3 ad e;have:=bb.size;omega
 have HR1:Hid (((w.alloc (.cells #[.slice aD nD cD,.slice aU nU cU,.int .i64 k,.slice aT nT cT] 34)).alloc (.cells #[.bool false,.slice none 0 0,.slice none 0 0,.int .i64 0,.slice none 0 0] 68)).heap[w.heap.size]?=some (.cells #[.slice aD nD cD,.slice aU nU cU,.int .i64 k,.slice aT nT cT] 34 (0,0))):=by
  show _=_
  rw[Below.heap_alloc _ _ _ (by simp)];exact heap_alloc_new w _
 clear hv hst hT hF hl hFB hr0 hok0;go_enter Tryz.func31,Tryz.ntmps31
 go_upto_region 2 with (first
  |(refine wpList_load_row rfl 34 (.tmp 2) rfl w.heap.size rfl 34 _ (0,0) _ HR1.out Tryz.underlying34 rfl HSS.out ?_)
  |(refine wpList_store_row rfl 68 (.tmp 5) (.tmp 8) rfl (w.heap.size+2) #[.bool true,.slice aD nD cD,.slice aU nU cU,.int .i64 k,.slice aT nT cT] rfl rfl 68 _ (by have:=heap_alloc_new ((w.alloc (.cells #[.slice aD nD cD,.slice aU nU cU,.int .i64 k,.slice aT nT cT] 34)).alloc (.cells #[.bool false,.slice none 0 0,.slice none 0 0,.int .i64 0,.slice none 0 0] 68)) (.cells #[.bool false,.slice none 0 0,.slice none 0 0,.int .i64 0,.slice none 0 0] 68);rw[World.size_alloc,World.size_alloc] at this;exact this) HSA.out rfl (by simp[Value.oneCell']) ?_)
  |fail)
 rw[show w.heap.size+1+1=w.heap.size+2 from rfl];clear HR1;generalize ((w.alloc (.cells #[.slice aD nD cD,.slice aU nU cU,.int .i64 k,.slice aT nT cT] 34)).alloc (.cells #[.bool false,.slice none 0 0,.slice none 0 0,.int .i64 0,.slice none 0 0] 68)).alloc (.cells #[.bool true,.slice aD nD cD,.slice aU nU cU,.int .i64 k,.slice aT nT cT] 68)=w0 at *;go_wp2
 go_loopw [6] (fun i wr=>∃ q:Nat,q≤n∧i=.int .i64 q∧TX w (thL l0 w.heap.size q) (apK r0 F q) wr) (fun i _=>n-(intOf i).toNat)
 case atStart=>exact⟨0,Nat.zero_le _,rfl,HX0.out⟩
 case round=>
  clear HX0;obtain⟨q,hq,rfl,hx⟩:=hrel;have HX:=hid_ofL hx;clear hx;obtain⟨cs,hrow,hwv⟩:=HX.out.row;obtain⟨aD',nD',cD',aU',nU',cU',aT',nT',cT',e,g1,g2,g3,g4,g5,g6,t1,t2,t3,c1,c2⟩:=hwv;obtain⟨ok,hok⟩:∃ x,(apK r0 F q).ok=x:=⟨_,rfl⟩
  obtain⟨k',hk'⟩:∃ x,(apK r0 F q).k=x:=⟨_,rfl⟩
  rw[hok,hk'] at e;obtain rfl:cs=#[.bool ok,.slice aD' nD' cD',.slice aU' nU' cU',.int .i64 k',.slice aT' nT' cT']:=by injection e
  have HRW:=hid_ofL hrow;have HLT:=hid_ofL (Array.getElem?_eq_some_iff.1 hrow).1;have cc0:=cell_of_row wr (w.heap.size+2) 0 _ _ _ hrow;simp at cc0;clear hrow e;by_cases hlt:q<n
  ·have hlt':(q:Int)<(n:Int):=by omega
   cases ok with
   |true=>
    obtain⟨b,off,rfl,hb,hc⟩:=HFA.out.get (by rw[HL.out];omega);obtain⟨f0,f1,f2,f3⟩:=FAt.four hc q (by rw[HL.out];omega);obtain⟨⟨p0,p1⟩,y0,y1⟩:=HFB.out q (by rw[HL.out];omega);obtain⟨hstq,hTq⟩:=HST.out q (by rw[HL.out];omega) hok;have hcl:∀ j,wr.cell? ⟨b,j,none⟩=w.cell? ⟨b,j,none⟩:=fun j=>HX.out.bel.cell (p:=⟨b,j,none⟩) hb
    have HFF:Hid (wr.cell? ⟨b,off+q*4,none⟩=some (.int .u32 (F.getD (q*4) 0))∧wr.cell? ⟨b,off+q*4+1,none⟩=some (.int .i64 (F.getD (q*4+1) 0))∧wr.cell? ⟨b,off+q*4+2,none⟩=some (.int .u32 (F.getD (q*4+2) 0))∧wr.cell? ⟨b,off+q*4+3,none⟩=some (.int .u32 (F.getD (q*4+3) 0))):=
     ⟨(hcl _).trans f0,(hcl _).trans f1,(hcl _).trans f2,(hcl _).trans f3⟩
    have HBL:Hid (b<wr.heap.size):=Nat.lt_of_lt_of_le hb HX.out.bel.size;have hgo:=apK_go (F:=F) hok;have hnT:(apK r0 F q).n=nT':=by omega
    obtain⟨z0,z1,z2⟩:=hstq.bd;have hu:=hstq.2.2.1.le;have hd:=hstq.2.1;have HC:Hid (∀ ww,Below wr.heap.size wr ww→Calls Tryz.prog 74 #[.agg #[.slice aD' nD' cD',.slice aU' nU' cU',.int .i64 k',.slice aT' nT' cT'],.agg #[.int .u32 (F.getD (q*4) 0),.int .i64 (F.getD (q*4+1) 0),.int .u32 (F.getD (q*4+2) 0),.int .u32 (F.getD (q*4+3) 0)]] ww fun e w'=>∃ v,e=.returned v∧WPV ww.heap.size w' v (apK r0 F (q+1))∧Below ww.heap.size ww w'):=fun ww bb=>by
     have:=sap_any aD' aU' aT' nD' cD' nU' cU' nT' cT' (apK r0 F q).D (apK r0 F q).U k' (apK r0 F q).T (F.getD (q*4) 0) (F.getD (q*4+1) 0) (F.getD (q*4+2) 0).toNat (F.getD (q*4+3) 0).toNat ww g4 g5 g6 (by omega) (by omega) (by omega) (g1.below bb) (g2.below bb) (g3.below bb) c1 c2 (by omega) (by omega) (by omega) (by omega);rw[Int.toNat_of_nonneg p0,Int.toNat_of_nonneg y0] at this;have e1:apF (apK r0 F q).D (apK r0 F q).U k' (apK r0 F q).T nT' (F.getD (q*4+1) 0) (F.getD (q*4+2) 0).toNat (F.getD (q*4+3) 0).toNat=apK r0 F (q+1):=by
      rw[hgo,←hk',←hnT];unfold apF;rw[if_pos (by unfold stB;simpa using hstq)]
     rw[e1] at this;exact this
    obtain⟨r1,hr1⟩:∃ r,apK r0 F (q+1)=r:=⟨_,rfl⟩
    have HE1:Hid (r1=apK r0 F (q+1)):=hr1.symm;rw[hr1] at HC;clear f0 f1 f2 f3 hc hcl hgo hnT hstq hTq hu hd g1 g2 g3 g4 g5 g6 t1 t2 t3 c1 c2 z0 z1 z2 hok hk' p0 p1 y0 y1 hr1;generalize F.getD (q*4) 0=s at *;generalize F.getD (q*4+1) 0=kd at *;generalize F.getD (q*4+2) 0=p at *;generalize F.getD (q*4+3) 0=y at *
    go_upto_region 5 with fail
    refine wp_region_any (by kernel_rfl) ?_;refine wpAny_slotsF 7 (fun _ a b=>Below a.heap.size a b) (frame:=(fun (a b c d e f g h i j k l m n o p q r s u:Value)=>fun (t:Nat→Value)=>({ tmps:=List.toArray [a,b,c,d,e,f,g,h,i,j,k,l,m,n,o,p,q,r,s,t 0,t 1,t 2,t 3,t 4,t 5,t 6,u],defers:=[] }:Act)) _ _ _ _ _ _ _ _ _ _ _ _ _ _ _ _ _ _ _ _)
     (Ext:=fun L u w'=>ApH wr [] L u w') (Good:=fun i L w' v=>if i=0 then v=.pointer (some ⟨w.heap.size+2,1,none⟩) else if i=1 then v=.agg #[.slice aD' nD' cD',.slice aU' nU' cU',.int .i64 k',.slice aT' nT' cT'] else if i=2 then v=.slice (some ⟨b,off,none⟩) n c else if i=3 then v=.int .i64 (q:Int) else if i=4 then v=.pointer (some ⟨b,off+q*4,none⟩) else if i=5 then v=.agg #[.int .u32 s,.int .i64 kd,.int .u32 p,.int .u32 y] else if i=6 then WPV (w.heap.size+3) w' v r1 else True) (Fin:=fun _ ww=>TX w w.heap.size r1 ww) rfl (by kernel_rfl) ?hstab (by kernel_rfl) ?hop ?hend ?hdone _ _ ((fun (x0 x1 x2 x3 x4 x5 x6:Value)=>fun (i:Nat)=>if i=0 then x0 else if i=1 then x1 else if i=2 then x2 else if i=3 then x3 else if i=4 then x4 else if i=5 then x5 else if i=6 then x6 else undef) _ _ _ _ _ _ _) _ (by simp) ?none ?ext (by simp)
    case none=>intro i;rw[Array.getD_eq_getD_getElem?,Array.getElem?_replicate];split<;>rfl
    case ext=>exact ApH.start wr [] _ _ (fun i=>by rw[Array.getD_eq_getD_getElem?,Array.getElem?_replicate];split<;>rfl) ⟨rfl,rfl,rfl,Nat.le_refl _,fun _ _=>rfl⟩
    case hstab=>
     intro j L w9 w' i v _ hM _ _ h;by_cases h6:j=6
     ·subst h6;simp at h ⊢;exact h.below hM
     simp only[if_neg h6] at h ⊢;exact h
    case hop=>
     intro i o L t w' hi ho hLi hx hdep K hK;obtain rfl|rfl|rfl|rfl|rfl|rfl|rfl:i=0∨i=1∨i=2∨i=3∨i=4∨i=5∨i=6:=by omega
     all_goals(simp at ho;subst ho)
     ·clear hdep;have hK':=hK w' (.pointer (some ⟨w.heap.size+2,1,none⟩)) (by simp) (hx.step 0 _ (Below.refl _ _) (fun h=>absurd h (by decide))) (Below.refl _ _);clear hK;rw[if_pos (by rfl)];go_simp;simpa[upd] using hK'
     ·have d0:t 0=.pointer (some ⟨w.heap.size+2,1,none⟩):=by simpa using(hdep ⟨0,.data⟩ (by simp) rfl).2
      clear hdep;have hr:w'.heap[w.heap.size+2]?=some (.cells #[.bool true,.slice aD' nD' cD',.slice aU' nU' cU',.int .i64 k',.slice aT' nT' cT'] 68 (0,0)):=by rw[hx.below.block _ HLT.out];exact HRW.out
      have hra:w'.rangeAt (w.heap.size+2) 1 [.slice aD' nD' cD',.slice aU' nU' cU',.int .i64 k',.slice aT' nT' cT']:=fun j v hj=>by
       have hj4:j<4:=by have:=(List.getElem?_eq_some_iff.1 hj).1;simpa using this
       rw[cell_of_row w' _ (1+j) _ _ _ hr];obtain rfl|rfl|rfl|rfl:j=0∨j=1∨j=2∨j=3:=by omega
       all_goals(simp at hj;subst hj;rfl)
      have hK':=hK w' (.agg #[.slice aD' nD' cD',.slice aU' nU' cU',.int .i64 k',.slice aT' nT' cT']) (by simp) (hx.step 1 _ (Below.refl _ _) (fun h=>absurd h (by decide))) (Below.refl _ _);clear hK;rw[if_pos (by rfl)];refine wp_load_mid 34 (.tmp 19) rfl (w.heap.size+2) 1 d0 [.slice aD' nD' cD',.slice aU' nU' cU',.int .i64 k',.slice aT' nT' cT'] _ hra Tryz.underlying34 rfl HSS.out ?_;simpa[upd,Act.put,d0] using hK'
     ·clear hdep;have hK':=hK w' (.slice (some ⟨b,off,none⟩) n c) (by simp) (hx.step 2 _ (Below.refl _ _) (fun h=>absurd h (by decide))) (Below.refl _ _);clear hK;rw[if_pos (by rfl)];go_simp;simpa[upd] using hK'
     ·clear hdep;have hK':=hK w' (.int .i64 (q:Int)) (by simp) (hx.step 3 _ (Below.refl _ _) (fun h=>absurd h (by decide))) (Below.refl _ _);clear hK;rw[if_pos (by rfl)];go_simp;simpa[upd] using hK'
     ·have d2:t 2=.slice (some ⟨b,off,none⟩) n c:=by simpa using(hdep ⟨2,.data⟩ (by simp) rfl).2
      have d3:t 3=.int .i64 (q:Int):=by simpa using(hdep ⟨3,.data⟩ (by simp) rfl).2
      clear hdep;have hK':=hK w' (.pointer (some ⟨b,off+q*4,none⟩)) (by simp) (hx.step 4 _ (Below.refl _ _) (fun h=>absurd h (by decide))) (Below.refl _ _);clear hK;rw[if_pos (by rfl)];go_simp;simpa[upd,d2,d3] using hK'
     ·have d4:t 4=.pointer (some ⟨b,off+q*4,none⟩):=by simpa using(hdep ⟨4,.data⟩ (by simp) rfl).2
      clear hdep;have hra:w'.rangeAt b (off+q*4) [.int .u32 s,.int .i64 kd,.int .u32 p,.int .u32 y]:=fun j v hj=>by
       have hj4:j<4:=by have:=(List.getElem?_eq_some_iff.1 hj).1;simpa using this
       rw[hx.below.cell (p:=⟨b,off+q*4+j,none⟩) HBL.out];obtain⟨f0,f1,f2,f3⟩:=HFF.out;obtain rfl|rfl|rfl|rfl:j=0∨j=1∨j=2∨j=3:=by omega
       all_goals(simp at hj;subst hj;assumption)
      have hK':=hK w' (.agg #[.int .u32 s,.int .i64 kd,.int .u32 p,.int .u32 y]) (by simp) (hx.step 5 _ (Below.refl _ _) (fun h=>absurd h (by decide))) (Below.refl _ _);clear hK;rw[if_pos (by rfl)];refine wp_load_mid 112 (.tmp 23) rfl b (off+q*4) d4 [.int .u32 s,.int .i64 kd,.int .u32 p,.int .u32 y] _ hra Tryz.underlying112 rfl HSF.out ?_;simpa[upd,Act.put,d4] using hK'
     ·have d1:t 1=.agg #[.slice aD' nD' cD',.slice aU' nU' cU',.int .i64 k',.slice aT' nT' cT']:=by simpa using(hdep ⟨1,.data⟩ (by simp) rfl).2
      have d5:t 5=.agg #[.int .u32 s,.int .i64 kd,.int .u32 p,.int .u32 y]:=by simpa using(hdep ⟨5,.data⟩ (by simp) rfl).2
      clear hdep;have hsz:=hx.below.size;have hs3:=HLT.out;have A:=HC.out w' hx.below;have hK':∀ ww v,WPV (w.heap.size+3) ww v r1→Below w'.heap.size w' ww→K _ ww:=fun ww v hv hb=>hK ww v (by simpa using hv) (hx.step 6 v hb (fun h=>absurd h (by decide))) hb
      clear hK;rw[if_pos (by rfl)];go_simp;try simp only[d1,d5]
      refine A.mono ?_;rintro e w9 ⟨v9,rfl,p9,hb9⟩;have hK2:=hK' w9 v9 (WPV.monoY p9 (by omega)) hb9;clear hK' A p9 hb9;go_simp;simpa[upd,d1,d5] using hK2
    case hend=>
     intro o L t w' ho hx hg K hK;simp at ho;subst ho;have f6:WPV (w.heap.size+3) w' (t 6) r1:=by simpa using(hg 6 (by decide)).2
     clear hg;have hq:=hx.below.block _ HLT.out;have hrow:w'.heap[w.heap.size+2]?=some (.cells #[.bool true,.slice aD' nD' cD',.slice aU' nU' cU',.int .i64 k',.slice aT' nT' cT'] 68 (0,0)):=by rw[hq];exact HRW.out
     have f6':=f6;obtain⟨aD2,nD2,cD2,aU2,nU2,cU2,aT2,nT2,cT2,e6,g1⟩:=f6;have hK':∀ ww,Wr (w.heap.size+2) w' ww→ww.heap[w.heap.size+2]?=some (.cells #[.bool r1.ok,.slice aD2 nD2 cD2,.slice aU2 nU2 cU2,.int .i64 r1.k,.slice aT2 nT2 cT2] 68 (0,0))→K _ ww:=fun ww hw hr=>hK ww undef (HX.out.next hx.below (by rw[e6] at f6';exact f6') hw hr)
     clear hK g1 f6' hq;rw[if_pos (by rfl)];refine wp_store_row 68 (.tmp 5) (.tmp 25) rfl (w.heap.size+2) #[.bool r1.ok,.slice aD2 nD2 cD2,.slice aU2 nU2 cU2,.int .i64 r1.k,.slice aT2 nT2 cT2] rfl e6 68 _ hrow HSA.out rfl (by simp[Value.oneCell']) ?_;have hK2:=hK' _ (Wr.setRow _ _ _) (setRow_heap _ _ _ _ _ _ hrow);clear hK';simpa[upd,Act.put] using hK2
    case hdone=>
     intro t w2 hf;have HX2:Hid (TX w (thL l0 w.heap.size (q+1)) (apK r0 F (q+1)) w2):=by show TX _ _ _ _;rw[←HE1.out,thL_succ];exact hf
     dsimp only;clear hf HX HRW HFF HC HE1;go_wp2;go_roundw
     case rel=>exact⟨q+1,by omega,by go_num,HX2.out⟩
     case measure=>simp[intOf];omega
   |false=>
    have hE:=apK_rest HO.out hok hq;have hq0:0<q:=by
     cases q with
     |zero=>rw[show apK r0 F 0=r0 from rfl,HO.out] at hok;cases hok
     |succ q=>omega
    rw[thL_pos hq0] at t1 t2 t3;have HF:Hid (WPQ (thL l0 w.heap.size n) w.heap.size wr (.agg #[.bool false,.slice aD' nD' cD',.slice aU' nU' cU',.int .i64 k',.slice aT' nT' cT']) (apK r0 F n)∧Below w.heap.size w wr):=⟨by rw[hE,thL_pos (show 0<n by omega)];exact⟨aD',nD',cD',aU',nU',cU',aT',nT',cT',by rw[hok,hk'],g1,g2,g3,g4,g5,g6,t1,t2,t3,c1,c2⟩,HX.out.bel⟩
    have HRS:=hid_ofL HX.out.res;clear g1 g2 g3 g4 g5 g6 t1 t2 t3 c1 c2 HX hok hk' hE;go_wp2_with (first
     |(refine wpList_load_row rfl 68 (.tmp 5) rfl (w.heap.size+2) rfl 68 _ (0,0) _ HRW.out Tryz.underlying68 rfl HSA.out ?_)
     |(refine wpList_store_row rfl 68 (.tmp 4) (.tmp 26) rfl (w.heap.size+1) #[.bool false,.slice aD' nD' cD',.slice aU' nU' cU',.int .i64 k',.slice aT' nT' cT'] rfl rfl 68 _ HRS.out HSA.out rfl (by simp[Value.oneCell']) ?_)
     |fail)
    (try simp only[Exit.inBlock,Exit.then])
    exact bodyPost_ret (v:=.agg #[.bool false,.slice aD' nD' cD',.slice aU' nU' cU',.int .i64 k',.slice aT' nT' cT']) (results_cell_row rfl _ _ (w.heap.size+1) 68 _ (0,0) _ rfl (setRow_heap _ _ _ _ _ _ HRS.out) Tryz.underlying68 rfl HSA.out) rfl ⟨_,rfl,(HF.out.1.wr (Wr.setRow _ _ _) (by omega) (by omega)).wpv,HF.out.2.trans ((Wr.setRow _ _ _).below (Nat.le_succ _))⟩
  ·obtain rfl:q=n:=by omega
   have HF:Hid (WPQ (thL l0 w.heap.size q) w.heap.size wr (.agg #[.bool ok,.slice aD' nD' cD',.slice aU' nU' cU',.int .i64 k',.slice aT' nT' cT']) (apK r0 F q)∧Below w.heap.size w wr):=⟨⟨aD',nD',cD',aU',nU',cU',aT',nT',cT',by rw[hok,hk'],g1,g2,g3,g4,g5,g6,t1,t2,t3,c1,c2⟩,HX.out.bel⟩
   have HRS:=hid_ofL HX.out.res;clear g1 g2 g3 g4 g5 g6 t1 t2 t3 c1 c2 HX hok hk';go_wp2_with (first
    |(refine wpList_load_row rfl 68 (.tmp 5) rfl (w.heap.size+2) rfl 68 _ (0,0) _ HRW.out Tryz.underlying68 rfl HSA.out ?_)
    |(refine wpList_store_row rfl 68 (.tmp 4) (.tmp 26) rfl (w.heap.size+1) #[.bool ok,.slice aD' nD' cD',.slice aU' nU' cU',.int .i64 k',.slice aT' nT' cT'] rfl rfl 68 _ HRS.out HSA.out rfl (by simp[Value.oneCell']) ?_)
    |fail)
   (try simp only[Exit.inBlock,Exit.then])
   exact bodyPost_ret (v:=.agg #[.bool ok,.slice aD' nD' cD',.slice aU' nU' cU',.int .i64 k',.slice aT' nT' cT']) (results_cell_row rfl _ _ (w.heap.size+1) 68 _ (0,0) _ rfl (setRow_heap _ _ _ _ _ _ HRS.out) Tryz.underlying68 rfl HSA.out) rfl ⟨_,rfl,(HF.out.1.wr (Wr.setRow _ _ _) (by omega) (by omega)).wpv,HF.out.2.trans ((Wr.setRow _ _ _).below (Nat.le_succ _))⟩
theorem thr_any (aD aU aT:Option Addr) (nD cD nU cU nT cT:Nat) (D U:List Int) (k:Int) (T:List Int) (fa:Option Addr) (n c:Nat) (F:List Int) (w:World) (l0:Nat) (r0:ApR) (hr0:r0=⟨true,D,U,k,T,nT⟩)
  (hv:WPV l0 w (.agg #[.bool true,.slice aD nD cD,.slice aU nU cU,.int .i64 k,.slice aT nT cT]) r0) (hl0:l0≤w.heap.size) (hst:StP D U k T nT) (hT:T.length=nT*2) (hF:FAt w fa F) (hl:F.length=n*4) (hn:n≤1000) (hFB:FrB F) :
  Calls Tryz.prog 31 #[.agg #[.slice aD nD cD,.slice aU nU cU,.int .i64 k,.slice aT nT cT],.slice fa n c] w fun e w'=>∃ v,e=.returned v∧WPV l0 w' v (apK r0 F n)∧Below w.heap.size w w':=
 (thq_any aD aU aT nD cD nU cU nT cT D U k T fa n c F w l0 r0 hr0 hv hl0 hst hT hF hl hn hFB).mono fun e w' ⟨v,e1,h,b⟩=>⟨v,e1,h.monoY (by unfold thL;split<;>omega),b⟩
end Go.Proofs.YthmeoilbmfdhfaaGreat
