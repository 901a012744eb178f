import Derived.Test.YthmeoilbmfdhfaaGreatDkS
import Derived.Test.YthmeoilbmfdhfaaGreatMApV
import Derived.Test.YthmeoilbmfdhfaaGreatMDevRd
import Derived.Test.YthmeoilbmfdhfaaGreatMCatF
import Derived.Test.YthmeoilbmfdhfaaGreatMSwJa
namespace Go.Proofs.YthmeoilbmfdhfaaGreat
open Go.ChangeShapes Go.WideShapes Go.ChangeAt Go.RowKit
set_option linter.unusedVariables false
set_option maxRecDepth 100000 in
set_option maxHeartbeats 2000000 in
theorem sdk_any (a:Option Addr) (n cap:Nat) (zs:List Int) (w:World) (hn:zs.length=n) (hm:n≤1048576) (ha:At .u8 w a zs) (hz:Byte zs) :
  Calls Tryz.prog 69 #[.slice a n cap] w fun e w'=>∃ v,e=.returned v∧DVW w.heap.size w' v (dkF zs)∧Below w.heap.size w w':=by
 have HBX:Hid (BXS w (w.alloc (.cells #[.bool false,.int .u32 0,.int .u32 0,.slice none 0 0,.slice none 0 0] 63))):=BXS.start w;have HSR:Hid ((Tryz.prog.info? 63).map (·.size)=some 5):=by show _=_;kernel_rfl
 by_cases h128:n=128
 ·subst h128;obtain⟨b,off,rfl,hb,hc⟩:=ha.get (by omega);by_cases h16:zs.getD 6 0≤16
  ·exact sdk_yes b off cap zs w hn hz hb hc h16
  ·have HF:Hid (dkF zs=dkNo):=dkF_cnt h16;have c6:(w.alloc (.cells #[.bool false,.int .u32 0,.int .u32 0,.slice none 0 0,.slice none 0 0] 63)).cell? ⟨b,off+6,none⟩=some (.int .u8 (zs.getD 6 0)):=((below_new w _).cell (p:=⟨b,off+6,none⟩) hb).trans (hc 6 (by omega));have b6:=hz.get 6;have hc6:zs.getD 6 0>16:=by omega
   clear hn ha hz hc h16;generalize zs.getD 6 0=z6 at c6 hc6 b6;obtain⟨b60,b61⟩:=b6;go_enter Tryz.func69,Tryz.ntmps69;go_wp2_with (first
    |(refine wpList_store_row rfl 63 (.tmp 2) (.tmp 17) rfl w.heap.size #[.bool false,.int .u32 0,.int .u32 0,.slice none 0 0,.slice none 0 0] rfl rfl 63 _ HBX.out.box HSR.out rfl (all5s _ _ _ _ _ _ _ _ _) ?_)
    |fail)
   (try simp only[Exit.inBlock,Exit.then])
   refine bodyPost_ret (v:=.agg #[.bool false,.int .u32 0,.int .u32 0,.slice none 0 0,.slice none 0 0]) (results_cell_row rfl _ _ w.heap.size 63 _ (0,0) _ rfl (setRow_heap _ _ _ _ _ _ HBX.out.box) Tryz.underlying63 rfl HSR.out) rfl ⟨_,rfl,?_,HBX.out.below.trans ((Wr.setRow _ _ _).below (Nat.le_refl _))⟩;rw[HF.out];exact DVW.no _ _
 ·have HF:Hid (dkF zs=dkNo):=dkF_len (by omega);have hne:((n:Int) != 128)=true:=by simp;omega
  clear hn ha hz;go_enter Tryz.func69,Tryz.ntmps69;go_wp2_with (first
   |(refine wpList_store_row rfl 63 (.tmp 2) (.tmp 17) rfl w.heap.size #[.bool false,.int .u32 0,.int .u32 0,.slice none 0 0,.slice none 0 0] rfl rfl 63 _ HBX.out.box HSR.out rfl (all5s _ _ _ _ _ _ _ _ _) ?_)
   |fail)
  (try simp only[Exit.inBlock,Exit.then])
  refine bodyPost_ret (v:=.agg #[.bool false,.int .u32 0,.int .u32 0,.slice none 0 0,.slice none 0 0]) (results_cell_row rfl _ _ w.heap.size 63 _ (0,0) _ rfl (setRow_heap _ _ _ _ _ _ HBX.out.box) Tryz.underlying63 rfl HSR.out) rfl ⟨_,rfl,?_,HBX.out.below.trans ((Wr.setRow _ _ _).below (Nat.le_refl _))⟩;rw[HF.out];exact DVW.no _ _
structure EY (w:World) (cs zr:Array Value) (T:TypeId) (wr:World):Prop where
 bel:Below w.heap.size w wr
 dev:wr.heap[w.heap.size]?=some (.cells cs 40 (0,0))
 res:wr.heap[w.heap.size+1]?=some (.cells zr T (0,0))
theorem EY.lt {w wr:World} {cs zr:Array Value} {T:TypeId} (h:EY w cs zr T wr):w.heap.size+1<wr.heap.size:=(Array.getElem?_eq_some_iff.1 h.res).1
theorem EY.below {w wr w':World} {cs zr:Array Value} {T:TypeId} (h:EY w cs zr T wr) (b:Below wr.heap.size wr w'):EY w cs zr T w':=by
 have:=h.lt;exact⟨h.bel.trans (b.mono h.bel.size),by rw[b.block _ (by omega)];exact h.dev,by rw[b.block _ (by omega)];exact h.res⟩
theorem EY.start (w:World) (cs zr:Array Value) (T:TypeId):EY w cs zr T ((w.alloc (.cells cs 40)).alloc (.cells zr T)):=by
 refine⟨((Below.refl _ _).alloc (Nat.le_refl _) _).alloc (by simp) _,?_,?_⟩
 ·rw[Below.heap_alloc _ _ w.heap.size (by simp)];exact heap_alloc_new w _
 ·have:=heap_alloc_new (w.alloc (.cells cs 40)) (.cells zr T);rw[World.size_alloc] at this;exact this
def Cat2 (w:World) (v:Value) (A B:List Int):Prop:=∃ q v1 v2,v=.slice (some ⟨q,0,none⟩) 2 2∧w.heap[q]?=some (.cells #[v1,v2] 22 (0,0))∧Part w v1 A∧Part w v2 B
theorem Cat2.below {w w':World} {v:Value} {A B:List Int} (h:Cat2 w v A B) (b:Below w.heap.size w w'):Cat2 w' v A B:=by
 obtain⟨q,v1,v2,e,h1,h2,h3⟩:=h;exact⟨q,v1,v2,e,by rw[b.block q (Array.getElem?_eq_some_iff.1 h1).1];exact h1,h2.below b,h3.below b⟩
theorem cat2 (w:World) (q:Nat) (v1 v2:Value) (A B:List Int) (hr:w.heap[q]?=some (.cells #[v1,v2] 22 (0,0))) (h1:Part w v1 A) (h2:Part w v2 B) (hl:A.length+B.length≤100000) :
  Calls Tryz.prog 70 #[.slice (some ⟨q,0,none⟩) 2 2] w fun e w'=>∃ v,e=.returned v∧Part w' v (A++B)∧Below w.heap.size w w':=by
 have hfl:[A,B].flatten=A++B:=by simp
 have C:=cat_any q 2 2 [v1,v2] [A,B] w rfl (Array.getElem?_eq_some_iff.1 hr).1
  (fun i hi=>by
   rw[cell_of_row _ _ i _ _ _ hr]
   match i,hi with
   |0,_=>rfl
   |1,_=>rfl)
  (fun i hi=>by
   match i,hi with
   |0,_=>exact h1
   |1,_=>exact h2)
  (by rw[hfl,List.length_append];omega) (by decide)
 rw[hfl] at C;refine C.mono ?_;rintro e w' ⟨v,rfl,O,b⟩;exact⟨v,rfl,O.part,b⟩
theorem DVW.mono {lo lo':Nat} {w:World} {v:Value} {r:DkR} (h:DVW lo w v r) (hl:lo'≤lo):DVW lo' w v r:=by
 obtain⟨aD,nD,cD,aU,nU,cU,e,h1,h2,h3,h4,l1,l2⟩:=h;exact⟨aD,nD,cD,aU,nU,cU,e,h1,h2,h3,h4,l1.mono hl (Nat.le_refl _),l2.mono hl (Nat.le_refl _)⟩
theorem At.wrB {w w':World} {ad:Option Addr} {xs:List Int} {q:Nat} (h:At .i64 w ad xs) (hb:w.heap[q]?=some (.cells #[.bool false,.int .u32 0,.int .u32 0,.slice none 0 0,.slice none 0 0] 63 (0,0))) (hw:Wr q w w'):At .i64 w' ad xs:=by
 rcases h with h|⟨b,off,e,hl,hc⟩
 ·exact .inl h
 ·by_cases hx:xs=[]
  ·exact .inl hx
  ·refine .inr ⟨b,off,e,by rw[hw.size];exact hl,fun i hi=>?_⟩;have hne:b≠q:=by
    rintro rfl;have h0:=hc 0 (List.length_pos_iff.2 hx);rw[cell_of_row w b _ _ _ _ hb] at h0;have h5:off+0<5:=(Array.getElem?_eq_some_iff.1 h0).1;obtain rfl|rfl|rfl|rfl|rfl:off=0∨off=1∨off=2∨off=3∨off=4:=by omega
    all_goals simp at h0
   rw[World.cell?_of_block (a:=⟨b,off+i,none⟩) (w:=w) (hw.block b hne)];exact hc i hi
def NwR (lo:Nat) (w:World) (v:Value):Prop:=∃ q,v=.pointer (some ⟨q,0,none⟩)∧lo≤q∧w.heap[q]?=some (.cells #[.bool false,.int .u32 0,.int .u32 0,.slice none 0 0,.slice none 0 0] 63 (0,0))
theorem NwR.below {lo:Nat} {w w':World} {v:Value} (h:NwR lo w v) (b:Below w.heap.size w w'):NwR lo w' v:=by
 obtain⟨q,e,h1,h2⟩:=h;exact⟨q,e,h1,by rw[b.block q (Array.getElem?_eq_some_iff.1 h2).1];exact h2⟩
def FinR (p:Nat) (W:World) (r:DkR) (u:Nat→Value) (w:World):Prop:=∃ q aD nD cD aU nU cU,u p=.pointer (some ⟨q,0,none⟩)∧W.heap.size≤q∧w.heap[q]?=some (.cells #[.bool r.ok,.int .u32 r.g,.int .u32 r.t,.slice aD nD cD,.slice aU nU cU] 63 (0,0))∧At .i64 w aD r.D∧At .i64 w aU r.U∧r.D.length=nD∧r.U.length=nU∧Lies W.heap.size w aD∧Lies W.heap.size w aU∧Below W.heap.size W w
theorem Out.prt {B:Nat} {w:World} {v:Value} {zs:List Int} (h:Out B w v zs) (hl:0<zs.length):Part w v zs:=by
 obtain⟨ad,c,rfl,hA,_,_⟩:=h;obtain⟨b,off,rfl,hb,hc⟩:=hA.get hl;exact⟨b,off,c,rfl,hb,hc⟩
theorem srdP {a x:Option Addr} {Ln c m cx:Nat} {f:Int} {d:Bool} {zs:List Int} {ps:List PD} {w:World} (F:DvF Ln c m f zs ps) (hA:At .u8 w a zs) (hP:PAt w x ps) (hL:Ln≤1048576) (hps:∀ i,(ps.getD i (0,[])).2.length≤1048576) (s:Nat) (hs:s<Ln/64) :
  Calls Tryz.prog 71 #[.agg #[.slice a Ln c,.slice x m cx,.int .i64 f,.bool d],.int .i64 (s:Int)] w fun e w'=>∃ v,e=.returned v∧Part w' v (rdV zs ps (s:Nat))∧Below w.heap.size w w':=by
 have hb:=F.base;have A:=srd_any (.agg #[.slice a Ln c,.slice x m cx,.int .i64 f,.bool d]) zs ps f (s:Int) d w ⟨a,c,x,cx,by rw[F.hl,F.hm],hA,hP,by rw[F.hl];exact F.hc⟩ (by rw[F.hl];exact hL) (by rw[F.hm];omega) hps;have e:rdZ zs ps f (s:Int)=rdV zs ps (s:Nat):=by
  unfold rdZ;rw[if_pos];rw[F.hl];exact⟨F.hv,by unfold hasS;simp;omega⟩
 rw[e] at A;refine A.mono ?_;rintro e w' ⟨v,rfl,o,b⟩;exact⟨v,rfl,o.prt (by rw[(F.rd s (by omega)).1];decide),b⟩
set_option maxRecDepth 100000 in
set_option maxHeartbeats 4000000 in
theorem slot_any (a x:Option Addr) (Ln c m cx:Nat) (f:Int) (d:Bool) (zs:List Int) (ps:List PD) (w:World) (F:DvF Ln c m f zs ps) (hA:At .u8 w a zs) (hP:PAt w x ps) (hL:Ln≤1048576) (hps:∀ i,(ps.getD i (0,[])).2.length≤1048576) (ix:Nat) (hi:ix<2) :
  Calls Tryz.prog 28 #[.agg #[.slice a Ln c,.slice x m cx,.int .i64 f,.bool d],.int .i64 (ix:Int)] w fun e w'=>∃ v,e=.returned v∧DVW w.heap.size w' v (slF zs ps ix)∧Below w.heap.size w w':=by
 have HE0:=hid_ofL (EY.start w #[.slice a Ln c,.slice x m cx,.int .i64 f,.bool d] #[.bool false,.int .u32 0,.int .u32 0,.slice none 0 0,.slice none 0 0] 63);have HSD:Hid ((Tryz.prog.info? 40).map (·.size)=some 4):=by show _=_;kernel_rfl
 have HSR:Hid ((Tryz.prog.info? 63).map (·.size)=some 5):=by show _=_;kernel_rfl
 have hb:=F.base;have HR0:Hid (∀ ww,Below w.heap.size w ww→Calls Tryz.prog 71 #[.agg #[.slice a Ln c,.slice x m cx,.int .i64 f,.bool d],.int .i64 (2*(ix:Int))] ww fun e w'=>∃ v,e=.returned v∧Part w' v (rdV zs ps (2*ix:Nat))∧Below ww.heap.size ww w'):=fun ww b=>by
  have:=srdP (d:=d) (cx:=cx) F (hA.below b) (hP.below b) hL hps (2*ix) (by omega);rw[show((2*ix:Nat):Int)=2*(ix:Int) by omega] at this;exact this
 have HR1:Hid (∀ ww,Below w.heap.size w ww→Calls Tryz.prog 71 #[.agg #[.slice a Ln c,.slice x m cx,.int .i64 f,.bool d],.int .i64 (2*(ix:Int)+1)] ww fun e w'=>∃ v,e=.returned v∧Part w' v (rdV zs ps (2*ix+1:Nat))∧Below ww.heap.size ww w'):=fun ww b=>by
  have:=srdP (d:=d) (cx:=cx) F (hA.below b) (hP.below b) hL hps (2*ix+1) (by omega);rw[show((2*ix+1:Nat):Int)=2*(ix:Int)+1 by omega] at this;exact this
 have HLN2:=hid_ofL (show((rdV zs ps (2*ix:Nat))++(rdV zs ps (2*ix+1:Nat))).length=128∧Byte ((rdV zs ps (2*ix:Nat))++(rdV zs ps (2*ix+1:Nat))) from F.sl ix hi);have HLN:Hid (((rdV zs ps (2*ix:Nat))).length+((rdV zs ps (2*ix+1:Nat))).length≤100000):=by have:=HLN2.out.1;rw[List.length_append] at this;show _≤_;omega
 obtain⟨r,hr⟩:∃ r,dkF ((rdV zs ps (2*ix:Nat))++(rdV zs ps (2*ix+1:Nat)))=r:=⟨_,rfl⟩
 have HDK:=hid_ofL hr;have HU:Hid (0≤r.g∧r.g<4294967296):=by rw[←hr];exact dkF_u32 HLN2.out.2
 have ew1:IntKind.i64.wrap (2*(ix:Int))=2*(ix:Int):=by rw[IntKind.wrap_i64];omega
 have ew2:IntKind.i64.wrap (2*(ix:Int)+1)=2*(ix:Int)+1:=by rw[IntKind.wrap_i64];omega
 clear F hA hP hps hb hr;go_enter Tryz.func28,Tryz.ntmps28
 go_upto_region 1 with fail
 generalize (w.alloc (.cells #[.slice a Ln c,.slice x m cx,.int .i64 f,.bool d] 40)).alloc (.cells #[.bool false,.int .u32 0,.int .u32 0,.slice none 0 0,.slice none 0 0] 63)=w0 at *;refine wp_region_any (by kernel_rfl) ?_;refine wpAny_slotsF 13 (fun _ a b=>Below a.heap.size a b) (frame:=(fun (a b c d e f g h i j k l m n o p q r s:Value)=>fun (t:Nat→Value)=>({ tmps:=List.toArray [a,b,c,d,e,t 12,t 0,t 1,t 2,t 3,t 4,t 5,t 6,t 7,t 8,t 9,t 10,t 11,f,g,h,i,j,k,l,m,n,o,p,q,r,s],defers:=[] }:Act)) _ _ _ _ _ _ _ _ _ _ _ _ _ _ _ _ _ _ _)
  (Ext:=fun L u w'=>ApH w0 [] L u w') (Good:=fun i L w' v=>if i=0 then v=.agg #[.slice a Ln c,.slice x m cx,.int .i64 f,.bool d] else if i=1 then v=.int .i64 (ix:Int) else if i=2 then v=.int .i64 (2*(ix:Int)) else if i=3 then Part w' v (rdV zs ps (2*ix:Nat)) else if i=4 then v=.agg #[.slice a Ln c,.slice x m cx,.int .i64 f,.bool d] else if i=5 then v=.int .i64 (ix:Int) else if i=6 then v=.int .i64 (2*(ix:Int)) else if i=7 then v=.int .i64 (2*(ix:Int)+1) else if i=8 then Part w' v (rdV zs ps (2*ix+1:Nat)) else if i=9 then Cat2 w' v (rdV zs ps (2*ix:Nat)) (rdV zs ps (2*ix+1:Nat)) else if i=10 then Part w' v ((rdV zs ps (2*ix:Nat))++(rdV zs ps (2*ix+1:Nat))) else if i=11 then DVW w0.heap.size w' v r else if i=12 then NwR w0.heap.size w' v else True) (Fin:=FinR 12 w0 r) rfl (by kernel_rfl) ?hstab (by kernel_rfl) ?hop ?hend ?hdone _ _ ((fun (x0 x1 x2 x3 x4 x5 x6 x7 x8 x9 x10 x11 x12:Value)=>fun (i:Nat)=>if i=0 then x0 else if i=1 then x1 else if i=2 then x2 else if i=3 then x3 else if i=4 then x4 else if i=5 then x5 else if i=6 then x6 else if i=7 then x7 else if i=8 then x8 else if i=9 then x9 else if i=10 then x10 else if i=11 then x11 else if i=12 then x12 else undef) _ _ _ _ _ _ _ _ _ _ _ _ _) _ (by simp) ?none ?ext (by simp)
 case none=>intro i;rw[Array.getD_eq_getD_getElem?,Array.getElem?_replicate];split<;>rfl
 case ext=>exact ApH.start w0 [] _ _ (fun i=>by rw[Array.getD_eq_getD_getElem?,Array.getElem?_replicate];split<;>rfl) ⟨rfl,rfl,rfl,Nat.le_refl _,fun _ _=>rfl⟩
 case hstab=>
  intro j L w9 w' i v _ hM _ _ h;by_cases h3:j=3
  ·subst h3;simp at h ⊢;exact h.below hM
  by_cases h8:j=8
  ·subst h8;simp at h ⊢;exact h.below hM
  by_cases h9:j=9
  ·subst h9;simp at h ⊢;exact h.below hM
  by_cases h10:j=10
  ·subst h10;simp at h ⊢;exact h.below hM
  by_cases h11:j=11
  ·subst h11;simp at h ⊢;exact h.below hM
  by_cases h12:j=12
  ·subst h12;simp at h ⊢;exact h.below hM
  simp only[if_neg h3,if_neg h8,if_neg h9,if_neg h10,if_neg h11,if_neg h12] at h ⊢;exact h
 case hop=>
  intro i o L t w' hi ho hLi hx hdep K hK;obtain rfl|rfl|rfl|rfl|rfl|rfl|rfl|rfl|rfl|rfl|rfl|rfl|rfl:i=0∨i=1∨i=2∨i=3∨i=4∨i=5∨i=6∨i=7∨i=8∨i=9∨i=10∨i=11∨i=12:=by omega
  all_goals(simp at ho;subst ho)
  ·clear hdep;have hr:w'.heap[w.heap.size]?=some (.cells #[.slice a Ln c,.slice x m cx,.int .i64 f,.bool d] 40 (0,0)):=by rw[hx.below.block _ (by have:=HE0.out.lt;omega)];exact HE0.out.dev
   have hK':=hK w' (.agg #[.slice a Ln c,.slice x m cx,.int .i64 f,.bool d]) (by simp) (hx.step 0 _ (Below.refl _ _) (fun h=>absurd h (by decide))) (Below.refl _ _);clear hK;rw[if_pos (by rfl)];refine wp_load_row 40 (.tmp 2) rfl (w.heap.size) rfl 40 _ (0,0) _ hr Tryz.underlying40 rfl HSD.out ?_;simpa[upd,Act.put] using hK'
  ·clear hdep;have hK':=hK w' (.int .i64 (ix:Int)) (by simp) (hx.step 1 _ (Below.refl _ _) (fun h=>absurd h (by decide))) (Below.refl _ _);clear hK;rw[if_pos (by rfl)];go_simp;simpa[upd,ew1,ew2] using hK'
  ·have d1:t 1=.int .i64 (ix:Int):=by simpa using(hdep ⟨1,.data⟩ (by simp) rfl).2
   clear hdep;have hK':=hK w' (.int .i64 (2*(ix:Int))) (by simp) (hx.step 2 _ (Below.refl _ _) (fun h=>absurd h (by decide))) (Below.refl _ _);clear hK;rw[if_pos (by rfl)];go_simp;simpa[upd,d1,ew1,ew2] using hK'
  ·have d0:t 0=.agg #[.slice a Ln c,.slice x m cx,.int .i64 f,.bool d]:=by simpa using(hdep ⟨0,.data⟩ (by simp) rfl).2
   have d2:t 2=.int .i64 (2*(ix:Int)):=by simpa using(hdep ⟨2,.data⟩ (by simp) rfl).2
   clear hdep;have bw:Below w.heap.size w w':=HE0.out.bel.trans (hx.below.mono HE0.out.bel.size);have A:=HR0.out w' bw;have hK':∀ ww v,Part ww v (rdV zs ps (2*ix:Nat))→Below w'.heap.size w' ww→K _ ww:=fun ww v hv hb=>hK ww v (by simpa using hv) (hx.step 3 v hb (fun h=>absurd h (by decide))) hb
   clear hK;rw[if_pos (by rfl)];go_simp;try simp only[d0,d2]
   refine A.mono ?_;rintro e w9 ⟨v9,rfl,p9,hb9⟩;have hK2:=hK' w9 v9 p9 hb9;clear hK' A p9 hb9;go_simp;simpa[upd,d0,d2] using hK2
  ·clear hdep;have hr:w'.heap[w.heap.size]?=some (.cells #[.slice a Ln c,.slice x m cx,.int .i64 f,.bool d] 40 (0,0)):=by rw[hx.below.block _ (by have:=HE0.out.lt;omega)];exact HE0.out.dev
   have hK':=hK w' (.agg #[.slice a Ln c,.slice x m cx,.int .i64 f,.bool d]) (by simp) (hx.step 4 _ (Below.refl _ _) (fun h=>absurd h (by decide))) (Below.refl _ _);clear hK;rw[if_pos (by rfl)];refine wp_load_row 40 (.tmp 2) rfl (w.heap.size) rfl 40 _ (0,0) _ hr Tryz.underlying40 rfl HSD.out ?_;simpa[upd,Act.put] using hK'
  ·clear hdep;have hK':=hK w' (.int .i64 (ix:Int)) (by simp) (hx.step 5 _ (Below.refl _ _) (fun h=>absurd h (by decide))) (Below.refl _ _);clear hK;rw[if_pos (by rfl)];go_simp;simpa[upd,ew1,ew2] using hK'
  ·have d5:t 5=.int .i64 (ix:Int):=by simpa using(hdep ⟨5,.data⟩ (by simp) rfl).2
   clear hdep;have hK':=hK w' (.int .i64 (2*(ix:Int))) (by simp) (hx.step 6 _ (Below.refl _ _) (fun h=>absurd h (by decide))) (Below.refl _ _);clear hK;rw[if_pos (by rfl)];go_simp;simpa[upd,d5,ew1,ew2] using hK'
  ·have d6:t 6=.int .i64 (2*(ix:Int)):=by simpa using(hdep ⟨6,.data⟩ (by simp) rfl).2
   clear hdep;have hK':=hK w' (.int .i64 (2*(ix:Int)+1)) (by simp) (hx.step 7 _ (Below.refl _ _) (fun h=>absurd h (by decide))) (Below.refl _ _);clear hK;rw[if_pos (by rfl)];go_simp;simpa[upd,d6,ew1,ew2] using hK'
  ·have d4:t 4=.agg #[.slice a Ln c,.slice x m cx,.int .i64 f,.bool d]:=by simpa using(hdep ⟨4,.data⟩ (by simp) rfl).2
   have d7:t 7=.int .i64 (2*(ix:Int)+1):=by simpa using(hdep ⟨7,.data⟩ (by simp) rfl).2
   clear hdep;have bw:Below w.heap.size w w':=HE0.out.bel.trans (hx.below.mono HE0.out.bel.size);have A:=HR1.out w' bw;have hK':∀ ww v,Part ww v (rdV zs ps (2*ix+1:Nat))→Below w'.heap.size w' ww→K _ ww:=fun ww v hv hb=>hK ww v (by simpa using hv) (hx.step 8 v hb (fun h=>absurd h (by decide))) hb
   clear hK;rw[if_pos (by rfl)];go_simp;try simp only[d4,d7]
   refine A.mono ?_;rintro e w9 ⟨v9,rfl,p9,hb9⟩;have hK2:=hK' w9 v9 p9 hb9;clear hK' A p9 hb9;go_simp;simpa[upd,d4,d7] using hK2
  ·have f3:Part w' (t 3) (rdV zs ps (2*ix:Nat)):=by simpa using(hdep ⟨3,.data⟩ (by simp) rfl).2
   have f8:Part w' (t 8) (rdV zs ps (2*ix+1:Nat)):=by simpa using(hdep ⟨8,.data⟩ (by simp) rfl).2
   clear hdep;refine Exists.elim f3 fun g3 hh=>?_
   obtain⟨o3,c3,d3,q1,q2⟩:=hh;refine Exists.elim f8 fun g8 hh'=>?_
   obtain⟨o8,c8,d8,q3,q4⟩:=hh';have bb:Below w'.heap.size w' (w'.alloc (.cells #[t 3,t 8] 22)):=(Below.refl _ _).alloc (Nat.le_refl _) _;have hct:Cat2 (w'.alloc (.cells #[t 3,t 8] 22)) (.slice (some ⟨w'.heap.size,0,none⟩) 2 2) (rdV zs ps (2*ix:Nat)) (rdV zs ps (2*ix+1:Nat)):=⟨w'.heap.size,t 3,t 8,rfl,heap_alloc_new w' _,f3.below bb,f8.below bb⟩
   have hK':=hK (w'.alloc (.cells #[t 3,t 8] 22)) (.slice (some ⟨w'.heap.size,0,none⟩) 2 2) (by simpa using hct) (hx.step 9 _ bb (fun h=>absurd h (by decide))) bb;clear hK bb hct q2 q4;rw[if_pos (by rfl)];go_simp;simpa[upd,d3,d8] using hK'
  ·have f9:Cat2 w' (t 9) (rdV zs ps (2*ix:Nat)) (rdV zs ps (2*ix+1:Nat)):=by simpa using(hdep ⟨9,.data⟩ (by simp) rfl).2
   clear hdep;refine Exists.elim f9 fun q hh=>?_
   obtain⟨v1,v2,d9,hrow,p1,p2⟩:=hh;have A:=cat2 w' q v1 v2 (rdV zs ps (2*ix:Nat)) (rdV zs ps (2*ix+1:Nat)) hrow p1 p2 HLN.out;have hK':∀ ww v,Part ww v ((rdV zs ps (2*ix:Nat))++(rdV zs ps (2*ix+1:Nat)))→Below w'.heap.size w' ww→K _ ww:=fun ww v hv hb=>hK ww v (by simpa using hv) (hx.step 10 v hb (fun h=>absurd h (by decide))) hb
   clear hK hrow p1 p2;rw[if_pos (by rfl)];go_simp;try simp only[d9]
   refine A.mono ?_;rintro e w9 ⟨v9,rfl,p9,hb9⟩;have hK2:=hK' w9 v9 p9 hb9;clear hK' A p9 hb9;go_simp;simpa[upd,d9] using hK2
  ·have f10:Part w' (t 10) ((rdV zs ps (2*ix:Nat))++(rdV zs ps (2*ix+1:Nat))):=by simpa using(hdep ⟨10,.data⟩ (by simp) rfl).2
   clear hdep;refine Exists.elim f10 fun g0 hh=>?_
   obtain⟨o0,c0,d10,q1,q2⟩:=hh;rw[HLN2.out.1] at d10;have A:=sdk_any (some ⟨g0,o0,none⟩) 128 c0 ((rdV zs ps (2*ix:Nat))++(rdV zs ps (2*ix+1:Nat))) w' HLN2.out.1 (by decide) (.inr ⟨g0,o0,rfl,q1,q2⟩) HLN2.out.2;rw[HDK.out] at A;have hlo:=hx.below.size;have hK':∀ ww v,DVW w0.heap.size ww v r→Below w'.heap.size w' ww→K _ ww:=fun ww v hv hb=>hK ww v (by simpa using hv) (hx.step 11 v hb (fun h=>absurd h (by decide))) hb
   clear hK q2;rw[if_pos (by rfl)];go_simp;try simp only[d10]
   refine A.mono ?_;rintro e w9 ⟨v9,rfl,p9,hb9⟩;have hK2:=hK' w9 v9 (p9.mono hlo) hb9;clear hK' A p9 hb9;go_simp;simpa[upd,d10] using hK2
  ·clear hdep;have hsz:w0.heap.size≤w'.heap.size:=hx.below.size;have bb:Below w'.heap.size w' (w'.alloc (.cells #[.bool false,.int .u32 0,.int .u32 0,.slice none 0 0,.slice none 0 0] 63)):=(Below.refl _ _).alloc (Nat.le_refl _) _;have hnw:NwR w0.heap.size (w'.alloc (.cells #[.bool false,.int .u32 0,.int .u32 0,.slice none 0 0,.slice none 0 0] 63)) (.pointer (some ⟨w'.heap.size,0,none⟩)):=⟨w'.heap.size,rfl,hsz,heap_alloc_new w' _⟩
   have hK':=hK (w'.alloc (.cells #[.bool false,.int .u32 0,.int .u32 0,.slice none 0 0,.slice none 0 0] 63)) (.pointer (some ⟨w'.heap.size,0,none⟩)) (by simpa using hnw) (hx.step 12 _ bb (fun h=>absurd h (by decide))) bb;clear hK bb hnw;rw[if_pos (by rfl)];go_simp;simpa[upd] using hK'
 case hend=>
  intro o L t w' ho hx hg K hK;simp at ho;subst ho;have f11:DVW w0.heap.size w' (t 11) r:=by simpa using(hg 11 (by decide)).2
  have f12:NwR w0.heap.size w' (t 12):=by simpa using(hg 12 (by decide)).2
  clear hg;obtain⟨q,e12,hq,hbx⟩:=f12;obtain⟨aD,nD,cD,aU,nU,cU,d11,h1,h2,h3,h4,l1,l2⟩:=f11;have hK':∀ ww,Wr q w' ww→ww.heap[q]?=some (.cells #[.bool r.ok,.int .u32 r.g,.int .u32 r.t,.slice aD nD cD,.slice aU nU cU] 63 (0,0))→K _ ww:=fun ww hw hr=>hK ww undef ⟨q,aD,nD,cD,aU,nU,cU,by simp[upd];exact e12,hq,hr,h1.wrB hbx hw,h2.wrB hbx hw,h3,h4,l1.mono (Nat.le_refl _) (by rw[hw.size];exact Nat.le_refl _),l2.mono (Nat.le_refl _) (by rw[hw.size];exact Nat.le_refl _),hx.below.trans (hw.below hq)⟩
  clear hK;rw[if_pos (by rfl)];refine wp_store_row 63 (.tmp 5) (.tmp 17) rfl q #[.bool r.ok,.int .u32 r.g,.int .u32 r.t,.slice aD nD cD,.slice aU nU cU] e12 d11 63 _ hbx HSR.out rfl (all5s _ _ _ _ _ _ _ _ _) ?_;have hK2:=hK' _ (Wr.setRow _ _ _) (setRow_heap _ _ _ _ _ _ hbx);clear hK';simpa[upd,Act.put] using hK2
 case hdone=>
  intro t w2 hf;obtain⟨q,aD,nD,cD,aU,nU,cU,e12,hq,hrow,h1,h2,h3,h4,l1,l2,b2⟩:=hf;have HE2:=hid_ofL (HE0.out.below b2);have HLR:=hid_ofL (And.intro h1 (And.intro h2 (And.intro h3 (And.intro h4 (And.intro l1 l2)))));have hz0:=HE0.out.lt;have c0:=cell_of_row w2 q 0 _ _ _ hrow;have c1:=cell_of_row w2 q 1 _ _ _ hrow;simp at c0 c1;have HRW:=hid_ofL hrow;dsimp only;rw[e12];clear e12 hrow h1 h2 h3 h4 l1 l2 b2;obtain⟨u0,u1⟩:=HU.out;have hmod:0≤r.g%2∧r.g%2<2:=by omega
  cases hok:r.ok with
  |false=>
   have HSF:Hid (slF zs ps ix=dkNo):=by show _=_;unfold slF;rw[show slZ zs ps ix=(rdV zs ps (2*ix:Nat))++(rdV zs ps (2*ix+1:Nat)) from rfl,HDK.out,if_neg (by rw[hok];simp)]
   rw[hok] at c0;clear hmod u0 u1 c1 HLR HDK HU hok HR0 HR1 HLN HLN2 ew1 ew2
   go_upto_region 3 with fail
   go_wp2_with (first
    |(refine wpList_store_row rfl 63 (.tmp 4) (.tmp 30) rfl (w.heap.size+1) #[.bool false,.int .u32 0,.int .u32 0,.slice none 0 0,.slice none 0 0] rfl rfl 63 _ HE2.out.res HSR.out rfl (all5s _ _ _ _ _ _ _ _ _) ?_)
    |fail)
   (try simp only[Exit.inBlock,Exit.then])
   exact bodyPost_ret (v:=.agg #[.bool false,.int .u32 0,.int .u32 0,.slice none 0 0,.slice none 0 0]) (results_cell_row rfl _ _ (w.heap.size+1) 63 _ (0,0) _ rfl (setRow_heap _ _ _ _ _ _ HE2.out.res) Tryz.underlying63 rfl HSR.out) rfl ⟨_,rfl,by rw[HSF.out];exact DVW.no _ _,HE2.out.bel.trans ((Wr.setRow _ _ _).below (Nat.le_succ _))⟩
  |true=>
   rw[hok] at c0;have HRQ:Hid (w2.heap[q]?=some (.cells #[.bool true,.int .u32 r.g,.int .u32 r.t,.slice aD nD cD,.slice aU nU cU] 63 (0,0))):=by show _=_;have:=HRW.out;rw[hok] at this;exact this
   by_cases he:r.g%2=(ix:Int)
   ·have hne:(r.g%2 != (ix:Int))=false:=by simp[he]
    have HSF:Hid (slF zs ps ix=r):=by show _=_;unfold slF;rw[show slZ zs ps ix=(rdV zs ps (2*ix:Nat))++(rdV zs ps (2*ix+1:Nat)) from rfl,HDK.out,if_pos ⟨hok,he⟩]
    have HFV:Hid (DVW w.heap.size (w2.setRow (w.heap.size+1) #[.bool true,.int .u32 r.g,.int .u32 r.t,.slice aD nD cD,.slice aU nU cU]) (.agg #[.bool true,.int .u32 r.g,.int .u32 r.t,.slice aD nD cD,.slice aU nU cU]) (slF zs ps ix)):=by
     have hw:=Wr.setRow (w.heap.size+1) w2 #[.bool true,.int .u32 r.g,.int .u32 r.t,.slice aD nD cD,.slice aU nU cU];obtain⟨h1,h2,h3,h4,l1,l2⟩:=HLR.out;show DVW _ _ _ _
     rw[HSF.out,←hok];exact⟨aD,nD,cD,aU,nU,cU,rfl,h1.keepT (by rw[hok,hw.size];exact Nat.le_refl _) (fun ad e _=>by rw[hok];exact hw.block _ (by have:=(l1 ad e).1;omega)),h2.keepT (by rw[hok,hw.size];exact Nat.le_refl _) (fun ad e _=>by rw[hok];exact hw.block _ (by have:=(l2 ad e).1;omega)),h3,h4,l1.mono (by omega) (by rw[hok,hw.size];exact Nat.le_refl _),l2.mono (by omega) (by rw[hok,hw.size];exact Nat.le_refl _)⟩
    clear HLR HDK;go_wp2_with (first
     |(refine wpList_load_row rfl 63 (.tmp 5) rfl q rfl 63 _ (0,0) _ HRQ.out Tryz.underlying63 rfl HSR.out ?_)
     |(refine wpList_store_row rfl 63 (.tmp 4) (.tmp 31) rfl (w.heap.size+1) #[.bool true,.int .u32 r.g,.int .u32 r.t,.slice aD nD cD,.slice aU nU cU] rfl rfl 63 _ HE2.out.res HSR.out rfl (all5s _ _ _ _ _ _ _ _ _) ?_)
     |fail)
    (try simp only[Exit.inBlock,Exit.then])
    exact bodyPost_ret (v:=.agg #[.bool true,.int .u32 r.g,.int .u32 r.t,.slice aD nD cD,.slice aU nU cU]) (results_cell_row rfl _ _ (w.heap.size+1) 63 _ (0,0) _ rfl (setRow_heap _ _ _ _ _ _ HE2.out.res) Tryz.underlying63 rfl HSR.out) rfl ⟨_,rfl,HFV.out,HE2.out.bel.trans ((Wr.setRow _ _ _).below (Nat.le_succ _))⟩
   ·have hne:(r.g%2 != (ix:Int))=true:=by simp[he]
    have HSF:Hid (slF zs ps ix=dkNo):=by show _=_;unfold slF;rw[if_neg];rintro⟨_,h⟩;have h':(dkF ((rdV zs ps (2*ix:Nat))++(rdV zs ps (2*ix+1:Nat)))).g%2=(ix:Int):=h;rw[HDK.out] at h';exact he h'
    go_upto_region 3 with fail
    go_wp2_with (first
     |(refine wpList_store_row rfl 63 (.tmp 4) (.tmp 30) rfl (w.heap.size+1) #[.bool false,.int .u32 0,.int .u32 0,.slice none 0 0,.slice none 0 0] rfl rfl 63 _ HE2.out.res HSR.out rfl (all5s _ _ _ _ _ _ _ _ _) ?_)
     |fail)
    (try simp only[Exit.inBlock,Exit.then])
    exact bodyPost_ret (v:=.agg #[.bool false,.int .u32 0,.int .u32 0,.slice none 0 0,.slice none 0 0]) (results_cell_row rfl _ _ (w.heap.size+1) 63 _ (0,0) _ rfl (setRow_heap _ _ _ _ _ _ HE2.out.res) Tryz.underlying63 rfl HSR.out) rfl ⟨_,rfl,by rw[HSF.out];exact DVW.no _ _,HE2.out.bel.trans ((Wr.setRow _ _ _).below (Nat.le_succ _))⟩
end Go.Proofs.YthmeoilbmfdhfaaGreat
