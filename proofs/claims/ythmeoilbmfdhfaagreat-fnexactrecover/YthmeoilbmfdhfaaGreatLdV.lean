import Derived.Test.YthmeoilbmfdhfaaGreatMEncS
namespace Go.Proofs.YthmeoilbmfdhfaaGreat
open Go.ChangeShapes Go.WideShapes Go.ChangeAt Go.RowKit
set_option linter.unusedVariables false
def NwF (lo:Nat) (w:World) (v:Value):Prop:=∃ q,v=.pointer (some ⟨q,0,none⟩)∧lo≤q∧w.heap[q]?=some (.cells #[.bool false,.int .u32 0,.int .i64 0,.int .u32 0,.int .u32 0] 114 (0,0))
theorem NwF.below {lo:Nat} {w w':World} {v:Value} (h:NwF lo w v) (b:Below w.heap.size w w'):NwF lo w' v:=by
 obtain⟨q,e,h1,h2⟩:=h;exact⟨q,e,h1,by rw[b.block q (Array.getElem?_eq_some_iff.1 h2).1];exact h2⟩
def FinF (p:Nat) (W:World) (ok:Bool) (s kd p' y:Int) (u:Nat→Value) (w:World):Prop:=∃ q,u p=.pointer (some ⟨q,0,none⟩)∧W.heap.size≤q∧w.heap[q]?=some (.cells #[.bool ok,.int .u32 s,.int .i64 kd,.int .u32 p',.int .u32 y] 114 (0,0))∧Below W.heap.size W w
theorem decV_row (z:List Int):∃ ok s kd p y,decV z=.agg #[.bool ok,.int .u32 s,.int .i64 kd,.int .u32 p,.int .u32 y]∧(ok=true→decB z=true∧fr4 z=[s,kd,p,y]∧num4 z 0=s)∧(ok=false→decB z=false):=by
 cases h:decB z with
 |true=>exact⟨true,_,_,_,_,decV_yes h,fun _=>⟨rfl,rfl,rfl⟩,fun h=>by cases h⟩
 |false=>exact⟨false,_,_,_,_,decV_no h,fun h=>(by cases h),fun _=>rfl⟩
set_option maxRecDepth 100000 in
set_option maxHeartbeats 4000000 in
theorem l6r_any (a x:Option Addr) (Ln c m cx:Nat) (f:Int) (d:Bool) (zs:List Int) (ps:List PD) (F:DvF Ln c m f zs ps) (hL:Ln≤1048576) (hps:∀ i,(ps.getD i (0,[])).2.length≤1048576):∀(n q:Nat) (w:World),n≤252→q<4294967296→At .u8 w a zs→PAt w x ps→
  Calls Tryz.prog 29 #[.agg #[.slice a Ln c,.slice x m cx,.int .i64 f,.bool d],.int .u32 (q:Int),.int .i64 (n:Int)] w fun e w'=>∃ v,e=.returned v∧FW w.heap.size w' v (jrF zs ps (Ln/64-4) q n)∧Below w.heap.size w w'
 |0,q,w,hn,hq,hA,hP=>by
  have HE0:=hid_ofL (EZ.start w #[.slice a Ln c,.slice x m cx,.int .i64 f,.bool d]);obtain⟨qi,hqi⟩:∃ t:Int,(q:Int)=t:=⟨_,rfl⟩
  rw[hqi,show((0:Nat):Int)=0 from rfl];have HN:=hid_ofL (jrF_no (zs:=zs) (ps:=ps) (J:=Ln/64-4) (q:=q) (n:=0) (.inl rfl));clear F hps hA hP hqi hq;go_enter Tryz.func29,Tryz.ntmps29
  go_upto_region 1 with fail
  generalize w.alloc (.cells #[.slice a Ln c,.slice x m cx,.int .i64 f,.bool d] 40)=w0 at *;have HBB:Hid (Below w.heap.size w (w0.alloc (.cells #[] 112))):=HE0.out.bel.trans (((Below.refl _ _).alloc (Nat.le_refl _) _).mono HE0.out.bel.size);have HFE:Hid (FW w.heap.size (w0.alloc (.cells #[] 112)) (.slice (some ⟨w0.heap.size,0,none⟩) 0 0) []):=⟨w0.heap.size,0,0,rfl,HE0.out.bel.size,rfl,Nat.le_refl _,by simp,fun i hi=>absurd hi (by simp)⟩
  go_wp2
  go_ret
  refine⟨_,rfl,?_,HBB.out⟩;rw[HN.out];exact HFE.out
 |n+1,q,w,hn,hq,hA,hP=>by
  have HE0:=hid_ofL (EZ.start w #[.slice a Ln c,.slice x m cx,.int .i64 f,.bool d]);have HSD:Hid ((Tryz.prog.info? 40).map (·.size)=some 4):=by show _=_;kernel_rfl
  have HSR:Hid ((Tryz.prog.info? 114).map (·.size)=some 5):=by show _=_;kernel_rfl
  have HSF:Hid ((Tryz.prog.info? 112).map (·.size)=some 4):=by show _=_;kernel_rfl
  have hb:=F.base;obtain⟨qi,hqi⟩:∃ t:Int,(q:Int)=t:=⟨_,rfl⟩
  obtain⟨ni,hni⟩:∃ t:Int,((n+1:Nat):Int)=t:=⟨_,rfl⟩
  obtain⟨si,hsi⟩:∃ t:Int,((4+q%(Ln/64-4):Nat):Int)=t:=⟨_,rfl⟩
  have hn0:0<ni:=by omega
  have hn1:ni≤252:=by omega
  have hnz:(ni == 0)=false:=by simp;omega
  have hq0:0≤qi:=by omega
  have hq1:qi<4294967296:=by omega
  rw[hqi,hni];by_cases hlt:qi<4000000000
  ·have hqn:q<4000000000:=by omega
   have HS:Hid (∀ ww,Calls Tryz.prog 73 #[.agg #[.slice a Ln c,.slice x m cx,.int .i64 f,.bool d],.int .u32 qi] ww fun e w'=>e=.returned (.int .i64 si)∧Below ww.heap.size ww w'):=fun ww=>by
    have:=sect_any a x Ln c m cx f d ww hL (by omega) (by omega) q hq;rw[hqi,hsi] at this;exact this
   have HR:Hid (∀ ww,Below w.heap.size w ww→Calls Tryz.prog 71 #[.agg #[.slice a Ln c,.slice x m cx,.int .i64 f,.bool d],.int .i64 si] ww fun e w'=>∃ v,e=.returned v∧Part w' v (jrT zs ps (Ln/64-4) q)∧Below ww.heap.size ww w'):=fun ww b=>by
    have:=srdP (d:=d) (cx:=cx) F (hA.below b) (hP.below b) hL hps (4+q%(Ln/64-4)) (by have:=Nat.mod_lt q (show 0<Ln/64-4 by omega);omega);rw[←hsi];exact this
   have HI:Hid (∀ ww,Below w.heap.size w ww→Calls Tryz.prog 29 #[.agg #[.slice a Ln c,.slice x m cx,.int .i64 f,.bool d],.int .u32 (qi+1),.int .i64 (ni-1)] ww fun e w'=>∃ v,e=.returned v∧FW ww.heap.size w' v (jrF zs ps (Ln/64-4) (q+1) n)∧Below ww.heap.size ww w'):=fun ww b=>by
    have:=l6r_any a x Ln c m cx f d zs ps F hL hps n (q+1) ww (by omega) (by omega) (hA.below b) (hP.below b);rw[show((q+1:Nat):Int)=qi+1 by omega,show((n:Nat):Int)=ni-1 by omega] at this;exact this
   have HZ:=hid_ofL (F.jr q);obtain⟨ok,s,kd,p,y,hdv,hy,hno⟩:=decV_row (jrT zs ps (Ln/64-4) q);have HDV:=hid_ofL hdv;have HYS0:Hid (ok=true→s=qi→jrF zs ps (Ln/64-4) q (n+1)=s::kd::p::y::jrF zs ps (Ln/64-4) (q+1) n):=fun h1 h2=>by
    obtain⟨k1,k2,k3⟩:=hy h1;rw[jrF_yes hqn (by unfold jrOk;rw[k1,k3,h2,decide_eq_true hqi.symm];rfl),k2];rfl
   have HNO:Hid (ok=false∨¬ s=qi→jrF zs ps (Ln/64-4) q (n+1)=[]):=fun h1=>jrF_no (.inr (.inr (by
    unfold jrOk;cases ok with
    |false=>rw[hno rfl];rfl
    |true=>
     obtain⟨k1,k2,k3⟩:=hy rfl;rw[k3,decide_eq_false (by rw[hqi];exact h1.resolve_left (by decide))];simp)))
   have HRL:Hid ((jrF zs ps (Ln/64-4) (q+1) n).length≤100000):=by
    obtain⟨k,hk,e⟩:=jrF_len zs ps (Ln/64-4) n (q+1);show _≤_;omega
   have ew1:IntKind.u32.wrap (qi+1)=qi+1:=by rw[IntKind.wrap_u32];omega
   have ew2:IntKind.i64.wrap (ni-1)=ni-1:=by rw[IntKind.wrap_i64];omega
   clear hy hno hdv hqn hb hsi;generalize jrF zs ps (Ln/64-4) (q+1) n=R at *;generalize jrF zs ps (Ln/64-4) q (n+1)=R1 at *;generalize jrT zs ps (Ln/64-4) q=z at *;clear F hA hP hps hqi hni hq hn;go_enter Tryz.func29,Tryz.ntmps29
   go_upto_region 1 with fail
   generalize w.alloc (.cells #[.slice a Ln c,.slice x m cx,.int .i64 f,.bool d] 40)=w0 at *
   go_upto_region 3 with fail
   refine wp_region_any (by kernel_rfl) ?_;refine wpAny_slotsF 7 (fun _ a b=>Below a.heap.size a b) (frame:=(fun (a b c d e f g h i j k l m n o p q r s u v w x y z A B C D E F G H I J:Value)=>fun (t:Nat→Value)=>({ tmps:=List.toArray [a,b,c,d,e,f,g,t 6,h,i,j,k,l,m,n,t 0,t 1,t 2,t 3,t 4,t 5,o,p,q,r,s,u,v,w,x,y,z,A,B,C,D,E,F,G,H,I,J],defers:=[] }:Act)) _ _ _ _ _ _ _ _ _ _ _ _ _ _ _ _ _ _ _ _ _ _ _ _ _ _ _ _ _ _ _ _ _ _ _)
    (Ext:=fun L u w'=>ApH w0 [] L u w') (Good:=fun i L w' v=>if i=0 then v=.agg #[.slice a Ln c,.slice x m cx,.int .i64 f,.bool d] else if i=1 then v=.agg #[.slice a Ln c,.slice x m cx,.int .i64 f,.bool d] else if i=2 then v=.int .u32 qi else if i=3 then v=.int .i64 si else if i=4 then Part w' v z else if i=5 then v=.agg #[.bool ok,.int .u32 s,.int .i64 kd,.int .u32 p,.int .u32 y] else if i=6 then NwF w0.heap.size w' v else True) (Fin:=FinF 6 w0 ok s kd p y) rfl (by kernel_rfl) ?hstab (by kernel_rfl) ?hop ?hend ?hdone _ _ ((fun (x0 x1 x2 x3 x4 x5 x6:Value)=>fun (i:Nat)=>if i=0 then x0 else if i=1 then x1 else if i=2 then x2 else if i=3 then x3 else if i=4 then x4 else if i=5 then x5 else if i=6 then x6 else undef) _ _ _ _ _ _ _) _ (by simp) ?none ?ext (by simp)
   case none=>intro i;rw[Array.getD_eq_getD_getElem?,Array.getElem?_replicate];split<;>rfl
   case ext=>exact ApH.start w0 [] _ _ (fun i=>by rw[Array.getD_eq_getD_getElem?,Array.getElem?_replicate];split<;>rfl) ⟨rfl,rfl,rfl,Nat.le_refl _,fun _ _=>rfl⟩
   case hstab=>
    intro j L w9 w' i v _ hM _ _ h;by_cases h4:j=4
    ·subst h4;simp at h ⊢;exact h.below hM
    by_cases h6:j=6
    ·subst h6;simp at h ⊢;exact h.below hM
    simp only[if_neg h4,if_neg h6] at h ⊢;exact h
   case hop=>
    intro i o L t w' hi ho hLi hx hdep K hK;obtain rfl|rfl|rfl|rfl|rfl|rfl|rfl:i=0∨i=1∨i=2∨i=3∨i=4∨i=5∨i=6:=by omega
    all_goals(simp at ho;subst ho)
    ·clear hdep;have hr:w'.heap[w.heap.size]?=some (.cells #[.slice a Ln c,.slice x m cx,.int .i64 f,.bool d] 40 (0,0)):=by rw[hx.below.block _ (by have:=HE0.out.lt;omega)];exact HE0.out.dev
     have hK':=hK w' (.agg #[.slice a Ln c,.slice x m cx,.int .i64 f,.bool d]) (by simp) (hx.step 0 _ (Below.refl _ _) (fun h=>absurd h (by decide))) (Below.refl _ _);clear hK;rw[if_pos (by rfl)];refine wp_load_row 40 (.tmp 3) rfl (w.heap.size) rfl 40 _ (0,0) _ hr Tryz.underlying40 rfl HSD.out ?_;simpa[upd,Act.put] using hK'
    ·clear hdep;have hr:w'.heap[w.heap.size]?=some (.cells #[.slice a Ln c,.slice x m cx,.int .i64 f,.bool d] 40 (0,0)):=by rw[hx.below.block _ (by have:=HE0.out.lt;omega)];exact HE0.out.dev
     have hK':=hK w' (.agg #[.slice a Ln c,.slice x m cx,.int .i64 f,.bool d]) (by simp) (hx.step 1 _ (Below.refl _ _) (fun h=>absurd h (by decide))) (Below.refl _ _);clear hK;rw[if_pos (by rfl)];refine wp_load_row 40 (.tmp 3) rfl (w.heap.size) rfl 40 _ (0,0) _ hr Tryz.underlying40 rfl HSD.out ?_;simpa[upd,Act.put] using hK'
    ·clear hdep;have hK':=hK w' (.int .u32 qi) (by simp) (hx.step 2 _ (Below.refl _ _) (fun h=>absurd h (by decide))) (Below.refl _ _);clear hK;rw[if_pos (by rfl)];go_simp;simpa[upd] using hK'
    ·have d1:t 1=.agg #[.slice a Ln c,.slice x m cx,.int .i64 f,.bool d]:=by simpa using(hdep ⟨1,.data⟩ (by simp) rfl).2
     have d2:t 2=.int .u32 qi:=by simpa using(hdep ⟨2,.data⟩ (by simp) rfl).2
     clear hdep;have A:=HS.out w';have hK':∀ ww,Below w'.heap.size w' ww→K _ ww:=fun ww hb=>hK ww (.int .i64 si) (by simp) (hx.step 3 _ hb (fun h=>absurd h (by decide))) hb
     clear hK;rw[if_pos (by rfl)];go_simp;try simp only[d1,d2]
     refine A.mono ?_;rintro e w9 ⟨rfl,hb9⟩;have hK2:=hK' w9 hb9;clear hK' A hb9;go_simp;simpa[upd,d1,d2] using hK2
    ·have d0:t 0=.agg #[.slice a Ln c,.slice x m cx,.int .i64 f,.bool d]:=by simpa using(hdep ⟨0,.data⟩ (by simp) rfl).2
     have d3:t 3=.int .i64 si:=by simpa using(hdep ⟨3,.data⟩ (by simp) rfl).2
     clear hdep;have bw:Below w.heap.size w w':=HE0.out.bel.trans (hx.below.mono HE0.out.bel.size);have A:=HR.out w' bw;have hK':∀ ww v,Part ww v z→Below w'.heap.size w' ww→K _ ww:=fun ww v hv hb=>hK ww v (by simpa using hv) (hx.step 4 v hb (fun h=>absurd h (by decide))) hb
     clear hK;rw[if_pos (by rfl)];go_simp;try simp only[d0,d3]
     refine A.mono ?_;rintro e w9 ⟨v9,rfl,p9,hb9⟩;have hK2:=hK' w9 v9 p9 hb9;clear hK' A p9 hb9;go_simp;simpa[upd,d0,d3] using hK2
    ·have f4:Part w' (t 4) z:=by simpa using(hdep ⟨4,.data⟩ (by simp) rfl).2
     clear hdep;refine Exists.elim f4 fun g4 hh=>?_
     obtain⟨o4,c4,d4,q1,q2⟩:=hh;rw[HZ.out.1] at d4;have A:=sdec_any (some ⟨g4,o4,none⟩) 64 c4 z w' HZ.out.1 (by decide) HZ.out.2 (.inr ⟨g4,o4,rfl,q1,q2⟩);rw[HDV.out] at A;have hK':∀ ww,Below w'.heap.size w' ww→K _ ww:=fun ww hb=>hK ww (.agg #[.bool ok,.int .u32 s,.int .i64 kd,.int .u32 p,.int .u32 y]) (by simp) (hx.step 5 _ hb (fun h=>absurd h (by decide))) hb
     clear hK q2;rw[if_pos (by rfl)];go_simp;try simp only[d4]
     refine A.mono ?_;rintro e w9 ⟨rfl,hb9⟩;have hK2:=hK' w9 hb9;clear hK' A hb9;go_simp;simpa[upd,d4] using hK2
    ·clear hdep;have hsz:w0.heap.size≤w'.heap.size:=hx.below.size;have bb:Below w'.heap.size w' (w'.alloc (.cells #[.bool false,.int .u32 0,.int .i64 0,.int .u32 0,.int .u32 0] 114)):=(Below.refl _ _).alloc (Nat.le_refl _) _;have hnw:NwF w0.heap.size (w'.alloc (.cells #[.bool false,.int .u32 0,.int .i64 0,.int .u32 0,.int .u32 0] 114)) (.pointer (some ⟨w'.heap.size,0,none⟩)):=⟨w'.heap.size,rfl,hsz,heap_alloc_new w' _⟩
     have hK':=hK (w'.alloc (.cells #[.bool false,.int .u32 0,.int .i64 0,.int .u32 0,.int .u32 0] 114)) (.pointer (some ⟨w'.heap.size,0,none⟩)) (by simpa using hnw) (hx.step 6 _ bb (fun h=>absurd h (by decide))) bb;clear hK bb hnw;rw[if_pos (by rfl)];go_simp;simpa[upd] using hK'
   case hend=>
    intro o L t w' ho hx hg K hK;simp at ho;subst ho;have d5:t 5=.agg #[.bool ok,.int .u32 s,.int .i64 kd,.int .u32 p,.int .u32 y]:=by simpa using(hg 5 (by decide)).2
    have f6:NwF w0.heap.size w' (t 6):=by simpa using(hg 6 (by decide)).2
    clear hg;obtain⟨g,e6,hq,hbx⟩:=f6;have hK':∀ ww,Wr g w' ww→ww.heap[g]?=some (.cells #[.bool ok,.int .u32 s,.int .i64 kd,.int .u32 p,.int .u32 y] 114 (0,0))→K _ ww:=fun ww hw hr=>hK ww undef ⟨g,by simp[upd];exact e6,hq,hr,hx.below.trans (hw.below hq)⟩
    clear hK;rw[if_pos (by rfl)];refine wp_store_row 114 (.tmp 7) (.tmp 20) rfl g #[.bool ok,.int .u32 s,.int .i64 kd,.int .u32 p,.int .u32 y] e6 d5 114 _ hbx HSR.out rfl (all5 _ _ _ _ _) ?_;have hK2:=hK' _ (Wr.setRow _ _ _) (setRow_heap _ _ _ _ _ _ hbx);clear hK';simpa[upd,Act.put] using hK2
   case hdone=>
    intro t w2 hf;obtain⟨g,e6,hq,hrow,b2⟩:=hf;have HE2:=hid_ofL (HE0.out.below b2);have c0:=cell_of_row w2 g 0 _ _ _ hrow;have c1:=cell_of_row w2 g 1 _ _ _ hrow;simp at c0 c1;have HGL:=hid_ofL (Array.getElem?_eq_some_iff.1 hrow).1;have HRW:=hid_ofL hrow;dsimp only;rw[e6];clear e6 hrow b2 HR HS HZ;cases ok with
    |false=>
     have HN:=hid_ofL (HNO.out (.inl rfl));clear HNO HYS0 HI c1 HRW;have HBB:Hid (Below w.heap.size w (w2.alloc (.cells #[] 112))):=HE2.out.bel.trans (((Below.refl _ _).alloc (Nat.le_refl _) _).mono HE2.out.bel.size);have HFE:Hid (FW w.heap.size (w2.alloc (.cells #[] 112)) (.slice (some ⟨w2.heap.size,0,none⟩) 0 0) []):=⟨w2.heap.size,0,0,rfl,HE2.out.bel.size,rfl,Nat.le_refl _,by simp,fun i hi=>absurd hi (by simp)⟩
     go_wp2
     go_ret
     refine⟨_,rfl,?_,HBB.out⟩;rw[HN.out];exact HFE.out
    |true=>
     by_cases he:s=qi
     ·have hne:(s != qi)=false:=by simp[he]
      have HYS:=hid_ofL (HYS0.out rfl he);clear HNO HYS0 he
      go_upto_region 6 with fail
      refine wp_region_any (by kernel_rfl) ?_;refine wpAny_slotsU (fun _ a b=>Below a.heap.size a b) (frame:=(fun (a b c d e f g h i j k l m n o p q r s u v w x y z A B C D E F:Value)=>fun (t:Nat→Value)=>({ tmps:=List.toArray [a,b,c,d,e,f,t 10,g,h,i,j,k,l,m,n,o,p,q,r,s,u,v,w,x,y,z,A,B,C,D,E,F,t 0,t 1,t 2,t 3,t 4,t 5,t 6,t 7,t 8,t 9],defers:=[] }:Act)) _ _ _ _ _ _ _ _ _ _ _ _ _ _ _ _ _ _ _ _ _ _ _ _ _ _ _ _ _ _ _)
       (Ext:=fun L u w'=>ApX w2 [] L u w') (Good:=fun i L w' v=>if i=0 then v=.pointer (some ⟨g,1,none⟩) else if i=1 then v=.agg #[.int .u32 s,.int .i64 kd,.int .u32 p,.int .u32 y] else if i=2 then Fr1 w.heap.size s kd p y w' v else if i=3 then v=.agg #[.slice a Ln c,.slice x m cx,.int .i64 f,.bool d] else if i=4 then v=.int .u32 qi else if i=5 then v=.int .u32 (qi+1) else if i=6 then v=.int .i64 ni else if i=7 then v=.int .i64 (ni-1) else if i=8 then FW w.heap.size w' v R else if i=9 then FW w.heap.size w' v (s::kd::p::y::R) else if i=10 then FW w.heap.size w' v (s::kd::p::y::R) else True) ?hstab (by kernel_rfl) ?hop ?hdone _ _ ((fun (x0 x1 x2 x3 x4 x5 x6 x7 x8 x9 x10:Value)=>fun (i:Nat)=>if i=0 then x0 else if i=1 then x1 else if i=2 then x2 else if i=3 then x3 else if i=4 then x4 else if i=5 then x5 else if i=6 then x6 else if i=7 then x7 else if i=8 then x8 else if i=9 then x9 else if i=10 then x10 else undef) _ _ _ _ _ _ _ _ _ _ _) _ (by simp) ?ext ?start (by simp)
      case start=>intro i hi h;exact absurd h (by rw[Array.getD_eq_getD_getElem?,Array.getElem?_replicate];split<;>simp)
      case ext=>exact(ApX.start w2 [] _ _ (fun i=>by rw[Array.getD_eq_getD_getElem?,Array.getElem?_replicate];split<;>rfl)).drew
      case hstab=>
       intro j L w9 w' i v hM _ _ h;by_cases h2:j=2
       ·subst h2;simp at h ⊢;exact h.below hM
       by_cases h8:j=8
       ·subst h8;simp at h ⊢;exact h.below hM
       by_cases h9:j=9
       ·subst h9;simp at h ⊢;exact h.below hM
       by_cases h10:j=10
       ·subst h10;simp at h ⊢;exact h.below hM
       simp only[if_neg h2,if_neg h8,if_neg h9,if_neg h10] at h ⊢;exact h
      case hop=>
       intro i o L t w' ho hLi hx hdep K hK;have hi:i<11:=(Array.getElem?_eq_some_iff.1 ho).1;obtain rfl|rfl|rfl|rfl|rfl|rfl|rfl|rfl|rfl|rfl|rfl:i=0∨i=1∨i=2∨i=3∨i=4∨i=5∨i=6∨i=7∨i=8∨i=9∨i=10:=by omega
       all_goals(simp at ho;subst ho)
       ·clear hdep;have hK':=hK w' (.pointer (some ⟨g,1,none⟩)) (by simp) (hx.step 0 _ (Below.refl _ _) (fun h=>absurd h (by decide))) (Below.refl _ _);clear hK;rw[if_pos (by rfl)];go_simp;simpa[upd,ew1,ew2] using hK'
       ·have d0:t 0=.pointer (some ⟨g,1,none⟩):=by simpa using(hdep ⟨0,.data⟩ (by simp) rfl).2
        clear hdep;have hr:w'.heap[g]?=some (.cells #[.bool true,.int .u32 s,.int .i64 kd,.int .u32 p,.int .u32 y] 114 (0,0)):=by rw[hx.below.block _ HGL.out];exact HRW.out
        have hra:w'.rangeAt g 1 [.int .u32 s,.int .i64 kd,.int .u32 p,.int .u32 y]:=fun j v hj=>by
         have hj4:j<4:=by have:=(List.getElem?_eq_some_iff.1 hj).1;simpa using this
         rw[cell_of_row w' g (1+j) _ _ _ hr];obtain rfl|rfl|rfl|rfl:j=0∨j=1∨j=2∨j=3:=by omega
         all_goals(simp at hj;subst hj;rfl)
        have hK':=hK w' (.agg #[.int .u32 s,.int .i64 kd,.int .u32 p,.int .u32 y]) (by simp) (hx.step 1 _ (Below.refl _ _) (fun h=>absurd h (by decide))) (Below.refl _ _);clear hK;rw[if_pos (by rfl)];refine wp_load_mid 112 (.tmp 32) rfl g 1 d0 [.int .u32 s,.int .i64 kd,.int .u32 p,.int .u32 y] _ hra Tryz.underlying112 rfl HSF.out ?_;simpa[upd,Act.put,d0] using hK'
       ·have d1:t 1=.agg #[.int .u32 s,.int .i64 kd,.int .u32 p,.int .u32 y]:=by simpa using(hdep ⟨1,.data⟩ (by simp) rfl).2
        clear hdep;have bw:Below w.heap.size w w':=HE2.out.bel.trans (hx.below.mono HE2.out.bel.size);have hsz:=bw.size;have bb:Below w'.heap.size w' (w'.alloc (.cells #[.int .u32 s,.int .i64 kd,.int .u32 p,.int .u32 y] 112)):=(Below.refl _ _).alloc (Nat.le_refl _) _;have hf1:Fr1 w.heap.size s kd p y (w'.alloc (.cells #[.int .u32 s,.int .i64 kd,.int .u32 p,.int .u32 y] 112)) (.slice (some ⟨w'.heap.size,0,none⟩) 1 1):=⟨w'.heap.size,rfl,hsz,heap_alloc_new w' _⟩
        have hK':=hK (w'.alloc (.cells #[.int .u32 s,.int .i64 kd,.int .u32 p,.int .u32 y] 112)) (.slice (some ⟨w'.heap.size,0,none⟩) 1 1) (by simpa using hf1) (hx.step 2 _ bb (fun h=>absurd h (by decide))) bb;clear hK bb hf1;rw[if_pos (by rfl)];go_simp;simpa[upd,d1] using hK'
       ·clear hdep;have hr:w'.heap[w.heap.size]?=some (.cells #[.slice a Ln c,.slice x m cx,.int .i64 f,.bool d] 40 (0,0)):=by rw[hx.below.block _ (by have:=HE2.out.lt;omega)];exact HE2.out.dev
        have hK':=hK w' (.agg #[.slice a Ln c,.slice x m cx,.int .i64 f,.bool d]) (by simp) (hx.step 3 _ (Below.refl _ _) (fun h=>absurd h (by decide))) (Below.refl _ _);clear hK;rw[if_pos (by rfl)];refine wp_load_row 40 (.tmp 3) rfl (w.heap.size) rfl 40 _ (0,0) _ hr Tryz.underlying40 rfl HSD.out ?_;simpa[upd,Act.put] using hK'
       ·clear hdep;have hK':=hK w' (.int .u32 qi) (by simp) (hx.step 4 _ (Below.refl _ _) (fun h=>absurd h (by decide))) (Below.refl _ _);clear hK;rw[if_pos (by rfl)];go_simp;simpa[upd,ew1,ew2] using hK'
       ·have d4:t 4=.int .u32 qi:=by simpa using(hdep ⟨4,.data⟩ (by simp) rfl).2
        clear hdep;have hK':=hK w' (.int .u32 (qi+1)) (by simp) (hx.step 5 _ (Below.refl _ _) (fun h=>absurd h (by decide))) (Below.refl _ _);clear hK;rw[if_pos (by rfl)];go_simp;simpa[upd,d4,ew1,ew2] using hK'
       ·clear hdep;have hK':=hK w' (.int .i64 ni) (by simp) (hx.step 6 _ (Below.refl _ _) (fun h=>absurd h (by decide))) (Below.refl _ _);clear hK;rw[if_pos (by rfl)];go_simp;simpa[upd,ew1,ew2] using hK'
       ·have d6:t 6=.int .i64 ni:=by simpa using(hdep ⟨6,.data⟩ (by simp) rfl).2
        clear hdep;have hK':=hK w' (.int .i64 (ni-1)) (by simp) (hx.step 7 _ (Below.refl _ _) (fun h=>absurd h (by decide))) (Below.refl _ _);clear hK;rw[if_pos (by rfl)];go_simp;simpa[upd,d6,ew1,ew2] using hK'
       ·have d3:t 3=.agg #[.slice a Ln c,.slice x m cx,.int .i64 f,.bool d]:=by simpa using(hdep ⟨3,.data⟩ (by simp) rfl).2
        have d5:t 5=.int .u32 (qi+1):=by simpa using(hdep ⟨5,.data⟩ (by simp) rfl).2
        have d7:t 7=.int .i64 (ni-1):=by simpa using(hdep ⟨7,.data⟩ (by simp) rfl).2
        clear hdep;have bw:Below w.heap.size w w':=HE2.out.bel.trans (hx.below.mono HE2.out.bel.size);have A:=HI.out w' bw;have hK':∀ ww v,FW w.heap.size ww v R→Below w'.heap.size w' ww→K _ ww:=fun ww v hv hb=>hK ww v (by simpa using hv) (hx.step 8 v hb (fun h=>absurd h (by decide))) hb
        clear hK;rw[if_pos (by rfl)];go_simp;try simp only[d3,d5,d7]
        refine A.mono ?_;rintro e w9 ⟨v9,rfl,p9,hb9⟩;have hK2:=hK' w9 v9 (p9.mono bw.size) hb9;clear hK' A p9 hb9;go_simp;simpa[upd,d3,d5,d7,ew1,ew2] using hK2
       ·have f2:Fr1 w.heap.size s kd p y w' (t 2):=by simpa using(hdep ⟨2,.data⟩ (by simp) rfl).2
        have f8:FW w.heap.size w' (t 8) R:=by simpa using(hdep ⟨8,.data⟩ (by simp) rfl).2
        clear hdep;have bw:Below w.heap.size w w':=HE2.out.bel.trans (hx.below.mono HE2.out.bel.size);have hsz:=bw.size;have hK':∀ ww v,FW w.heap.size ww v (s::kd::p::y::R)→Below w'.heap.size w' ww→K _ ww:=fun ww v hv hb=>hK ww v (by simpa using hv) (hx.step 9 _ hb (fun h=>absurd h (by decide))) hb
        clear hK;rw[if_pos (by rfl)];refine wp_appFW w' (.tmp 34) (.tmp 40) rfl w.heap.size s kd p y R (t 2) (t 8) rfl rfl f2 f8 HRL.out hsz ?_;intro v9 w9 p9 hb9;have hK2:=hK' w9 v9 p9 hb9;clear hK' p9 hb9;simpa[upd,Act.put] using hK2
       ·have f9:FW w.heap.size w' (t 9) (s::kd::p::y::R):=by simpa using(hdep ⟨9,.data⟩ (by simp) rfl).2
        clear hdep;have hK':=hK w' (t 9) (by simpa using f9) (hx.step 10 _ (Below.refl _ _) (fun h=>absurd h (by decide))) (Below.refl _ _);clear hK;rw[if_pos (by rfl)];go_simp;simpa[upd,ew1,ew2] using hK'
      case hdone=>
       intro L t w3 hx hg;have f10:FW w.heap.size w3 (t 10) (s::kd::p::y::R):=by simpa using hg 10 (by decide)
       have HF:=hid_ofL f10;have HBB:=hid_ofL (HE2.out.below hx.below).bel;dsimp only;generalize t 10=vv at *;clear f10 hx hg;go_wp2
       go_ret
       refine⟨_,rfl,?_,HBB.out⟩;rw[HYS.out];exact HF.out
     ·have hne:(s != qi)=true:=by simp[he]
      have HN:=hid_ofL (HNO.out (.inr he));clear HNO HYS0 HI HRW;have HBB:Hid (Below w.heap.size w (w2.alloc (.cells #[] 112))):=HE2.out.bel.trans (((Below.refl _ _).alloc (Nat.le_refl _) _).mono HE2.out.bel.size);have HFE:Hid (FW w.heap.size (w2.alloc (.cells #[] 112)) (.slice (some ⟨w2.heap.size,0,none⟩) 0 0) []):=⟨w2.heap.size,0,0,rfl,HE2.out.bel.size,rfl,Nat.le_refl _,by simp,fun i hi=>absurd hi (by simp)⟩
      go_wp2
      go_ret
      refine⟨_,rfl,?_,HBB.out⟩;rw[HN.out];exact HFE.out
  ·have HN:=hid_ofL (jrF_no (zs:=zs) (ps:=ps) (J:=Ln/64-4) (q:=q) (n:=n+1) (.inr (.inl (by omega))));clear F hps hA hP hqi hq hni hn hb;have hge:4000000000≤qi:=by omega
   go_enter Tryz.func29,Tryz.ntmps29
   go_upto_region 1 with fail
   generalize w.alloc (.cells #[.slice a Ln c,.slice x m cx,.int .i64 f,.bool d] 40)=w0 at *;have HBB:Hid (Below w.heap.size w (w0.alloc (.cells #[] 112))):=HE0.out.bel.trans (((Below.refl _ _).alloc (Nat.le_refl _) _).mono HE0.out.bel.size);have HFE:Hid (FW w.heap.size (w0.alloc (.cells #[] 112)) (.slice (some ⟨w0.heap.size,0,none⟩) 0 0) []):=⟨w0.heap.size,0,0,rfl,HE0.out.bel.size,rfl,Nat.le_refl _,by simp,fun i hi=>absurd hi (by simp)⟩
   go_wp2
   go_ret
   refine⟨_,rfl,?_,HBB.out⟩;rw[HN.out];exact HFE.out
end Go.Proofs.YthmeoilbmfdhfaaGreat
