import Derived.Test.YtilpkdnoaldfmaaGreatDoorMGqA
import Derived.Test.YtilpkdnoaldfmaaGreatDoorMLdU
import Derived.Test.YtilpkdnoaldfmaaGreatDoorMCnC
import Derived.Test.YtilpkdnoaldfmaaGreatDoorMRows8
namespace Go.Proofs.YtilpkdnoaldfmaaGreatDoor
open Go.ChangeShapes Go.WideShapes Go.ChangeAt Go.RowKit
set_option linter.unusedVariables false
theorem FAt.take {w:World} {a:Option Addr} {F:List Int} (h:FAt w a F) (k:Nat):FAt w a (F.take k):=by
 rcases h with rfl|⟨b,off,e,hl,hc⟩
 ·exact .inl (by simp)
 ·refine .inr ⟨b,off,e,hl,fun i hi=>?_⟩;have hi':i<k∧i<F.length:=by rw[List.length_take] at hi;omega
  rw[hc i hi'.2];simp[List.getD,List.getElem?_take_of_lt hi'.1]
theorem getD_take {F:List Int} {k i:Nat} (h:i<k):(F.take k).getD i 0=F.getD i 0:=by simp[List.getD,List.getElem?_take_of_lt h]
theorem apK_take {r:ApR} {F:List Int} {m:Nat}:∀ i,i≤m→apK r (F.take (m*4)) i=apK r F i
 |0,_=>rfl
 |i+1,h=>by
  show(if _ then _ else _)=(if _ then _ else _)
  rw[apK_take i (by omega),getD_take (show i*4+1<m*4 by omega),getD_take (show i*4+2<m*4 by omega),getD_take (show i*4+3<m*4 by omega)]
theorem FrB.take {F:List Int} (h:FrB F) (m:Nat):FrB (F.take (m*4)):=fun i hi=>by
 have hi':i*4+3<m*4∧i*4+3<F.length:=by rw[List.length_take] at hi;omega
 rw[getD_take (show i*4+2<m*4 by omega),getD_take (show i*4+3<m*4 by omega)];exact h i hi'.2
theorem run_slF (w:World) (fb fo mF cF m:Nat) (h1:m≤cF):(Instr.sliceAt 31 (.slice (some ⟨fb,fo,none⟩) mF cF) none (some (.int .u32 m)) none).run Tryz.prog w=.ok (.slice (some ⟨fb,fo,none⟩) m cF) w:=by
 have h2:(m:Int)≤(cF:Int):=by omega
 have h3:(0:Int)≤(m:Int):=by omega
 unfold Instr.sliceAt;simp[run_underlying Tryz.underlying31,go_sem,Instr.sliceBounds,h2,h3,Addr.add]
structure FinU (w4:World) (G b H:Nat) (C:Array Value) (a:ApR) (ww:World):Prop where
 row:ww.heap[G]?=some (.cells C 38 (0,0))
 ax:AX w4 H H b a ww
set_option maxRecDepth 100000 in
set_option maxHeartbeats 8000000 in
theorem sut_any {lo:Nat} (G:Nat) (C:Array Value) (zs ks:List Int) (f:Int) (d:Bool) (r:ImR) (w:World) (hG:w.heap[G]?=some (.cells C 38 (0,0))) (h:GL lo w C zs ks f d r) (hle:ImLe r) (hst:StP r.sD r.sU (r.sU.length:Int) [] 0) (hFB:FrB r.F) (hg:0≤r.g∧r.g<4000000000) (ht:0≤r.t) (cut:Int) (m:Nat) (hc:cut=r.t+m) (hc2:cut<4294967296) (hm:m*4≤r.F.length) (hn0:0<r.F.length) (a:ApR) (ha:apK ⟨true,r.sD,r.sU,(r.sU.length:Int),[],0⟩ r.F m=a) (hok:a.ok=true) :
  Calls Tryz.prog 34 #[.pointer (some ⟨G,5,none⟩),.int .u32 cut] w fun e w'=>∃ v,e=.returned v∧SNY w.heap.size w' v (r.g+1) cut a.D a.U∧Below w.heap.size w w':=by
 obtain⟨da,dc,ca,cc,ka,kc,aSD,nSD,cSD,aSU,nSU,cSU,aF,mF,cF,aD,nD,cD,aU,nU,cU,aT,cT,hCR,⟨_,hcF⟩,_,_,⟨A1,A2,A3,A4,A5,A6,e1,e2,e3,e4,e5,e6⟩,_⟩:=h;obtain⟨l1,l2,l3,l4,l5,l6⟩:=hle;obtain⟨fb,fo,rfl,hfl,hfc⟩:=A3.get hn0;obtain⟨CR,rfl⟩:∃ CR,CR=C:=⟨_,rfl⟩
 have HCR:=hid_ofV hCR;have HGl:Hid (G<w.heap.size∧fb<w.heap.size):=⟨(Array.getElem?_eq_some_iff.1 hG).1,hfl⟩
 have HG:=hid_ofV hG;have HSZ:Hid ((Tryz.prog.info? 30).map (·.size)=some 4):=by show _=_;kernel_rfl
 have HO0:Hid (OE w 30 #[.int .u32 0,.int .u32 0,.slice none 0 0,.slice none 0 0] (w.alloc (.cells #[.int .u32 0,.int .u32 0,.slice none 0 0,.slice none 0 0] 30))):=OE.start _ _ _;have HA:Hid (At .i64 w aSD r.sD∧At .i64 w aSU r.sU∧FAt w (some ⟨fb,fo,none⟩) r.F):=⟨A1,A2,.inr ⟨fb,fo,rfl,hfl,hfc⟩⟩
 have HN:Hid (r.sD.length=nSD∧r.sU.length=nSU∧nSD≤16∧nSU≤256∧m*4≤r.F.length∧r.F.length≤1008):=⟨e1,e2,by omega,by omega,hm,l3⟩
 have HST:=hid_ofV (And.intro hst hFB);have HAK:=hid_ofV (And.intro ha hok);have hsub:IntKind.u32.wrap (cut-r.t)=(m:Int):=by rw[show cut-r.t=(m:Int) by omega];unfold IntKind.wrap;simp[IntKind.bits,IntKind.signed];omega
 have hgad:IntKind.u32.wrap (r.g+1)=r.g+1:=by unfold IntKind.wrap;simp[IntKind.bits,IntKind.signed];omega
 have hsl:=fun ww=>run_slF ww fb fo mF cF m (by omega)
 clear hCR hcF A1 A2 A3 A4 A5 A6 e1 e2 e3 e4 e5 e6 l1 l2 l3 l4 l5 l6 hfl hfc hG hst hFB hg ht hc hc2 hm hn0 ha hok;go_enter Tryz.func34,Tryz.ntmps34;go_wp2_with fail;generalize w.alloc (.cells #[.int .u32 0,.int .u32 0,.slice none 0 0,.slice none 0 0] 30)=w1 at *;have r1:w1.heap[G]?=some (.cells CR 38 (0,0)):=by rw[HO0.out.below.block _ HGl.out.1];exact HG.out
 have HT:=hid_ofV (snstO_any G 6 aSD aSU nSD cSD nSU cSU w1 (Nat.lt_of_lt_of_le HGl.out.1 HO0.out.below.size) (by rw[cell_of_row w1 G _ _ _ _ r1,HCR.out];rfl) (by rw[cell_of_row w1 G _ _ _ _ r1,HCR.out];rfl));clear r1;refine HT.out.mono ?_;rintro e w2 ⟨rfl,b2⟩;have HO2:=hid_ofV (HO0.out.call b2);have HOB:=hid_ofV (openBook_any aSD aSU none nSD cSD nSU cSU 0 0 r.sD r.sU (nSU:Int) [] w2 HN.out.1 HN.out.2.1 rfl (by have:=HN.out;omega) (by have:=HN.out;omega) (by omega) (HA.out.1.below HO2.out.below) (HA.out.2.1.below HO2.out.below) (.inl rfl) (fun _=>⟨rfl,rfl⟩) (by omega) (by have:=HN.out;omega));have HSB1:=hid_ofV (stB_yes (by rw[←HN.out.2.1];exact HST.out.1:StP r.sD r.sU (nSU:Int) [] 0));clear b2 HO0 HT;go_wp2_with fail;refine HOB.out.mono ?_;rintro e w3 ⟨bk,rfl,hbs,hbo,b3,hob⟩;obtain⟨db,ub,v9,hbk,hsd,hsu,hto⟩:=hob HSB1.out;rw[HSB1.out];have HSB2:Hid ((Tryz.prog.info? 110).map (·.size)=some bk.size∧(Tryz.zeroCells110).size=bk.size∧bk.all (fun x=>x.oneCell')=true):=⟨by rw[hbs];kernel_rfl,by rw[hbs];exact zc_size,hbo⟩
 have b4:Below w3.heap.size w3 (w3.alloc (.cells bk 110)):=(Below.refl _ _).alloc (Nat.le_refl _) _;have hr4:(w3.alloc (.cells bk 110)).heap[w3.heap.size]?=some (.cells bk 110 (0,0)):=heap_alloc_new w3 _;have h23:=b3.size;have hw2:=HO2.out.below.size;have hlt:=HO2.out.lt;have h24:Below w2.heap.size w2 (w3.alloc (.cells bk 110)):=b3.trans (b4.mono h23);have HB4:Hid (Below w.heap.size w (w3.alloc (.cells bk 110))):=HO2.out.below.trans (h24.mono hw2);have HR4:Hid ((w3.alloc (.cells bk 110)).heap[w.heap.size]?=some (.cells #[.int .u32 0,.int .u32 0,.slice none 0 0,.slice none 0 0] 30 (0,0))):=by show _=_;rw[h24.block _ hlt];exact HO2.out.b0
 have HC4:Hid ((w3.alloc (.cells bk 110)).heap[G]?=some (.cells CR 38 (0,0))):=by show _=_;rw[HB4.out.block _ HGl.out.1];exact HG.out
 have HCR4:=HC4;have hto4:TapO w2.heap.size (w3.alloc (.cells bk 110)) v9 [] 0:=hto.alloc _;have hne:NeG w3.heap.size v9:=fun t ht e=>by
  rcases hto.2 with⟨h',_⟩|⟨g,c,cur,h',hb,hh,_⟩
  ·rw[h'] at ht;simp[Value.ownBlock] at ht
  ·rw[h'] at ht;simp[Value.ownBlock] at ht;have:=(Array.getElem?_eq_some_iff.1 hh).1;omega
 have hAXd:AX (w3.alloc (.cells bk 110)).drew w2.heap.size w2.heap.size w3.heap.size ⟨true,r.sD,r.sU,(r.sU.length:Int),[],0⟩ (w3.alloc (.cells bk 110)).drew:=⟨Below.refl _ _,db,ub,v9,⟨by show(w3.alloc (.cells bk 110)).heap[w3.heap.size]?=_;rw[hr4,hbk,HN.out.2.1],hsd.1,hsu.1,hsd.2.1,hsu.2.1⟩,hsd,hsu,hto4.tapV.block (Nat.le_refl _) (fun t _ _=>rfl),hne⟩
 have hFm:(r.F.take (m*4)).length=m*4:=by rw[List.length_take];have:=HN.out;omega
 have hApp:=fun ww (e:ww=(w3.alloc (.cells bk 110)).drew)=>applyAll_any (some ⟨fb,fo,none⟩) m cF (r.F.take (m*4)) ww w3.heap.size w2.heap.size w2.heap.size ⟨true,r.sD,r.sU,(r.sU.length:Int),[],0⟩ rfl ((by rw[e];exact(HA.out.2.2.below HB4.out).take _)) hFm (by have:=HN.out;omega) (HST.out.2.take m) (fun x hx=>by cases hx;show fb<_;have:=HGl.out;omega) (by rw[e];exact hAXd) HST.out.1 rfl h23 (Nat.le_refl _) (by rw[e];have:=h24.size;exact this) (by rw[e];have:=h24.size;exact this)
 have HAP:Hid (∀ ww,ww=(w3.alloc (.cells bk 110)).drew→Calls Tryz.prog 53 #[.pointer (some ⟨w3.heap.size,0,none⟩),.slice (some ⟨fb,fo,none⟩) m cF] ww fun e w'=>e=.returned (.bool true)∧FinU (w3.alloc (.cells bk 110)) G w3.heap.size w2.heap.size CR a w'):=fun ww e=>(hApp ww e).mono fun e' w' ⟨q1,q2,q3⟩=>by
  rw[apK_take m (Nat.le_refl _),HAK.out.1] at q1 q3;rw[HAK.out.2] at q1;have q4:=q3 HAK.out.2;subst e;refine⟨q1,?_,⟨⟨q2.os,q2.tape,q2.output,q2.size,q2.block⟩,q4.bk⟩⟩;rw[q2.block G (by have:=HGl.out.1;omega)];exact HC4.out
 have HSTK:Hid (StP a.D a.U a.k a.T a.n∧a.T.length=a.n*2):=by
  have:=apK_st (r:=⟨true,r.sD,r.sU,(r.sU.length:Int),[],0⟩) HST.out.2 HST.out.1 rfl m (by have:=HN.out;omega);rw[HAK.out.1] at this;exact this HAK.out.2
 have HZ4:Hid (w.heap.size<w2.heap.size∧G<w.heap.size∧w2.heap.size≤(w3.alloc (.cells bk 110)).heap.size):=⟨hlt,HGl.out.1,h24.size⟩
 clear hbs hbo b3 hob hbk hsd hsu hto b4 hr4 h23 hw2 hlt h24 hto4 hne hAXd hFm hApp HO2 HOB HSB1 HGl HG HA HN HST HAK
 go_upto_region 2 with (first
  |(refine wpList_store_row rfl 110 (.tmp 5) (.tmp 14) rfl w3.heap.size bk rfl rfl 110 _ (heap_alloc_new w3 _) HSB2.out.1 HSB2.out.2.1 HSB2.out.2.2 ?_)
  |fail)
 rw[World.setRow_alloc_new];clear HSB2;generalize w3.alloc (.cells bk 110)=w4 at *;generalize w3.heap.size=b at *;generalize w2.heap.size=H at *;refine wp_region_any (by kernel_rfl) ?_;refine wpAny_slotsU (fun _ _ _=>True) (frame:=(fun (a b c d e f g h i j k l m n o p q r s u v w x y z A B C D:Value)=>fun (t:Nat→Value)=>({ tmps:=List.toArray [a,b,c,d,e,f,g,h,i,j,k,l,m,n,o,p,t 0,t 1,t 2,t 3,t 4,t 5,t 6,t 7,t 8,t 9,t 10,t 11,t 12,q,r,s,u,v,w,x,y,z,A,B,C,D],defers:=[] }:Act)) _ _ _ _ _ _ _ _ _ _ _ _ _ _ _ _ _ _ _ _ _ _ _ _ _ _ _ _ _)
  (Ext:=fun L u w'=>if L 12=true then FinU w4 G b H CR a w' else w'=w4.drew) (Good:=fun i L w' v=>if i=0 then v=.pointer (some ⟨G,5,none⟩) else if i=1 then v=.pointer (some ⟨G,5,none⟩) else if i=2 then v=.pointer (some ⟨G,10,none⟩) else if i=3 then v=.slice (some ⟨fb,fo,none⟩) mF cF else if i=4 then v=.int .u32 cut else if i=5 then v=.pointer (some ⟨G,5,none⟩) else if i=6 then v=.pointer (some ⟨G,5,none⟩) else if i=7 then v=.pointer (some ⟨G,6,none⟩) else if i=8 then v=.pointer (some ⟨G,7,none⟩) else if i=9 then v=.int .u32 r.t else if i=10 then v=.int .u32 m else if i=11 then v=.slice (some ⟨fb,fo,none⟩) m cF else if i=12 then L 12=true else True) ?hstab (by kernel_rfl) ?hop ?hdone _ _ ((fun (x0 x1 x2 x3 x4 x5 x6 x7 x8 x9 x10 x11 x12:Value)=>fun (i:Nat)=>if i=0 then x0 else if i=1 then x1 else if i=2 then x2 else if i=3 then x3 else if i=4 then x4 else if i=5 then x5 else if i=6 then x6 else if i=7 then x7 else if i=8 then x8 else if i=9 then x9 else if i=10 then x10 else if i=11 then x11 else if i=12 then x12 else undef) _ _ _ _ _ _ _ _ _ _ _ _ _) _ (by simp) ?ext ?start (by simp)
 case start=>intro i hi h;exact absurd h (by rw[Array.getD_eq_getD_getElem?,Array.getElem?_replicate];split<;>simp)
 case ext=>
  rw[if_neg (by show ¬ (Array.getD _ _ _=true);rw[Array.getD_eq_getD_getElem?,Array.getElem?_replicate];split<;>simp)];exact rfl
 case hstab=>
  intro j L w9 w' i v hM hij hLi h;by_cases hl:j=12
  ·subst hl;simp at h ⊢;unfold updK;simp[h]
  ·simp only[if_neg hl] at h ⊢;exact h
 case hop=>
  intro i o L t w' ho hLi hx hdep K hK;have hi:i<13:=(Array.getElem?_eq_some_iff.1 ho).1;have hrow:w'.heap[G]?=some (.cells CR 38 (0,0)):=by
   split at hx
   ·exact hx.row
   ·rw[hx];exact HC4.out
  have cX:∀ q9:Nat,w'.cell? ⟨G,q9,none⟩=(#[.slice da zs.length dc,.slice ca 0 cc,.int .i64 f,.bool d,.slice ka ks.length kc,.bool r.ok,.int .u32 r.g,.int .u32 r.t,.slice aSD nSD cSD,.slice aSU nSU cSU,.slice (some ⟨fb,fo,none⟩) mF cF,.slice aD nD cD,.slice aU nU cU,.int .i64 r.k,.slice aT r.n cT,.int .u32 r.nx]:Array Value)[q9]?:=fun q9=>by rw[cell_of_row w' G q9 _ _ _ hrow,HCR.out]
  clear hrow;obtain rfl|rfl|rfl|rfl|rfl|rfl|rfl|rfl|rfl|rfl|rfl|rfl|rfl:i=0∨i=1∨i=2∨i=3∨i=4∨i=5∨i=6∨i=7∨i=8∨i=9∨i=10∨i=11∨i=12:=by omega
  all_goals(simp at ho;subst ho)
  all_goals try(have hK':=hK w' _ rfl (by simpa[updK] using hx) trivial;clear hK;simp[Region.binds] at hdep;rw[if_pos (by rfl)];go_simp;simpa[upd,hdep] using hK')
  ·have d11:t 11=.slice (some ⟨fb,fo,none⟩) m cF:=by simpa using(hdep ⟨11,.data⟩ (by simp) rfl).2
   clear hdep;rw[hLi,if_neg (by decide)] at hx;subst hx;have hK':=fun ww v (h:FinU w4 G b H CR a ww)=>hK ww v (by simp[updK]) (by simpa[updK] using h) trivial
   have A:=HAP.out _ rfl;clear hK;rw[if_pos (by rfl)];go_simp;try simp only[d11]
   refine A.mono ?_;rintro e w9 ⟨rfl,h9⟩;have hK2:=hK' w9 (.bool true) h9;clear hK' h9 A;go_simp;simpa[upd,d11] using hK2
 case hdone=>
  intro L t w5 hx hg;have hlast:L 12=true:=by simpa using hg 12 (by decide)
  rw[if_pos hlast] at hx;clear hg hlast;have HU:=hid_ofV hx;clear hx;obtain⟨d',u',v',r1,r2,r3,r4,r5⟩:=HU.out.ax.bk;obtain⟨aT9,cT9,rfl⟩:=r4.slice;obtain⟨hstr,hTr⟩:=HSTK.out;have HS:=state_any aT9 a.n cT9 (fun v=>decide ((v:Int)∈a.D)) (fun v=>decide ((v:Int)∈a.U)) r1 (r2.congr (fun v _=>by simp)) (r3.congr (fun v _=>by simp));rw[hstr.1.eq_upTo _ (fun v _=>by simp),hstr.2.2.1.eq_upTo _ (fun v _=>by simp)] at HS;have HS6:=hid_ofV HS;clear HS r1 r2 r3 r4 r5 hstr hTr HSTK HAP HCR4;go_wp2_with fail;refine HS6.out.mono ?_;rintro e w6 ⟨bD,mD,dD,bU,mU,dU,rfl,i1,i2,ap,b6⟩;have b7:Below w6.heap.size w6 (w6.alloc (.cells #[.slice bD mD dD,.slice bU mU dU,.int .i64 a.k,.slice aT9 a.n cT9] 34)):=(Below.refl _ _).alloc (Nat.le_refl _) _;have bw5:Below w.heap.size w w5:=HB4.out.trans (HU.out.ax.bel.mono (by have:=HZ4.out;omega));have bw6:Below w.heap.size w w6:=bw5.trans (b6.mono bw5.size);have hz5:=HU.out.ax.bel.size;have hz6:=b6.size;have HR7:Hid ((w6.alloc (.cells #[.slice bD mD dD,.slice bU mU dU,.int .i64 a.k,.slice aT9 a.n cT9] 34)).heap[w.heap.size]?=some (.cells #[.int .u32 0,.int .u32 0,.slice none 0 0,.slice none 0 0] 30 (0,0))∧(w6.alloc (.cells #[.slice bD mD dD,.slice bU mU dU,.int .i64 a.k,.slice aT9 a.n cT9] 34)).heap[G]?=some (.cells CR 38 (0,0))∧(w6.alloc (.cells #[.slice bD mD dD,.slice bU mU dU,.int .i64 a.k,.slice aT9 a.n cT9] 34)).heap[w6.heap.size]?=some (.cells #[.slice bD mD dD,.slice bU mU dU,.int .i64 a.k,.slice aT9 a.n cT9] 34 (0,0))∧G<(w6.alloc (.cells #[.slice bD mD dD,.slice bU mU dU,.int .i64 a.k,.slice aT9 a.n cT9] 34)).heap.size∧w6.heap.size<(w6.alloc (.cells #[.slice bD mD dD,.slice bU mU dU,.int .i64 a.k,.slice aT9 a.n cT9] 34)).heap.size):=by
   refine⟨?_,?_,heap_alloc_new w6 _,?_,by simp⟩
   ·rw[b7.block _ (by have:=HZ4.out;omega),b6.block _ (by have:=HZ4.out;omega),HU.out.ax.bel.block _ (by have:=HZ4.out;omega)];exact HR4.out
   ·rw[b7.block _ (by have:=HZ4.out;omega),b6.block _ (by have:=HZ4.out;omega)];exact HU.out.row
   ·have:=HZ4.out;simp;omega
  have HS7:Hid (S3 w5.heap.size (w6.alloc (.cells #[.slice bD mD dD,.slice bU mU dU,.int .i64 a.k,.slice aT9 a.n cT9] 34)) bD bU none mD mU 0 a.D a.U []):=(S3.of_io i1 i2 ap.aprt).below b7;have HB7:Hid (Below w.heap.size w (w6.alloc (.cells #[.slice bD mD dD,.slice bU mU dU,.int .i64 a.k,.slice aT9 a.n cT9] 34))):=bw6.trans (b7.mono bw6.size);have HZ7:Hid (w.heap.size<w5.heap.size):=by have:=HZ4.out;show _<_;omega
  have HST7:Hid ((w6.alloc (.cells #[.slice none 0 0,.slice none 0 0,.int .i64 0,.slice none 0 0] 34)).heap[w6.heap.size]?=some (.cells #[.slice none 0 0,.slice none 0 0,.int .i64 0,.slice none 0 0] 34 (0,0))∧(Tryz.prog.info? 34).map (·.size)=some 4):=⟨heap_alloc_new w6 _,by kernel_rfl⟩
  clear i1 i2 ap b6 b7 bw5 bw6 hz5 hz6 HU HS6 HB4 HR4 HZ4
  go_upto_region 4 with (first
   |(refine wpList_store_row rfl 34 (.tmp 7) (.tmp 29) rfl w6.heap.size #[.slice bD mD dD,.slice bU mU dU,.int .i64 a.k,.slice aT9 a.n cT9] rfl rfl 34 _ HST7.out.1 HST7.out.2 rfl (by simp[Value.oneCell']) ?_)
   |fail)
  rw[World.setRow_alloc_new];clear HST7;generalize w6.alloc (.cells #[.slice bD mD dD,.slice bU mU dU,.int .i64 a.k,.slice aT9 a.n cT9] 34)=w7 at *;generalize w6.heap.size=s at *;refine wp_region_any (by kernel_rfl) ?_;refine wpAny_slotsF 12 (fun _ a b=>Below a.heap.size a b) (frame:=(fun (a b c d e f g h i j k l m n o p q r s u v w x y z A B C D E:Value)=>fun (t:Nat→Value)=>({ tmps:=List.toArray [a,b,c,d,e,f,g,h,i,j,k,l,m,n,o,p,q,r,s,u,v,w,x,y,z,A,B,C,D,E,t 0,t 1,t 2,t 3,t 4,t 5,t 6,t 7,t 8,t 9,t 10,t 11],defers:=[] }:Act)) _ _ _ _ _ _ _ _ _ _ _ _ _ _ _ _ _ _ _ _ _ _ _ _ _ _ _ _ _ _)
   (Ext:=fun L u w'=>ApH w7 [] L u w') (Good:=fun i L w' v=>if i=0 then v=.pointer (some ⟨G,5,none⟩) else if i=1 then v=.pointer (some ⟨G,5,none⟩) else if i=2 then v=.pointer (some ⟨G,6,none⟩) else if i=3 then v=.pointer (some ⟨G,6,none⟩) else if i=4 then v=.int .u32 r.g else if i=5 then v=.int .u32 (r.g+1) else if i=6 then v=.int .u32 cut else if i=7 then v=.pointer (some ⟨s,0,none⟩) else if i=8 then v=.slice bD mD dD else if i=9 then v=.pointer (some ⟨s,1,none⟩) else if i=10 then v=.slice bU mU dU else if i=11 then v=.agg #[.int .u32 (r.g+1),.int .u32 cut,.slice bD mD dD,.slice bU mU dU] else True) (Fin:=fun _ ww=>ww.heap[w.heap.size]?=some (.cells #[.int .u32 (r.g+1),.int .u32 cut,.slice bD mD dD,.slice bU mU dU] 30 (0,0))∧∃ w8,Below w7.heap.size w7 w8∧Wr w.heap.size w8 ww) rfl (by kernel_rfl) ?hstab (by kernel_rfl) ?hop ?hend ?hdone _ _ ((fun (x0 x1 x2 x3 x4 x5 x6 x7 x8 x9 x10 x11:Value)=>fun (i:Nat)=>if i=0 then x0 else if i=1 then x1 else if i=2 then x2 else if i=3 then x3 else if i=4 then x4 else if i=5 then x5 else if i=6 then x6 else if i=7 then x7 else if i=8 then x8 else if i=9 then x9 else if i=10 then x10 else if i=11 then x11 else undef) _ _ _ _ _ _ _ _ _ _ _ _) _ (by simp) ?none ?ext (by simp)
  case none=>intro i;rw[Array.getD_eq_getD_getElem?,Array.getElem?_replicate];split<;>rfl
  case ext=>exact ApH.start w7 [] _ _ (fun i=>by rw[Array.getD_eq_getD_getElem?,Array.getElem?_replicate];split<;>rfl) ⟨rfl,rfl,rfl,Nat.le_refl _,fun _ _=>rfl⟩
  case hstab=>
   intro j L w9 w' i v _ hM _ _ h;exact h
  case hop=>
   intro i o L t w' hi ho hLi hx hdep K hK;have cX:∀ q9:Nat,w'.cell? ⟨G,q9,none⟩=(#[.slice da zs.length dc,.slice ca 0 cc,.int .i64 f,.bool d,.slice ka ks.length kc,.bool r.ok,.int .u32 r.g,.int .u32 r.t,.slice aSD nSD cSD,.slice aSU nSU cSU,.slice (some ⟨fb,fo,none⟩) mF cF,.slice aD nD cD,.slice aU nU cU,.int .i64 r.k,.slice aT r.n cT,.int .u32 r.nx]:Array Value)[q9]?:=fun q9=>by rw[World.cell?_of_block (a:=⟨G,q9,none⟩) (w:=w7) (hx.below.block _ HR7.out.2.2.2.1),cell_of_row w7 G q9 _ _ _ HR7.out.2.1,HCR.out]
   have cY:∀ q9:Nat,w'.cell? ⟨s,q9,none⟩=(#[.slice bD mD dD,.slice bU mU dU,.int .i64 a.k,.slice aT9 a.n cT9]:Array Value)[q9]?:=fun q9=>by rw[World.cell?_of_block (a:=⟨s,q9,none⟩) (w:=w7) (hx.below.block _ HR7.out.2.2.2.2),cell_of_row w7 s q9 _ _ _ HR7.out.2.2.1]
   obtain rfl|rfl|rfl|rfl|rfl|rfl|rfl|rfl|rfl|rfl|rfl|rfl:i=0∨i=1∨i=2∨i=3∨i=4∨i=5∨i=6∨i=7∨i=8∨i=9∨i=10∨i=11:=by omega
   all_goals(simp at ho;subst ho)
   all_goals try(have hK':=hK w' _ rfl (hx.step _ _ (Below.refl _ _) (fun h=>absurd h (by decide))) (Below.refl _ _);clear hK;simp[Region.binds] at hdep;rw[if_pos (by rfl)];go_simp;simpa[upd,hdep] using hK')
  case hend=>
   intro o L t w' ho hx hg K hK;simp at ho;subst ho;have d11:t 11=.agg #[.int .u32 (r.g+1),.int .u32 cut,.slice bD mD dD,.slice bU mU dU]:=by simpa using(hg 11 (by decide)).2
   clear hg;have hrs:=(hx.below.block _ (Array.getElem?_eq_some_iff.1 HR7.out.1).1).trans HR7.out.1;have hK':∀ ww,Wr w.heap.size w' ww→ww.heap[w.heap.size]?=some (.cells #[.int .u32 (r.g+1),.int .u32 cut,.slice bD mD dD,.slice bU mU dU] 30 (0,0))→K _ ww:=fun ww hw hr=>hK ww undef ⟨hr,w',hx.below,hw⟩
   clear hK;rw[if_pos (by rfl)];refine wp_store_row 30 (.tmp 4) (.tmp 41) rfl w.heap.size #[.int .u32 (r.g+1),.int .u32 cut,.slice bD mD dD,.slice bU mU dU] rfl d11 30 _ hrs HSZ.out rfl (by simp[Value.oneCell']) ?_;have hK2:=hK' _ (Wr.setRow _ _ _) (setRow_heap _ _ _ _ _ _ hrs);clear hK';simpa[upd,Act.put] using hK2
  case hdone=>
   intro t w9 hf;obtain⟨hr9,w8,b8,hw8⟩:=hf;have HR9:Hid (w9.heap[w.heap.size]?=some (.cells #[.int .u32 (r.g+1),.int .u32 cut,.slice bD mD dD,.slice bU mU dU] 30 (0,0))):=hr9;have HF:Hid (SNY w.heap.size w9 (.agg #[.int .u32 (r.g+1),.int .u32 cut,.slice bD mD dD,.slice bU mU dU]) (r.g+1) cut a.D a.U∧Below w.heap.size w w9):=⟨⟨bD,mD,dD,bU,mU,dU,rfl,((HS7.out.below b8).keep (Nat.le_of_eq hw8.size.symm) (fun k hk _=>hw8.block k (by have:=HZ7.out;omega))).lo (by have:=HZ7.out;omega)⟩,(HB7.out.trans (b8.mono HB7.out.size)).trans (hw8.below (Nat.le_refl _))⟩
   clear hr9 b8 hw8;go_wp2_with fail;exact bodyPost_ret (v:=.agg #[.int .u32 (r.g+1),.int .u32 cut,.slice bD mD dD,.slice bU mU dU]) (results_cell_row rfl _ _ w.heap.size 30 _ (0,0) _ rfl HR9.out Tryz.underlying30 rfl HSZ.out) rfl ⟨_,rfl,HF.out.1,HF.out.2⟩
theorem slF_u32 {zs:List Int} {ps:List PD} {i:Nat} (hb:Byte (slZ zs ps i)):0≤(slF zs ps i).g:=by
 unfold slF;split
 ·exact(dkF_u32 hb).1
 ·decide
theorem nwK_g {zs:List Int} {ps:List PD} (hb:∀ i,i<2→Byte (slZ zs ps i)):∀ q,q≤2→0≤(nwK zs ps q).g
 |0,_=>(by decide:(0:Int)≤dkNo.g)
 |q+1,h=>by
  unfold nwK;split
  ·exact slF_u32 (hb q (by omega))
  ·exact nwK_g hb q (by omega)
theorem jrF_seq (zs:List Int) (ps:List PD) (J:Nat):∀ n q k,(jrF zs ps J q n).length=k*4→(∀ i,i<k→(jrF zs ps J q n).getD (i*4) 0=((q+i:Nat):Int))∧(0<k→q+k≤4000000000)
 |0,q,k,h=>by
  have:k=0:=by simp[jrF] at h;omega
  subst this;exact⟨fun i hi=>absurd hi (by omega),fun h=>absurd h (by omega)⟩
 |n+1,q,k,h=>by
  by_cases hc:q<4000000000∧jrOk zs ps J q=true
  ·rw[jrF_yes hc.1 hc.2] at h ⊢;rw[List.length_append,fr4_len] at h;obtain⟨k',rfl⟩:∃ k',k=k'+1:=⟨k-1,by omega⟩
   obtain⟨i1,i2⟩:=jrF_seq zs ps J n (q+1) k' (by omega);refine⟨fun i hi=>?_,fun _=>?_⟩
   ·cases i with
    |zero=>
     have:=hc.2;unfold jrOk at this;simp at this;show num4 (jrT zs ps J q) 0=_
     rw[this.2];simp
    |succ i=>
     rw[show(i+1)*4=i*4+4 by omega,List.getD,List.getElem?_append_right (by rw[fr4_len];omega),fr4_len,Nat.add_sub_cancel];have:=i1 i (by omega);rw[List.getD] at this;rw[this];congr 1;omega
   ·by_cases h0:0<k'
    ·have:=i2 h0;omega
    ·omega
  ·have e:jrF zs ps J q (n+1)=[]:=by show(if _ then _ else _)=_;rw[if_neg hc]
   rw[e] at h ⊢;have:k=0:=by simp at h;omega
   subst this;exact⟨fun i hi=>absurd hi (by omega),fun h=>absurd h (by omega)⟩
structure ImF (zs:List Int) (f:Int) (r:ImR) (n:Nat):Prop where
 v:vBase zs.length 0 f
 ok:r.ok=true
 st:StP r.sD r.sU (r.sU.length:Int) [] 0
 fr:FrB r.F
 len:r.F.length=n*4
 nJ:n≤zs.length/64-4
 seq:∀ i,i<n→r.F.getD (i*4) 0=r.t+i
 nx:r.nx=r.t+n
 top:r.t+n≤4000000000
 t1:1≤r.t
 g0:0≤r.g∧r.g≤4000000000
 ap:(apK ⟨true,r.sD,r.sU,(r.sU.length:Int),[],0⟩ r.F n).ok=true
theorem imF_of {zs:List Int} {f:Int} {r:ImR} (hr:imG zs [] f=r) (hok:r.ok=true) (bz:Byte zs):∃ n,ImF zs f r n:=by
 subst hr;unfold imG at hok ⊢;split at hok
 ·next hv=>
  rw[if_pos hv];have hD:DvF zs.length zs.length 0 f zs []:=⟨rfl,rfl,hv,Nat.le_refl _,bz,by simp[Byte]⟩
  unfold imF at hok ⊢;split at hok
  ·next hn=>
   rw[if_pos hn];have hs:=nwK_snp 2 hn;have hg:=nwK_g (zs:=zs) (ps:=[]) (fun i hi=>(hD.sl i hi).2) 2 (Nat.le_refl _);unfold imR at hok ⊢;split at hok
   ·next ha=>
    rw[if_pos ha];obtain⟨b1,b2,b3,b4⟩:=hD.base;obtain⟨k,hk,hl⟩:=jrF_len zs [] (zs.length/64-4) (zs.length/64-4) (nwK zs [] 2).t.toNat;obtain⟨q1,q2⟩:=jrF_seq zs [] (zs.length/64-4) (zs.length/64-4) (nwK zs [] 2).t.toNat k hl;have ht:(((nwK zs [] 2).t.toNat:Nat):Int)=(nwK zs [] 2).t:=Int.toNat_of_nonneg (by have:=hs.2.1;omega);have h4:(jrF zs [] (zs.length/64-4) (nwK zs [] 2).t.toNat (zs.length/64-4)).length/4=k:=by rw[hl];omega
    refine⟨k,(validB_of hv).1,rfl,hs.st,jrF_frb zs [] _ (fun q=>(hD.jr q).2) _ _,hl,hk,fun i hi=>?_,?_,?_,hs.2.1,⟨hg,hs.1⟩,?_⟩
    ·show(jrF _ _ _ _ _).getD _ _=(nwK zs [] 2).t+(i:Int);rw[q1 i hi];omega
    ·show _+_=_;rw[h4]
    ·by_cases h0:0<k
     ·have:=q2 h0;show(nwK zs [] 2).t+k≤_;omega
     ·have:=hs.2.2.1;show(nwK zs [] 2).t+k≤_;omega
    ·have:=ha;unfold imA at this;rw[h4] at this;exact this
   ·cases hok
  ·cases hok
 ·cases hok
theorem cutR_at {F:List Int} {nF:Nat} {ak nx t:Int} (hs:∀ i,i<nF→F.getD (i*4) 0=t+i) (hn:nx=t+nF):∀ k n,k≤nF→∃ m:Nat,m≤nF∧cutR F nF ak nx k n=t+m
 |0,n,_=>⟨nF,Nat.le_refl _,hn⟩
 |k+1,n,h=>by
  unfold cutR;split
  ·split
   ·exact⟨nF-(k+1),by omega,hs _ (by omega)⟩
   ·exact cutR_at hs hn k _ (by omega)
  ·exact cutR_at hs hn k _ (by omega)
noncomputable def cutI (r:ImR):Int:=cutV r.ok r.sU.length r.F (r.F.length/4) r.k r.nx
theorem ImF.cut {zs:List Int} {f:Int} {r:ImR} {n:Nat} (h:ImF zs f r n):∃ m:Nat,m≤n∧cutI r=r.t+m:=by
 unfold cutI cutV;rw[if_pos h.ok,show r.F.length/4=n by rw[h.len];omega];exact cutR_at h.seq h.nx n _ (Nat.le_refl _)
noncomputable def cmA (r:ImR):ApR:=apK ⟨true,r.sD,r.sU,(r.sU.length:Int),[],0⟩ r.F (cutI r-r.t).toNat
noncomputable def cmL (r:ImR):List Int:=snL (r.g+1) (cutI r) (cmA r).D (cmA r).U
noncomputable def cmT (zs:List Int) (f:Int) (r:ImR):DO:=cmO zs f ((r.g+1)%2*2).toNat ((cmL r).take 64) ((cmL r).drop 64)
theorem ImF.apm {zs:List Int} {f:Int} {r:ImR} {n:Nat} (h:ImF zs f r n) {m:Nat} (hm:m≤n):(apK ⟨true,r.sD,r.sU,(r.sU.length:Int),[],0⟩ r.F m).ok=true:=by
 cases e:(apK ⟨true,r.sD,r.sU,(r.sU.length:Int),[],0⟩ r.F m).ok with
 |true=>rfl
 |false=>
  have:=apK_rest (r:=⟨true,r.sD,r.sU,(r.sU.length:Int),[],0⟩) rfl e hm;have h2:=h.ap;rw[this,e] at h2;cases h2
theorem ImF.snp {zs:List Int} {f:Int} {r:ImR} {n:Nat} (h:ImF zs f r n) (hg:r.g≠4000000000):SnP (r.g+1) (cutI r) (cmA r).D (cmA r).U∧(cmA r).ok=true:=by
 obtain⟨m,hm,hc⟩:=h.cut;have e:cmA r=apK ⟨true,r.sD,r.sU,(r.sU.length:Int),[],0⟩ r.F m:=by unfold cmA;rw[hc,show(r.t+(m:Int)-r.t).toNat=m by omega]
 have hok:=h.apm hm;have hs:=(apK_st (r:=⟨true,r.sD,r.sU,(r.sU.length:Int),[],0⟩) h.fr h.st rfl m (by rw[h.len];omega) hok).1;rw[←e] at hok hs;have:=h.g0;have:=h.t1;have:=h.top;exact⟨⟨by omega,by omega,by omega,hs.1,hs.2.1,hs.2.2.1⟩,hok⟩
theorem Byte.take {zs:List Int} (h:Byte zs) (k:Nat):Byte (zs.take k):=fun x hx=>h x (List.mem_of_mem_take hx)
theorem Byte.drop {zs:List Int} (h:Byte zs) (k:Nat):Byte (zs.drop k):=fun x hx=>h x (List.mem_of_mem_drop hx)
theorem cmO_len {zs:List Int} {f:Int} {s:Nat} {z0 z1:List Int} (h0:z0.length=64) (h1:z1.length=64) (hs:(s+2)*64≤zs.length):(cmO zs f s z0 z1).1.length=zs.length:=by
 have a:=overL_len zs s z0 (by omega);have b:=overL_len (overL zs s z0) (s+1) z1 (by omega);unfold cmO
 (repeat' split)<;>first|rfl|exact a|exact b.trans a
theorem cmO_byte {zs:List Int} {f:Int} {s:Nat} {z0 z1:List Int} (h:Byte zs) (h0:Byte z0) (h1:Byte z1):Byte (cmO zs f s z0 z1).1:=by
 have a:=overL_byte s h h0;have b:=overL_byte (s+1) a h1;unfold cmO
 (repeat' split)<;>first|exact h|exact a|exact b
theorem cmO_nil {zs:List Int} {f:Int} {s:Nat} {z0 z1:List Int}:(cmO zs f s z0 z1).2.2.2=false→(cmO zs f s z0 z1).2.1=[]:=by
 unfold cmO
 (repeat' split)<;>first|(intro h;cases h;done)|(intro _;rfl)
noncomputable def cpD (zs:List Int) (f:Int) (r:ImR):DO:=if cutI r=r.t∨r.g=4000000000 then(zs,[],f,false) else cmT zs f r
noncomputable def cpI (zs:List Int) (f:Int) (r:ImR):ImR:=if cutI r=r.t∨r.g=4000000000 then r else afI r (cmT zs f r)
noncomputable def cpC (zs:List Int) (f:Int) (r:ImR):Int:=if cutI r=r.t then 9 else if r.g=4000000000 then 8 else afC 9 (cmT zs f r)
theorem snL_byte {gn tl:Int} {D U:List Int} (hs:SnP gn tl D U) (ug:U32 gn) (ut:U32 tl):Byte (snL gn tl D U):=by
 have h:=snE_byte (D:=D) (U:=U) ug ut;unfold snE at h;rw[snB_yes hs] at h;exact h
theorem cp_same {zs:List Int} {f:Int} {r:ImR} (h:cutI r=r.t∨r.g=4000000000):cpD zs f r=(zs,[],f,false)∧cpI zs f r=r:=by unfold cpD cpI;rw[if_pos h,if_pos h];exact⟨rfl,rfl⟩
theorem cp_else {zs:List Int} {f:Int} {r:ImR} (h1:¬ cutI r=r.t) (h2:¬ r.g=4000000000):cpD zs f r=cmT zs f r∧cpI zs f r=afI r (cmT zs f r)∧cpC zs f r=afC 9 (cmT zs f r):=by
 unfold cpD cpI cpC;rw[if_neg (by simp[h1,h2]),if_neg (by simp[h1,h2]),if_neg h1,if_neg h2];exact⟨rfl,rfl,rfl⟩
set_option maxRecDepth 100000 in
set_option maxHeartbeats 8000000 in
theorem cmp_any {lo:Nat} (G:Nat) (C:Array Value) (zs ks:List Int) (f:Int) (r:ImR) (n:Nat) (w:World) (hG:w.heap[G]?=some (.cells C 38 (0,0))) (h:GL lo w C zs ks f false r) (hI:ImF zs f r n) (hn:0<n) (hle:ImLe r) (bz:Byte zs) (hk:ks.length≤1048576) :
  Calls Tryz.prog 14 #[.pointer (some ⟨G,0,none⟩)] w fun e w'=>∃ X,e=.returned (.agg X)∧RTQ w.heap.size w' X (cpC zs f r) (cpD zs f r).1 (cpD zs f r).2.1 ks (cpD zs f r).2.2.1 (cpD zs f r).2.2.2 (cpI zs f r)∧Below w.heap.size w w':=by
 have hv:=hI.v;have hz:zs.length≤1048576:=by have:=hv.2.2.1;have:=hv.1;omega
 have hz0:0<zs.length:=by have:=hv.2.1;omega
 obtain⟨m,hm,hcut⟩:=hI.cut;have HGL:=hid_ofV h;obtain⟨da,dc,ca,cc,ka,kc,aSD,nSD,cSD,aSU,nSU,cSU,aF,mF,cF,aD,nD,cD,aU,nU,cU,aT,cT,hC,_,_,_,⟨A1,A2,A3,A4,A5,A6,e1,e2,e3,e4,e5,e6⟩,_⟩:=h;have HCT:=hid_ofV (fun ww (b:Below w.heap.size w ww)=>ict_any aSD aSU aF aD aU aT nSD cSD nSU cSU mF cF nD cD nU cU r.n cT r.sD r.sU r.F r.D r.U r.T r.g r.t r.k r.nx r.ok ww e3 (by have:=hle.2.2.1;omega) (by have:=hle.2.1;omega) (A3.below b));have hcv:cutV r.ok nSU r.F mF r.k r.nx=cutI r:=by unfold cutI;rw[e2,e3,show mF*4/4=mF by omega]
 rw[hcv] at HCT;have HG:=hid_ofV hG;have HC:=hid_ofV hC;have HGl:Hid (G<w.heap.size):=(Array.getElem?_eq_some_iff.1 hG).1;have HF:=hid_ofV hI;have HH:Hid (zs.length≤1048576∧0<zs.length∧ks.length≤1048576∧Byte zs∧ImLe r∧0<n):=⟨hz,hz0,hk,bz,hle,hn⟩
 have HM:Hid (m≤n∧cutI r=r.t+m):=⟨hm,hcut⟩
 have HO0:Hid (OE w 40 zrR (w.alloc (.cells zrR 40))):=OE.start _ _ _;have HSI:Hid ((Tryz.prog.info? 36).map (·.size)=some 11):=by show _=_;kernel_rfl
 obtain⟨cut,hct⟩:∃ c,cutI r=c:=⟨_,rfl⟩
 rw[hct] at HCT;have HCU:=hid_ofV hct;clear hv hz hz0 hm hcut hC A1 A2 A3 A4 A5 A6 e1 e2 e3 e4 e5 e6 hcv hG hI hn hle bz hk hct;go_enter Tryz.func14,Tryz.ntmps14
 go_upto_region 1 with fail
 change Code.wp _ _ _ _ (w.alloc (.cells zrR 40));generalize w.alloc (.cells zrR 40)=w1 at *;have r1:w1.heap[G]?=some (.cells C 38 (0,0)):=by rw[HO0.out.below.block _ HGl.out];exact HG.out
 have HM1:Hid (w1.rangeAt G 5 [.bool r.ok,.int .u32 r.g,.int .u32 r.t,.slice aSD nSD cSD,.slice aSU nSU cSU,.slice aF mF cF,.slice aD nD cD,.slice aU nU cU,.int .i64 r.k,.slice aT r.n cT,.int .u32 r.nx]):=by rw[HC.out] at r1;exact mid_row r1 5 _ rfl
 clear r1;go_wp2_with (first
  |(refine wpList_load_mid rfl 36 (.tmp 7) rfl G 5 rfl [.bool r.ok,.int .u32 r.g,.int .u32 r.t,.slice aSD nSD cSD,.slice aSU nSU cSU,.slice aF mF cF,.slice aD nD cD,.slice aU nU cU,.int .i64 r.k,.slice aT r.n cT,.int .u32 r.nx] _ HM1.out Tryz.underlying36 rfl HSI.out ?_)
  |fail)
 refine(HCT.out w1 HO0.out.below).mono ?_;rintro e w2 ⟨rfl,b2⟩;have HO2:=hid_ofV (HO0.out.call b2);have HL2:Hid (w.heap.size<w2.heap.size):=HO2.out.lt;have r2:w2.heap[G]?=some (.cells C 38 (0,0)):=by rw[HO2.out.below.block _ HGl.out];exact HG.out
 have c7:w2.cell? ⟨G,7,none⟩=some (.int .u32 r.t):=by rw[cell_of_row w2 G 7 _ _ _ r2,HC.out];rfl
 have c6:w2.cell? ⟨G,6,none⟩=some (.int .u32 r.g):=by rw[cell_of_row w2 G 6 _ _ _ r2,HC.out];rfl
 have HR2:=hid_ofV r2;have HG2:=hid_ofV (HGL.out.below HO2.out.below);clear b2 r2 HO0 HCT HM1;by_cases h1:cut=r.t
 ·have hq:(cut == r.t)=true:=by simp[h1]
  have HE:Hid (cpC zs f r=9∧cpD zs f r=(zs,[],f,false)∧cpI zs f r=r):=⟨by unfold cpC;rw[if_pos (HCU.out.trans h1)],(cp_same (.inl (HCU.out.trans h1))).1,(cp_same (.inl (HCU.out.trans h1))).2⟩
  clear h1;go_wp2_with fail;refine(unt_any G C 9 zs ks f false r w2 HR2.out HG2.out HH.out.2.2.2.2.1 HH.out.1 HH.out.2.2.1).mono ?_;rintro e w3 ⟨X,rfl,hR,hb3⟩;have HRQ:=hid_ofV hR;have HO3:=hid_ofV (HO2.out.call hb3);have HXX:Hid ((Tryz.prog.info? 40).map (·.size)=some X.size∧zrR.size=X.size∧X.all (·.oneCell')=true):=⟨by rw[hR.row.1];exact Tryz.sizeR,by rw[hR.row.1];rfl,hR.row.2⟩
  clear hR hb3;go_wp2_with (first
   |(refine wpList_store_row rfl 40 (.tmp 2) (.tmp 20) rfl w.heap.size X rfl rfl 40 _ HO3.out.b0 HXX.out.1 HXX.out.2.1 HXX.out.2.2 ?_)
   |fail)
  (try simp only[Exit.inBlock,Exit.then])
  exact bodyPost_ret (v:=.agg X) (results_cell_row rfl _ _ w.heap.size 40 _ (0,0) _ rfl (setRow_heap _ _ _ _ _ _ HO3.out.b0) Tryz.underlying40 rfl HXX.out.1) rfl ⟨_,rfl,by rw[HE.out.1,HE.out.2.1,HE.out.2.2];exact HRQ.out.put HL2.out,HO3.out.below.trans ((Wr.setRow _ _ _).below (Nat.le_refl _))⟩
 have hq:(cut == r.t)=false:=by simp[h1]
 by_cases h2:r.g=4000000000
 ·have hq2:(r.g == 4000000000)=true:=by simp[h2]
  have HE:Hid (cpC zs f r=8∧cpD zs f r=(zs,[],f,false)∧cpI zs f r=r):=⟨by unfold cpC;rw[if_neg (by rw[HCU.out];exact h1),if_pos h2],(cp_same (.inr h2)).1,(cp_same (.inr h2)).2⟩
  clear h1 h2;go_wp2_with fail;refine(unt_any G C 8 zs ks f false r w2 HR2.out HG2.out HH.out.2.2.2.2.1 HH.out.1 HH.out.2.2.1).mono ?_;rintro e w3 ⟨X,rfl,hR,hb3⟩;have HRQ:=hid_ofV hR;have HO3:=hid_ofV (HO2.out.call hb3);have HXX:Hid ((Tryz.prog.info? 40).map (·.size)=some X.size∧zrR.size=X.size∧X.all (·.oneCell')=true):=⟨by rw[hR.row.1];exact Tryz.sizeR,by rw[hR.row.1];rfl,hR.row.2⟩
  clear hR hb3;go_wp2_with (first
   |(refine wpList_store_row rfl 40 (.tmp 2) (.tmp 30) rfl w.heap.size X rfl rfl 40 _ HO3.out.b0 HXX.out.1 HXX.out.2.1 HXX.out.2.2 ?_)
   |fail)
  (try simp only[Exit.inBlock,Exit.then])
  exact bodyPost_ret (v:=.agg X) (results_cell_row rfl _ _ w.heap.size 40 _ (0,0) _ rfl (setRow_heap _ _ _ _ _ _ HO3.out.b0) Tryz.underlying40 rfl HXX.out.1) rfl ⟨_,rfl,by rw[HE.out.1,HE.out.2.1,HE.out.2.2];exact HRQ.out.put HL2.out,HO3.out.below.trans ((Wr.setRow _ _ _).below (Nat.le_refl _))⟩
 have hq2:(r.g == 4000000000)=false:=by simp[h2]
 have HE:=hid_ofV (cp_else (zs:=zs) (f:=f) (by rw[HCU.out];exact h1) h2);have HSP:=hid_ofV (HF.out.snp h2);have HGG:Hid (0≤r.g∧r.g<4000000000∧1≤r.t∧cut=r.t+m∧cut≤4000000000):=by have:=HF.out.g0;have:=HF.out.t1;have:=HF.out.top;have:=HM.out;have:=HCU.out;show _∧_;omega
 have HAM:Hid (apK ⟨true,r.sD,r.sU,(r.sU.length:Int),[],0⟩ r.F m=cmA r):=by show _=_;unfold cmA;rw[HM.out.2,show(r.t+(m:Int)-r.t).toNat=m by omega]
 have HSU:=hid_ofV (sut_any G C zs ks f false r w2 HR2.out HG2.out HH.out.2.2.2.2.1 HF.out.st HF.out.fr ⟨HGG.out.1,HGG.out.2.1⟩ (by have:=HGG.out;omega) cut m HGG.out.2.2.2.1 (by have:=HGG.out;omega) (by rw[HF.out.len];have:=HM.out;omega) (by rw[HF.out.len];have:=HH.out;omega) (cmA r) HAM.out HSP.out.2);clear h1 h2 HAM;go_wp2_with fail;refine HSU.out.mono ?_;rintro e w3 ⟨v,rfl,⟨bD,mD,dD,bU,mU,dU,rfl,s3⟩,b3⟩;have b4:Below w3.heap.size w3 (w3.alloc (.cells #[.int .u32 (r.g+1),.int .u32 cut,.slice bD mD dD,.slice bU mU dU] 30)):=(Below.refl _ _).alloc (Nat.le_refl _) _;have b24:=b3.trans (b4.mono b3.size);have HO4:=hid_ofV (HO2.out.call b24);have HR4:Hid ((w3.alloc (.cells #[.int .u32 (r.g+1),.int .u32 cut,.slice bD mD dD,.slice bU mU dU] 30)).heap[G]?=some (.cells C 38 (0,0))∧(w3.alloc (.cells #[.int .u32 (r.g+1),.int .u32 cut,.slice bD mD dD,.slice bU mU dU] 30)).heap[w3.heap.size]?=some (.cells #[.int .u32 (r.g+1),.int .u32 cut,.slice bD mD dD,.slice bU mU dU] 30 (0,0))):=⟨by rw[b24.block _ (by have:=HGl.out;have:=HL2.out;omega)];exact HR2.out,heap_alloc_new w3 _⟩
 have HG4:=hid_ofV (HG2.out.below b24);have HS4:=hid_ofV (s3.below b4);have HZ4:Hid ((w3.alloc (.cells #[.int .u32 0,.int .u32 0,.slice none 0 0,.slice none 0 0] 30)).heap[w3.heap.size]?=some (.cells #[.int .u32 0,.int .u32 0,.slice none 0 0,.slice none 0 0] 30 (0,0))∧(Tryz.prog.info? 30).map (·.size)=some 4):=⟨heap_alloc_new w3 _,by kernel_rfl⟩
 have HL4:Hid (w.heap.size<(w3.alloc (.cells #[.int .u32 (r.g+1),.int .u32 cut,.slice bD mD dD,.slice bU mU dU] 30)).heap.size):=HO4.out.lt;have hmf:∀(fn:Fn) (first cap:Array Value) (w:World),(Instr.makeFunc fn first cap).run Tryz.prog w=.ok (.func fn first cap) w:=fun _ _ _ _=>rfl
 clear s3 b3 b4 b24 HSU HR2 HG2 HO2 HL2 c6 c7
 go_upto_region 7 with (first
  |(refine wpList_store_row rfl 30 (.tmp 4) (.tmp 35) rfl w3.heap.size #[.int .u32 (r.g+1),.int .u32 cut,.slice bD mD dD,.slice bU mU dU] rfl rfl 30 _ HZ4.out.1 HZ4.out.2 rfl (by simp[Value.oneCell']) ?_)
  |fail)
 rw[World.setRow_alloc_new];clear HZ4;generalize w3.alloc (.cells #[.int .u32 (r.g+1),.int .u32 cut,.slice bD mD dD,.slice bU mU dU] 30)=w4 at *;generalize w3.heap.size=Sb at *;have HO2:=HO4;have HL2:=HL4;have hlen:(cmL r).length=128:=END_len;have hby:Byte (cmL r):=snL_byte HSP.out.1 ⟨by have:=HGG.out;omega,by have:=HGG.out;omega⟩ (by rw[HCU.out];exact⟨by have:=HGG.out;omega,by have:=HGG.out;omega⟩);have hvb:=HF.out.v;have h64:zs.length=zs.length/64*64:=by have:=hvb.1;omega
 obtain⟨sN,hsN⟩:∃ s:Nat,(r.g+1)%2*2=(s:Int):=⟨((r.g+1)%2*2).toNat,by have:=Int.emod_nonneg (r.g+1) (show(2:Int)≠0 by decide);omega⟩
 have hs2:sN≤2:=by have:=Int.emod_lt_of_pos (r.g+1) (show(0:Int)<2 by decide);omega
 have hcm:cmT zs f r=cmO zs f sN ((cmL r).take 64) ((cmL r).drop 64):=by unfold cmT;rw[hsN];rfl
 have HAF:=hid_ofV (afs_any G Sb C #[.int .u32 (r.g+1),.int .u32 cut,.slice bD mD dD,.slice bU mU dU] 9 zs ks f r (cmT zs f r) w4 HR4.out.1 HG4.out HH.out.2.2.2.2.1 HH.out.1 HH.out.2.1 HH.out.2.2.1 HR4.out.2 rfl (by rw[hcm];exact cmO_nil) (by rw[hcm];exact cmO_len (by rw[List.length_take,hlen];rfl) (by rw[List.length_drop,hlen]) (by have:=hvb.2.1;omega)) (by rw[hcm];exact cmO_byte HH.out.2.2.2.1 (hby.take _) (hby.drop _))
  (fun D g gc B H X ww b hd hDg=>by
   rw[hcm];exact wsX D g zs.length gc B H sN X 38 (r.g+1) cut bD bU mD dD mU dU (cmA r).D (cmA r).U zs f ww hd hDg rfl HH.out.1 hvb.1 (by have:=hvb.2.1;omega) (.inr rfl) hvb.2.2.2.2.1 (by have:=hvb.2.2.2.2.2;omega) HS4.out.nd HS4.out.nu (by rw[←HS4.out.nd];have:=HSP.out.1.2.2.2.2.1;omega) (by rw[←HS4.out.nu];have:=HSP.out.1.2.2.2.2.2.le;omega) (HS4.out.d.at_.below b) (HS4.out.u.at_.below b) ⟨by have:=HGG.out;omega,by have:=HGG.out;omega⟩ ⟨by have:=HGG.out;omega,by have:=HGG.out;omega⟩ (by rw[←HCU.out];exact HSP.out.1) hsN _ _ (by rw[←HCU.out];rfl) (by rw[←HCU.out];rfl)))
 clear hlen hby hvb h64 hsN hs2 hcm HR4 HG4 HS4 HSP HO4 HL4;go_wp2_with fail;refine(HAF.out).mono ?_;rintro e w3 ⟨X,rfl,hR,hb3⟩;have HRQ:=hid_ofV hR;have HO3:=hid_ofV (HO2.out.call hb3);have HXX:Hid ((Tryz.prog.info? 40).map (·.size)=some X.size∧zrR.size=X.size∧X.all (·.oneCell')=true):=⟨by rw[hR.row.1];exact Tryz.sizeR,by rw[hR.row.1];rfl,hR.row.2⟩
 clear hR hb3;go_wp2_with (first
  |(refine wpList_store_row rfl 40 (.tmp 2) (.tmp 38) rfl w.heap.size X rfl rfl 40 _ HO3.out.b0 HXX.out.1 HXX.out.2.1 HXX.out.2.2 ?_)
  |fail)
 (try simp only[Exit.inBlock,Exit.then])
 exact bodyPost_ret (v:=.agg X) (results_cell_row rfl _ _ w.heap.size 40 _ (0,0) _ rfl (setRow_heap _ _ _ _ _ _ HO3.out.b0) Tryz.underlying40 rfl HXX.out.1) rfl ⟨_,rfl,by rw[HE.out.1,HE.out.2.1,HE.out.2.2];exact HRQ.out.put HL2.out,HO3.out.below.trans ((Wr.setRow _ _ _).below (Nat.le_refl _))⟩
structure RO where
 c:Int
 z:List Int
 p:List PD
 k:List Int
 f:Int
 d:Bool
 r:ImR
def roNo (c:Int):RO:=⟨c,[],[],[],0,false,imNo⟩
open Classical in
noncomputable def rcY (zs ks:List Int) (f:Int) (r:ImR):RO:=if zs.length/64-4<2*(r.F.length/4) then ⟨if cpC zs f r=11 then 11 else 9,(cpD zs f r).1,(cpD zs f r).2.1,ks,(cpD zs f r).2.2.1,(cpD zs f r).2.2.2,cpI zs f r⟩ else ⟨9,zs,[],ks,f,false,r⟩
open Classical in
noncomputable def rcO (zs:List Int) (ps:List PD) (f:Int) (d:Bool) (ks:List Int):RO:=if(validB zs.length ps f=true∧d=false∧ps=[])∧ks.length=32 then(if(imG zs [] f).ok=true then rcY zs ks f (imG zs [] f) else roNo 12) else roNo 10
structure RX (w:World) (D:Array Value) (wr:World):Prop where
 below:Below w.heap.size w wr
 b0:wr.heap[w.heap.size]?=some (.cells D 27 (0,0))
 b1:wr.heap[w.heap.size+1]?=some (.cells zrR 40 (0,0))
theorem RX.start (w:World) (D:Array Value):RX w D ((w.alloc (.cells D 27)).alloc (.cells zrR 40)):=by
 have h:=BG2.start w 27 40 D zrR;exact⟨h.below,h.b0,h.b1⟩
theorem RX.lt {w wr:World} {D:Array Value} (h:RX w D wr):w.heap.size+1<wr.heap.size:=(Array.getElem?_eq_some_iff.1 h.b1).1
theorem RX.drew {w wr:World} {D:Array Value} (h:RX w D wr):RX w D wr.drew:=⟨⟨h.below.os,h.below.tape,h.below.output,h.below.size,h.below.block⟩,h.b0,h.b1⟩
theorem RX.call {w wr w':World} {D:Array Value} (h:RX w D wr) (b:Below wr.heap.size wr w'):RX w D w':=by
 have:=h.lt;exact⟨h.below.trans (b.mono h.below.size),by rw[b.block _ (by omega)];exact h.b0,by rw[b.block _ (by omega)];exact h.b1⟩
set_option maxRecDepth 100000 in
set_option maxHeartbeats 8000000 in
theorem irc_yes (a x:Option Addr) (c cx:Nat) (zs:List Int) (f:Int) (ka:Option Addr) (kc:Nat) (ks:List Int) (r:ImR) (w:World) (h:DAt w (.agg #[.slice a zs.length c,.slice x 0 cx,.int .i64 f,.bool false]) zs [] f false) (hka:At .u8 w ka ks) (hv:validB zs.length [] f=true) (hk:ks.length=32) (hr:imG zs [] f=r) (bz:Byte zs) (R:RO) (hR:(if r.ok=true then rcY zs ks f r else roNo 12)=R) :
  Calls Tryz.prog 7 #[.agg #[.slice a zs.length c,.slice x 0 cx,.int .i64 f,.bool false],.slice ka ks.length kc] w fun e w'=>∃ X,e=.returned (.agg X)∧RTQ w.heap.size w' X R.c R.z R.p R.k R.f R.d R.r∧Below w.heap.size w w':=by
 have hvb:=(validB_of hv).1;have hz:zs.length≤1048576:=by have:=hvb.2.2.1;have:=hvb.1;omega
 have HX0:Hid (RX w #[.slice a zs.length c,.slice x 0 cx,.int .i64 f,.bool false] ((w.alloc (.cells #[.slice a zs.length c,.slice x 0 cx,.int .i64 f,.bool false] 27)).alloc (.cells zrR 40))):=RX.start _ _;have HAR:=hid_ofV (fun ww (b:Below w.heap.size w ww) hg x0 x1 x2 x3=>rest_any w.heap.size 0 a x zs.length c 0 cx f false zs [] ww hg x0 x1 x2 x3 (h.below b) rfl rfl hz (by omega) (by simp));rw[hv] at HAR;have HGT:=hid_ofV (fun ww (b:Below w.heap.size w ww)=>igt_any (.agg #[.slice a zs.length c,.slice x 0 cx,.int .i64 f,.bool false]) zs ks f false r ka kc ww (h.below b) (hka.below b) hr bz hz (by omega));have HH:Hid (zs.length≤1048576∧ks.length≤1048576∧Byte zs):=⟨hz,by omega,bz⟩
 have HLE:Hid (ImLe r):=by rw[←hr];exact imG_bd bz (by simp[Byte])
 have HIM:=hid_ofV (fun ho=>imF_of hr ho bz);have HVB:=hid_ofV hvb;have HDV:Hid (DAt w (.agg #[.slice a zs.length c,.slice x 0 cx,.int .i64 f,.bool false]) zs [] f false∧validB zs.length [] f=true):=⟨h,hv⟩
 have HRR:=hid_ofV hR;have hk':(ks.length:Int)=32:=by omega
 have HSD:Hid ((Tryz.prog.info? 27).map (·.size)=some 4):=by show _=_;kernel_rfl
 clear h hka hz hv hr bz hvb hR hk;go_enter Tryz.func7,Tryz.ntmps7
 go_upto_region 1 with fail
 change Code.wp _ _ _ _ ((w.alloc (.cells #[.slice a zs.length c,.slice x 0 cx,.int .i64 f,.bool false] 27)).alloc (.cells zrR 40));generalize ((w.alloc (.cells #[.slice a zs.length c,.slice x 0 cx,.int .i64 f,.bool false] 27)).alloc (.cells zrR 40))=w1 at *;have HA:=hid_ofV (HAR.out w1 HX0.out.below (by have:=HX0.out.lt;omega) (by rw[cell_of_row _ _ _ _ _ _ HX0.out.b0];rfl) (by rw[cell_of_row _ _ _ _ _ _ HX0.out.b0];rfl) (by rw[cell_of_row _ _ _ _ _ _ HX0.out.b0];rfl) (by rw[cell_of_row _ _ _ _ _ _ HX0.out.b0];rfl));clear HAR;go_wp2_with fail;refine HA.out.mono ?_;rintro e w2 ⟨rfl,b2⟩;have HX2:=hid_ofV (HX0.out.call b2);clear b2 HX0 HA;go_wp2_with (first
  |(refine wpList_load_row rfl 27 (.tmp 2) rfl w.heap.size rfl 27 #[.slice a zs.length c,.slice x 0 cx,.int .i64 f,.bool false] (0,0) _ HX2.out.b0 Tryz.underlying27 rfl HSD.out ?_)
  |fail)
 refine(HGT.out w2 HX2.out.below).mono ?_;rintro e w3 ⟨C4,rfl,g3,b3⟩;have b4:Below w3.heap.size w3 (w3.alloc (.cells C4 38)):=(Below.refl _ _).alloc (Nat.le_refl _) _;have HX4:=hid_ofV ((HX2.out.call b3).call b4);have hl2:=HX2.out.lt;have hs3:=b3.size;obtain⟨lo,hlo⟩:∃ lo,w2.heap.size=lo:=⟨_,rfl⟩
 rw[hlo] at g3 hl2 hs3;have HW4:Hid ((w3.alloc (.cells C4 38)).heap[w3.heap.size]?=some (.cells C4 38 (0,0))∧GP lo (w3.alloc (.cells C4 38)) C4 zs ks f false r):=⟨heap_alloc_new w3 _,g3.below b4⟩
 have HLT:Hid (w.heap.size+1<lo∧lo≤w3.heap.size∧w3.heap.size<(w3.alloc (.cells C4 38)).heap.size):=⟨hl2,hs3,by simp⟩
 have HZ4:Hid ((w3.alloc (.cells #[.slice none 0 0,.slice none 0 0,.int .i64 0,.bool false,.slice none 0 0,.bool false,.int .u32 0,.int .u32 0,.slice none 0 0,.slice none 0 0,.slice none 0 0,.slice none 0 0,.slice none 0 0,.int .i64 0,.slice none 0 0,.int .u32 0] 38)).heap[w3.heap.size]?=some (.cells #[.slice none 0 0,.slice none 0 0,.int .i64 0,.bool false,.slice none 0 0,.bool false,.int .u32 0,.int .u32 0,.slice none 0 0,.slice none 0 0,.slice none 0 0,.slice none 0 0,.slice none 0 0,.int .i64 0,.slice none 0 0,.int .u32 0] 38 (0,0))∧(Tryz.prog.info? 38).map (·.size)=some C4.size∧(#[.slice none 0 0,.slice none 0 0,.int .i64 0,.bool false,.slice none 0 0,.bool false,.int .u32 0,.int .u32 0,.slice none 0 0,.slice none 0 0,.slice none 0 0,.slice none 0 0,.slice none 0 0,.int .i64 0,.slice none 0 0,.int .u32 0]:Array Value).size=C4.size∧C4.all (·.oneCell')=true):=⟨heap_alloc_new w3 _,by rw[g3.gl.row.1];exact Tryz.sizeG,by rw[g3.gl.row.1];rfl,g3.gl.row.2⟩
 obtain⟨da,dc,ca,cc,kb,kd,aSD,nSD,cSD,aSU,nSU,cSU,aF,mF,cF,aD,nD,cD,aU,nU,cU,aT,cT,hC,_,_,_,⟨_,_,_,_,_,_,_,_,e3,_⟩,_⟩:=g3;have HCL:=hid_ofV hC;have HMl:=hid_ofV e3;clear hlo hl2 hs3 b3 b4 hC e3 HX2 HGT
 go_upto_region 4 with (first
  |(refine wpList_store_row rfl 38 (.tmp 5) (.tmp 17) rfl w3.heap.size C4 rfl rfl 38 _ HZ4.out.1 HZ4.out.2.1 HZ4.out.2.2.1 HZ4.out.2.2.2 ?_)
  |fail)
 rw[World.setRow_alloc_new];clear HZ4;generalize w3.alloc (.cells C4 38)=w4 at *;generalize w3.heap.size=A at *;have k5:w4.cell? ⟨A,5,none⟩=some (.bool r.ok):=by rw[cell_of_row w4 A 5 _ _ _ HW4.out.1,HCL.out];rfl
 cases hok:r.ok with
 |false=>
  rw[hok] at k5;have HO:Hid (R=roNo 12):=by show _=_;rw[←HRR.out,hok];rfl
  clear HIM;go_wp2_with (first
   |(refine wpList_store_row rfl 40 (.tmp 4) (.tmp 22) rfl (w.heap.size+1) #[.int .i64 12,.slice none 0 0,.slice none 0 0,.int .i64 0,.bool false,.slice none 0 0,.bool false,.int .u32 0,.int .u32 0,.slice none 0 0,.slice none 0 0,.slice none 0 0,.slice none 0 0,.slice none 0 0,.int .i64 0,.slice none 0 0,.int .u32 0] rfl rfl 40 _ HX4.out.b1 Tryz.sizeR rfl (by simp[Value.oneCell']) ?_)
   |fail)
  (try simp only[Exit.inBlock,Exit.then])
  exact bodyPost_ret (v:=.agg #[.int .i64 12,.slice none 0 0,.slice none 0 0,.int .i64 0,.bool false,.slice none 0 0,.bool false,.int .u32 0,.int .u32 0,.slice none 0 0,.slice none 0 0,.slice none 0 0,.slice none 0 0,.slice none 0 0,.int .i64 0,.slice none 0 0,.int .u32 0]) (results_cell_row rfl _ _ (w.heap.size+1) 40 _ (0,0) _ rfl (setRow_heap _ _ _ _ _ _ HX4.out.b1) Tryz.underlying40 rfl Tryz.sizeR) rfl ⟨_,rfl,by rw[HO.out];exact⟨#[.slice none 0 0,.slice none 0 0,.int .i64 0,.bool false,.slice none 0 0,.bool false,.int .u32 0,.int .u32 0,.slice none 0 0,.slice none 0 0,.slice none 0 0,.slice none 0 0,.slice none 0 0,.int .i64 0,.slice none 0 0,.int .u32 0],rfl,(GP.no _ _).gq (by rw[size_setRow];exact HX4.out.below.size)⟩,HX4.out.below.trans ((Wr.setRow _ _ _).below (by omega))⟩
 |true=>
  rw[hok] at k5;obtain⟨n,hn⟩:=HIM.out hok;have HIF:=hid_ofV hn;have HRO:Hid (R=rcY zs ks f r):=by show _=_;rw[←HRR.out,hok];rfl
  obtain⟨J,hJ⟩:∃ J:Int,((zs.length/64-4:Nat):Int)=J:=⟨_,rfl⟩
  have HMF:Hid (mF=n∧n≤252∧0≤J∧J≤252∧r.F.length/4=n∧((zs.length/64-4:Nat):Int)=J):=by
   have h1:=hn.len;have h2:=HMl.out;have h3:=hn.nJ;have h4:=HVB.out.2.2.1;refine⟨by omega,by omega,by omega,by omega,by omega,hJ⟩
  have HC4:Hid (w4.cell? ⟨A,10,none⟩=some (.slice aF mF cF)):=by show _=_;rw[cell_of_row w4 A 10 _ _ _ HW4.out.1,HCL.out];rfl
  have HJS:Hid (∀ ww,ww=w4.drew→Calls Tryz.prog 17 #[.pointer (some ⟨w.heap.size,0,none⟩)] ww fun e w'=>e=.returned (.int .u32 J)∧w'=ww):=fun ww e=>by
   obtain⟨da',dc',ca',cc',ed,q1,q2,q3⟩:=HDV.out.1;simp only[Value.agg.injEq,Array.mk.injEq,List.cons.injEq,Value.slice.injEq] at ed;rw[←hJ];subst e;have b5:Below w.heap.size w w4.drew:=⟨HX4.out.below.os,HX4.out.below.tape,HX4.out.below.output,HX4.out.below.size,HX4.out.below.block⟩
   exact jsec_any (a:=a) (x:=x) (c:=c) (m:=0) (cx:=cx) (f:=f) (d:=false) (zs:=zs) (ps:=[]) ⟨HX4.out.b0,by rw[ed.1.1];exact q1.below b5,.inl rfl⟩ ⟨rfl,rfl,HDV.out.2,by rw[ed.1.2.2];exact q3,HH.out.2.2,by simp[Byte]⟩
  clear hJ hn hok HIM HCL HMl;clear HRR;go_wp2_with fail;refine wp_region_any (by kernel_rfl) ?_;refine wpAny_slotsU (fun _ _ _=>True) (frame:=(fun (a b c d e f g h i j k l m n o p q r s u v w x y z A B C D E F G:Value)=>fun (t:Nat→Value)=>({ tmps:=List.toArray [a,b,c,d,e,f,g,h,i,j,k,l,m,n,o,p,q,r,s,u,v,w,x,t 0,t 1,t 2,t 3,t 4,t 5,t 6,t 7,y,z,A,B,C,D,E,F,G],defers:=[] }:Act)) _ _ _ _ _ _ _ _ _ _ _ _ _ _ _ _ _ _ _ _ _ _ _ _ _ _ _ _ _ _ _ _)
   (Ext:=fun L u w'=>w'=w4.drew) (Good:=fun i L w' v=>if i=0 then v=.pointer (some ⟨A,5,none⟩) else if i=1 then v=.pointer (some ⟨A,10,none⟩) else if i=2 then v=.slice aF mF cF else if i=3 then v=.int .i64 mF else if i=4 then v=.int .i64 (2*(mF:Int)) else if i=5 then v=.int .u32 J else if i=6 then v=.int .i64 J else if i=7 then v=.bool (decide (J<2*(mF:Int))) else True) ?hstab (by kernel_rfl) ?hop ?hdone _ _ ((fun (x0 x1 x2 x3 x4 x5 x6 x7:Value)=>fun (i:Nat)=>if i=0 then x0 else if i=1 then x1 else if i=2 then x2 else if i=3 then x3 else if i=4 then x4 else if i=5 then x5 else if i=6 then x6 else if i=7 then x7 else undef) _ _ _ _ _ _ _ _) _ (by simp) rfl ?start (by simp)
  case start=>intro i hi h;exact absurd h (by rw[Array.getD_eq_getD_getElem?,Array.getElem?_replicate];split<;>simp)
  case hstab=>intro j L w9 w' i v hM hij hLi h;exact h
  case hop=>
   intro i o L t w' ho hLi hx hdep K hK;have hi:i<8:=(Array.getElem?_eq_some_iff.1 ho).1;obtain rfl|rfl|rfl|rfl|rfl|rfl|rfl|rfl:i=0∨i=1∨i=2∨i=3∨i=4∨i=5∨i=6∨i=7:=by omega
   all_goals(simp at ho;subst ho)
   ·clear hdep;have hK':=hK w' (.pointer (some ⟨A,5,none⟩)) (by simp) hx trivial;clear hK hx;rw[if_pos (by rfl)];go_simp;simpa[upd] using hK'
   ·have d0:t 0=.pointer (some ⟨A,5,none⟩):=by simpa using(hdep ⟨0,.data⟩ (by simp) rfl).2
    clear hdep;have hK':=hK w' (.pointer (some ⟨A,10,none⟩)) (by simp) hx trivial;clear hK hx;rw[if_pos (by rfl)];go_simp;simpa[upd,d0] using hK'
   ·have d1:t 1=.pointer (some ⟨A,10,none⟩):=by simpa using(hdep ⟨1,.data⟩ (by simp) rfl).2
    clear hdep;have k10:w'.cell? ⟨A,10,none⟩=some (.slice aF mF cF):=by rw[hx];exact HC4.out
    have hK':=hK w' (.slice aF mF cF) (by simp) hx trivial;clear hK hx;rw[if_pos (by rfl)];go_simp;simpa[upd,d1] using hK'
   ·have d2:t 2=.slice aF mF cF:=by simpa using(hdep ⟨2,.data⟩ (by simp) rfl).2
    clear hdep;have hK':=hK w' (.int .i64 mF) (by simp) hx trivial;clear hK hx;rw[if_pos (by rfl)];go_simp;simpa[upd,d2] using hK'
   ·have d3:t 3=.int .i64 mF:=by simpa using(hdep ⟨3,.data⟩ (by simp) rfl).2
    clear hdep;have hw9:IntKind.i64.wrap (2*(mF:Int))=2*(mF:Int):=by rw[IntKind.wrap_i64];have:=HMF.out;omega
    have hK':=hK w' (.int .i64 (2*(mF:Int))) (by simp) hx trivial;clear hK hx;rw[if_pos (by rfl)];go_simp;simpa[upd,d3] using hK'
   ·clear hdep;have A:=HJS.out w' hx;have hK':=hK w' (.int .u32 J) (by simp) hx trivial;clear hK hx;rw[if_pos (by rfl)];go_simp;try simp only[]
    refine A.mono ?_;rintro e w9 ⟨rfl,h9⟩;subst h9;clear A;go_simp;simpa[upd] using hK'
   ·have d5:t 5=.int .u32 J:=by simpa using(hdep ⟨5,.data⟩ (by simp) rfl).2
    clear hdep;have hw9:IntKind.i64.wrap J=J:=by rw[IntKind.wrap_i64];have:=HMF.out;omega
    have hK':=hK w' (.int .i64 J) (by simp) hx trivial;clear hK hx;rw[if_pos (by rfl)];go_simp;simpa[upd,d5] using hK'
   ·have d4:t 4=.int .i64 (2*(mF:Int)):=by simpa using(hdep ⟨4,.data⟩ (by simp) rfl).2
    have d6:t 6=.int .i64 J:=by simpa using(hdep ⟨6,.data⟩ (by simp) rfl).2
    clear hdep;have hK':=hK w' (.bool (decide (J<2*(mF:Int)))) (by simp) hx trivial;clear hK hx;rw[if_pos (by rfl)];go_simp;simpa[upd,d4,d6] using hK'
  case hdone=>
   intro L t w5 hx hg;have d7:t 7=.bool (decide (J<2*(mF:Int))):=by simpa using hg 7 (by decide)
   clear hg;subst hx;have HW5:Hid (w4.drew.heap[A]?=some (.cells C4 38 (0,0))∧GP lo w4.drew C4 zs ks f false r∧RX w #[.slice a zs.length c,.slice x 0 cx,.int .i64 f,.bool false] w4.drew):=⟨HW4.out.1,HW4.out.2.below ⟨rfl,rfl,rfl,Nat.le_refl _,fun _ _=>rfl⟩,HX4.out.drew⟩
   dsimp only;rw[d7];clear d7;by_cases hJ:J<2*(mF:Int)
   ·have hq:decide (J<2*(mF:Int))=true:=by simpa using hJ
    rw[hq];clear hq;have HO:Hid (R=⟨if cpC zs f r=11 then 11 else 9,(cpD zs f r).1,(cpD zs f r).2.1,ks,(cpD zs f r).2.2.1,(cpD zs f r).2.2.2,cpI zs f r⟩):=by show _=_;rw[HRO.out];unfold rcY;rw[if_pos (by have:=HMF.out;omega)]
    have HCM:=hid_ofV (cmp_any A C4 zs ks f r n w4.drew HW5.out.1 HW5.out.2.1.gl HIF.out (by have:=HIF.out.len;have:=HMF.out;omega) HLE.out HH.out.2.2 HH.out.2.1);clear hJ HC4 HJS;go_wp2_with fail;refine HCM.out.mono ?_;rintro e w6 ⟨X,rfl,hR,b6⟩;have HX6:=hid_ofV (HW5.out.2.2.call b6);have b7:Below w6.heap.size w6 (w6.alloc (.cells X 40)):=(Below.refl _ _).alloc (Nat.le_refl _) _;have HX7:=hid_ofV (HX6.out.call b7);have HR7:=hid_ofV (hR.below b7);have HA7:Hid ((w6.alloc (.cells X 40)).heap[A]?=some (.cells C4 38 (0,0))∧(w6.alloc (.cells X 40)).heap[w6.heap.size]?=some (.cells X 40 (0,0))):=⟨by rw[b7.block _ (by have:=HLT.out;have:=b6.size;exact Nat.lt_of_lt_of_le HLT.out.2.2 (by exact this)),b6.block _ HLT.out.2.2];exact HW5.out.1,heap_alloc_new w6 _⟩
    have HXX:Hid ((Tryz.prog.info? 40).map (·.size)=some X.size∧zrR.size=X.size∧X.all (·.oneCell')=true):=⟨by rw[hR.row.1];exact Tryz.sizeR,by rw[hR.row.1];rfl,hR.row.2⟩
    have HZ6:Hid ((w6.alloc (.cells zrR 40)).heap[w6.heap.size]?=some (.cells zrR 40 (0,0))):=heap_alloc_new w6 _;have HS6:Hid (w4.heap.size≤w6.heap.size):=b6.size;clear hR b6 b7 HCM HX6
    go_upto_region 8 with (first
     |(refine wpList_store_row rfl 40 (.tmp 6) (.tmp 31) rfl w6.heap.size X rfl rfl 40 _ HZ6.out HXX.out.1 HXX.out.2.1 HXX.out.2.2 ?_)
     |fail)
    rw[World.setRow_alloc_new];clear HZ6;generalize w6.alloc (.cells X 40)=w7 at *;generalize w6.heap.size=T6 at *;obtain⟨cp,hcp⟩:∃ cp,cpC zs f r=cp:=⟨_,rfl⟩
    obtain⟨o,ho⟩:∃ o,cpD zs f r=o:=⟨_,rfl⟩
    obtain⟨q,hq9⟩:∃ q,cpI zs f r=q:=⟨_,rfl⟩
    rw[hcp,ho,hq9] at HO HR7;clear hcp ho hq9;obtain⟨C6,hX6,g6⟩:=HR7.out;have k0:w7.cell? ⟨T6,0,none⟩=some (.int .i64 cp):=by rw[cell_of_row w7 T6 0 _ _ _ HA7.out.2,hX6,Array.getElem?_append_left (show 0<(#[Value.int .i64 cp]:Array Value).size from Nat.one_pos)];rfl
    have HG6:=hid_ofV (And.intro hX6 g6);clear hX6 g6;by_cases hc:cp=11
    ·subst hc;rw[if_pos rfl] at HO;go_wp2_with (first
      |(refine wpList_load_row rfl 40 (.tmp 6) rfl T6 rfl 40 X (0,0) _ HA7.out.2 Tryz.underlying40 rfl HXX.out.1 ?_)
      |(refine wpList_store_row rfl 40 (.tmp 4) (.tmp 35) rfl (w.heap.size+1) X rfl rfl 40 _ HX7.out.b1 HXX.out.1 HXX.out.2.1 HXX.out.2.2 ?_)
      |fail)
     (try simp only[Exit.inBlock,Exit.then])
     exact bodyPost_ret (v:=.agg X) (results_cell_row rfl _ _ (w.heap.size+1) 40 _ (0,0) _ rfl (setRow_heap _ _ _ _ _ _ HX7.out.b1) Tryz.underlying40 rfl HXX.out.1) rfl ⟨_,rfl,by rw[HO.out];exact(HR7.out.put (show w.heap.size+1<w4.heap.size by have:=HLT.out;omega)).mono (by omega),HX7.out.below.trans ((Wr.setRow _ _ _).below (by omega))⟩
    ·have hc':(cp == 11)=false:=by simp[hc]
     rw[if_neg hc] at HO;clear hc;have HRG:Hid (w7.rangeAt T6 1 C6.toList):=by
      have h7:=HA7.out.2;rw[HG6.out.1] at h7;exact mid_row h7 1 _ (by rw[Array.toList_append];exact List.take_length)
     have HSC:Hid ((Tryz.prog.info? 38).map (·.size)=some C6.toList.length∧(Tryz.prog.info? 38).map (·.size)=some C6.size∧C4.size=C6.size∧C6.all (·.oneCell')=true):=⟨by rw[Array.length_toList,HG6.out.2.row.1];exact Tryz.sizeG,by rw[HG6.out.2.row.1];exact Tryz.sizeG,by rw[HG6.out.2.row.1];exact HW5.out.2.1.gl.row.1,HG6.out.2.row.2⟩
     have hw8:=Wr.setRow A w7 C6;have hlt:=HLT.out;have g8:GTQ lo (w7.setRow A C6) C6 o.1 o.2.1 ks o.2.2.1 o.2.2.2 q:=(HG6.out.2.keep (Nat.le_of_eq hw8.size.symm) (fun k hk _=>hw8.block k (by have:w4.heap.size≤k:=hk;omega))).mono (show lo≤w4.heap.size by omega);obtain⟨X9,hX9,hQ9⟩:=rtq_of (c:=9) g8;have HQ9:=hid_ofV hQ9;have HX9:Hid (#[.int .i64 9]++C6=X9∧(Tryz.prog.info? 40).map (·.size)=some X9.size∧zrR.size=X9.size∧X9.all (·.oneCell')=true∧C6.size=16):=⟨hX9,by rw[hQ9.row.1];exact Tryz.sizeR,by rw[hQ9.row.1];rfl,hQ9.row.2,g8.row.1⟩
     have HR9:Hid ((w7.setRow A C6).heap[w.heap.size+1]?=some (.cells zrR 40 (0,0))):=by show _=_;rw[hw8.block _ (by omega)];exact HX7.out.b1
     have HB9:Hid (Below w.heap.size w (w7.setRow A C6)):=HX7.out.below.trans (hw8.below (by omega));have HA8:Hid ((w7.setRow A C6).heap[A]?=some (.cells C6 38 (0,0))):=setRow_heap _ _ _ _ _ _ HA7.out.1;clear hw8 hlt g8 hX9 hQ9 HX7 HR7 HXX HG6
     go_upto_region 11 with (first
      |(refine wpList_load_mid rfl 38 (.tmp 36) rfl T6 1 rfl C6.toList _ HRG.out Tryz.underlying38 rfl HSC.out.1 ?_)
      |(refine wpList_store_row rfl 38 (.tmp 5) (.tmp 37) rfl A C6 rfl rfl 38 _ HA7.out.1 HSC.out.2.1 HSC.out.2.2.1 HSC.out.2.2.2 ?_)
      |fail)
     generalize w7.setRow A C6=w8 at *;go_wp2_with (first
      |(refine wpList_load_row rfl 38 (.tmp 5) rfl A rfl 38 C6 (0,0) _ HA8.out Tryz.underlying38 rfl HSC.out.2.1 ?_)
      |(refine wpList_bR rfl _ (.tmp 38) rfl 9 C6 rfl rfl HX9.out.2.2.2.2 ?_;rw[HX9.out.1])
      |(refine wpList_store_row rfl 40 (.tmp 4) (.tmp 39) rfl (w.heap.size+1) X9 rfl rfl 40 _ HR9.out HX9.out.2.1 HX9.out.2.2.1 HX9.out.2.2.2.1 ?_)
      |fail)
     (try simp only[Exit.inBlock,Exit.then])
     exact bodyPost_ret (v:=.agg X9) (results_cell_row rfl _ _ (w.heap.size+1) 40 _ (0,0) _ rfl (setRow_heap _ _ _ _ _ _ HR9.out) Tryz.underlying40 rfl HX9.out.2.1) rfl ⟨_,rfl,by rw[HO.out];exact(HQ9.out.put HLT.out.1).mono (by omega),HB9.out.trans ((Wr.setRow _ _ _).below (by omega))⟩
   ·have hq:decide (J<2*(mF:Int))=false:=by simpa using hJ
    rw[hq];clear hq;have HO:Hid (R=⟨9,zs,[],ks,f,false,r⟩):=by show _=_;rw[HRO.out];unfold rcY;rw[if_neg (by have:=HMF.out;omega)]
    obtain⟨X9,hX9,hQ9⟩:=rtq_of (c:=9) (HW5.out.2.1.gq (by show lo≤w4.heap.size;have:=HLT.out;omega));have HQ9:=hid_ofV hQ9;have HX9:Hid (#[.int .i64 9]++C4=X9∧(Tryz.prog.info? 40).map (·.size)=some X9.size∧zrR.size=X9.size∧X9.all (·.oneCell')=true∧C4.size=16):=⟨hX9,by rw[hQ9.row.1];exact Tryz.sizeR,by rw[hQ9.row.1];rfl,hQ9.row.2,HW5.out.2.1.gl.row.1⟩
    have HR9:=hid_ofV HW5.out.2.2.b1;have HB9:=hid_ofV HW5.out.2.2.below;have HSC:Hid ((Tryz.prog.info? 38).map (·.size)=some C4.size):=by show _=_;rw[HW5.out.2.1.gl.row.1];exact Tryz.sizeG
    clear hJ hX9 hQ9 HC4 HJS;go_wp2_with (first
     |(refine wpList_load_row rfl 38 (.tmp 5) rfl A rfl 38 C4 (0,0) _ HW5.out.1 Tryz.underlying38 rfl HSC.out ?_)
     |(refine wpList_bR rfl _ (.tmp 38) rfl 9 C4 rfl rfl HX9.out.2.2.2.2 ?_;rw[HX9.out.1])
     |(refine wpList_store_row rfl 40 (.tmp 4) (.tmp 39) rfl (w.heap.size+1) X9 rfl rfl 40 _ HR9.out HX9.out.2.1 HX9.out.2.2.1 HX9.out.2.2.2.1 ?_)
     |fail)
    (try simp only[Exit.inBlock,Exit.then])
    exact bodyPost_ret (v:=.agg X9) (results_cell_row rfl _ _ (w.heap.size+1) 40 _ (0,0) _ rfl (setRow_heap _ _ _ _ _ _ HR9.out) Tryz.underlying40 rfl HX9.out.2.1) rfl ⟨_,rfl,by rw[HO.out];exact(HQ9.out.put HLT.out.1).mono (by omega),HB9.out.trans ((Wr.setRow _ _ _).below (by omega))⟩
set_option maxRecDepth 100000 in
set_option maxHeartbeats 8000000 in
theorem irc_any (a x:Option Addr) (c cx:Nat) (zs:List Int) (ps:List PD) (f:Int) (d:Bool) (ka:Option Addr) (kc:Nat) (ks:List Int) (w:World) (h:DAt w (.agg #[.slice a zs.length c,.slice x ps.length cx,.int .i64 f,.bool d]) zs ps f d) (hka:At .u8 w ka ks) (hz:zs.length≤1048576) (hm:ps.length≤1048576) (hps:∀ i,(ps.getD i (0,[])).2.length≤1048576) (bz:Byte zs) (hk:ks.length≤1048576) :
  Calls Tryz.prog 7 #[.agg #[.slice a zs.length c,.slice x ps.length cx,.int .i64 f,.bool d],.slice ka ks.length kc] w fun e w'=>∃ X,e=.returned (.agg X)∧RTQ w.heap.size w' X (rcO zs ps f d ks).c (rcO zs ps f d ks).z (rcO zs ps f d ks).p (rcO zs ps f d ks).k (rcO zs ps f d ks).f (rcO zs ps f d ks).d (rcO zs ps f d ks).r∧Below w.heap.size w w':=by
 by_cases hc:(validB zs.length ps f=true∧d=false∧ps=[])∧ks.length=32
 ·obtain⟨⟨h1,rfl,rfl⟩,h4⟩:=hc;exact irc_yes a x c cx zs f ka kc ks _ w h hka h1 h4 rfl bz _ (by unfold rcO;exact(if_pos ⟨⟨h1,rfl,rfl⟩,h4⟩).symm)
 have HO:Hid (rcO zs ps f d ks=roNo 10):=by show _=_;unfold rcO;rw[if_neg hc]
 have HNC:=hid_ofV hc;clear hc;have HX0:Hid (RX w #[.slice a zs.length c,.slice x ps.length cx,.int .i64 f,.bool d] ((w.alloc (.cells #[.slice a zs.length c,.slice x ps.length cx,.int .i64 f,.bool d] 27)).alloc (.cells zrR 40))):=RX.start _ _;have HAR:=hid_ofV (fun ww (b:Below w.heap.size w ww) hg x0 x1 x2 x3=>rest_any w.heap.size 0 a x zs.length c ps.length cx f d zs ps ww hg x0 x1 x2 x3 (h.below b) rfl rfl hz hm hps);have HD:=hid_ofV (And.intro h hka);have HH:Hid (zs.length≤1048576∧ks.length≤1048576∧Byte zs):=⟨hz,hk,bz⟩
 clear h hka hz hm hps bz hk;go_enter Tryz.func7,Tryz.ntmps7
 go_upto_region 1 with fail
 change Code.wp _ _ _ _ ((w.alloc (.cells #[.slice a zs.length c,.slice x ps.length cx,.int .i64 f,.bool d] 27)).alloc (.cells zrR 40));generalize ((w.alloc (.cells #[.slice a zs.length c,.slice x ps.length cx,.int .i64 f,.bool d] 27)).alloc (.cells zrR 40))=w1 at *;have A:=HAR.out w1 HX0.out.below (by have:=HX0.out.lt;omega) (by rw[cell_of_row _ _ _ _ _ _ HX0.out.b0];rfl) (by rw[cell_of_row _ _ _ _ _ _ HX0.out.b0];rfl) (by rw[cell_of_row _ _ _ _ _ _ HX0.out.b0];rfl) (by rw[cell_of_row _ _ _ _ _ _ HX0.out.b0];rfl);obtain⟨V,hV⟩:∃ V,(validB zs.length ps f && !d && decide (ps.length=0))=V:=⟨_,rfl⟩
 rw[hV] at A;have HA:=hid_ofV A;have HV:=hid_ofV hV;clear A hV HAR;go_wp2_with fail;refine HA.out.mono ?_;rintro e w2 ⟨rfl,b2⟩;have HX2:=hid_ofV (HX0.out.call b2);have hl2:=HX2.out.lt;clear b2 HX0 HA;cases V with
 |false=>
  go_wp2_with (first
   |(refine wpList_store_row rfl 40 (.tmp 4) (.tmp 14) rfl (w.heap.size+1) #[.int .i64 10,.slice none 0 0,.slice none 0 0,.int .i64 0,.bool false,.slice none 0 0,.bool false,.int .u32 0,.int .u32 0,.slice none 0 0,.slice none 0 0,.slice none 0 0,.slice none 0 0,.slice none 0 0,.int .i64 0,.slice none 0 0,.int .u32 0] rfl rfl 40 _ HX2.out.b1 Tryz.sizeR rfl (by simp[Value.oneCell']) ?_)
   |fail)
  (try simp only[Exit.inBlock,Exit.then])
  exact bodyPost_ret (v:=.agg #[.int .i64 10,.slice none 0 0,.slice none 0 0,.int .i64 0,.bool false,.slice none 0 0,.bool false,.int .u32 0,.int .u32 0,.slice none 0 0,.slice none 0 0,.slice none 0 0,.slice none 0 0,.slice none 0 0,.int .i64 0,.slice none 0 0,.int .u32 0]) (results_cell_row rfl _ _ (w.heap.size+1) 40 _ (0,0) _ rfl (setRow_heap _ _ _ _ _ _ HX2.out.b1) Tryz.underlying40 rfl Tryz.sizeR) rfl ⟨_,rfl,by rw[HO.out];exact⟨#[.slice none 0 0,.slice none 0 0,.int .i64 0,.bool false,.slice none 0 0,.bool false,.int .u32 0,.int .u32 0,.slice none 0 0,.slice none 0 0,.slice none 0 0,.slice none 0 0,.slice none 0 0,.int .i64 0,.slice none 0 0,.int .u32 0],rfl,(GP.no _ _).gq (by rw[size_setRow];exact HX2.out.below.size)⟩,HX2.out.below.trans ((Wr.setRow _ _ _).below (by omega))⟩
 |true=>
  have hk':¬ ((ks.length:Int)=32):=fun h=>HNC.out ⟨by
   have:=HV.out;simp at this;exact⟨this.1.1,this.1.2,this.2⟩,by omega⟩
  go_wp2_with (first
   |(refine wpList_store_row rfl 40 (.tmp 4) (.tmp 14) rfl (w.heap.size+1) #[.int .i64 10,.slice none 0 0,.slice none 0 0,.int .i64 0,.bool false,.slice none 0 0,.bool false,.int .u32 0,.int .u32 0,.slice none 0 0,.slice none 0 0,.slice none 0 0,.slice none 0 0,.slice none 0 0,.int .i64 0,.slice none 0 0,.int .u32 0] rfl rfl 40 _ HX2.out.b1 Tryz.sizeR rfl (by simp[Value.oneCell']) ?_)
   |fail)
  (try simp only[Exit.inBlock,Exit.then])
  exact bodyPost_ret (v:=.agg #[.int .i64 10,.slice none 0 0,.slice none 0 0,.int .i64 0,.bool false,.slice none 0 0,.bool false,.int .u32 0,.int .u32 0,.slice none 0 0,.slice none 0 0,.slice none 0 0,.slice none 0 0,.slice none 0 0,.int .i64 0,.slice none 0 0,.int .u32 0]) (results_cell_row rfl _ _ (w.heap.size+1) 40 _ (0,0) _ rfl (setRow_heap _ _ _ _ _ _ HX2.out.b1) Tryz.underlying40 rfl Tryz.sizeR) rfl ⟨_,rfl,by rw[HO.out];exact⟨#[.slice none 0 0,.slice none 0 0,.int .i64 0,.bool false,.slice none 0 0,.bool false,.int .u32 0,.int .u32 0,.slice none 0 0,.slice none 0 0,.slice none 0 0,.slice none 0 0,.slice none 0 0,.int .i64 0,.slice none 0 0,.int .u32 0],rfl,(GP.no _ _).gq (by rw[size_setRow];exact HX2.out.below.size)⟩,HX2.out.below.trans ((Wr.setRow _ _ _).below (by omega))⟩
end Go.Proofs.YtilpkdnoaldfmaaGreatDoor
