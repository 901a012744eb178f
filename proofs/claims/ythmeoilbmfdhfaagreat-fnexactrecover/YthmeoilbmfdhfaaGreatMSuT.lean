import Derived.Test.YthmeoilbmfdhfaaGreatMFmP
import Derived.Test.YthmeoilbmfdhfaaGreatLdY
import Derived.Test.YthmeoilbmfdhfaaGreatMSwJa
import Derived.Test.YthmeoilbmfdhfaaGreatMFrE
import Derived.Deep.Cut
namespace Go.Proofs.YthmeoilbmfdhfaaGreat
open Go.ChangeShapes Go.WideShapes Go.ChangeAt Go.RowKit
set_option linter.unusedVariables false
theorem FAt.take {w:World} {a:Option Addr} {F:List Int} (h:FAt w a F) (k:Nat):FAt w a (F.take k):=by
 rcases h with rfl|⟨b,off,e,hl,hc⟩
 ·exact .inl (by simp)
 ·refine .inr ⟨b,off,e,hl,fun i hi=>?_⟩;have hi':i<k∧i<F.length:=by rw[List.length_take] at hi;omega
  rw[hc i hi'.2];simp[List.getD,List.getElem?_take_of_lt hi'.1]
theorem getD_take {F:List Int} {k i:Nat} (h:i<k):(F.take k).getD i 0=F.getD i 0:=by simp[List.getD,List.getElem?_take_of_lt h]
theorem apK_take {r:ApR} {F:List Int} {m:Nat}:∀ i,i≤m→apK r (F.take (m*4)) i=apK r F i
 |0,_=>rfl
 |i+1,h=>by
  show(if _ then _ else _)=(if _ then _ else _)
  rw[apK_take i (by omega),getD_take (show i*4+1<m*4 by omega),getD_take (show i*4+2<m*4 by omega),getD_take (show i*4+3<m*4 by omega)]
theorem FrB.take {F:List Int} (h:FrB F) (m:Nat):FrB (F.take (m*4)):=fun i hi=>by
 have hi':i*4+3<m*4∧i*4+3<F.length:=by rw[List.length_take] at hi;omega
 rw[getD_take (show i*4+2<m*4 by omega),getD_take (show i*4+3<m*4 by omega)];exact h i hi'.2
theorem run_slF (w:World) (fb fo mF cF m:Nat) (h1:m≤cF):(Instr.sliceAt 31 (.slice (some ⟨fb,fo,none⟩) mF cF) none (some (.int .u32 m)) none).run Tryz.prog w=.ok (.slice (some ⟨fb,fo,none⟩) m cF) w:=by
 have h2:(m:Int)≤(cF:Int):=by omega
 have h3:(0:Int)≤(m:Int):=by omega
 unfold Instr.sliceAt;simp[run_underlying Tryz.underlying31,go_sem,Instr.sliceBounds,h2,h3,Addr.add]
structure FinU (w4:World) (G b H:Nat) (C:Array Value) (a:ApR) (ww:World):Prop where
 row:ww.heap[G]?=some (.cells C 48 (0,0))
 ax:AX w4 H H b a ww
set_option maxRecDepth 100000 in
set_option maxHeartbeats 8000000 in
theorem sut_any {lo:Nat} (G:Nat) (C:Array Value) (zs ks:List Int) (f:Int) (d:Bool) (r:ImR) (w:World) (hG:w.heap[G]?=some (.cells C 48 (0,0))) (h:GL lo w C zs ks f d r) (hle:ImLe r) (hst:StP r.sD r.sU (r.sU.length:Int) [] 0) (hFB:FrB r.F) (hg:0≤r.g∧r.g<4000000000) (ht:0≤r.t) (cut:Int) (m:Nat) (hc:cut=r.t+m) (hc2:cut<4294967296) (hm:m*4≤r.F.length) (hn0:0<r.F.length) (a:ApR) (ha:apK ⟨true,r.sD,r.sU,(r.sU.length:Int),[],0⟩ r.F m=a) (hok:a.ok=true) :
  Calls Tryz.prog 117 #[.pointer (some ⟨G,5,none⟩),.int .u32 cut] w fun e w'=>∃ v,e=.returned v∧SNY w.heap.size w' v (r.g+1) cut a.D a.U∧Below w.heap.size w w':=by
 obtain⟨da,dc,ca,cc,ka,kc,aSD,nSD,cSD,aSU,nSU,cSU,aF,mF,cF,aD,nD,cD,aU,nU,cU,aT,cT,hCR,⟨_,hcF⟩,_,_,⟨A1,A2,A3,A4,A5,A6,e1,e2,e3,e4,e5,e6⟩,_⟩:=h;obtain⟨l1,l2,l3,l4,l5,l6⟩:=hle;obtain⟨fb,fo,rfl,hfl,hfc⟩:=A3.get hn0;obtain⟨CR,rfl⟩:∃ CR,CR=C:=⟨_,rfl⟩
 have HCR:=hid_ofV hCR;have HGl:Hid (G<w.heap.size∧fb<w.heap.size):=⟨(Array.getElem?_eq_some_iff.1 hG).1,hfl⟩
 have HG:=hid_ofV hG;have HSZ:Hid ((Tryz.prog.info? 30).map (·.size)=some 4):=by show _=_;kernel_rfl
 have HO0:Hid (OE w 30 #[.int .u32 0,.int .u32 0,.slice none 0 0,.slice none 0 0] (w.alloc (.cells #[.int .u32 0,.int .u32 0,.slice none 0 0,.slice none 0 0] 30))):=OE.start _ _ _;have HA:Hid (At .i64 w aSD r.sD∧At .i64 w aSU r.sU∧FAt w (some ⟨fb,fo,none⟩) r.F):=⟨A1,A2,.inr ⟨fb,fo,rfl,hfl,hfc⟩⟩
 have HN:Hid (r.sD.length=nSD∧r.sU.length=nSU∧nSD≤16∧nSU≤256∧m*4≤r.F.length∧r.F.length≤1008):=⟨e1,e2,by omega,by omega,hm,l3⟩
 have HST:=hid_ofV (And.intro hst hFB);have HAK:=hid_ofV (And.intro ha hok);have hsub:IntKind.u32.wrap (cut-r.t)=(m:Int):=by rw[show cut-r.t=(m:Int) by omega];unfold IntKind.wrap;simp[IntKind.bits,IntKind.signed];omega
 have hgad:IntKind.u32.wrap (r.g+1)=r.g+1:=by unfold IntKind.wrap;simp[IntKind.bits,IntKind.signed];omega
 have hsl:=fun ww=>run_slF ww fb fo mF cF m (by omega)
 clear hCR hcF A1 A2 A3 A4 A5 A6 e1 e2 e3 e4 e5 e6 l1 l2 l3 l4 l5 l6 hfl hfc hG hst hFB hg ht hc hc2 hm hn0 ha hok;go_enter Tryz.func117,Tryz.ntmps117;go_wp2_with fail;generalize w.alloc (.cells #[.int .u32 0,.int .u32 0,.slice none 0 0,.slice none 0 0] 30)=w1 at *;have r1:w1.heap[G]?=some (.cells CR 48 (0,0)):=by rw[HO0.out.below.block _ HGl.out.1];exact HG.out
 have HT:=hid_ofV (snstO_any G 6 aSD aSU nSD cSD nSU cSU w1 (Nat.lt_of_lt_of_le HGl.out.1 HO0.out.below.size) (by rw[cell_of_row w1 G _ _ _ _ r1,HCR.out];rfl) (by rw[cell_of_row w1 G _ _ _ _ r1,HCR.out];rfl));clear r1;refine HT.out.mono ?_;rintro e w2 ⟨rfl,b2⟩;have HO2:=hid_ofV (HO0.out.call b2);have HOB:=hid_ofV (openBook_any aSD aSU none nSD cSD nSU cSU 0 0 r.sD r.sU (nSU:Int) [] w2 HN.out.1 HN.out.2.1 rfl (by have:=HN.out;omega) (by have:=HN.out;omega) (by omega) (HA.out.1.below HO2.out.below) (HA.out.2.1.below HO2.out.below) (.inl rfl) (fun _=>⟨rfl,rfl⟩) (by omega) (by have:=HN.out;omega));have HSB1:=hid_ofV (stB_yes (by rw[←HN.out.2.1];exact HST.out.1:StP r.sD r.sU (nSU:Int) [] 0));clear b2 HO0 HT;go_wp2_with fail;refine HOB.out.mono ?_;rintro e w3 ⟨bk,rfl,hbs,hbo,b3,hob⟩;obtain⟨db,ub,v9,hbk,hsd,hsu,hto⟩:=hob HSB1.out;rw[HSB1.out];have HSB2:Hid ((Tryz.prog.info? 77).map (·.size)=some bk.size∧(Tryz.zeroCells77).size=bk.size∧bk.all (fun x=>x.oneCell')=true):=⟨by rw[hbs];kernel_rfl,by rw[hbs];exact zc_size,hbo⟩
 have b4:Below w3.heap.size w3 (w3.alloc (.cells bk 77)):=(Below.refl _ _).alloc (Nat.le_refl _) _;have hr4:(w3.alloc (.cells bk 77)).heap[w3.heap.size]?=some (.cells bk 77 (0,0)):=heap_alloc_new w3 _;have h23:=b3.size;have hw2:=HO2.out.below.size;have hlt:=HO2.out.lt;have h24:Below w2.heap.size w2 (w3.alloc (.cells bk 77)):=b3.trans (b4.mono h23);have HB4:Hid (Below w.heap.size w (w3.alloc (.cells bk 77))):=HO2.out.below.trans (h24.mono hw2);have HR4:Hid ((w3.alloc (.cells bk 77)).heap[w.heap.size]?=some (.cells #[.int .u32 0,.int .u32 0,.slice none 0 0,.slice none 0 0] 30 (0,0))):=by show _=_;rw[h24.block _ hlt];exact HO2.out.b0
 have HC4:Hid ((w3.alloc (.cells bk 77)).heap[G]?=some (.cells CR 48 (0,0))):=by show _=_;rw[HB4.out.block _ HGl.out.1];exact HG.out
 have HCR4:=HC4;have hto4:TapO w2.heap.size (w3.alloc (.cells bk 77)) v9 [] 0:=hto.alloc _;have hne:NeG w3.heap.size v9:=fun t ht e=>by
  rcases hto.2 with⟨h',_⟩|⟨g,c,cur,h',hb,hh,_⟩
  ·rw[h'] at ht;simp[Value.ownBlock] at ht
  ·rw[h'] at ht;simp[Value.ownBlock] at ht;have:=(Array.getElem?_eq_some_iff.1 hh).1;omega
 have hAXd:AX (w3.alloc (.cells bk 77)).drew w2.heap.size w2.heap.size w3.heap.size ⟨true,r.sD,r.sU,(r.sU.length:Int),[],0⟩ (w3.alloc (.cells bk 77)).drew:=⟨Below.refl _ _,db,ub,v9,⟨by show(w3.alloc (.cells bk 77)).heap[w3.heap.size]?=_;rw[hr4,hbk,HN.out.2.1],hsd.1,hsu.1,hsd.2.1,hsu.2.1⟩,hsd,hsu,hto4.tapV.block (Nat.le_refl _) (fun t _ _=>rfl),hne⟩
 have hFm:(r.F.take (m*4)).length=m*4:=by rw[List.length_take];have:=HN.out;omega
 have hApp:=fun ww (e:ww=(w3.alloc (.cells bk 77)).drew)=>applyAll_any (some ⟨fb,fo,none⟩) m cF (r.F.take (m*4)) ww w3.heap.size w2.heap.size w2.heap.size ⟨true,r.sD,r.sU,(r.sU.length:Int),[],0⟩ rfl ((by rw[e];exact(HA.out.2.2.below HB4.out).take _)) hFm (by have:=HN.out;omega) (HST.out.2.take m) (fun x hx=>by cases hx;show fb<_;have:=HGl.out;omega) (by rw[e];exact hAXd) HST.out.1 rfl h23 (Nat.le_refl _) (by rw[e];have:=h24.size;exact this) (by rw[e];have:=h24.size;exact this)
 have HAP:Hid (∀ ww,ww=(w3.alloc (.cells bk 77)).drew→Calls Tryz.prog 39 #[.pointer (some ⟨w3.heap.size,0,none⟩),.slice (some ⟨fb,fo,none⟩) m cF] ww fun e w'=>e=.returned (.bool true)∧FinU (w3.alloc (.cells bk 77)) G w3.heap.size w2.heap.size CR a w'):=fun ww e=>(hApp ww e).mono fun e' w' ⟨q1,q2,q3⟩=>by
  rw[apK_take m (Nat.le_refl _),HAK.out.1] at q1 q3;rw[HAK.out.2] at q1;have q4:=q3 HAK.out.2;subst e;refine⟨q1,?_,⟨⟨q2.os,q2.tape,q2.output,q2.size,q2.block⟩,q4.bk⟩⟩;rw[q2.block G (by have:=HGl.out.1;omega)];exact HC4.out
 have HSTK:Hid (StP a.D a.U a.k a.T a.n∧a.T.length=a.n*2):=by
  have:=apK_st (r:=⟨true,r.sD,r.sU,(r.sU.length:Int),[],0⟩) HST.out.2 HST.out.1 rfl m (by have:=HN.out;omega);rw[HAK.out.1] at this;exact this HAK.out.2
 have HZ4:Hid (w.heap.size<w2.heap.size∧G<w.heap.size∧w2.heap.size≤(w3.alloc (.cells bk 77)).heap.size):=⟨hlt,HGl.out.1,h24.size⟩
 clear hbs hbo b3 hob hbk hsd hsu hto b4 hr4 h23 hw2 hlt h24 hto4 hne hAXd hFm hApp HO2 HOB HSB1 HGl HG HA HN HST HAK
 go_upto_region 2 with (first
  |(refine wpList_store_row rfl 77 (.tmp 5) (.tmp 14) rfl w3.heap.size bk rfl rfl 77 _ (heap_alloc_new w3 _) HSB2.out.1 HSB2.out.2.1 HSB2.out.2.2 ?_)
  |fail)
 rw[World.setRow_alloc_new];clear HSB2;generalize w3.alloc (.cells bk 77)=w4 at *;generalize w3.heap.size=b at *;generalize w2.heap.size=H at *;refine wp_region_any (by kernel_rfl) ?_;refine wpAny_slotsU (fun _ _ _=>True) (frame:=(fun (a b c d e f g h i j k l m n o p q r s u v w x y z A B C D:Value)=>fun (t:Nat→Value)=>({ tmps:=List.toArray [a,b,c,d,e,f,g,h,i,j,k,l,m,n,o,p,t 0,t 1,t 2,t 3,t 4,t 5,t 6,t 7,t 8,t 9,t 10,t 11,t 12,q,r,s,u,v,w,x,y,z,A,B,C,D],defers:=[] }:Act)) _ _ _ _ _ _ _ _ _ _ _ _ _ _ _ _ _ _ _ _ _ _ _ _ _ _ _ _ _)
  (Ext:=fun L u w'=>if L 12=true then FinU w4 G b H CR a w' else w'=w4.drew) (Good:=fun i L w' v=>if i=0 then v=.pointer (some ⟨G,5,none⟩) else if i=1 then v=.pointer (some ⟨G,5,none⟩) else if i=2 then v=.pointer (some ⟨G,10,none⟩) else if i=3 then v=.slice (some ⟨fb,fo,none⟩) mF cF else if i=4 then v=.int .u32 cut else if i=5 then v=.pointer (some ⟨G,5,none⟩) else if i=6 then v=.pointer (some ⟨G,5,none⟩) else if i=7 then v=.pointer (some ⟨G,6,none⟩) else if i=8 then v=.pointer (some ⟨G,7,none⟩) else if i=9 then v=.int .u32 r.t else if i=10 then v=.int .u32 m else if i=11 then v=.slice (some ⟨fb,fo,none⟩) m cF else if i=12 then L 12=true else True) ?hstab (by kernel_rfl) ?hop ?hdone _ _ ((fun (x0 x1 x2 x3 x4 x5 x6 x7 x8 x9 x10 x11 x12:Value)=>fun (i:Nat)=>if i=0 then x0 else if i=1 then x1 else if i=2 then x2 else if i=3 then x3 else if i=4 then x4 else if i=5 then x5 else if i=6 then x6 else if i=7 then x7 else if i=8 then x8 else if i=9 then x9 else if i=10 then x10 else if i=11 then x11 else if i=12 then x12 else undef) _ _ _ _ _ _ _ _ _ _ _ _ _) _ (by simp) ?ext ?start (by simp)
 case start=>intro i hi h;exact absurd h (by rw[Array.getD_eq_getD_getElem?,Array.getElem?_replicate];split<;>simp)
 case ext=>
  rw[if_neg (by show ¬ (Array.getD _ _ _=true);rw[Array.getD_eq_getD_getElem?,Array.getElem?_replicate];split<;>simp)];exact rfl
 case hstab=>
  intro j L w9 w' i v hM hij hLi h;by_cases hl:j=12
  ·subst hl;simp at h ⊢;unfold updK;simp[h]
  ·simp only[if_neg hl] at h ⊢;exact h
 case hop=>
  intro i o L t w' ho hLi hx hdep K hK;have hi:i<13:=(Array.getElem?_eq_some_iff.1 ho).1;have hrow:w'.heap[G]?=some (.cells CR 48 (0,0)):=by
   split at hx
   ·exact hx.row
   ·rw[hx];exact HC4.out
  have cX:∀ q9:Nat,w'.cell? ⟨G,q9,none⟩=(#[.slice da zs.length dc,.slice ca 0 cc,.int .i64 f,.bool d,.slice ka ks.length kc,.bool r.ok,.int .u32 r.g,.int .u32 r.t,.slice aSD nSD cSD,.slice aSU nSU cSU,.slice (some ⟨fb,fo,none⟩) mF cF,.slice aD nD cD,.slice aU nU cU,.int .i64 r.k,.slice aT r.n cT,.int .u32 r.nx]:Array Value)[q9]?:=fun q9=>by rw[cell_of_row w' G q9 _ _ _ hrow,HCR.out]
  clear hrow;obtain rfl|rfl|rfl|rfl|rfl|rfl|rfl|rfl|rfl|rfl|rfl|rfl|rfl:i=0∨i=1∨i=2∨i=3∨i=4∨i=5∨i=6∨i=7∨i=8∨i=9∨i=10∨i=11∨i=12:=by omega
  all_goals(simp at ho;subst ho)
  all_goals try(have hK':=hK w' _ rfl (by simpa[updK] using hx) trivial;clear hK;simp[Region.binds] at hdep;rw[if_pos (by rfl)];go_simp;simpa[upd,hdep] using hK')
  ·have d11:t 11=.slice (some ⟨fb,fo,none⟩) m cF:=by simpa using(hdep ⟨11,.data⟩ (by simp) rfl).2
   clear hdep;rw[hLi,if_neg (by decide)] at hx;subst hx;have hK':=fun ww v (h:FinU w4 G b H CR a ww)=>hK ww v (by simp[updK]) (by simpa[updK] using h) trivial
   have A:=HAP.out _ rfl;clear hK;rw[if_pos (by rfl)];go_simp;try simp only[d11]
   refine A.mono ?_;rintro e w9 ⟨rfl,h9⟩;have hK2:=hK' w9 (.bool true) h9;clear hK' h9 A;go_simp;simpa[upd,d11] using hK2
 case hdone=>
  intro L t w5 hx hg;have hlast:L 12=true:=by simpa using hg 12 (by decide)
  rw[if_pos hlast] at hx;clear hg hlast;have HU:=hid_ofV hx;clear hx;obtain⟨d',u',v',r1,r2,r3,r4,r5⟩:=HU.out.ax.bk;obtain⟨aT9,cT9,rfl⟩:=r4.slice;obtain⟨hstr,hTr⟩:=HSTK.out;have HS:=state_any aT9 a.n cT9 (fun v=>decide ((v:Int)∈a.D)) (fun v=>decide ((v:Int)∈a.U)) r1 (r2.congr (fun v _=>by simp)) (r3.congr (fun v _=>by simp));rw[hstr.1.eq_upTo _ (fun v _=>by simp),hstr.2.2.1.eq_upTo _ (fun v _=>by simp)] at HS;have HS6:=hid_ofV HS;clear HS r1 r2 r3 r4 r5 hstr hTr HSTK HAP HCR4;go_wp2_with fail;refine HS6.out.mono ?_;rintro e w6 ⟨bD,mD,dD,bU,mU,dU,rfl,i1,i2,ap,b6⟩;have b7:Below w6.heap.size w6 (w6.alloc (.cells #[.slice bD mD dD,.slice bU mU dU,.int .i64 a.k,.slice aT9 a.n cT9] 34)):=(Below.refl _ _).alloc (Nat.le_refl _) _;have bw5:Below w.heap.size w w5:=HB4.out.trans (HU.out.ax.bel.mono (by have:=HZ4.out;omega));have bw6:Below w.heap.size w w6:=bw5.trans (b6.mono bw5.size);have hz5:=HU.out.ax.bel.size;have hz6:=b6.size;have HR7:Hid ((w6.alloc (.cells #[.slice bD mD dD,.slice bU mU dU,.int .i64 a.k,.slice aT9 a.n cT9] 34)).heap[w.heap.size]?=some (.cells #[.int .u32 0,.int .u32 0,.slice none 0 0,.slice none 0 0] 30 (0,0))∧(w6.alloc (.cells #[.slice bD mD dD,.slice bU mU dU,.int .i64 a.k,.slice aT9 a.n cT9] 34)).heap[G]?=some (.cells CR 48 (0,0))∧(w6.alloc (.cells #[.slice bD mD dD,.slice bU mU dU,.int .i64 a.k,.slice aT9 a.n cT9] 34)).heap[w6.heap.size]?=some (.cells #[.slice bD mD dD,.slice bU mU dU,.int .i64 a.k,.slice aT9 a.n cT9] 34 (0,0))∧G<(w6.alloc (.cells #[.slice bD mD dD,.slice bU mU dU,.int .i64 a.k,.slice aT9 a.n cT9] 34)).heap.size∧w6.heap.size<(w6.alloc (.cells #[.slice bD mD dD,.slice bU mU dU,.int .i64 a.k,.slice aT9 a.n cT9] 34)).heap.size):=by
   refine⟨?_,?_,heap_alloc_new w6 _,?_,by simp⟩
   ·rw[b7.block _ (by have:=HZ4.out;omega),b6.block _ (by have:=HZ4.out;omega),HU.out.ax.bel.block _ (by have:=HZ4.out;omega)];exact HR4.out
   ·rw[b7.block _ (by have:=HZ4.out;omega),b6.block _ (by have:=HZ4.out;omega)];exact HU.out.row
   ·have:=HZ4.out;simp;omega
  have HS7:Hid (S3 w5.heap.size (w6.alloc (.cells #[.slice bD mD dD,.slice bU mU dU,.int .i64 a.k,.slice aT9 a.n cT9] 34)) bD bU none mD mU 0 a.D a.U []):=(S3.of_io i1 i2 ap.aprt).below b7;have HB7:Hid (Below w.heap.size w (w6.alloc (.cells #[.slice bD mD dD,.slice bU mU dU,.int .i64 a.k,.slice aT9 a.n cT9] 34))):=bw6.trans (b7.mono bw6.size);have HZ7:Hid (w.heap.size<w5.heap.size):=by have:=HZ4.out;show _<_;omega
  have HST7:Hid ((w6.alloc (.cells #[.slice none 0 0,.slice none 0 0,.int .i64 0,.slice none 0 0] 34)).heap[w6.heap.size]?=some (.cells #[.slice none 0 0,.slice none 0 0,.int .i64 0,.slice none 0 0] 34 (0,0))∧(Tryz.prog.info? 34).map (·.size)=some 4):=⟨heap_alloc_new w6 _,by kernel_rfl⟩
  clear i1 i2 ap b6 b7 bw5 bw6 hz5 hz6 HU HS6 HB4 HR4 HZ4
  go_upto_region 4 with (first
   |(refine wpList_store_row rfl 34 (.tmp 7) (.tmp 29) rfl w6.heap.size #[.slice bD mD dD,.slice bU mU dU,.int .i64 a.k,.slice aT9 a.n cT9] rfl rfl 34 _ HST7.out.1 HST7.out.2 rfl (by simp[Value.oneCell']) ?_)
   |fail)
  rw[World.setRow_alloc_new];clear HST7;generalize w6.alloc (.cells #[.slice bD mD dD,.slice bU mU dU,.int .i64 a.k,.slice aT9 a.n cT9] 34)=w7 at *;generalize w6.heap.size=s at *;refine wp_region_any (by kernel_rfl) ?_;refine wpAny_slotsF 12 (fun _ a b=>Below a.heap.size a b) (frame:=(fun (a b c d e f g h i j k l m n o p q r s u v w x y z A B C D E:Value)=>fun (t:Nat→Value)=>({ tmps:=List.toArray [a,b,c,d,e,f,g,h,i,j,k,l,m,n,o,p,q,r,s,u,v,w,x,y,z,A,B,C,D,E,t 0,t 1,t 2,t 3,t 4,t 5,t 6,t 7,t 8,t 9,t 10,t 11],defers:=[] }:Act)) _ _ _ _ _ _ _ _ _ _ _ _ _ _ _ _ _ _ _ _ _ _ _ _ _ _ _ _ _ _)
   (Ext:=fun L u w'=>ApH w7 [] L u w') (Good:=fun i L w' v=>if i=0 then v=.pointer (some ⟨G,5,none⟩) else if i=1 then v=.pointer (some ⟨G,5,none⟩) else if i=2 then v=.pointer (some ⟨G,6,none⟩) else if i=3 then v=.pointer (some ⟨G,6,none⟩) else if i=4 then v=.int .u32 r.g else if i=5 then v=.int .u32 (r.g+1) else if i=6 then v=.int .u32 cut else if i=7 then v=.pointer (some ⟨s,0,none⟩) else if i=8 then v=.slice bD mD dD else if i=9 then v=.pointer (some ⟨s,1,none⟩) else if i=10 then v=.slice bU mU dU else if i=11 then v=.agg #[.int .u32 (r.g+1),.int .u32 cut,.slice bD mD dD,.slice bU mU dU] else True) (Fin:=fun _ ww=>ww.heap[w.heap.size]?=some (.cells #[.int .u32 (r.g+1),.int .u32 cut,.slice bD mD dD,.slice bU mU dU] 30 (0,0))∧∃ w8,Below w7.heap.size w7 w8∧Wr w.heap.size w8 ww) rfl (by kernel_rfl) ?hstab (by kernel_rfl) ?hop ?hend ?hdone _ _ ((fun (x0 x1 x2 x3 x4 x5 x6 x7 x8 x9 x10 x11:Value)=>fun (i:Nat)=>if i=0 then x0 else if i=1 then x1 else if i=2 then x2 else if i=3 then x3 else if i=4 then x4 else if i=5 then x5 else if i=6 then x6 else if i=7 then x7 else if i=8 then x8 else if i=9 then x9 else if i=10 then x10 else if i=11 then x11 else undef) _ _ _ _ _ _ _ _ _ _ _ _) _ (by simp) ?none ?ext (by simp)
  case none=>intro i;rw[Array.getD_eq_getD_getElem?,Array.getElem?_replicate];split<;>rfl
  case ext=>exact ApH.start w7 [] _ _ (fun i=>by rw[Array.getD_eq_getD_getElem?,Array.getElem?_replicate];split<;>rfl) ⟨rfl,rfl,rfl,Nat.le_refl _,fun _ _=>rfl⟩
  case hstab=>
   intro j L w9 w' i v _ hM _ _ h;exact h
  case hop=>
   intro i o L t w' hi ho hLi hx hdep K hK;have cX:∀ q9:Nat,w'.cell? ⟨G,q9,none⟩=(#[.slice da zs.length dc,.slice ca 0 cc,.int .i64 f,.bool d,.slice ka ks.length kc,.bool r.ok,.int .u32 r.g,.int .u32 r.t,.slice aSD nSD cSD,.slice aSU nSU cSU,.slice (some ⟨fb,fo,none⟩) mF cF,.slice aD nD cD,.slice aU nU cU,.int .i64 r.k,.slice aT r.n cT,.int .u32 r.nx]:Array Value)[q9]?:=fun q9=>by rw[World.cell?_of_block (a:=⟨G,q9,none⟩) (w:=w7) (hx.below.block _ HR7.out.2.2.2.1),cell_of_row w7 G q9 _ _ _ HR7.out.2.1,HCR.out]
   have cY:∀ q9:Nat,w'.cell? ⟨s,q9,none⟩=(#[.slice bD mD dD,.slice bU mU dU,.int .i64 a.k,.slice aT9 a.n cT9]:Array Value)[q9]?:=fun q9=>by rw[World.cell?_of_block (a:=⟨s,q9,none⟩) (w:=w7) (hx.below.block _ HR7.out.2.2.2.2),cell_of_row w7 s q9 _ _ _ HR7.out.2.2.1]
   obtain rfl|rfl|rfl|rfl|rfl|rfl|rfl|rfl|rfl|rfl|rfl|rfl:i=0∨i=1∨i=2∨i=3∨i=4∨i=5∨i=6∨i=7∨i=8∨i=9∨i=10∨i=11:=by omega
   all_goals(simp at ho;subst ho)
   all_goals try(have hK':=hK w' _ rfl (hx.step _ _ (Below.refl _ _) (fun h=>absurd h (by decide))) (Below.refl _ _);clear hK;simp[Region.binds] at hdep;rw[if_pos (by rfl)];go_simp;simpa[upd,hdep] using hK')
  case hend=>
   intro o L t w' ho hx hg K hK;simp at ho;subst ho;have d11:t 11=.agg #[.int .u32 (r.g+1),.int .u32 cut,.slice bD mD dD,.slice bU mU dU]:=by simpa using(hg 11 (by decide)).2
   clear hg;have hrs:=(hx.below.block _ (Array.getElem?_eq_some_iff.1 HR7.out.1).1).trans HR7.out.1;have hK':∀ ww,Wr w.heap.size w' ww→ww.heap[w.heap.size]?=some (.cells #[.int .u32 (r.g+1),.int .u32 cut,.slice bD mD dD,.slice bU mU dU] 30 (0,0))→K _ ww:=fun ww hw hr=>hK ww undef ⟨hr,w',hx.below,hw⟩
   clear hK;rw[if_pos (by rfl)];refine wp_store_row 30 (.tmp 4) (.tmp 41) rfl w.heap.size #[.int .u32 (r.g+1),.int .u32 cut,.slice bD mD dD,.slice bU mU dU] rfl d11 30 _ hrs HSZ.out rfl (by simp[Value.oneCell']) ?_;have hK2:=hK' _ (Wr.setRow _ _ _) (setRow_heap _ _ _ _ _ _ hrs);clear hK';simpa[upd,Act.put] using hK2
  case hdone=>
   intro t w9 hf;obtain⟨hr9,w8,b8,hw8⟩:=hf;have HR9:Hid (w9.heap[w.heap.size]?=some (.cells #[.int .u32 (r.g+1),.int .u32 cut,.slice bD mD dD,.slice bU mU dU] 30 (0,0))):=hr9;have HF:Hid (SNY w.heap.size w9 (.agg #[.int .u32 (r.g+1),.int .u32 cut,.slice bD mD dD,.slice bU mU dU]) (r.g+1) cut a.D a.U∧Below w.heap.size w w9):=⟨⟨bD,mD,dD,bU,mU,dU,rfl,((HS7.out.below b8).keep (Nat.le_of_eq hw8.size.symm) (fun k hk _=>hw8.block k (by have:=HZ7.out;omega))).lo (by have:=HZ7.out;omega)⟩,(HB7.out.trans (b8.mono HB7.out.size)).trans (hw8.below (Nat.le_refl _))⟩
   clear hr9 b8 hw8;go_wp2_with fail;exact bodyPost_ret (v:=.agg #[.int .u32 (r.g+1),.int .u32 cut,.slice bD mD dD,.slice bU mU dU]) (results_cell_row rfl _ _ w.heap.size 30 _ (0,0) _ rfl HR9.out Tryz.underlying30 rfl HSZ.out) rfl ⟨_,rfl,HF.out.1,HF.out.2⟩
def cutR (F:List Int) (nF:Nat) (ak nx:Int):Nat→Int→Int
 |0,_=>nx
 |r+1,n=>if F.getD ((nF-(r+1))*4+1) 0=1 then(if ak≤n then F.getD ((nF-(r+1))*4) 0 else cutR F nF ak nx r (n+1)) else cutR F nF ak nx r n
def cutV (ok:Bool) (n:Nat) (F:List Int) (nF:Nat) (ak nx:Int):Int:=if ok=true then cutR F nF ak nx nF n else 0
set_option maxRecDepth 100000 in
set_option maxHeartbeats 2000000 in
theorem ict_any (asD asU aF azD azU azT:Option Addr) (nsD csD nsU csU nF cF nzD czD nzU czU nzT czT:Nat) (sD sU F zD zU zT:List Int) (sgn stl zk nx:Int) (ok:Bool) (w:World) (hF:F.length=nF*4) (mF:nF≤1048576) (mU:nsU≤1048576) (aF':FAt w aF F) :
  Calls Tryz.prog 115 #[.agg #[.bool ok,.int .u32 sgn,.int .u32 stl,.slice asD nsD csD,.slice asU nsU csU,.slice aF nF cF,.slice azD nzD czD,.slice azU nzU czU,.int .i64 zk,.slice azT nzT czT,.int .u32 nx]] w fun e w'=>e=.returned (.int .u32 (cutV ok nsU F nF zk nx))∧Below w.heap.size w w':=by
 have HA:Hid (FAt w aF F):=aF';have HLT:Hid (F.length=nF*4):=hF;have HE0:Hid (OE w 36 #[.bool ok,.int .u32 sgn,.int .u32 stl,.slice asD nsD csD,.slice asU nsU csU,.slice aF nF cF,.slice azD nzD czD,.slice azU nzU czU,.int .i64 zk,.slice azT nzT czT,.int .u32 nx] (w.alloc (.cells #[.bool ok,.int .u32 sgn,.int .u32 stl,.slice asD nsD csD,.slice asU nsU csU,.slice aF nF cF,.slice azD nzD czD,.slice azU nzU czU,.int .i64 zk,.slice azT nzT czT,.int .u32 nx] 36))):=OE.start _ _ _;have HCT:Hid (∀ r n,cutR F nF zk nx (r+1) n=if F.getD ((nF-(r+1))*4+1) 0=1 then(if zk≤n then F.getD ((nF-(r+1))*4) 0 else cutR F nF zk nx r (n+1)) else cutR F nF zk nx r n):=fun _ _=>rfl
 have HC0:Hid (∀ n,cutR F nF zk nx 0 n=nx):=fun _=>rfl
 clear aF' hF;cases ok with
 |false=>
  have HV:Hid (cutV false nsU F nF zk nx=0):=rfl;have HF:Hid (Below w.heap.size w (w.alloc (.cells #[.bool false,.int .u32 sgn,.int .u32 stl,.slice asD nsD csD,.slice asU nsU csU,.slice aF nF cF,.slice azD nzD czD,.slice azU nzU czU,.int .i64 zk,.slice azT nzT czT,.int .u32 nx] 36))):=HE0.out.below;clear HE0;go_enter Tryz.func115,Tryz.ntmps115;go_wp2
  go_ret
  exact⟨ret_int HV.out.symm,HF.out⟩
 |true=>
  have HV:Hid (cutV true nsU F nF zk nx=cutR F nF zk nx nF nsU):=rfl;have HS:Hid (∀ wr,OE w 36 #[.bool true,.int .u32 sgn,.int .u32 stl,.slice asD nsD csD,.slice asU nsU csU,.slice aF nF cF,.slice azD nzD czD,.slice azU nzU czU,.int .i64 zk,.slice azT nzT czT,.int .u32 nx] wr→wr.cell? ⟨w.heap.size,4,none⟩=some (.slice asU nsU csU)∧wr.cell? ⟨w.heap.size,5,none⟩=some (.slice aF nF cF)∧wr.cell? ⟨w.heap.size,8,none⟩=some (.int .i64 zk)∧wr.cell? ⟨w.heap.size,10,none⟩=some (.int .u32 nx)):=fun wr h=>
   ⟨by rw[cell_of_row wr w.heap.size 4 _ _ _ h.b0];rfl,by rw[cell_of_row wr w.heap.size 5 _ _ _ h.b0];rfl,by rw[cell_of_row wr w.heap.size 8 _ _ _ h.b0];rfl,by rw[cell_of_row wr w.heap.size 10 _ _ _ h.b0];rfl⟩
  go_enter Tryz.func115,Tryz.ntmps115;go_wp2_with fail;generalize w.alloc (.cells #[.bool true,.int .u32 sgn,.int .u32 stl,.slice asD nsD csD,.slice asU nsU csU,.slice aF nF cF,.slice azD nzD czD,.slice azU nzU czU,.int .i64 zk,.slice azT nzT czT,.int .u32 nx] 36)=w0 at *
  go_loopw [3,16] (fun q i wr=>∃(k:Nat) (z:Int),k≤nF∧i=.int .i64 k∧q=.int .i64 z∧0≤z∧z≤nsU+k∧cutR F nF zk nx (nF-k) z=cutR F nF zk nx nF nsU∧OE w 36 #[.bool true,.int .u32 sgn,.int .u32 stl,.slice asD nsD csD,.slice asU nsU csU,.slice aF nF cF,.slice azD nzD czD,.slice azU nzU czU,.int .i64 zk,.slice azT nzT czT,.int .u32 nx] wr) (fun _ i _=>nF-(intOf i).toNat)
  case atStart=>exact⟨0,nsU,Nat.zero_le _,rfl,rfl,by omega,by omega,rfl,HE0.out⟩
  case round=>
   clear HE0;obtain⟨k,z,hk,rfl,rfl,z0,z1,hcut,hst⟩:=hrel;have HST:Hid (OE w 36 #[.bool true,.int .u32 sgn,.int .u32 stl,.slice asD nsD csD,.slice asU nsU csU,.slice aF nF cF,.slice azD nzD czD,.slice azU nzU czU,.int .i64 zk,.slice azT nzT czT,.int .u32 nx] wr):=hst;have HCU:Hid (cutR F nF zk nx (nF-k) z=cutR F nF zk nx nF nsU):=hcut;obtain⟨x4,x5,x8,x10⟩:=HS.out wr hst;have hwl:=hst.lt;clear hcut;by_cases hlt:k<nF
   ·have hlt':(k:Int)<nF:=by omega
    have HNE:Hid (cutR F nF zk nx (nF-k) z=if F.getD (k*4+1) 0=1 then(if zk≤z then F.getD (k*4) 0 else cutR F nF zk nx (nF-(k+1)) (z+1)) else cutR F nF zk nx (nF-(k+1)) z):=by
     show _=_
     have e:=HCT.out (nF-(k+1)) z;rw[show nF-(k+1)+1=nF-k by omega,show nF-(nF-k)=k by omega] at e;exact e
    obtain⟨b,off,ea,hb,hc⟩:=(HA.out.below hst.below).get (by have:=HLT.out;omega);obtain⟨t0,t1,t2,t3⟩:=FAt.four hc k (by have:=HLT.out;omega);subst ea;clear hc hst;generalize F.getD (k*4) 0=s at *;generalize F.getD (k*4+1) 0=m at *;generalize F.getD (k*4+2) 0=x at *;generalize F.getD (k*4+3) 0=y at *;have HN:Hid (OE w 36 #[.bool true,.int .u32 sgn,.int .u32 stl,.slice asD nsD csD,.slice asU nsU csU,.slice (some ⟨b,off,none⟩) nF cF,.slice azD nzD czD,.slice azU nzU czU,.int .i64 zk,.slice azT nzT czT,.int .u32 nx] (wr.alloc (.cells #[.int .u32 s,.int .i64 m,.int .u32 x,.int .u32 y] 112))):=HST.out.call ((Below.refl _ _).alloc (Nat.le_refl _) _);by_cases hm:m=1
    ·subst hm;by_cases hz:zk≤z
     ·have HR:Hid (cutR F nF zk nx nF nsU=s):=by show _=_;rw[←HCU.out,HNE.out,if_pos rfl,if_pos hz]
      have HF:Hid (Below w.heap.size w (wr.alloc (.cells #[.int .u32 s,.int .i64 1,.int .u32 x,.int .u32 y] 112))):=HN.out.below;clear HN HST HNE;go_wp2
      go_ret
      exact⟨ret_int (by rw[HV.out,HR.out]),HF.out⟩
     ·have HR:Hid (cutR F nF zk nx (nF-(k+1)) (z+1)=cutR F nF zk nx nF nsU):=by show _=_;rw[←HCU.out,HNE.out,if_pos rfl,if_neg hz]
      clear HST HNE HCU;go_wp2;go_roundw
      case rel=>exact⟨k+1,z+1,by omega,by go_num,by go_num,by omega,by omega,HR.out,HN.out⟩
      case measure=>simp[intOf];omega
    ·have HR:Hid (cutR F nF zk nx (nF-(k+1)) z=cutR F nF zk nx nF nsU):=by show _=_;rw[←HCU.out,HNE.out,if_neg hm]
     have hm':(m == 1)=false:=by simpa using hm
     clear HST HNE HCU hm;go_wp2;go_roundw
     case rel=>exact⟨k+1,z,by omega,by go_num,rfl,by omega,by omega,HR.out,HN.out⟩
     case measure=>simp[intOf];omega
   ·have hke:k=nF:=by omega
    have hlt':¬ ((k:Int)<nF):=by omega
    have HR:Hid (cutR F nF zk nx nF nsU=nx):=by show _=_;rw[←HCU.out,show nF-k=0 by omega,HC0.out]
    have HF:Hid (Below w.heap.size w wr):=HST.out.below;clear hke hst HST;go_wp2
    go_ret
    exact⟨ret_int (by rw[HV.out,HR.out]),HF.out⟩
set_option maxRecDepth 100000 in
set_option maxHeartbeats 2000000 in
theorem sct_any (asD asU aF azD azU azT:Option Addr) (nsD csD nsU csU nF cF nzD czD nzU czU nzT czT:Nat) (sD sU F zD zU zT:List Int) (sgn stl zk nx:Int) (ok:Bool) (w:World) (hF:F.length=nF*4) (mF:nF≤1048576) (mU:nsU≤1048576) (aF':FAt w aF F) :
  Calls Tryz.prog 113 #[.agg #[.bool ok,.int .u32 sgn,.int .u32 stl,.slice asD nsD csD,.slice asU nsU csU,.slice aF nF cF,.slice azD nzD czD,.slice azU nzU czU,.int .i64 zk,.slice azT nzT czT,.int .u32 nx]] w fun e w'=>e=.returned (.int .u32 (cutV ok nsU F nF zk nx))∧Below w.heap.size w w':=by
 have HA:Hid (FAt w aF F):=aF';have HLT:Hid (F.length=nF*4):=hF;have HE0:Hid (OE w 36 #[.bool ok,.int .u32 sgn,.int .u32 stl,.slice asD nsD csD,.slice asU nsU csU,.slice aF nF cF,.slice azD nzD czD,.slice azU nzU czU,.int .i64 zk,.slice azT nzT czT,.int .u32 nx] (w.alloc (.cells #[.bool ok,.int .u32 sgn,.int .u32 stl,.slice asD nsD csD,.slice asU nsU csU,.slice aF nF cF,.slice azD nzD czD,.slice azU nzU czU,.int .i64 zk,.slice azT nzT czT,.int .u32 nx] 36))):=OE.start _ _ _;have HCT:Hid (∀ r n,cutR F nF zk nx (r+1) n=if F.getD ((nF-(r+1))*4+1) 0=1 then(if zk≤n then F.getD ((nF-(r+1))*4) 0 else cutR F nF zk nx r (n+1)) else cutR F nF zk nx r n):=fun _ _=>rfl
 have HC0:Hid (∀ n,cutR F nF zk nx 0 n=nx):=fun _=>rfl
 clear aF' hF;cases ok with
 |false=>
  have HV:Hid (cutV false nsU F nF zk nx=0):=rfl;have HF:Hid (Below w.heap.size w (w.alloc (.cells #[.bool false,.int .u32 sgn,.int .u32 stl,.slice asD nsD csD,.slice asU nsU csU,.slice aF nF cF,.slice azD nzD czD,.slice azU nzU czU,.int .i64 zk,.slice azT nzT czT,.int .u32 nx] 36))):=HE0.out.below;clear HE0;go_enter Tryz.func113,Tryz.ntmps113;go_wp2
  go_ret
  exact⟨ret_int HV.out.symm,HF.out⟩
 |true=>
  have HV:Hid (cutV true nsU F nF zk nx=cutR F nF zk nx nF nsU):=rfl;have HS:Hid (∀ wr,OE w 36 #[.bool true,.int .u32 sgn,.int .u32 stl,.slice asD nsD csD,.slice asU nsU csU,.slice aF nF cF,.slice azD nzD czD,.slice azU nzU czU,.int .i64 zk,.slice azT nzT czT,.int .u32 nx] wr→wr.cell? ⟨w.heap.size,4,none⟩=some (.slice asU nsU csU)∧wr.cell? ⟨w.heap.size,5,none⟩=some (.slice aF nF cF)∧wr.cell? ⟨w.heap.size,8,none⟩=some (.int .i64 zk)∧wr.cell? ⟨w.heap.size,10,none⟩=some (.int .u32 nx)):=fun wr h=>
   ⟨by rw[cell_of_row wr w.heap.size 4 _ _ _ h.b0];rfl,by rw[cell_of_row wr w.heap.size 5 _ _ _ h.b0];rfl,by rw[cell_of_row wr w.heap.size 8 _ _ _ h.b0];rfl,by rw[cell_of_row wr w.heap.size 10 _ _ _ h.b0];rfl⟩
  go_enter Tryz.func113,Tryz.ntmps113;go_wp2_with fail;generalize w.alloc (.cells #[.bool true,.int .u32 sgn,.int .u32 stl,.slice asD nsD csD,.slice asU nsU csU,.slice aF nF cF,.slice azD nzD czD,.slice azU nzU czU,.int .i64 zk,.slice azT nzT czT,.int .u32 nx] 36)=w0 at *
  go_loopw [3,4] (fun q i wr=>∃(k:Nat) (z:Int),k≤nF∧i=.int .i64 k∧q=.int .i64 z∧0≤z∧z≤nsU+k∧cutR F nF zk nx (nF-k) z=cutR F nF zk nx nF nsU∧OE w 36 #[.bool true,.int .u32 sgn,.int .u32 stl,.slice asD nsD csD,.slice asU nsU csU,.slice aF nF cF,.slice azD nzD czD,.slice azU nzU czU,.int .i64 zk,.slice azT nzT czT,.int .u32 nx] wr) (fun _ i _=>nF-(intOf i).toNat)
  case atStart=>exact⟨0,nsU,Nat.zero_le _,rfl,rfl,by omega,by omega,rfl,HE0.out⟩
  case round=>
   clear HE0;obtain⟨k,z,hk,rfl,rfl,z0,z1,hcut,hst⟩:=hrel;have HST:Hid (OE w 36 #[.bool true,.int .u32 sgn,.int .u32 stl,.slice asD nsD csD,.slice asU nsU csU,.slice aF nF cF,.slice azD nzD czD,.slice azU nzU czU,.int .i64 zk,.slice azT nzT czT,.int .u32 nx] wr):=hst;have HCU:Hid (cutR F nF zk nx (nF-k) z=cutR F nF zk nx nF nsU):=hcut;obtain⟨x4,x5,x8,x10⟩:=HS.out wr hst;have hwl:=hst.lt;clear hcut;by_cases hlt:k<nF
   ·have hlt':(k:Int)<nF:=by omega
    have HNE:Hid (cutR F nF zk nx (nF-k) z=if F.getD (k*4+1) 0=1 then(if zk≤z then F.getD (k*4) 0 else cutR F nF zk nx (nF-(k+1)) (z+1)) else cutR F nF zk nx (nF-(k+1)) z):=by
     show _=_
     have e:=HCT.out (nF-(k+1)) z;rw[show nF-(k+1)+1=nF-k by omega,show nF-(nF-k)=k by omega] at e;exact e
    obtain⟨b,off,ea,hb,hc⟩:=(HA.out.below hst.below).get (by have:=HLT.out;omega);obtain⟨t0,t1,t2,t3⟩:=FAt.four hc k (by have:=HLT.out;omega);subst ea;clear hc hst;generalize F.getD (k*4) 0=s at *;generalize F.getD (k*4+1) 0=m at *;generalize F.getD (k*4+2) 0=x at *;generalize F.getD (k*4+3) 0=y at *;have HN:Hid (OE w 36 #[.bool true,.int .u32 sgn,.int .u32 stl,.slice asD nsD csD,.slice asU nsU csU,.slice (some ⟨b,off,none⟩) nF cF,.slice azD nzD czD,.slice azU nzU czU,.int .i64 zk,.slice azT nzT czT,.int .u32 nx] wr):=HST.out;by_cases hm:m=1
    ·subst hm;by_cases hz:zk≤z
     ·have HR:Hid (cutR F nF zk nx nF nsU=s):=by show _=_;rw[←HCU.out,HNE.out,if_pos rfl,if_pos hz]
      have HF:Hid (Below w.heap.size w wr):=HN.out.below;clear HN HST HNE;go_wp2
      go_ret
      exact⟨ret_int (by rw[HV.out,HR.out]),HF.out⟩
     ·have HR:Hid (cutR F nF zk nx (nF-(k+1)) (z+1)=cutR F nF zk nx nF nsU):=by show _=_;rw[←HCU.out,HNE.out,if_pos rfl,if_neg hz]
      clear HST HNE HCU;go_wp2;go_roundw
      case rel=>exact⟨k+1,z+1,by omega,by go_num,by go_num,by omega,by omega,HR.out,HN.out⟩
      case measure=>simp[intOf];omega
    ·have HR:Hid (cutR F nF zk nx (nF-(k+1)) z=cutR F nF zk nx nF nsU):=by show _=_;rw[←HCU.out,HNE.out,if_neg hm]
     have hm':(m == 1)=false:=by simpa using hm
     clear HST HNE HCU hm;go_wp2;go_roundw
     case rel=>exact⟨k+1,z,by omega,by go_num,rfl,by omega,by omega,HR.out,HN.out⟩
     case measure=>simp[intOf];omega
   ·have hke:k=nF:=by omega
    have hlt':¬ ((k:Int)<nF):=by omega
    have HR:Hid (cutR F nF zk nx nF nsU=nx):=by show _=_;rw[←HCU.out,show nF-k=0 by omega,HC0.out]
    have HF:Hid (Below w.heap.size w wr):=HST.out.below;clear hke hst HST;go_wp2
    go_ret
    exact⟨ret_int (by rw[HV.out,HR.out]),HF.out⟩
end Go.Proofs.YthmeoilbmfdhfaaGreat
