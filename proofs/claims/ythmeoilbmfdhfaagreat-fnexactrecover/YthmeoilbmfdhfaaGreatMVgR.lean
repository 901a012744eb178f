import Derived.Test.YthmeoilbmfdhfaaGreatMSwJa
import Derived.Test.YthmeoilbmfdhfaaGreatMReg
import Derived.Test.YthmeoilbmfdhfaaGreatMPuR
namespace Go.Proofs.YthmeoilbmfdhfaaGreat
open Go.ChangeShapes Go.WideShapes Go.ChangeAt Go.RowKit
set_option linter.unusedVariables false
set_option maxHeartbeats 4000000 in
set_option maxRecDepth 100000 in
theorem rest_any (g o:Nat) (a x:Option Addr) (n c m cx:Nat) (f:Int) (d:Bool) (zs:List Int) (ps:List PD) (w:World) (hg:g<w.heap.size) (x0:w.cell? ⟨g,o,none⟩=some (.slice a n c)) (x1:w.cell? ⟨g,o+1,none⟩=some (.slice x m cx)) (x2:w.cell? ⟨g,o+2,none⟩=some (.int .i64 f)) (x3:w.cell? ⟨g,o+3,none⟩=some (.bool d)) (hd:DAt w (.agg #[.slice a n c,.slice x m cx,.int .i64 f,.bool d]) zs ps f d) (hn:zs.length=n) (hm:ps.length=m) (hz:n≤1048576) (hM:m≤1048576) (hps:∀ i,(ps.getD i (0,[])).2.length≤1048576) :
  Calls Tryz.prog 64 #[.pointer (some ⟨g,o,none⟩)] w fun e w'=>e=.returned (.bool (validB n ps f && !d && decide (m=0)))∧Below w.heap.size w w':=by
 have HC:=hid_ofV (ival_any _ zs ps f d w hd (by omega) (by omega) hps);rw[hn] at HC;obtain⟨V,hV⟩:∃ V,V=(validB n ps f && !d && decide (m=0)):=⟨_,rfl⟩
 rw[←hV];have HV:=hid_ofV hV;clear hd hps hV;go_enter Tryz.func64,Tryz.ntmps64;go_wp2_with fail;refine HC.out.mono ?_;rintro e w1 ⟨rfl,b1⟩;have y1:w1.cell? ⟨g,o+1,none⟩=some (.slice x m cx):=(World.cell?_of_block (a:=⟨g,o+1,none⟩) (w:=w) (b1.block _ hg)).trans x1;have y3:w1.cell? ⟨g,o+3,none⟩=some (.bool d):=(World.cell?_of_block (a:=⟨g,o+3,none⟩) (w:=w) (b1.block _ hg)).trans x3;have HB:=hid_ofV b1;clear HC b1 x0 x1 x2 x3 hn hm;cases hv:validB n ps f with
 |false=>
  have HF:Hid (V=false):=by show _=_;rw[HV.out,hv];rfl
  clear HV;go_wp2
  go_ret
  exact⟨by rw[HF.out];rfl,HB.out⟩
 |true=>
  cases d with
  |true=>
   have HF:Hid (V=false):=by show _=_;rw[HV.out,hv];rfl
   clear HV;go_wp2
   go_ret
   exact⟨by rw[HF.out];rfl,HB.out⟩
  |false=>
   by_cases h0:m=0
   ·have HF:Hid (V=true):=by show _=_;rw[HV.out,hv];simp[h0]
    clear HV;subst h0;go_wp2
    go_ret
    exact⟨by rw[HF.out];rfl,HB.out⟩
   ·have HF:Hid (V=false):=by show _=_;rw[HV.out,hv];simp[h0]
    clear HV;have z0:((m:Int) == 0)=false:=by simp;omega
    have z1:¬ ((m:Int)=0):=by omega
    have z2:decide ((m:Int)=0)=false:=by simp;omega
    go_wp2
    go_ret
    exact⟨by rw[HF.out];rfl,HB.out⟩
structure RO where
 c:Int
 z:List Int
 p:List PD
 k:List Int
 f:Int
 d:Bool
 r:ImR
def roNo (c:Int):RO:=⟨c,[],[],[],0,false,imNo⟩
open Classical in
noncomputable def rcY (zs ks:List Int) (f:Int) (r:ImR):RO:=if zs.length/64-4<2*(r.F.length/4) then ⟨if cpC zs f r=11 then 11 else 9,(cpD zs f r).1,(cpD zs f r).2.1,ks,(cpD zs f r).2.2.1,(cpD zs f r).2.2.2,cpI zs f r⟩ else ⟨9,zs,[],ks,f,false,r⟩
open Classical in
noncomputable def rcO (zs:List Int) (ps:List PD) (f:Int) (d:Bool) (ks:List Int):RO:=if(validB zs.length ps f=true∧d=false∧ps=[])∧ks.length=32 then(if(imG zs [] f).ok=true then rcY zs ks f (imG zs [] f) else roNo 12) else roNo 10
structure RX (w:World) (D:Array Value) (wr:World):Prop where
 below:Below w.heap.size w wr
 b0:wr.heap[w.heap.size]?=some (.cells D 40 (0,0))
 b1:wr.heap[w.heap.size+1]?=some (.cells zrR 50 (0,0))
theorem RX.start (w:World) (D:Array Value):RX w D ((w.alloc (.cells D 40)).alloc (.cells zrR 50)):=by
 have h:=BG2.start w 40 50 D zrR;exact⟨h.below,h.b0,h.b1⟩
theorem RX.lt {w wr:World} {D:Array Value} (h:RX w D wr):w.heap.size+1<wr.heap.size:=(Array.getElem?_eq_some_iff.1 h.b1).1
theorem RX.drew {w wr:World} {D:Array Value} (h:RX w D wr):RX w D wr.drew:=⟨⟨h.below.os,h.below.tape,h.below.output,h.below.size,h.below.block⟩,h.b0,h.b1⟩
theorem RX.call {w wr w':World} {D:Array Value} (h:RX w D wr) (b:Below wr.heap.size wr w'):RX w D w':=by
 have:=h.lt;exact⟨h.below.trans (b.mono h.below.size),by rw[b.block _ (by omega)];exact h.b0,by rw[b.block _ (by omega)];exact h.b1⟩
set_option maxRecDepth 100000 in
set_option maxHeartbeats 8000000 in
theorem irc_yes (a x:Option Addr) (c cx:Nat) (zs:List Int) (f:Int) (ka:Option Addr) (kc:Nat) (ks:List Int) (r:ImR) (w:World) (h:DAt w (.agg #[.slice a zs.length c,.slice x 0 cx,.int .i64 f,.bool false]) zs [] f false) (hka:At .u8 w ka ks) (hv:validB zs.length [] f=true) (hk:ks.length=32) (hr:imG zs [] f=r) (bz:Byte zs) (R:RO) (hR:(if r.ok=true then rcY zs ks f r else roNo 12)=R) :
  Calls Tryz.prog 24 #[.agg #[.slice a zs.length c,.slice x 0 cx,.int .i64 f,.bool false],.slice ka ks.length kc] w fun e w'=>∃ X,e=.returned (.agg X)∧RTQ w.heap.size w' X R.c R.z R.p R.k R.f R.d R.r∧Below w.heap.size w w':=by
 have hvb:=(validB_of hv).1;have hz:zs.length≤1048576:=by have:=hvb.2.2.1;have:=hvb.1;omega
 have HX0:Hid (RX w #[.slice a zs.length c,.slice x 0 cx,.int .i64 f,.bool false] ((w.alloc (.cells #[.slice a zs.length c,.slice x 0 cx,.int .i64 f,.bool false] 40)).alloc (.cells zrR 50))):=RX.start _ _;have HAR:=hid_ofV (fun ww (b:Below w.heap.size w ww) hg x0 x1 x2 x3=>rest_any w.heap.size 0 a x zs.length c 0 cx f false zs [] ww hg x0 x1 x2 x3 (h.below b) rfl rfl hz (by omega) (by simp));rw[hv] at HAR;have HGT:=hid_ofV (fun ww (b:Below w.heap.size w ww)=>igt_any (.agg #[.slice a zs.length c,.slice x 0 cx,.int .i64 f,.bool false]) zs ks f false r ka kc ww (h.below b) (hka.below b) hr bz hz (by omega));have HH:Hid (zs.length≤1048576∧ks.length≤1048576∧Byte zs):=⟨hz,by omega,bz⟩
 have HLE:Hid (ImLe r):=by rw[←hr];exact imG_bd bz (by simp[Byte])
 have HIM:=hid_ofV (fun ho=>imF_of hr ho bz);have HVB:=hid_ofV hvb;have HDV:Hid (DAt w (.agg #[.slice a zs.length c,.slice x 0 cx,.int .i64 f,.bool false]) zs [] f false∧validB zs.length [] f=true):=⟨h,hv⟩
 have HRR:=hid_ofV hR;have hk':(ks.length:Int)=32:=by omega
 have HSD:Hid ((Tryz.prog.info? 40).map (·.size)=some 4):=by show _=_;kernel_rfl
 clear h hka hz hv hr bz hvb hR hk;go_enter Tryz.func24,Tryz.ntmps24
 go_upto_region 1 with fail
 change Code.wp _ _ _ _ ((w.alloc (.cells #[.slice a zs.length c,.slice x 0 cx,.int .i64 f,.bool false] 40)).alloc (.cells zrR 50));generalize ((w.alloc (.cells #[.slice a zs.length c,.slice x 0 cx,.int .i64 f,.bool false] 40)).alloc (.cells zrR 50))=w1 at *;have HA:=hid_ofV (HAR.out w1 HX0.out.below (by have:=HX0.out.lt;omega) (by rw[cell_of_row _ _ _ _ _ _ HX0.out.b0];rfl) (by rw[cell_of_row _ _ _ _ _ _ HX0.out.b0];rfl) (by rw[cell_of_row _ _ _ _ _ _ HX0.out.b0];rfl) (by rw[cell_of_row _ _ _ _ _ _ HX0.out.b0];rfl));clear HAR;go_wp2_with fail;refine HA.out.mono ?_;rintro e w2 ⟨rfl,b2⟩;have HX2:=hid_ofV (HX0.out.call b2);clear b2 HX0 HA;go_wp2_with (first
  |(refine wpList_load_row rfl 40 (.tmp 2) rfl w.heap.size rfl 40 #[.slice a zs.length c,.slice x 0 cx,.int .i64 f,.bool false] (0,0) _ HX2.out.b0 Tryz.underlying40 rfl HSD.out ?_)
  |fail)
 refine(HGT.out w2 HX2.out.below).mono ?_;rintro e w3 ⟨C4,rfl,g3,b3⟩;have b4:Below w3.heap.size w3 (w3.alloc (.cells C4 48)):=(Below.refl _ _).alloc (Nat.le_refl _) _;have HX4:=hid_ofV ((HX2.out.call b3).call b4);have hl2:=HX2.out.lt;have hs3:=b3.size;obtain⟨lo,hlo⟩:∃ lo,w2.heap.size=lo:=⟨_,rfl⟩
 rw[hlo] at g3 hl2 hs3;have HW4:Hid ((w3.alloc (.cells C4 48)).heap[w3.heap.size]?=some (.cells C4 48 (0,0))∧GP lo (w3.alloc (.cells C4 48)) C4 zs ks f false r):=⟨heap_alloc_new w3 _,g3.below b4⟩
 have HLT:Hid (w.heap.size+1<lo∧lo≤w3.heap.size∧w3.heap.size<(w3.alloc (.cells C4 48)).heap.size):=⟨hl2,hs3,by simp⟩
 have HZ4:Hid ((w3.alloc (.cells #[.slice none 0 0,.slice none 0 0,.int .i64 0,.bool false,.slice none 0 0,.bool false,.int .u32 0,.int .u32 0,.slice none 0 0,.slice none 0 0,.slice none 0 0,.slice none 0 0,.slice none 0 0,.int .i64 0,.slice none 0 0,.int .u32 0] 48)).heap[w3.heap.size]?=some (.cells #[.slice none 0 0,.slice none 0 0,.int .i64 0,.bool false,.slice none 0 0,.bool false,.int .u32 0,.int .u32 0,.slice none 0 0,.slice none 0 0,.slice none 0 0,.slice none 0 0,.slice none 0 0,.int .i64 0,.slice none 0 0,.int .u32 0] 48 (0,0))∧(Tryz.prog.info? 48).map (·.size)=some C4.size∧(#[.slice none 0 0,.slice none 0 0,.int .i64 0,.bool false,.slice none 0 0,.bool false,.int .u32 0,.int .u32 0,.slice none 0 0,.slice none 0 0,.slice none 0 0,.slice none 0 0,.slice none 0 0,.int .i64 0,.slice none 0 0,.int .u32 0]:Array Value).size=C4.size∧C4.all (·.oneCell')=true):=⟨heap_alloc_new w3 _,by rw[g3.gl.row.1];exact Tryz.sizeG,by rw[g3.gl.row.1];rfl,g3.gl.row.2⟩
 obtain⟨da,dc,ca,cc,kb,kd,aSD,nSD,cSD,aSU,nSU,cSU,aF,mF,cF,aD,nD,cD,aU,nU,cU,aT,cT,hC,_,_,_,⟨_,_,_,_,_,_,_,_,e3,_⟩,_⟩:=g3;have HCL:=hid_ofV hC;have HMl:=hid_ofV e3;clear hlo hl2 hs3 b3 b4 hC e3 HX2 HGT
 go_upto_region 4 with (first
  |(refine wpList_store_row rfl 48 (.tmp 5) (.tmp 17) rfl w3.heap.size C4 rfl rfl 48 _ HZ4.out.1 HZ4.out.2.1 HZ4.out.2.2.1 HZ4.out.2.2.2 ?_)
  |fail)
 rw[World.setRow_alloc_new];clear HZ4;generalize w3.alloc (.cells C4 48)=w4 at *;generalize w3.heap.size=A at *;have k5:w4.cell? ⟨A,5,none⟩=some (.bool r.ok):=by rw[cell_of_row w4 A 5 _ _ _ HW4.out.1,HCL.out];rfl
 cases hok:r.ok with
 |false=>
  rw[hok] at k5;have HO:Hid (R=roNo 12):=by show _=_;rw[←HRR.out,hok];rfl
  clear HIM;go_wp2_with (first
   |(refine wpList_store_row rfl 50 (.tmp 4) (.tmp 22) rfl (w.heap.size+1) #[.int .i64 12,.slice none 0 0,.slice none 0 0,.int .i64 0,.bool false,.slice none 0 0,.bool false,.int .u32 0,.int .u32 0,.slice none 0 0,.slice none 0 0,.slice none 0 0,.slice none 0 0,.slice none 0 0,.int .i64 0,.slice none 0 0,.int .u32 0] rfl rfl 50 _ HX4.out.b1 Tryz.sizeR rfl (by simp[Value.oneCell']) ?_)
   |fail)
  (try simp only[Exit.inBlock,Exit.then])
  exact bodyPost_ret (v:=.agg #[.int .i64 12,.slice none 0 0,.slice none 0 0,.int .i64 0,.bool false,.slice none 0 0,.bool false,.int .u32 0,.int .u32 0,.slice none 0 0,.slice none 0 0,.slice none 0 0,.slice none 0 0,.slice none 0 0,.int .i64 0,.slice none 0 0,.int .u32 0]) (results_cell_row rfl _ _ (w.heap.size+1) 50 _ (0,0) _ rfl (setRow_heap _ _ _ _ _ _ HX4.out.b1) Tryz.underlying50 rfl Tryz.sizeR) rfl ⟨_,rfl,by rw[HO.out];exact⟨#[.slice none 0 0,.slice none 0 0,.int .i64 0,.bool false,.slice none 0 0,.bool false,.int .u32 0,.int .u32 0,.slice none 0 0,.slice none 0 0,.slice none 0 0,.slice none 0 0,.slice none 0 0,.int .i64 0,.slice none 0 0,.int .u32 0],rfl,(GP.no _ _).gq (by rw[size_setRow];exact HX4.out.below.size)⟩,HX4.out.below.trans ((Wr.setRow _ _ _).below (by omega))⟩
 |true=>
  rw[hok] at k5;obtain⟨n,hn⟩:=HIM.out hok;have HIF:=hid_ofV hn;have HRO:Hid (R=rcY zs ks f r):=by show _=_;rw[←HRR.out,hok];rfl
  obtain⟨J,hJ⟩:∃ J:Int,((zs.length/64-4:Nat):Int)=J:=⟨_,rfl⟩
  have HMF:Hid (mF=n∧n≤252∧0≤J∧J≤252∧r.F.length/4=n∧((zs.length/64-4:Nat):Int)=J):=by
   have h1:=hn.len;have h2:=HMl.out;have h3:=hn.nJ;have h4:=HVB.out.2.2.1;refine⟨by omega,by omega,by omega,by omega,by omega,hJ⟩
  have HC4:Hid (w4.cell? ⟨A,10,none⟩=some (.slice aF mF cF)):=by show _=_;rw[cell_of_row w4 A 10 _ _ _ HW4.out.1,HCL.out];rfl
  have HJS:Hid (∀ ww,ww=w4.drew→Calls Tryz.prog 65 #[.pointer (some ⟨w.heap.size,0,none⟩)] ww fun e w'=>e=.returned (.int .u32 J)∧w'=ww):=fun ww e=>by
   obtain⟨da',dc',ca',cc',ed,q1,q2,q3⟩:=HDV.out.1;simp only[Value.agg.injEq,Array.mk.injEq,List.cons.injEq,Value.slice.injEq] at ed;rw[←hJ];subst e;have b5:Below w.heap.size w w4.drew:=⟨HX4.out.below.os,HX4.out.below.tape,HX4.out.below.output,HX4.out.below.size,HX4.out.below.block⟩
   exact jsec_any (a:=a) (x:=x) (c:=c) (m:=0) (cx:=cx) (f:=f) (d:=false) (zs:=zs) (ps:=[]) ⟨HX4.out.b0,by rw[ed.1.1];exact q1.below b5,.inl rfl⟩ ⟨rfl,rfl,HDV.out.2,by rw[ed.1.2.2];exact q3,HH.out.2.2,by simp[Byte]⟩
  clear hJ hn hok HIM HCL HMl;clear HRR;go_wp2_with fail;refine wp_region_any (by kernel_rfl) ?_;refine wpAny_slotsU (fun _ _ _=>True) (frame:=(fun (a b c d e f g h i j k l m n o p q r s u v w x y z A B C D E F G:Value)=>fun (t:Nat→Value)=>({ tmps:=List.toArray [a,b,c,d,e,f,g,h,i,j,k,l,m,n,o,p,q,r,s,u,v,w,x,t 0,t 1,t 2,t 3,t 4,t 5,t 6,t 7,y,z,A,B,C,D,E,F,G],defers:=[] }:Act)) _ _ _ _ _ _ _ _ _ _ _ _ _ _ _ _ _ _ _ _ _ _ _ _ _ _ _ _ _ _ _ _)
   (Ext:=fun L u w'=>w'=w4.drew) (Good:=fun i L w' v=>if i=0 then v=.pointer (some ⟨A,5,none⟩) else if i=1 then v=.pointer (some ⟨A,10,none⟩) else if i=2 then v=.slice aF mF cF else if i=3 then v=.int .i64 mF else if i=4 then v=.int .i64 (2*(mF:Int)) else if i=5 then v=.int .u32 J else if i=6 then v=.int .i64 J else if i=7 then v=.bool (decide (J<2*(mF:Int))) else True) ?hstab (by kernel_rfl) ?hop ?hdone _ _ ((fun (x0 x1 x2 x3 x4 x5 x6 x7:Value)=>fun (i:Nat)=>if i=0 then x0 else if i=1 then x1 else if i=2 then x2 else if i=3 then x3 else if i=4 then x4 else if i=5 then x5 else if i=6 then x6 else if i=7 then x7 else undef) _ _ _ _ _ _ _ _) _ (by simp) rfl ?start (by simp)
  case start=>intro i hi h;exact absurd h (by rw[Array.getD_eq_getD_getElem?,Array.getElem?_replicate];split<;>simp)
  case hstab=>intro j L w9 w' i v hM hij hLi h;exact h
  case hop=>
   intro i o L t w' ho hLi hx hdep K hK;have hi:i<8:=(Array.getElem?_eq_some_iff.1 ho).1;obtain rfl|rfl|rfl|rfl|rfl|rfl|rfl|rfl:i=0∨i=1∨i=2∨i=3∨i=4∨i=5∨i=6∨i=7:=by omega
   all_goals(simp at ho;subst ho)
   ·clear hdep;have hK':=hK w' (.pointer (some ⟨A,5,none⟩)) (by simp) hx trivial;clear hK hx;rw[if_pos (by rfl)];go_simp;simpa[upd] using hK'
   ·have d0:t 0=.pointer (some ⟨A,5,none⟩):=by simpa using(hdep ⟨0,.data⟩ (by simp) rfl).2
    clear hdep;have hK':=hK w' (.pointer (some ⟨A,10,none⟩)) (by simp) hx trivial;clear hK hx;rw[if_pos (by rfl)];go_simp;simpa[upd,d0] using hK'
   ·have d1:t 1=.pointer (some ⟨A,10,none⟩):=by simpa using(hdep ⟨1,.data⟩ (by simp) rfl).2
    clear hdep;have k10:w'.cell? ⟨A,10,none⟩=some (.slice aF mF cF):=by rw[hx];exact HC4.out
    have hK':=hK w' (.slice aF mF cF) (by simp) hx trivial;clear hK hx;rw[if_pos (by rfl)];go_simp;simpa[upd,d1] using hK'
   ·have d2:t 2=.slice aF mF cF:=by simpa using(hdep ⟨2,.data⟩ (by simp) rfl).2
    clear hdep;have hK':=hK w' (.int .i64 mF) (by simp) hx trivial;clear hK hx;rw[if_pos (by rfl)];go_simp;simpa[upd,d2] using hK'
   ·have d3:t 3=.int .i64 mF:=by simpa using(hdep ⟨3,.data⟩ (by simp) rfl).2
    clear hdep;have hw9:IntKind.i64.wrap (2*(mF:Int))=2*(mF:Int):=by rw[IntKind.wrap_i64];have:=HMF.out;omega
    have hK':=hK w' (.int .i64 (2*(mF:Int))) (by simp) hx trivial;clear hK hx;rw[if_pos (by rfl)];go_simp;simpa[upd,d3] using hK'
   ·clear hdep;have A:=HJS.out w' hx;have hK':=hK w' (.int .u32 J) (by simp) hx trivial;clear hK hx;rw[if_pos (by rfl)];go_simp;try simp only[]
    refine A.mono ?_;rintro e w9 ⟨rfl,h9⟩;subst h9;clear A;go_simp;simpa[upd] using hK'
   ·have d5:t 5=.int .u32 J:=by simpa using(hdep ⟨5,.data⟩ (by simp) rfl).2
    clear hdep;have hw9:IntKind.i64.wrap J=J:=by rw[IntKind.wrap_i64];have:=HMF.out;omega
    have hK':=hK w' (.int .i64 J) (by simp) hx trivial;clear hK hx;rw[if_pos (by rfl)];go_simp;simpa[upd,d5] using hK'
   ·have d4:t 4=.int .i64 (2*(mF:Int)):=by simpa using(hdep ⟨4,.data⟩ (by simp) rfl).2
    have d6:t 6=.int .i64 J:=by simpa using(hdep ⟨6,.data⟩ (by simp) rfl).2
    clear hdep;have hK':=hK w' (.bool (decide (J<2*(mF:Int)))) (by simp) hx trivial;clear hK hx;rw[if_pos (by rfl)];go_simp;simpa[upd,d4,d6] using hK'
  case hdone=>
   intro L t w5 hx hg;have d7:t 7=.bool (decide (J<2*(mF:Int))):=by simpa using hg 7 (by decide)
   clear hg;subst hx;have HW5:Hid (w4.drew.heap[A]?=some (.cells C4 48 (0,0))∧GP lo w4.drew C4 zs ks f false r∧RX w #[.slice a zs.length c,.slice x 0 cx,.int .i64 f,.bool false] w4.drew):=⟨HW4.out.1,HW4.out.2.below ⟨rfl,rfl,rfl,Nat.le_refl _,fun _ _=>rfl⟩,HX4.out.drew⟩
   dsimp only;rw[d7];clear d7;by_cases hJ:J<2*(mF:Int)
   ·have hq:decide (J<2*(mF:Int))=true:=by simpa using hJ
    rw[hq];clear hq;have HO:Hid (R=⟨if cpC zs f r=11 then 11 else 9,(cpD zs f r).1,(cpD zs f r).2.1,ks,(cpD zs f r).2.2.1,(cpD zs f r).2.2.2,cpI zs f r⟩):=by show _=_;rw[HRO.out];unfold rcY;rw[if_pos (by have:=HMF.out;omega)]
    have HCM:=hid_ofV (cmp_any A C4 zs ks f r n w4.drew HW5.out.1 HW5.out.2.1.gl HIF.out (by have:=HIF.out.len;have:=HMF.out;omega) HLE.out HH.out.2.2 HH.out.2.1);clear hJ HC4 HJS;go_wp2_with fail;refine HCM.out.mono ?_;rintro e w6 ⟨X,rfl,hR,b6⟩;have HX6:=hid_ofV (HW5.out.2.2.call b6);have b7:Below w6.heap.size w6 (w6.alloc (.cells X 50)):=(Below.refl _ _).alloc (Nat.le_refl _) _;have HX7:=hid_ofV (HX6.out.call b7);have HR7:=hid_ofV (hR.below b7);have HA7:Hid ((w6.alloc (.cells X 50)).heap[A]?=some (.cells C4 48 (0,0))∧(w6.alloc (.cells X 50)).heap[w6.heap.size]?=some (.cells X 50 (0,0))):=⟨by rw[b7.block _ (by have:=HLT.out;have:=b6.size;exact Nat.lt_of_lt_of_le HLT.out.2.2 (by exact this)),b6.block _ HLT.out.2.2];exact HW5.out.1,heap_alloc_new w6 _⟩
    have HXX:Hid ((Tryz.prog.info? 50).map (·.size)=some X.size∧zrR.size=X.size∧X.all (·.oneCell')=true):=⟨by rw[hR.row.1];exact Tryz.sizeR,by rw[hR.row.1];rfl,hR.row.2⟩
    have HZ6:Hid ((w6.alloc (.cells zrR 50)).heap[w6.heap.size]?=some (.cells zrR 50 (0,0))):=heap_alloc_new w6 _;have HS6:Hid (w4.heap.size≤w6.heap.size):=b6.size;clear hR b6 b7 HCM HX6
    go_upto_region 8 with (first
     |(refine wpList_store_row rfl 50 (.tmp 6) (.tmp 31) rfl w6.heap.size X rfl rfl 50 _ HZ6.out HXX.out.1 HXX.out.2.1 HXX.out.2.2 ?_)
     |fail)
    rw[World.setRow_alloc_new];clear HZ6;generalize w6.alloc (.cells X 50)=w7 at *;generalize w6.heap.size=T6 at *;obtain⟨cp,hcp⟩:∃ cp,cpC zs f r=cp:=⟨_,rfl⟩
    obtain⟨o,ho⟩:∃ o,cpD zs f r=o:=⟨_,rfl⟩
    obtain⟨q,hq9⟩:∃ q,cpI zs f r=q:=⟨_,rfl⟩
    rw[hcp,ho,hq9] at HO HR7;clear hcp ho hq9;obtain⟨C6,hX6,g6⟩:=HR7.out;have k0:w7.cell? ⟨T6,0,none⟩=some (.int .i64 cp):=by rw[cell_of_row w7 T6 0 _ _ _ HA7.out.2,hX6,Array.getElem?_append_left (show 0<(#[Value.int .i64 cp]:Array Value).size from Nat.one_pos)];rfl
    have HG6:=hid_ofV (And.intro hX6 g6);clear hX6 g6;by_cases hc:cp=11
    ·subst hc;rw[if_pos rfl] at HO;go_wp2_with (first
      |(refine wpList_load_row rfl 50 (.tmp 6) rfl T6 rfl 50 X (0,0) _ HA7.out.2 Tryz.underlying50 rfl HXX.out.1 ?_)
      |(refine wpList_store_row rfl 50 (.tmp 4) (.tmp 35) rfl (w.heap.size+1) X rfl rfl 50 _ HX7.out.b1 HXX.out.1 HXX.out.2.1 HXX.out.2.2 ?_)
      |fail)
     (try simp only[Exit.inBlock,Exit.then])
     exact bodyPost_ret (v:=.agg X) (results_cell_row rfl _ _ (w.heap.size+1) 50 _ (0,0) _ rfl (setRow_heap _ _ _ _ _ _ HX7.out.b1) Tryz.underlying50 rfl HXX.out.1) rfl ⟨_,rfl,by rw[HO.out];exact(HR7.out.put (show w.heap.size+1<w4.heap.size by have:=HLT.out;omega)).mono (by omega),HX7.out.below.trans ((Wr.setRow _ _ _).below (by omega))⟩
    ·have hc':(cp == 11)=false:=by simp[hc]
     rw[if_neg hc] at HO;clear hc;have HRG:Hid (w7.rangeAt T6 1 C6.toList):=by
      have h7:=HA7.out.2;rw[HG6.out.1] at h7;exact mid_row h7 1 _ (by rw[Array.toList_append];exact List.take_length)
     have HSC:Hid ((Tryz.prog.info? 48).map (·.size)=some C6.toList.length∧(Tryz.prog.info? 48).map (·.size)=some C6.size∧C4.size=C6.size∧C6.all (·.oneCell')=true):=⟨by rw[Array.length_toList,HG6.out.2.row.1];exact Tryz.sizeG,by rw[HG6.out.2.row.1];exact Tryz.sizeG,by rw[HG6.out.2.row.1];exact HW5.out.2.1.gl.row.1,HG6.out.2.row.2⟩
     have hw8:=Wr.setRow A w7 C6;have hlt:=HLT.out;have g8:GTQ lo (w7.setRow A C6) C6 o.1 o.2.1 ks o.2.2.1 o.2.2.2 q:=(HG6.out.2.keep (Nat.le_of_eq hw8.size.symm) (fun k hk _=>hw8.block k (by have:w4.heap.size≤k:=hk;omega))).mono (show lo≤w4.heap.size by omega);obtain⟨X9,hX9,hQ9⟩:=rtq_of (c:=9) g8;have HQ9:=hid_ofV hQ9;have HX9:Hid (#[.int .i64 9]++C6=X9∧(Tryz.prog.info? 50).map (·.size)=some X9.size∧zrR.size=X9.size∧X9.all (·.oneCell')=true∧C6.size=16):=⟨hX9,by rw[hQ9.row.1];exact Tryz.sizeR,by rw[hQ9.row.1];rfl,hQ9.row.2,g8.row.1⟩
     have HR9:Hid ((w7.setRow A C6).heap[w.heap.size+1]?=some (.cells zrR 50 (0,0))):=by show _=_;rw[hw8.block _ (by omega)];exact HX7.out.b1
     have HB9:Hid (Below w.heap.size w (w7.setRow A C6)):=HX7.out.below.trans (hw8.below (by omega));have HA8:Hid ((w7.setRow A C6).heap[A]?=some (.cells C6 48 (0,0))):=setRow_heap _ _ _ _ _ _ HA7.out.1;clear hw8 hlt g8 hX9 hQ9 HX7 HR7 HXX HG6
     go_upto_region 11 with (first
      |(refine wpList_load_mid rfl 48 (.tmp 36) rfl T6 1 rfl C6.toList _ HRG.out Tryz.underlying48 rfl HSC.out.1 ?_)
      |(refine wpList_store_row rfl 48 (.tmp 5) (.tmp 37) rfl A C6 rfl rfl 48 _ HA7.out.1 HSC.out.2.1 HSC.out.2.2.1 HSC.out.2.2.2 ?_)
      |fail)
     generalize w7.setRow A C6=w8 at *;go_wp2_with (first
      |(refine wpList_load_row rfl 48 (.tmp 5) rfl A rfl 48 C6 (0,0) _ HA8.out Tryz.underlying48 rfl HSC.out.2.1 ?_)
      |(refine wpList_bR rfl _ (.tmp 38) rfl 9 C6 rfl rfl HX9.out.2.2.2.2 ?_;rw[HX9.out.1])
      |(refine wpList_store_row rfl 50 (.tmp 4) (.tmp 39) rfl (w.heap.size+1) X9 rfl rfl 50 _ HR9.out HX9.out.2.1 HX9.out.2.2.1 HX9.out.2.2.2.1 ?_)
      |fail)
     (try simp only[Exit.inBlock,Exit.then])
     exact bodyPost_ret (v:=.agg X9) (results_cell_row rfl _ _ (w.heap.size+1) 50 _ (0,0) _ rfl (setRow_heap _ _ _ _ _ _ HR9.out) Tryz.underlying50 rfl HX9.out.2.1) rfl ⟨_,rfl,by rw[HO.out];exact(HQ9.out.put HLT.out.1).mono (by omega),HB9.out.trans ((Wr.setRow _ _ _).below (by omega))⟩
   ·have hq:decide (J<2*(mF:Int))=false:=by simpa using hJ
    rw[hq];clear hq;have HO:Hid (R=⟨9,zs,[],ks,f,false,r⟩):=by show _=_;rw[HRO.out];unfold rcY;rw[if_neg (by have:=HMF.out;omega)]
    obtain⟨X9,hX9,hQ9⟩:=rtq_of (c:=9) (HW5.out.2.1.gq (by show lo≤w4.heap.size;have:=HLT.out;omega));have HQ9:=hid_ofV hQ9;have HX9:Hid (#[.int .i64 9]++C4=X9∧(Tryz.prog.info? 50).map (·.size)=some X9.size∧zrR.size=X9.size∧X9.all (·.oneCell')=true∧C4.size=16):=⟨hX9,by rw[hQ9.row.1];exact Tryz.sizeR,by rw[hQ9.row.1];rfl,hQ9.row.2,HW5.out.2.1.gl.row.1⟩
    have HR9:=hid_ofV HW5.out.2.2.b1;have HB9:=hid_ofV HW5.out.2.2.below;have HSC:Hid ((Tryz.prog.info? 48).map (·.size)=some C4.size):=by show _=_;rw[HW5.out.2.1.gl.row.1];exact Tryz.sizeG
    clear hJ hX9 hQ9 HC4 HJS;go_wp2_with (first
     |(refine wpList_load_row rfl 48 (.tmp 5) rfl A rfl 48 C4 (0,0) _ HW5.out.1 Tryz.underlying48 rfl HSC.out ?_)
     |(refine wpList_bR rfl _ (.tmp 38) rfl 9 C4 rfl rfl HX9.out.2.2.2.2 ?_;rw[HX9.out.1])
     |(refine wpList_store_row rfl 50 (.tmp 4) (.tmp 39) rfl (w.heap.size+1) X9 rfl rfl 50 _ HR9.out HX9.out.2.1 HX9.out.2.2.1 HX9.out.2.2.2.1 ?_)
     |fail)
    (try simp only[Exit.inBlock,Exit.then])
    exact bodyPost_ret (v:=.agg X9) (results_cell_row rfl _ _ (w.heap.size+1) 50 _ (0,0) _ rfl (setRow_heap _ _ _ _ _ _ HR9.out) Tryz.underlying50 rfl HX9.out.2.1) rfl ⟨_,rfl,by rw[HO.out];exact(HQ9.out.put HLT.out.1).mono (by omega),HB9.out.trans ((Wr.setRow _ _ _).below (by omega))⟩
set_option maxRecDepth 100000 in
set_option maxHeartbeats 8000000 in
theorem irc_any (a x:Option Addr) (c cx:Nat) (zs:List Int) (ps:List PD) (f:Int) (d:Bool) (ka:Option Addr) (kc:Nat) (ks:List Int) (w:World) (h:DAt w (.agg #[.slice a zs.length c,.slice x ps.length cx,.int .i64 f,.bool d]) zs ps f d) (hka:At .u8 w ka ks) (hz:zs.length≤1048576) (hm:ps.length≤1048576) (hps:∀ i,(ps.getD i (0,[])).2.length≤1048576) (bz:Byte zs) (hk:ks.length≤1048576) :
  Calls Tryz.prog 24 #[.agg #[.slice a zs.length c,.slice x ps.length cx,.int .i64 f,.bool d],.slice ka ks.length kc] w fun e w'=>∃ X,e=.returned (.agg X)∧RTQ w.heap.size w' X (rcO zs ps f d ks).c (rcO zs ps f d ks).z (rcO zs ps f d ks).p (rcO zs ps f d ks).k (rcO zs ps f d ks).f (rcO zs ps f d ks).d (rcO zs ps f d ks).r∧Below w.heap.size w w':=by
 by_cases hc:(validB zs.length ps f=true∧d=false∧ps=[])∧ks.length=32
 ·obtain⟨⟨h1,rfl,rfl⟩,h4⟩:=hc;exact irc_yes a x c cx zs f ka kc ks _ w h hka h1 h4 rfl bz _ (by unfold rcO;exact(if_pos ⟨⟨h1,rfl,rfl⟩,h4⟩).symm)
 have HO:Hid (rcO zs ps f d ks=roNo 10):=by show _=_;unfold rcO;rw[if_neg hc]
 have HNC:=hid_ofV hc;clear hc;have HX0:Hid (RX w #[.slice a zs.length c,.slice x ps.length cx,.int .i64 f,.bool d] ((w.alloc (.cells #[.slice a zs.length c,.slice x ps.length cx,.int .i64 f,.bool d] 40)).alloc (.cells zrR 50))):=RX.start _ _;have HAR:=hid_ofV (fun ww (b:Below w.heap.size w ww) hg x0 x1 x2 x3=>rest_any w.heap.size 0 a x zs.length c ps.length cx f d zs ps ww hg x0 x1 x2 x3 (h.below b) rfl rfl hz hm hps);have HD:=hid_ofV (And.intro h hka);have HH:Hid (zs.length≤1048576∧ks.length≤1048576∧Byte zs):=⟨hz,hk,bz⟩
 clear h hka hz hm hps bz hk;go_enter Tryz.func24,Tryz.ntmps24
 go_upto_region 1 with fail
 change Code.wp _ _ _ _ ((w.alloc (.cells #[.slice a zs.length c,.slice x ps.length cx,.int .i64 f,.bool d] 40)).alloc (.cells zrR 50));generalize ((w.alloc (.cells #[.slice a zs.length c,.slice x ps.length cx,.int .i64 f,.bool d] 40)).alloc (.cells zrR 50))=w1 at *;have A:=HAR.out w1 HX0.out.below (by have:=HX0.out.lt;omega) (by rw[cell_of_row _ _ _ _ _ _ HX0.out.b0];rfl) (by rw[cell_of_row _ _ _ _ _ _ HX0.out.b0];rfl) (by rw[cell_of_row _ _ _ _ _ _ HX0.out.b0];rfl) (by rw[cell_of_row _ _ _ _ _ _ HX0.out.b0];rfl);obtain⟨V,hV⟩:∃ V,(validB zs.length ps f && !d && decide (ps.length=0))=V:=⟨_,rfl⟩
 rw[hV] at A;have HA:=hid_ofV A;have HV:=hid_ofV hV;clear A hV HAR;go_wp2_with fail;refine HA.out.mono ?_;rintro e w2 ⟨rfl,b2⟩;have HX2:=hid_ofV (HX0.out.call b2);have hl2:=HX2.out.lt;clear b2 HX0 HA;cases V with
 |false=>
  go_wp2_with (first
   |(refine wpList_store_row rfl 50 (.tmp 4) (.tmp 14) rfl (w.heap.size+1) #[.int .i64 10,.slice none 0 0,.slice none 0 0,.int .i64 0,.bool false,.slice none 0 0,.bool false,.int .u32 0,.int .u32 0,.slice none 0 0,.slice none 0 0,.slice none 0 0,.slice none 0 0,.slice none 0 0,.int .i64 0,.slice none 0 0,.int .u32 0] rfl rfl 50 _ HX2.out.b1 Tryz.sizeR rfl (by simp[Value.oneCell']) ?_)
   |fail)
  (try simp only[Exit.inBlock,Exit.then])
  exact bodyPost_ret (v:=.agg #[.int .i64 10,.slice none 0 0,.slice none 0 0,.int .i64 0,.bool false,.slice none 0 0,.bool false,.int .u32 0,.int .u32 0,.slice none 0 0,.slice none 0 0,.slice none 0 0,.slice none 0 0,.slice none 0 0,.int .i64 0,.slice none 0 0,.int .u32 0]) (results_cell_row rfl _ _ (w.heap.size+1) 50 _ (0,0) _ rfl (setRow_heap _ _ _ _ _ _ HX2.out.b1) Tryz.underlying50 rfl Tryz.sizeR) rfl ⟨_,rfl,by rw[HO.out];exact⟨#[.slice none 0 0,.slice none 0 0,.int .i64 0,.bool false,.slice none 0 0,.bool false,.int .u32 0,.int .u32 0,.slice none 0 0,.slice none 0 0,.slice none 0 0,.slice none 0 0,.slice none 0 0,.int .i64 0,.slice none 0 0,.int .u32 0],rfl,(GP.no _ _).gq (by rw[size_setRow];exact HX2.out.below.size)⟩,HX2.out.below.trans ((Wr.setRow _ _ _).below (by omega))⟩
 |true=>
  have hk':¬ ((ks.length:Int)=32):=fun h=>HNC.out ⟨by
   have:=HV.out;simp at this;exact⟨this.1.1,this.1.2,this.2⟩,by omega⟩
  go_wp2_with (first
   |(refine wpList_store_row rfl 50 (.tmp 4) (.tmp 14) rfl (w.heap.size+1) #[.int .i64 10,.slice none 0 0,.slice none 0 0,.int .i64 0,.bool false,.slice none 0 0,.bool false,.int .u32 0,.int .u32 0,.slice none 0 0,.slice none 0 0,.slice none 0 0,.slice none 0 0,.slice none 0 0,.int .i64 0,.slice none 0 0,.int .u32 0] rfl rfl 50 _ HX2.out.b1 Tryz.sizeR rfl (by simp[Value.oneCell']) ?_)
   |fail)
  (try simp only[Exit.inBlock,Exit.then])
  exact bodyPost_ret (v:=.agg #[.int .i64 10,.slice none 0 0,.slice none 0 0,.int .i64 0,.bool false,.slice none 0 0,.bool false,.int .u32 0,.int .u32 0,.slice none 0 0,.slice none 0 0,.slice none 0 0,.slice none 0 0,.slice none 0 0,.int .i64 0,.slice none 0 0,.int .u32 0]) (results_cell_row rfl _ _ (w.heap.size+1) 50 _ (0,0) _ rfl (setRow_heap _ _ _ _ _ _ HX2.out.b1) Tryz.underlying50 rfl Tryz.sizeR) rfl ⟨_,rfl,by rw[HO.out];exact⟨#[.slice none 0 0,.slice none 0 0,.int .i64 0,.bool false,.slice none 0 0,.bool false,.int .u32 0,.int .u32 0,.slice none 0 0,.slice none 0 0,.slice none 0 0,.slice none 0 0,.slice none 0 0,.int .i64 0,.slice none 0 0,.int .u32 0],rfl,(GP.no _ _).gq (by rw[size_setRow];exact HX2.out.below.size)⟩,HX2.out.below.trans ((Wr.setRow _ _ _).below (by omega))⟩
end Go.Proofs.YthmeoilbmfdhfaaGreat
