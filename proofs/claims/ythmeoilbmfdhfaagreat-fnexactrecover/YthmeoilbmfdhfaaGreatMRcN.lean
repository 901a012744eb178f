import Derived.Test.YthmeoilbmfdhfaaGreatRcJ
import Derived.Test.YthmeoilbmfdhfaaGreatMVgR
namespace Go.Proofs.YthmeoilbmfdhfaaGreat
open Go.ChangeShapes Go.WideShapes Go.ChangeAt Go.RowKit
set_option linter.unusedVariables false
set_option maxRecDepth 100000 in
set_option maxHeartbeats 8000000 in
theorem srn_any (a x:Option Addr) (c cx:Nat) (zs:List Int) (ps:List PD) (f:Int) (d:Bool) (ka:Option Addr) (kc:Nat) (ks:List Int) (w:World) (h:DAt w (.agg #[.slice a zs.length c,.slice x ps.length cx,.int .i64 f,.bool d]) zs ps f d) (hz:zs.length≤1048576) (hm:ps.length≤1048576) (hps:∀ i,(ps.getD i (0,[])).2.length≤1048576) (hc:¬ ((validB zs.length ps f=true∧d=false∧ps=[])∧ks.length=32)) (R9:RO) (hR:(rcO zs ps f d ks)=R9) :
  Calls Tryz.prog 23 #[.agg #[.slice a zs.length c,.slice x ps.length cx,.int .i64 f,.bool d],.slice ka ks.length kc] w fun e w'=>∃ X,e=.returned (.agg X)∧RM w.heap.size w' X R9.c R9.z R9.p R9.k R9.f R9.d R9.r∧Below w.heap.size w w':=by
 have HO:Hid (R9=roNo 10):=by show _=_;rw[←hR];unfold rcO;rw[if_neg hc]
 have HX0:Hid (RX w #[.slice a zs.length c,.slice x ps.length cx,.int .i64 f,.bool d] ((w.alloc (.cells #[.slice a zs.length c,.slice x ps.length cx,.int .i64 f,.bool d] 40)).alloc (.cells zrR 50))):=RX.start _ _;have HVD:Hid (∀ ww,Below w.heap.size w ww→Calls Tryz.prog 27 #[.agg #[.slice a zs.length c,.slice x ps.length cx,.int .i64 f,.bool d]] ww fun e w'=>e=.returned (.bool (validB zs.length ps f))∧Below ww.heap.size ww w'):=fun ww b=>sval_any _ zs ps f d ww (h.below b) hz hm hps
 have HNC:=hid_ofV hc;clear h hz hm hps hc hR;go_enter Tryz.func23,Tryz.ntmps23
 go_upto_region 1 with fail
 change Code.wp _ _ _ _ ((w.alloc (.cells #[.slice a zs.length c,.slice x ps.length cx,.int .i64 f,.bool d] 40)).alloc (.cells zrR 50));generalize ((w.alloc (.cells #[.slice a zs.length c,.slice x ps.length cx,.int .i64 f,.bool d] 40)).alloc (.cells zrR 50))=w1 at *;go_wp2_with (first
  |(refine wpList_load_row rfl 40 (.tmp 2) rfl w.heap.size rfl 40 _ (0,0) _ HX0.out.b0 Tryz.underlying40 rfl Tryz.sizeDv ?_)
  |fail)
 refine(HVD.out w1 HX0.out.below).mono ?_;rintro e w2 ⟨rfl,b2⟩;have HX2:=hid_ofV (HX0.out.call b2);clear b2 HX0 HVD;have k3:w2.cell? ⟨w.heap.size,3,none⟩=some (.bool d):=by rw[cell_of_row _ _ _ _ _ _ HX2.out.b0];rfl
 have k1:w2.cell? ⟨w.heap.size,1,none⟩=some (.slice x ps.length cx):=by rw[cell_of_row _ _ _ _ _ _ HX2.out.b0];rfl
 have hw9:=Wr.setRow (w.heap.size+1) w2 #[.int .i64 10,.slice none 0 0,.slice none 0 0,.int .i64 0,.bool false,.slice none 0 0,.bool false,.int .u32 0,.int .u32 0,.slice none 0 0,.slice none 0 0,.slice none 0 0,.slice none 0 0,.slice none 0 0,.int .i64 0,.slice none 0 0,.int .u32 0];have HBEL:Hid (Below w.heap.size w (w2.setRow (w.heap.size+1) #[.int .i64 10,.slice none 0 0,.slice none 0 0,.int .i64 0,.bool false,.slice none 0 0,.bool false,.int .u32 0,.int .u32 0,.slice none 0 0,.slice none 0 0,.slice none 0 0,.slice none 0 0,.slice none 0 0,.int .i64 0,.slice none 0 0,.int .u32 0])):=HX2.out.below.trans (hw9.below (by omega));have HFIN:Hid (RM w.heap.size (w2.setRow (w.heap.size+1) #[.int .i64 10,.slice none 0 0,.slice none 0 0,.int .i64 0,.bool false,.slice none 0 0,.bool false,.int .u32 0,.int .u32 0,.slice none 0 0,.slice none 0 0,.slice none 0 0,.slice none 0 0,.slice none 0 0,.int .i64 0,.slice none 0 0,.int .u32 0]) #[.int .i64 10,.slice none 0 0,.slice none 0 0,.int .i64 0,.bool false,.slice none 0 0,.bool false,.int .u32 0,.int .u32 0,.slice none 0 0,.slice none 0 0,.slice none 0 0,.slice none 0 0,.slice none 0 0,.int .i64 0,.slice none 0 0,.int .u32 0] R9.c R9.z R9.p R9.k R9.f R9.d R9.r):=by
  rw[HO.out];exact⟨#[.slice none 0 0,.slice none 0 0,.int .i64 0,.bool false,.slice none 0 0,.bool false,.int .u32 0,.int .u32 0,.slice none 0 0,.slice none 0 0,.slice none 0 0,.slice none 0 0,.slice none 0 0,.int .i64 0,.slice none 0 0,.int .u32 0],rfl,GM.no _ _ HBEL.out.size⟩
 have HRES:=hid_ofV (setRow_heap w2 (w.heap.size+1) _ #[.int .i64 10,.slice none 0 0,.slice none 0 0,.int .i64 0,.bool false,.slice none 0 0,.bool false,.int .u32 0,.int .u32 0,.slice none 0 0,.slice none 0 0,.slice none 0 0,.slice none 0 0,.slice none 0 0,.int .i64 0,.slice none 0 0,.int .u32 0] _ _ HX2.out.b1);have HB1:=hid_ofV HX2.out.b1;clear hw9;obtain⟨V,hV⟩:∃ V,validB zs.length ps f=V:=⟨_,rfl⟩
 rw[hV];clear HX2 HO;cases V with
 |false=>
  clear HNC hV;go_wp2_with (first
   |(refine wpList_store_row rfl 50 (.tmp 4) (.tmp 26) rfl (w.heap.size+1) #[.int .i64 10,.slice none 0 0,.slice none 0 0,.int .i64 0,.bool false,.slice none 0 0,.bool false,.int .u32 0,.int .u32 0,.slice none 0 0,.slice none 0 0,.slice none 0 0,.slice none 0 0,.slice none 0 0,.int .i64 0,.slice none 0 0,.int .u32 0] rfl rfl 50 _ HB1.out Tryz.sizeR rfl (by simp[Value.oneCell']) ?_)
   |fail)
  (try simp only[Exit.inBlock,Exit.then])
  exact bodyPost_ret (v:=.agg #[.int .i64 10,.slice none 0 0,.slice none 0 0,.int .i64 0,.bool false,.slice none 0 0,.bool false,.int .u32 0,.int .u32 0,.slice none 0 0,.slice none 0 0,.slice none 0 0,.slice none 0 0,.slice none 0 0,.int .i64 0,.slice none 0 0,.int .u32 0]) (results_cell_row rfl _ _ (w.heap.size+1) 50 _ (0,0) _ rfl HRES.out Tryz.underlying50 rfl Tryz.sizeR) rfl ⟨_,rfl,HFIN.out,HBEL.out⟩
 |true=>
  cases d with
  |true=>
   clear HNC hV;go_wp2_with (first
    |(refine wpList_store_row rfl 50 (.tmp 4) (.tmp 26) rfl (w.heap.size+1) #[.int .i64 10,.slice none 0 0,.slice none 0 0,.int .i64 0,.bool false,.slice none 0 0,.bool false,.int .u32 0,.int .u32 0,.slice none 0 0,.slice none 0 0,.slice none 0 0,.slice none 0 0,.slice none 0 0,.int .i64 0,.slice none 0 0,.int .u32 0] rfl rfl 50 _ HB1.out Tryz.sizeR rfl (by simp[Value.oneCell']) ?_)
    |fail)
   (try simp only[Exit.inBlock,Exit.then])
   exact bodyPost_ret (v:=.agg #[.int .i64 10,.slice none 0 0,.slice none 0 0,.int .i64 0,.bool false,.slice none 0 0,.bool false,.int .u32 0,.int .u32 0,.slice none 0 0,.slice none 0 0,.slice none 0 0,.slice none 0 0,.slice none 0 0,.int .i64 0,.slice none 0 0,.int .u32 0]) (results_cell_row rfl _ _ (w.heap.size+1) 50 _ (0,0) _ rfl HRES.out Tryz.underlying50 rfl Tryz.sizeR) rfl ⟨_,rfl,HFIN.out,HBEL.out⟩
  |false=>
   by_cases hp:ps=[]
   ·have hk:¬ ((ks.length:Int)=32):=fun h=>HNC.out ⟨⟨hV,rfl,hp⟩,by omega⟩
    have hk':((ks.length:Int) == 32)=false:=by simpa using hk
    rw[hp] at k1;clear hp HNC hV hk;go_wp2_with (first
     |(refine wpList_store_row rfl 50 (.tmp 4) (.tmp 26) rfl (w.heap.size+1) #[.int .i64 10,.slice none 0 0,.slice none 0 0,.int .i64 0,.bool false,.slice none 0 0,.bool false,.int .u32 0,.int .u32 0,.slice none 0 0,.slice none 0 0,.slice none 0 0,.slice none 0 0,.slice none 0 0,.int .i64 0,.slice none 0 0,.int .u32 0] rfl rfl 50 _ HB1.out Tryz.sizeR rfl (by simp[Value.oneCell']) ?_)
     |fail)
    (try simp only[Exit.inBlock,Exit.then])
    exact bodyPost_ret (v:=.agg #[.int .i64 10,.slice none 0 0,.slice none 0 0,.int .i64 0,.bool false,.slice none 0 0,.bool false,.int .u32 0,.int .u32 0,.slice none 0 0,.slice none 0 0,.slice none 0 0,.slice none 0 0,.slice none 0 0,.int .i64 0,.slice none 0 0,.int .u32 0]) (results_cell_row rfl _ _ (w.heap.size+1) 50 _ (0,0) _ rfl HRES.out Tryz.underlying50 rfl Tryz.sizeR) rfl ⟨_,rfl,HFIN.out,HBEL.out⟩
   ·have hp0:0<ps.length:=List.length_pos_iff.2 hp;clear hp HNC hV;generalize ps.length=m at *;have hp1:(0:Int)<(m:Int):=by omega
    go_wp2_with (first
     |(refine wpList_store_row rfl 50 (.tmp 4) (.tmp 26) rfl (w.heap.size+1) #[.int .i64 10,.slice none 0 0,.slice none 0 0,.int .i64 0,.bool false,.slice none 0 0,.bool false,.int .u32 0,.int .u32 0,.slice none 0 0,.slice none 0 0,.slice none 0 0,.slice none 0 0,.slice none 0 0,.int .i64 0,.slice none 0 0,.int .u32 0] rfl rfl 50 _ HB1.out Tryz.sizeR rfl (by simp[Value.oneCell']) ?_)
     |fail)
    (try simp only[Exit.inBlock,Exit.then])
    exact bodyPost_ret (v:=.agg #[.int .i64 10,.slice none 0 0,.slice none 0 0,.int .i64 0,.bool false,.slice none 0 0,.bool false,.int .u32 0,.int .u32 0,.slice none 0 0,.slice none 0 0,.slice none 0 0,.slice none 0 0,.slice none 0 0,.int .i64 0,.slice none 0 0,.int .u32 0]) (results_cell_row rfl _ _ (w.heap.size+1) 50 _ (0,0) _ rfl HRES.out Tryz.underlying50 rfl Tryz.sizeR) rfl ⟨_,rfl,HFIN.out,HBEL.out⟩
set_option maxRecDepth 100000 in
set_option maxHeartbeats 8000000 in
theorem sry_any (a x:Option Addr) (c cx:Nat) (zs:List Int) (f:Int) (ka:Option Addr) (kc:Nat) (ks:List Int) (r:ImR) (w:World) (h:DAt w (.agg #[.slice a zs.length c,.slice x 0 cx,.int .i64 f,.bool false]) zs [] f false) (hka:At .u8 w ka ks) (hv:validB zs.length [] f=true) (hk:ks.length=32) (hr:imG zs [] f=r) (bz:Byte zs) (R9:RO) (hR:(if r.ok=true then rcY zs ks f r else roNo 12)=R9) :
  Calls Tryz.prog 23 #[.agg #[.slice a zs.length c,.slice x 0 cx,.int .i64 f,.bool false],.slice ka ks.length kc] w fun e w'=>∃ X,e=.returned (.agg X)∧RM w.heap.size w' X R9.c R9.z R9.p R9.k R9.f R9.d R9.r∧Below w.heap.size w w':=by
 have hvb:=(validB_of hv).1;have hz:zs.length≤1048576:=by have:=hvb.2.2.1;have:=hvb.1;omega
 have HX0:Hid (RX w #[.slice a zs.length c,.slice x 0 cx,.int .i64 f,.bool false] ((w.alloc (.cells #[.slice a zs.length c,.slice x 0 cx,.int .i64 f,.bool false] 40)).alloc (.cells zrR 50))):=RX.start _ _;have HVD:Hid (∀ ww,Below w.heap.size w ww→Calls Tryz.prog 27 #[.agg #[.slice a zs.length c,.slice x 0 cx,.int .i64 f,.bool false]] ww fun e w'=>e=.returned (.bool true)∧Below ww.heap.size ww w'):=fun ww b=>by rw[←hv];exact sval_any _ zs [] f false ww (h.below b) hz (by simp) (by simp)
 have HLE:Hid (ImLe r):=by rw[←hr];exact imG_bd bz (by simp[Byte])
 have HLD:Hid (∀ ww,Below w.heap.size w ww→Calls Tryz.prog 7 #[.agg #[.slice a zs.length c,.slice x 0 cx,.int .i64 f,.bool false]] ww fun e w'=>∃ v,e=.returned v∧ImQ w' v r∧Below ww.heap.size ww w'):=fun ww b=>by
  rw[←hr];obtain⟨xa,xc,ya,yc,e,x1,x2,x3⟩:=h.below b;rw[e];exact sld_any xa ya _ xc _ yc f false zs [] ww rfl rfl x1 x2 x3 hz (by simp) (by simp) bz (by simp[Byte])
 have HGT:Hid (∀ ww,Below w.heap.size w ww→∀ vi,ImQ ww vi r→Calls Tryz.prog 56 #[.agg #[.slice a zs.length c,.slice x 0 cx,.int .i64 f,.bool false],.slice ka ks.length kc,vi] ww fun e w'=>∃ C,e=.returned (.agg C)∧GM ww.heap.size w' C zs [] ks f false r∧Below ww.heap.size ww w'):=fun ww b vi hvi=>sgm_any _ vi zs [] ks f false r ka kc ww (h.below b) (hka.below b) hvi HLE.out hz (by simp) (by simp) (by omega)
 have HJR:Hid (∀ ww,Calls Tryz.prog 30 #[.agg #[.slice a zs.length c,.slice x 0 cx,.int .i64 f,.bool false]] ww fun e w'=>e=.returned (.int .i64 ((zs.length/64-4:Nat):Int))∧Below ww.heap.size ww w'):=fun ww=>jour_any a x zs.length c 0 cx f false ww hz hvb.2.1 hvb.2.2.1
 have HIM:=hid_ofV (fun ho=>imF_of hr ho bz);have HBZ:Hid (Byte zs∧ks.length≤1048576):=⟨bz,by omega⟩
 have HVB:=hid_ofV hvb;have HRR:=hid_ofV hR;have hk':(ks.length:Int)=32:=by omega
 have HSI:Hid ((Tryz.prog.info? 36).map (·.size)=some 11):=by show _=_;kernel_rfl
 clear h hka hz hv hr bz hvb hR hk;go_enter Tryz.func23,Tryz.ntmps23
 go_upto_region 1 with fail
 change Code.wp _ _ _ _ ((w.alloc (.cells #[.slice a zs.length c,.slice x 0 cx,.int .i64 f,.bool false] 40)).alloc (.cells zrR 50));generalize ((w.alloc (.cells #[.slice a zs.length c,.slice x 0 cx,.int .i64 f,.bool false] 40)).alloc (.cells zrR 50))=w1 at *;go_wp2_with (first
  |(refine wpList_load_row rfl 40 (.tmp 2) rfl w.heap.size rfl 40 _ (0,0) _ HX0.out.b0 Tryz.underlying40 rfl Tryz.sizeDv ?_)
  |fail)
 refine(HVD.out w1 HX0.out.below).mono ?_;rintro e w2 ⟨rfl,b2⟩;have HX2:=hid_ofV (HX0.out.call b2);clear b2 HX0 HVD;have k3:w2.cell? ⟨w.heap.size,3,none⟩=some (.bool false):=by rw[cell_of_row _ _ _ _ _ _ HX2.out.b0];rfl
 have k1:w2.cell? ⟨w.heap.size,1,none⟩=some (.slice x 0 cx):=by rw[cell_of_row _ _ _ _ _ _ HX2.out.b0];rfl
 go_upto_region 3 with fail
 clear k1 k3;go_wp2_with (first
  |(refine wpList_load_row rfl 40 (.tmp 2) rfl w.heap.size rfl 40 _ (0,0) _ HX2.out.b0 Tryz.underlying40 rfl Tryz.sizeDv ?_)
  |fail)
 refine(HLD.out w2 HX2.out.below).mono ?_;rintro e w3 ⟨v3,rfl,hi3,b3⟩;have hX3:=HX2.out.call b3;clear b3 HX2 HLD;have hi3':=hi3;obtain⟨aSD,nSD,cSD,aSU,nSU,cSU,aF,mF,cF,aD,nD,cD,aU,nU,cU,aT,cT,rfl,g5⟩:=hi3';have b4:Below w3.heap.size w3 (w3.alloc (.cells #[.bool r.ok,.int .u32 r.g,.int .u32 r.t,.slice aSD nSD cSD,.slice aSU nSU cSU,.slice aF mF cF,.slice aD nD cD,.slice aU nU cU,.int .i64 r.k,.slice aT r.n cT,.int .u32 r.nx] 36)):=(Below.refl _ _).alloc (Nat.le_refl _) _;have HX4:=hid_ofV (hX3.call b4);have HI4:=hid_ofV (hi3.below b4);have HM4:Hid ((w3.alloc (.cells #[.bool r.ok,.int .u32 r.g,.int .u32 r.t,.slice aSD nSD cSD,.slice aSU nSU cSU,.slice aF mF cF,.slice aD nD cD,.slice aU nU cU,.int .i64 r.k,.slice aT r.n cT,.int .u32 r.nx] 36)).heap[w3.heap.size]?=some (.cells #[.bool r.ok,.int .u32 r.g,.int .u32 r.t,.slice aSD nSD cSD,.slice aSU nSU cSU,.slice aF mF cF,.slice aD nD cD,.slice aU nU cU,.int .i64 r.k,.slice aT r.n cT,.int .u32 r.nx] 36 (0,0))∧w.heap.size+1<w3.heap.size):=⟨heap_alloc_new w3 _,hX3.lt⟩
 have HZ4:Hid ((w3.alloc (.cells #[.bool false,.int .u32 0,.int .u32 0,.slice none 0 0,.slice none 0 0,.slice none 0 0,.slice none 0 0,.slice none 0 0,.int .i64 0,.slice none 0 0,.int .u32 0] 36)).heap[w3.heap.size]?=some (.cells #[.bool false,.int .u32 0,.int .u32 0,.slice none 0 0,.slice none 0 0,.slice none 0 0,.slice none 0 0,.slice none 0 0,.int .i64 0,.slice none 0 0,.int .u32 0] 36 (0,0))):=heap_alloc_new w3 _;have HFL:=hid_ofV g5.2.2.2.2.2.2.2.2.1;clear hX3 hi3 g5 b4
 go_upto_region 4 with (first
  |(refine wpList_store_row rfl 36 (.tmp 5) (.tmp 28) rfl w3.heap.size #[.bool r.ok,.int .u32 r.g,.int .u32 r.t,.slice aSD nSD cSD,.slice aSU nSU cSU,.slice aF mF cF,.slice aD nD cD,.slice aU nU cU,.int .i64 r.k,.slice aT r.n cT,.int .u32 r.nx] rfl rfl 36 _ HZ4.out HSI.out rfl (by simp[Value.oneCell']) ?_)
  |fail)
 rw[World.setRow_alloc_new];clear HZ4;generalize w3.alloc (.cells #[.bool r.ok,.int .u32 r.g,.int .u32 r.t,.slice aSD nSD cSD,.slice aSU nSU cSU,.slice aF mF cF,.slice aD nD cD,.slice aU nU cU,.int .i64 r.k,.slice aT r.n cT,.int .u32 r.nx] 36)=w4 at *;generalize w3.heap.size=M at *;have k0:w4.cell? ⟨M,0,none⟩=some (.bool r.ok):=by rw[cell_of_row w4 M 0 _ _ _ HM4.out.1];rfl
 cases hok:r.ok with
 |false=>
  rw[hok] at k0;have HO:Hid (R9=roNo 12):=by show _=_;rw[←HRR.out,hok];rfl
  go_wp2_with (first
   |(refine wpList_store_row rfl 50 (.tmp 4) (.tmp 32) rfl (w.heap.size+1) #[.int .i64 12,.slice none 0 0,.slice none 0 0,.int .i64 0,.bool false,.slice none 0 0,.bool false,.int .u32 0,.int .u32 0,.slice none 0 0,.slice none 0 0,.slice none 0 0,.slice none 0 0,.slice none 0 0,.int .i64 0,.slice none 0 0,.int .u32 0] rfl rfl 50 _ HX4.out.b1 Tryz.sizeR rfl (by simp[Value.oneCell']) ?_)
   |fail)
  (try simp only[Exit.inBlock,Exit.then])
  have hw9:=Wr.setRow (w.heap.size+1) w4 #[.int .i64 12,.slice none 0 0,.slice none 0 0,.int .i64 0,.bool false,.slice none 0 0,.bool false,.int .u32 0,.int .u32 0,.slice none 0 0,.slice none 0 0,.slice none 0 0,.slice none 0 0,.slice none 0 0,.int .i64 0,.slice none 0 0,.int .u32 0];have hbel:Below w.heap.size w (w4.setRow (w.heap.size+1) #[.int .i64 12,.slice none 0 0,.slice none 0 0,.int .i64 0,.bool false,.slice none 0 0,.bool false,.int .u32 0,.int .u32 0,.slice none 0 0,.slice none 0 0,.slice none 0 0,.slice none 0 0,.slice none 0 0,.int .i64 0,.slice none 0 0,.int .u32 0]):=HX4.out.below.trans (hw9.below (by omega));have hfin:RM w.heap.size (w4.setRow (w.heap.size+1) #[.int .i64 12,.slice none 0 0,.slice none 0 0,.int .i64 0,.bool false,.slice none 0 0,.bool false,.int .u32 0,.int .u32 0,.slice none 0 0,.slice none 0 0,.slice none 0 0,.slice none 0 0,.slice none 0 0,.int .i64 0,.slice none 0 0,.int .u32 0]) #[.int .i64 12,.slice none 0 0,.slice none 0 0,.int .i64 0,.bool false,.slice none 0 0,.bool false,.int .u32 0,.int .u32 0,.slice none 0 0,.slice none 0 0,.slice none 0 0,.slice none 0 0,.slice none 0 0,.int .i64 0,.slice none 0 0,.int .u32 0] R9.c R9.z R9.p R9.k R9.f R9.d R9.r:=by
   rw[HO.out];exact⟨#[.slice none 0 0,.slice none 0 0,.int .i64 0,.bool false,.slice none 0 0,.bool false,.int .u32 0,.int .u32 0,.slice none 0 0,.slice none 0 0,.slice none 0 0,.slice none 0 0,.slice none 0 0,.int .i64 0,.slice none 0 0,.int .u32 0],rfl,GM.no _ _ hbel.size⟩
  have hres:=setRow_heap w4 (w.heap.size+1) _ #[.int .i64 12,.slice none 0 0,.slice none 0 0,.int .i64 0,.bool false,.slice none 0 0,.bool false,.int .u32 0,.int .u32 0,.slice none 0 0,.slice none 0 0,.slice none 0 0,.slice none 0 0,.slice none 0 0,.int .i64 0,.slice none 0 0,.int .u32 0] _ _ HX4.out.b1;clear hw9;exact bodyPost_ret (v:=.agg #[.int .i64 12,.slice none 0 0,.slice none 0 0,.int .i64 0,.bool false,.slice none 0 0,.bool false,.int .u32 0,.int .u32 0,.slice none 0 0,.slice none 0 0,.slice none 0 0,.slice none 0 0,.slice none 0 0,.int .i64 0,.slice none 0 0,.int .u32 0]) (results_cell_row rfl _ _ (w.heap.size+1) 50 _ (0,0) _ rfl hres Tryz.underlying50 rfl Tryz.sizeR) rfl ⟨_,rfl,hfin,hbel⟩
 |true=>
  rw[hok] at k0 HM4 HI4;have HRO:Hid (R9=rcY zs ks f r):=by show _=_;rw[←HRR.out,hok];rfl
  obtain⟨n,hn⟩:=HIM.out hok;have HIF:=hid_ofV hn;have HMF:Hid (mF=n∧n≤252∧r.F.length/4=n∧zs.length/64-4≤252):=by
   have h1:=hn.len;have h2:=HFL.out;have h3:=hn.nJ;have h4:=HVB.out.2.2.1;exact⟨by omega,by omega,by omega,by omega⟩
  clear hn hok HIM HRR
  go_upto_region 6 with fail
  clear k0;go_wp2_with (first
   |(refine wpList_load_row rfl 40 (.tmp 2) rfl w.heap.size rfl 40 _ (0,0) _ HX4.out.b0 Tryz.underlying40 rfl Tryz.sizeDv ?_)
   |(refine wpList_load_row rfl 36 (.tmp 5) rfl M rfl 36 _ (0,0) _ HM4.out.1 Tryz.underlying36 rfl HSI.out ?_)
   |fail)
  refine(HGT.out w4 HX4.out.below _ HI4.out).mono ?_;rintro e w5 ⟨C4,rfl,g5,b5⟩;have b6:Below w5.heap.size w5 (w5.alloc (.cells C4 48)):=(Below.refl _ _).alloc (Nat.le_refl _) _;have HX6:=hid_ofV ((HX4.out.call b5).call b6);have hl4:=(Array.getElem?_eq_some_iff.1 HM4.out.1).1;have hs5:=b5.size;have HM6:Hid ((w5.alloc (.cells C4 48)).heap[M]?=some (.cells #[.bool true,.int .u32 r.g,.int .u32 r.t,.slice aSD nSD cSD,.slice aSU nSU cSU,.slice aF mF cF,.slice aD nD cD,.slice aU nU cU,.int .i64 r.k,.slice aT r.n cT,.int .u32 r.nx] 36 (0,0))):=by show _=_;rw[b6.block _ (by omega),b5.block _ hl4];exact HM4.out.1
  have HG6:Hid ((w5.alloc (.cells C4 48)).heap[w5.heap.size]?=some (.cells C4 48 (0,0))∧GM w4.heap.size (w5.alloc (.cells C4 48)) C4 zs [] ks f false r∧M<w5.heap.size∧w4.heap.size≤w5.heap.size):=⟨heap_alloc_new w5 _,g5.below b6,by omega,hs5⟩
  have HZ6:Hid ((w5.alloc (.cells #[.slice none 0 0,.slice none 0 0,.int .i64 0,.bool false,.slice none 0 0,.bool false,.int .u32 0,.int .u32 0,.slice none 0 0,.slice none 0 0,.slice none 0 0,.slice none 0 0,.slice none 0 0,.int .i64 0,.slice none 0 0,.int .u32 0] 48)).heap[w5.heap.size]?=some (.cells #[.slice none 0 0,.slice none 0 0,.int .i64 0,.bool false,.slice none 0 0,.bool false,.int .u32 0,.int .u32 0,.slice none 0 0,.slice none 0 0,.slice none 0 0,.slice none 0 0,.slice none 0 0,.int .i64 0,.slice none 0 0,.int .u32 0] 48 (0,0))∧(Tryz.prog.info? 48).map (·.size)=some C4.size∧(#[.slice none 0 0,.slice none 0 0,.int .i64 0,.bool false,.slice none 0 0,.bool false,.int .u32 0,.int .u32 0,.slice none 0 0,.slice none 0 0,.slice none 0 0,.slice none 0 0,.slice none 0 0,.int .i64 0,.slice none 0 0,.int .u32 0]:Array Value).size=C4.size∧C4.all (·.oneCell')=true):=⟨heap_alloc_new w5 _,by rw[g5.row.1];exact Tryz.sizeG,by rw[g5.row.1];rfl,g5.row.2⟩
  have HC4:Hid ((Tryz.prog.info? 48).map (·.size)=some C4.size∧C4.size=16):=⟨HZ6.out.2.1,g5.row.1⟩
  have HL6:Hid (w.heap.size+1<w4.heap.size):=HX4.out.lt;clear b5 b6 g5 hl4 hs5 HX4 HM4 HGT HI4
  go_upto_region 7 with (first
   |(refine wpList_store_row rfl 48 (.tmp 6) (.tmp 36) rfl w5.heap.size C4 rfl rfl 48 _ HZ6.out.1 HZ6.out.2.1 HZ6.out.2.2.1 HZ6.out.2.2.2 ?_)
   |fail)
  rw[World.setRow_alloc_new];clear HZ6;generalize w5.alloc (.cells C4 48)=w6 at *;generalize w5.heap.size=A at *;obtain⟨J,hJ⟩:∃ J:Int,((zs.length/64-4:Nat):Int)=J:=⟨_,rfl⟩
  rw[hJ] at HJR;have HJ:Hid (((zs.length/64-4:Nat):Int)=J∧0≤J∧J≤252):=⟨hJ,by omega,by have:=HMF.out;omega⟩
  clear hJ;refine wp_region_any (by kernel_rfl) ?_;refine wpAny_slotsU (fun _ a b=>Below a.heap.size a b) (frame:=(fun (a b c d e f g h i j k l m n o p q r s u v w x y z A B C D E F G H I J K L M N O P Q R S T U V:Value)=>fun (t:Nat→Value)=>({ tmps:=List.toArray [a,b,c,d,e,f,g,h,i,j,k,l,m,n,o,p,q,r,s,u,v,w,x,y,z,A,B,C,D,E,F,G,H,I,J,K,L,t 0,t 1,t 2,t 3,t 4,t 5,t 6,M,N,O,P,Q,R,S,T,U,V],defers:=[] }:Act)) _ _ _ _ _ _ _ _ _ _ _ _ _ _ _ _ _ _ _ _ _ _ _ _ _ _ _ _ _ _ _ _ _ _ _ _ _ _ _ _ _ _ _ _ _ _ _)
   (Ext:=fun L u w'=>ApX w6 [] L u w') (Good:=fun i L w' v=>if i=0 then v=.pointer (some ⟨M,5,none⟩) else if i=1 then v=.slice aF mF cF else if i=2 then v=.int .i64 mF else if i=3 then v=.int .i64 (2*(mF:Int)) else if i=4 then v=.agg #[.slice a zs.length c,.slice x 0 cx,.int .i64 f,.bool false] else if i=5 then v=.int .i64 J else if i=6 then v=.bool (decide (J<2*(mF:Int))) else True) ?hstab (by kernel_rfl) ?hop ?hdone _ _ ((fun (x0 x1 x2 x3 x4 x5 x6:Value)=>fun (i:Nat)=>if i=0 then x0 else if i=1 then x1 else if i=2 then x2 else if i=3 then x3 else if i=4 then x4 else if i=5 then x5 else if i=6 then x6 else undef) _ _ _ _ _ _ _) _ (by simp) ?ext ?start (by simp)
  case start=>intro i hi h;exact absurd h (by rw[Array.getD_eq_getD_getElem?,Array.getElem?_replicate];split<;>simp)
  case ext=>exact(ApX.start w6 [] _ _ (fun i=>by rw[Array.getD_eq_getD_getElem?,Array.getElem?_replicate];split<;>rfl)).drew
  case hstab=>
   intro j L w9 w' i v hM _ _ h;exact h
  case hop=>
   intro i o L t w' ho hLi hx hdep K hK;have hi:i<7:=(Array.getElem?_eq_some_iff.1 ho).1;obtain rfl|rfl|rfl|rfl|rfl|rfl|rfl:i=0∨i=1∨i=2∨i=3∨i=4∨i=5∨i=6:=by omega
   all_goals(simp at ho;subst ho)
   ·clear hdep;have hK':=hK w' (.pointer (some ⟨M,5,none⟩)) (by simp) (hx.step 0 _ (Below.refl _ _) (fun h=>absurd h (by decide))) (Below.refl _ _);clear hK;rw[if_pos (by rfl)];go_simp;simpa[upd] using hK'
   ·have d0:t 0=.pointer (some ⟨M,5,none⟩):=by simpa using(hdep ⟨0,.data⟩ (by simp) rfl).2
    clear hdep;have cX:w'.cell? ⟨M,5,none⟩=some (.slice aF mF cF):=by rw[cell_of_row w' M 5 _ _ _ ((hx.below.block _ (Array.getElem?_eq_some_iff.1 HM6.out).1).trans HM6.out)];rfl
    have hK':=hK w' (.slice aF mF cF) (by simp) (hx.step 1 _ (Below.refl _ _) (fun h=>absurd h (by decide))) (Below.refl _ _);clear hK;rw[if_pos (by rfl)];go_simp;simpa[upd,d0] using hK'
   ·have d1:t 1=.slice aF mF cF:=by simpa using(hdep ⟨1,.data⟩ (by simp) rfl).2
    clear hdep;have hK':=hK w' (.int .i64 mF) (by simp) (hx.step 2 _ (Below.refl _ _) (fun h=>absurd h (by decide))) (Below.refl _ _);clear hK;rw[if_pos (by rfl)];go_simp;simpa[upd,d1] using hK'
   ·have d2:t 2=.int .i64 mF:=by simpa using(hdep ⟨2,.data⟩ (by simp) rfl).2
    clear hdep;have hw9:IntKind.i64.wrap (2*(mF:Int))=2*(mF:Int):=by rw[IntKind.wrap_i64];have:=HMF.out;omega
    have hK':=hK w' (.int .i64 (2*(mF:Int))) (by simp) (hx.step 3 _ (Below.refl _ _) (fun h=>absurd h (by decide))) (Below.refl _ _);clear hK;rw[if_pos (by rfl)];go_simp;simpa[upd,d2] using hK'
   ·clear hdep;have hK':=hK w' (.agg #[.slice a zs.length c,.slice x 0 cx,.int .i64 f,.bool false]) (by simp) (hx.step 4 _ (Below.refl _ _) (fun h=>absurd h (by decide))) (Below.refl _ _);clear hK;rw[if_pos (by rfl)];refine wp_load_row 40 (.tmp 2) rfl w.heap.size rfl 40 _ (0,0) _ ((hx.below.block _ (Array.getElem?_eq_some_iff.1 HX6.out.b0).1).trans HX6.out.b0) Tryz.underlying40 rfl Tryz.sizeDv ?_;simpa[upd,Act.put] using hK'
   ·have d4:t 4=.agg #[.slice a zs.length c,.slice x 0 cx,.int .i64 f,.bool false]:=by simpa using(hdep ⟨4,.data⟩ (by simp) rfl).2
    clear hdep;have A:=HJR.out w';have hK':∀ ww,Below w'.heap.size w' ww→K _ ww:=fun ww hb=>hK ww (.int .i64 J) (by simp) (hx.step 5 _ hb (fun h=>absurd h (by decide))) hb
    clear hK;rw[if_pos (by rfl)];go_simp;try simp only[d4]
    refine A.mono ?_;rintro e w9 ⟨rfl,hb9⟩;have hK2:=hK' w9 hb9;clear hK' A hb9;go_simp;simpa[upd,d4] using hK2
   ·have d3:t 3=.int .i64 (2*(mF:Int)):=by simpa using(hdep ⟨3,.data⟩ (by simp) rfl).2
    have d5:t 5=.int .i64 J:=by simpa using(hdep ⟨5,.data⟩ (by simp) rfl).2
    clear hdep;have hK':=hK w' (.bool (decide (J<2*(mF:Int)))) (by simp) (hx.step 6 _ (Below.refl _ _) (fun h=>absurd h (by decide))) (Below.refl _ _);clear hK;rw[if_pos (by rfl)];go_simp;simpa[upd,d3,d5] using hK'
  case hdone=>
   intro L t w7 hx hg;have d6:t 6=.bool (decide (J<2*(mF:Int))):=by simpa using hg 6 (by decide)
   have HX7:=hid_ofV (HX6.out.call hx.below);have hlA:=(Array.getElem?_eq_some_iff.1 HG6.out.1).1;have HG7:Hid (w7.heap[A]?=some (.cells C4 48 (0,0))∧GM w4.heap.size w7 C4 zs [] ks f false r∧A<w7.heap.size∧w.heap.size+1<A):=⟨(hx.below.block _ hlA).trans HG6.out.1,HG6.out.2.1.below hx.below,by have:=hx.below.size;omega,by have:=HG6.out.2.2.2;have:=HL6.out;omega⟩
   dsimp only;rw[d6];clear hg hx hlA d6 HX6 HG6 HM6;by_cases hJ9:J<2*(mF:Int)
   ·have hq:decide (J<2*(mF:Int))=true:=by simpa using hJ9
    rw[hq];clear hq;have HO:Hid (R9=⟨if cpC zs f r=11 then 11 else 9,(cpD zs f r).1,(cpD zs f r).2.1,ks,(cpD zs f r).2.2.1,(cpD zs f r).2.2.2,cpI zs f r⟩):=by show _=_;rw[HRO.out];unfold rcY;rw[if_pos (by have:=HMF.out;have:=HJ.out;omega)]
    have HCM:=hid_ofV (scm_any C4 zs ks f r n w7 HG7.out.2.1 HIF.out HLE.out HBZ.out.1 HBZ.out.2);clear hJ9 HJR;go_wp2_with (first
     |(refine wpList_load_row rfl 48 (.tmp 6) rfl A rfl 48 C4 (0,0) _ HG7.out.1 Tryz.underlying48 rfl HC4.out.1 ?_)
     |fail)
    refine HCM.out.mono ?_;rintro e w8 ⟨X,rfl,hR,b8⟩;have b9:Below w8.heap.size w8 (w8.alloc (.cells X 50)):=(Below.refl _ _).alloc (Nat.le_refl _) _;have HX9:=hid_ofV ((HX7.out.call b8).call b9);have HR9:=hid_ofV (hR.below b9);have hs8:=b8.size;have HA9:Hid ((w8.alloc (.cells X 50)).heap[A]?=some (.cells C4 48 (0,0))∧(w8.alloc (.cells X 50)).heap[w8.heap.size]?=some (.cells X 50 (0,0))):=⟨by rw[b9.block _ (by have:=HG7.out.2.2.1;omega),b8.block _ HG7.out.2.2.1];exact HG7.out.1,heap_alloc_new w8 _⟩
    have HXX:Hid ((Tryz.prog.info? 50).map (·.size)=some X.size∧zrR.size=X.size∧X.all (·.oneCell')=true):=⟨by rw[hR.row.1];exact Tryz.sizeR,by rw[hR.row.1];rfl,hR.row.2⟩
    have HZ8:Hid ((w8.alloc (.cells zrR 50)).heap[w8.heap.size]?=some (.cells zrR 50 (0,0))):=heap_alloc_new w8 _;clear hR b8 b9 hs8 HCM
    go_upto_region 9 with (first
     |(refine wpList_store_row rfl 50 (.tmp 7) (.tmp 45) rfl w8.heap.size X rfl rfl 50 _ HZ8.out HXX.out.1 HXX.out.2.1 HXX.out.2.2 ?_)
     |fail)
    rw[World.setRow_alloc_new];clear HZ8;generalize w8.alloc (.cells X 50)=w9 at *;generalize w8.heap.size=T6 at *;obtain⟨cp,hcp⟩:∃ cp,cpC zs f r=cp:=⟨_,rfl⟩
    obtain⟨o,ho⟩:∃ o,cpD zs f r=o:=⟨_,rfl⟩
    obtain⟨q,hq9⟩:∃ q,cpI zs f r=q:=⟨_,rfl⟩
    rw[hcp,ho,hq9] at HO HR9;clear hcp ho hq9;obtain⟨C6,hX6,g6⟩:=HR9.out;have k0:w9.cell? ⟨T6,0,none⟩=some (.int .i64 cp):=by rw[cell_of_row w9 T6 0 _ _ _ HA9.out.2,hX6,Array.getElem?_append_left (show 0<(#[Value.int .i64 cp]:Array Value).size from Nat.one_pos)];rfl
    have HG6:=hid_ofV (And.intro hX6 g6);clear hX6 g6;by_cases hc:cp=11
    ·subst hc;rw[if_pos rfl] at HO;go_wp2_with (first
      |(refine wpList_load_row rfl 50 (.tmp 7) rfl T6 rfl 50 X (0,0) _ HA9.out.2 Tryz.underlying50 rfl HXX.out.1 ?_)
      |(refine wpList_store_row rfl 50 (.tmp 4) (.tmp 49) rfl (w.heap.size+1) X rfl rfl 50 _ HX9.out.b1 HXX.out.1 HXX.out.2.1 HXX.out.2.2 ?_)
      |fail)
     (try simp only[Exit.inBlock,Exit.then])
     have hw9:=Wr.setRow (w.heap.size+1) w9 X;have hl7:=HG7.out.2.2;have hfin:RM w.heap.size (w9.setRow (w.heap.size+1) X) X R9.c R9.z R9.p R9.k R9.f R9.d R9.r:=by
      rw[HO.out];exact(HR9.out.keep (Nat.le_of_eq hw9.size.symm) (fun k hk _=>hw9.block k (by omega))).mono (by omega)
     have hbel:Below w.heap.size w (w9.setRow (w.heap.size+1) X):=HX9.out.below.trans (hw9.below (by omega));have hres:=setRow_heap w9 (w.heap.size+1) _ X _ _ HX9.out.b1;clear hw9 hl7;exact bodyPost_ret (v:=.agg X) (results_cell_row rfl _ _ (w.heap.size+1) 50 _ (0,0) _ rfl hres Tryz.underlying50 rfl HXX.out.1) rfl ⟨X,rfl,hfin,hbel⟩
    ·have hc':(cp == 11)=false:=by simp[hc]
     rw[if_neg hc] at HO;clear hc;have HRG:Hid (w9.rangeAt T6 1 C6.toList):=by
      have h7:=HA9.out.2;rw[HG6.out.1] at h7;exact mid_row h7 1 _ (by rw[Array.toList_append];exact List.take_length)
     have HSC:Hid ((Tryz.prog.info? 48).map (·.size)=some C6.toList.length∧(Tryz.prog.info? 48).map (·.size)=some C6.size∧C4.size=C6.size∧C6.all (·.oneCell')=true):=⟨by rw[Array.length_toList,HG6.out.2.row.1];exact Tryz.sizeG,by rw[HG6.out.2.row.1];exact Tryz.sizeG,by rw[HG6.out.2.row.1];exact HC4.out.2,HG6.out.2.row.2⟩
     have hw8:=Wr.setRow A w9 C6;have hl7:=HG7.out.2.2;have g8:GM w7.heap.size (w9.setRow A C6) C6 o.1 o.2.1 ks o.2.2.1 o.2.2.2 q:=HG6.out.2.keep (Nat.le_of_eq hw8.size.symm) (fun k hk _=>hw8.block k (by omega));obtain⟨X9,hX9⟩:∃ X9:Array Value,#[.int .i64 9]++C6=X9:=⟨_,rfl⟩
     have hQ9:RM w7.heap.size (w9.setRow A C6) X9 9 o.1 o.2.1 ks o.2.2.1 o.2.2.2 q:=⟨C6,hX9.symm,g8⟩
     have HQ9:=hid_ofV hQ9;have HXN:Hid (#[.int .i64 9]++C6=X9∧(Tryz.prog.info? 50).map (·.size)=some X9.size∧zrR.size=X9.size∧X9.all (·.oneCell')=true∧C6.size=16):=⟨hX9,by rw[hQ9.row.1];exact Tryz.sizeR,by rw[hQ9.row.1];rfl,hQ9.row.2,g8.row.1⟩
     have HRN:Hid ((w9.setRow A C6).heap[w.heap.size+1]?=some (.cells zrR 50 (0,0))):=by show _=_;rw[hw8.block _ (by omega)];exact HX9.out.b1
     have HBN:Hid (Below w.heap.size w (w9.setRow A C6)):=HX9.out.below.trans (hw8.below (by omega));have HA8:Hid ((w9.setRow A C6).heap[A]?=some (.cells C6 48 (0,0))):=setRow_heap _ _ _ _ _ _ HA9.out.1;clear hw8 hl7 g8 hX9 hQ9 HX9 HR9 HXX HG6
     go_upto_region 12 with (first
      |(refine wpList_load_mid rfl 48 (.tmp 50) rfl T6 1 rfl C6.toList _ HRG.out Tryz.underlying48 rfl HSC.out.1 ?_)
      |(refine wpList_store_row rfl 48 (.tmp 6) (.tmp 51) rfl A C6 rfl rfl 48 _ HA9.out.1 HSC.out.2.1 HSC.out.2.2.1 HSC.out.2.2.2 ?_)
      |fail)
     generalize w9.setRow A C6=w10 at *;go_wp2_with (first
      |(refine wpList_load_row rfl 48 (.tmp 6) rfl A rfl 48 C6 (0,0) _ HA8.out Tryz.underlying48 rfl HSC.out.2.1 ?_)
      |(refine wpList_bR rfl _ (.tmp 52) rfl 9 C6 rfl rfl HXN.out.2.2.2.2 ?_;rw[HXN.out.1])
      |(refine wpList_store_row rfl 50 (.tmp 4) (.tmp 53) rfl (w.heap.size+1) X9 rfl rfl 50 _ HRN.out HXN.out.2.1 HXN.out.2.2.1 HXN.out.2.2.2.1 ?_)
      |fail)
     (try simp only[Exit.inBlock,Exit.then])
     have hw9:=Wr.setRow (w.heap.size+1) w10 X9;have hl6:=HL6.out;have hl7:=HG7.out.2.2;have hfin:RM w.heap.size (w10.setRow (w.heap.size+1) X9) X9 R9.c R9.z R9.p R9.k R9.f R9.d R9.r:=by
      rw[HO.out];exact(HQ9.out.keep (Nat.le_of_eq hw9.size.symm) (fun k hk _=>hw9.block k (by omega))).mono (by omega)
     have hbel:Below w.heap.size w (w10.setRow (w.heap.size+1) X9):=HBN.out.trans (hw9.below (by omega));have hres:=setRow_heap w10 (w.heap.size+1) _ X9 _ _ HRN.out;clear hw9 hl6 hl7;exact bodyPost_ret (v:=.agg X9) (results_cell_row rfl _ _ (w.heap.size+1) 50 _ (0,0) _ rfl hres Tryz.underlying50 rfl HXN.out.2.1) rfl ⟨X9,rfl,hfin,hbel⟩
   ·have hq:decide (J<2*(mF:Int))=false:=by simpa using hJ9
    rw[hq];clear hq;have HO:Hid (R9=⟨9,zs,[],ks,f,false,r⟩):=by show _=_;rw[HRO.out];unfold rcY;rw[if_neg (by have:=HMF.out;have:=HJ.out;omega)]
    obtain⟨X9,hX9⟩:∃ X9:Array Value,#[.int .i64 9]++C4=X9:=⟨_,rfl⟩
    have hQ9:RM w4.heap.size w7 X9 9 zs [] ks f false r:=⟨C4,hX9.symm,HG7.out.2.1⟩
    have HQ9:=hid_ofV hQ9;have HXN:Hid (#[.int .i64 9]++C4=X9∧(Tryz.prog.info? 50).map (·.size)=some X9.size∧zrR.size=X9.size∧X9.all (·.oneCell')=true∧C4.size=16):=⟨hX9,by rw[hQ9.row.1];exact Tryz.sizeR,by rw[hQ9.row.1];rfl,hQ9.row.2,HC4.out.2⟩
    have HRN:=hid_ofV HX7.out.b1;have HBN:=hid_ofV HX7.out.below;clear hJ9 hX9 hQ9 HJR;go_wp2_with (first
     |(refine wpList_load_row rfl 48 (.tmp 6) rfl A rfl 48 C4 (0,0) _ HG7.out.1 Tryz.underlying48 rfl HC4.out.1 ?_)
     |(refine wpList_bR rfl _ (.tmp 52) rfl 9 C4 rfl rfl HXN.out.2.2.2.2 ?_;rw[HXN.out.1])
     |(refine wpList_store_row rfl 50 (.tmp 4) (.tmp 53) rfl (w.heap.size+1) X9 rfl rfl 50 _ HRN.out HXN.out.2.1 HXN.out.2.2.1 HXN.out.2.2.2.1 ?_)
     |fail)
    (try simp only[Exit.inBlock,Exit.then])
    have hw9:=Wr.setRow (w.heap.size+1) w7 X9;have hl6:=HL6.out;have hl7:=HG7.out.2.2;have hfin:RM w.heap.size (w7.setRow (w.heap.size+1) X9) X9 R9.c R9.z R9.p R9.k R9.f R9.d R9.r:=by
     rw[HO.out];exact(HQ9.out.keep (Nat.le_of_eq hw9.size.symm) (fun k hk _=>hw9.block k (by omega))).mono (by omega)
    have hbel:Below w.heap.size w (w7.setRow (w.heap.size+1) X9):=HBN.out.trans (hw9.below (by omega));have hres:=setRow_heap w7 (w.heap.size+1) _ X9 _ _ HRN.out;clear hw9 hl6 hl7;exact bodyPost_ret (v:=.agg X9) (results_cell_row rfl _ _ (w.heap.size+1) 50 _ (0,0) _ rfl hres Tryz.underlying50 rfl HXN.out.2.1) rfl ⟨X9,rfl,hfin,hbel⟩
end Go.Proofs.YthmeoilbmfdhfaaGreat
