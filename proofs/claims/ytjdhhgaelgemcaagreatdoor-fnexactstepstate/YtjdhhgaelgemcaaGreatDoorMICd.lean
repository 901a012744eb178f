import Derived.Test.YtjdhhgaelgemcaaGreatDoorMSwA
import Derived.Test.YtjdhhgaelgemcaaGreatDoorMLe
import Derived.Test.YtjdhhgaelgemcaaGreatDoorMSAf
import Derived.Test.YtjdhhgaelgemcaaGreatDoorMSPow12
namespace Go.Proofs.YtjdhhgaelgemcaaGreatDoor
open Go.ChangeShapes Go.WideShapes Go.ChangeAt Go.RowKit
set_option linter.unusedVariables false
theorem wrd4 {a b c d:Int} (a0:0≤a) (a1:a<18446744073709551616) (b0:0≤b) (b1:b<18446744073709551616) (c0:0≤c) (c1:c<18446744073709551616) (d0:0≤d) (d1:d<18446744073709551616):Wrd [a,b,c,d]:=by
 intro z hz;simp only[List.mem_cons,List.not_mem_nil,or_false] at hz;rcases hz with rfl|rfl|rfl|rfl<;>exact⟨by assumption,by assumption⟩
set_option maxRecDepth 100000 in
set_option maxHeartbeats 16000000 in
theorem pcode_any (g:Nat) (x y z t:List Int) (w:World) (hp:Pt w g x y z t) :
  Calls Tryz.prog 110 #[.pointer (some ⟨g,0,none⟩)] w (NumPost w (cdV (ev x) (ev y) (ev z))):=by
 have bw:Below w.heap.size w (w.alloc (.cells #[.int .u64 0,.int .u64 0,.int .u64 0,.int .u64 0] 143)):=below_new2 _ _;have hp0:Pt (w.alloc (.cells #[.int .u64 0,.int .u64 0,.int .u64 0,.int .u64 0] 143)) g x y z t:=hp.below bw hp.row.lt;have HS0:Hid (RunD (w.alloc (.cells #[.int .u64 0,.int .u64 0,.int .u64 0,.int .u64 0] 143)) (w.alloc (.cells #[.int .u64 0,.int .u64 0,.int .u64 0,.int .u64 0] 143)) [] [(g,0,x),(g,5,y),(g,10,z)]):=RunD.start _ _ (fun e he=>by
  simp only[List.mem_cons,List.not_mem_nil,or_false] at he;rcases he with rfl|rfl|rfl
  ·exact hp0.ex
  ·exact hp0.ey
  ·exact hp0.ez)
 have HR0:(w.alloc (.cells #[.int .u64 0,.int .u64 0,.int .u64 0,.int .u64 0] 143)).heap[w.heap.size]?=some (.cells #[.int .u64 0,.int .u64 0,.int .u64 0,.int .u64 0] 143 (0,0)):=heap_alloc_new w _;have hs0:w.heap.size<(w.alloc (.cells #[.int .u64 0,.int .u64 0,.int .u64 0,.int .u64 0] 143)).heap.size:=by simp
 clear hp hp0;go_enter Tryz.func110,Tryz.ntmps110;go_wp2_with fail;generalize w.alloc (.cells #[.int .u64 0,.int .u64 0,.int .u64 0,.int .u64 0] 143)=w0 at *;refine(inverse_any g 10 z _ (HS0.out.el 2 _ _ _ rfl)).mono ?_;rintro e w1 ⟨iv,hk,hv,rfl,b⟩;have HKiv:Hid (EOk iv∧ev iv=inv0 (ev z)):=⟨hk,hv⟩
 have HS1:Hid (RunD w0 w1 [] [(g,0,x),(g,5,y),(g,10,z)]):=HS0.out.call b;clear hk hv b HS0;have HA2:Hid (RunD w0 (w1.alloc (.cells #[.int .u64 0,.int .u64 0,.int .u64 0,.int .u64 0,.int .u64 0] 138)) [(w1.heap.size,[0,0,0,0,0])] [(g,0,x),(g,5,y),(g,10,z)]):=HS1.out.room;clear HS1;go_wp2_with (first
  |(refine wpList_storeD HA2.out rfl (.tmp 3) (.tmp 10) rfl 0 (w1.heap.size) [0,0,0,0,0] iv rfl rfl rfl HKiv.out.1 rfl ?_)
  |fail)
 intro w3 S;have HS3:Hid (RunD w0 w3 [(w1.heap.size,iv)] [(g,0,x),(g,5,y),(g,10,z)]):=S;clear S HA2;generalize w1.heap.size=G3a at *;go_wp2_with fail;refine wp_region_any (by kernel_rfl) ?_;refine wpAny_slots9 (fun _ _ _=>True) (frame:=(fun (a b c d e f g h i j k l m n o p:Value)=>fun (t:Nat→Value)=>({ tmps:=List.toArray [a,b,c,d,t 8,t 9,e,f,g,h,i,t 0,t 1,t 2,t 3,t 4,t 5,t 6,t 7,j,k,l,m,n,o,p],defers:=[] }:Act)) _ _ _ _ _ _ _ _ _ _ _ _ _ _ _ _)
  (Ext:=ExA w3 8 9 10 11 (ev x*ev iv%fp) (ev y*ev iv%fp)) (Good:=fun i L _ v=>if i=0 then v=.pointer (some ⟨g,0,none⟩) else if i=1 then v=.pointer (some ⟨g,0,none⟩) else if i=2 then v=.pointer (some ⟨g,0,none⟩) else if i=3 then EV (ev x*ev iv%fp) v else if i=4 then v=.pointer (some ⟨g,0,none⟩) else if i=5 then v=.pointer (some ⟨g,0,none⟩) else if i=6 then v=.pointer (some ⟨g,5,none⟩) else if i=7 then EV (ev y*ev iv%fp) v else if i=8 then L 8=true else if i=9 then L 9=true else if i=10 then L 10=true else if i=11 then L 11=true else True) ?hstab (by kernel_rfl) ?hop ?hdone _ _ ((fun (x0 x1 x2 x3 x4 x5 x6 x7 x8 x9:Value)=>fun (i:Nat)=>if i=0 then x0 else if i=1 then x1 else if i=2 then x2 else if i=3 then x3 else if i=4 then x4 else if i=5 then x5 else if i=6 then x6 else if i=7 then x7 else if i=8 then x8 else if i=9 then x9 else undef) _ _ _ _ _ _ _ _ _ _) _ (by simp) ?ext ?start (by simp)
 case start=>intro i hi h;exact absurd h (by rw[Array.getD_eq_getD_getElem?,Array.getElem?_replicate];split<;>simp)
 case ext=>exact ExA.start _ _ _ (by simp) (by simp) (by simp) (by simp) ⟨rfl,rfl,rfl,Nat.le_refl _,fun _ _=>rfl⟩
 case hstab=>
  intro j L w9 w' i v _ _ _ h;by_cases h8:j=8
  ·subst h8;simp at h ⊢;unfold updK;simp[h]
  by_cases h9:j=9
  ·subst h9;simp at h ⊢;unfold updK;simp[h]
  by_cases h10:j=10
  ·subst h10;simp at h ⊢;unfold updK;simp[h]
  by_cases h11:j=11
  ·subst h11;simp at h ⊢;unfold updK;simp[h]
  simp only[if_neg h8,if_neg h9,if_neg h10,if_neg h11] at h ⊢;exact h
 case hop=>
  intro i o L t w' ho hLi hx hdep K hK;have hi:i<12:=(Array.getElem?_eq_some_iff.1 ho).1;obtain rfl|rfl|rfl|rfl|rfl|rfl|rfl|rfl|rfl|rfl|rfl|rfl:i=0∨i=1∨i=2∨i=3∨i=4∨i=5∨i=6∨i=7∨i=8∨i=9∨i=10∨i=11:=by omega
  all_goals(simp at ho;subst ho)
  ·clear hdep;have hK':=hK w' (.pointer (some ⟨g,0,none⟩)) (by simp) (hx.low 0 (by decide) (by decide) (by decide) (by decide) _ (Below.refl _ _)) trivial;clear hK;rw[if_pos (by rfl)];go_simp;simpa[upd] using hK'
  ·have d0:t 0=.pointer (some ⟨g,0,none⟩):=by simpa using hdep ⟨0,.data⟩ (by simp) rfl
   clear hdep;have hK':=hK w' (.pointer (some ⟨g,0,none⟩)) (by simp) (hx.low 1 (by decide) (by decide) (by decide) (by decide) _ (Below.refl _ _)) trivial;clear hK;rw[if_pos (by rfl)];go_simp;simpa[upd,d0] using hK'
  ·have d1:t 1=.pointer (some ⟨g,0,none⟩):=by simpa using hdep ⟨1,.data⟩ (by simp) rfl
   clear hdep;have hK':=hK w' (.pointer (some ⟨g,0,none⟩)) (by simp) (hx.low 2 (by decide) (by decide) (by decide) (by decide) _ (Below.refl _ _)) trivial;clear hK;rw[if_pos (by rfl)];go_simp;simpa[upd,d1] using hK'
  ·have d2:t 2=.pointer (some ⟨g,0,none⟩):=by simpa using hdep ⟨2,.data⟩ (by simp) rfl
   clear hdep;have A:=times_any g 0 G3a 0 x iv w' ((HS3.out.el 0 _ _ _ rfl).below hx.below) ((HS3.out.re 0 _ _ rfl).below hx.below);have hK':∀ ww v,EV (ev x*ev iv%fp) v→Below w'.heap.size w' ww→K _ ww:=fun ww v hv hb=>hK ww v (by simpa using hv) (hx.low 3 (by decide) (by decide) (by decide) (by decide) _ hb) trivial
   clear hK;rw[if_pos (by rfl)];go_simp;try simp only[d2]
   refine A.mono ?_;rintro e w9 ⟨es,hk,hv,rfl,hb⟩;have hK2:=hK' w9 _ ⟨es,hk,hv,rfl⟩ hb;clear hK' A hk hv hb;go_simp;simpa[upd,d2] using hK2
  ·clear hdep;have hK':=hK w' (.pointer (some ⟨g,0,none⟩)) (by simp) (hx.low 4 (by decide) (by decide) (by decide) (by decide) _ (Below.refl _ _)) trivial;clear hK;rw[if_pos (by rfl)];go_simp;simpa[upd] using hK'
  ·have d4:t 4=.pointer (some ⟨g,0,none⟩):=by simpa using hdep ⟨4,.data⟩ (by simp) rfl
   clear hdep;have hK':=hK w' (.pointer (some ⟨g,0,none⟩)) (by simp) (hx.low 5 (by decide) (by decide) (by decide) (by decide) _ (Below.refl _ _)) trivial;clear hK;rw[if_pos (by rfl)];go_simp;simpa[upd,d4] using hK'
  ·have d5:t 5=.pointer (some ⟨g,0,none⟩):=by simpa using hdep ⟨5,.data⟩ (by simp) rfl
   clear hdep;have hK':=hK w' (.pointer (some ⟨g,5,none⟩)) (by simp) (hx.low 6 (by decide) (by decide) (by decide) (by decide) _ (Below.refl _ _)) trivial;clear hK;rw[if_pos (by rfl)];go_simp;simpa[upd,d5] using hK'
  ·have d6:t 6=.pointer (some ⟨g,5,none⟩):=by simpa using hdep ⟨6,.data⟩ (by simp) rfl
   clear hdep;have A:=times_any g 5 G3a 0 y iv w' ((HS3.out.el 1 _ _ _ rfl).below hx.below) ((HS3.out.re 0 _ _ rfl).below hx.below);have hK':∀ ww v,EV (ev y*ev iv%fp) v→Below w'.heap.size w' ww→K _ ww:=fun ww v hv hb=>hK ww v (by simpa using hv) (hx.low 7 (by decide) (by decide) (by decide) (by decide) _ hb) trivial
   clear hK;rw[if_pos (by rfl)];go_simp;try simp only[d6]
   refine A.mono ?_;rintro e w9 ⟨es,hk,hv,rfl,hb⟩;have hK2:=hK' w9 _ ⟨es,hk,hv,rfl⟩ hb;clear hK' A hk hv hb;go_simp;simpa[upd,d6] using hK2
  ·clear hdep;have hK':=hK _ (.pointer (some ⟨w'.heap.size,0,none⟩)) (by simp[updK]) (hx.alloc1 hLi (by decide) (by decide) (by decide)) trivial;clear hK;rw[if_pos (by rfl)];go_simp;simpa[upd] using hK'
  ·clear hdep;have hK':=hK _ (.pointer (some ⟨w'.heap.size,0,none⟩)) (by simp[updK]) (hx.alloc2 hLi (by decide) (by decide) (by decide)) trivial;clear hK;rw[if_pos (by rfl)];go_simp;simpa[upd] using hK'
  ·have l8:L 8=true:=by simpa using hdep ⟨8,.data⟩ (by simp) rfl
   have f3:EV (ev x*ev iv%fp) (t 3):=by simpa using hdep ⟨3,.data⟩ (by simp) rfl
   clear hdep;obtain⟨g9,zs9,e9,r9,k9⟩:=hx.get1 l8;refine f3.elim_ fun es9 ke ve ee=>?_
   have hK':∀ ww,RowW ww g9 138 es9→Wr g9 w' ww→K _ ww:=fun ww rr hw=>hK ww undef (by simp[updK]) (hx.store1 l8 e9 (by decide) (by decide) (by decide) ke ve hw rr _) trivial
   clear hK;rw[if_pos (by rfl)];refine wp_storeX (.tmp 4) (.tmp 14) rfl g9 zs9 es9 e9 ee ke k9 r9 fun ww rr hw=>?_
   have hK2:=hK' ww rr hw;clear hK';simpa[upd,Act.put] using hK2
  ·have l9:L 9=true:=by simpa using hdep ⟨9,.data⟩ (by simp) rfl
   have f7:EV (ev y*ev iv%fp) (t 7):=by simpa using hdep ⟨7,.data⟩ (by simp) rfl
   clear hdep;obtain⟨g9,zs9,e9,r9,k9⟩:=hx.swap.get1 l9;refine f7.elim_ fun es9 ke ve ee=>?_
   have hK':∀ ww,RowW ww g9 138 es9→Wr g9 w' ww→K _ ww:=fun ww rr hw=>hK ww undef (by simp[updK]) (hx.store2 l9 e9 (by decide) (by decide) (by decide) ke ve hw rr _) trivial
   clear hK;rw[if_pos (by rfl)];refine wp_storeX (.tmp 5) (.tmp 18) rfl g9 zs9 es9 e9 ee ke k9 r9 fun ww rr hw=>?_
   have hK2:=hK' ww rr hw;clear hK';simpa[upd,Act.put] using hK2
 case hdone=>
  intro L t4 w4 hx hg;have l10:L 10=true:=by simpa using hg 10 (by decide)
  have l11:L 11=true:=by simpa using hg 11 (by decide)
  clear hg;obtain⟨G4a,xx,q1,qg1,qr1,qk1,qv1⟩:=hx.fin1 l10;obtain⟨G4b,yy,q2,qg2,qr2,qk2,qv2⟩:=hx.swap.fin1 l11;have qne:=hx.ne (hx.v1.1 l10) (hx.v2.1 l11) _ _ q1 q2;have HS4:Hid (RunD w0 w4 [(G4b,yy),(G4a,xx),(G3a,iv)] [(g,0,x),(g,5,y),(g,10,z)]):=HS3.out.two hx.below qg1 qr1 qk1 qg2 qr2 qk2 qne;have HKxx:Hid (EOk xx∧ev xx=ev x*ev iv%fp):=⟨qk1,qv1⟩
  have HKyy:Hid (EOk yy∧ev yy=ev y*ev iv%fp):=⟨qk2,qv2⟩
  simp only[q1,q2];clear hx q1 q2 qg1 qg2 qr1 qr2 qk1 qk2 qv1 qv2 qne HS3;go_wp2_with fail;refine(number_any G4b 0 yy _ (HS4.out.re 0 _ _ rfl)).mono ?_;rintro e wn ⟨ms,hl,hw,hv,rfl,b⟩
  match ms,hl with
  |[n0,n1,n2,n3],_=>
  obtain⟨a0,a1⟩:=hw.get 0;obtain⟨b0,b1⟩:=hw.get 1;obtain⟨c0,c1⟩:=hw.get 2;obtain⟨d0,d1⟩:=hw.get 3;simp only[List.getD_cons_zero,List.getD_cons_succ] at a0 a1 b0 b1 c0 c1 d0 d1;have HSn:Hid (RunD w0 (wn.alloc (.cells #[.int .u64 n0,.int .u64 n1,.int .u64 n2,.int .u64 n3] 143)) [(G4b,yy),(G4a,xx),(G3a,iv)] [(g,0,x),(g,5,y),(g,10,z)]):=(HS4.out.call b).call (below_new2 _ _);have HNR:Hid (RowW (wn.alloc (.cells #[.int .u64 n0,.int .u64 n1,.int .u64 n2,.int .u64 n3] 143)) wn.heap.size 143 [n0,n1,n2,n3]):=heap_alloc_new wn _;have hd3:n3<9223372036854775808:=by
   have e1:=HKyy.out.2;have e2:=ev_bd yy;have e3:val 18446744073709551616 [n0,n1,n2,n3]<57896044618658097711785492504343953926634992332820282019728792003956564819968:=by
    rw[hv];have:fp<57896044618658097711785492504343953926634992332820282019728792003956564819968:=by decide
    omega
   simp only[val] at e3;omega
  have HV:Hid (val 18446744073709551616 [n0,n1,n2,n3]=ev y*inv0 (ev z)%fp∧ev xx=ev x*inv0 (ev z)%fp):=⟨by rw[hv,HKyy.out.2,HKiv.out.2],by rw[HKxx.out.2,HKiv.out.2]⟩
  have HGW:Hid (w0.heap.size≤wn.heap.size):=Nat.le_trans HS4.out.below.size b.size;clear hv b HS4 hw;simp only[List.map_cons,List.map_nil];go_wp2_with fail;generalize wn.alloc (.cells #[.int .u64 n0,.int .u64 n1,.int .u64 n2,.int .u64 n3] 143)=w6 at *;refine(isOdd_any G4a 0 xx _ (HSn.out.re 1 _ _ rfl)).mono ?_;rintro e w7 ⟨rfl,b⟩;have HR7:Hid (w7.heap[wn.heap.size]?=some (.cells #[.int .u64 n0,.int .u64 n1,.int .u64 n2,.int .u64 n3] 143 (0,0))):=(HNR.out.below b HNR.out.lt)
  have HB7:Hid (Below w0.heap.size w0 w7):=HSn.out.below.trans (b.mono HSn.out.below.size);have HZ7:Hid (w7.heap[w.heap.size]?=some (.cells #[.int .u64 0,.int .u64 0,.int .u64 0,.int .u64 0] 143 (0,0))):=by show _=_;rw[HB7.out.block _ hs0];exact HR0
  have HSZ:Hid ((Tryz.prog.info? 143).map (·.size)=some 4):=by show _=_;kernel_rfl
  have HB:Hid (Below w.heap.size w w7):=bw.trans (HB7.out.mono bw.size);have hne:wn.heap.size≠w.heap.size:=by have:=HGW.out;omega
  have hG6:w.heap.size≤wn.heap.size:=by have:=HGW.out;omega
  clear b HSn HNR HB7 HR0 bw hs0 HKxx HKyy HKiv HGW;generalize wn.heap.size=G6 at *;have hx2:ev xx%2=0∨ev xx%2=1:=by omega
  rcases hx2 with hx2|hx2
  ·have HF:Hid (val 18446744073709551616 [n0,n1,n2,n3]=cdV (ev x) (ev y) (ev z)):=by
    show _=_
    unfold cdV;rw[HV.out.1,←HV.out.2,hx2];omega
   rw[show(ev xx%2 == 1)=false by rw[hx2];rfl];go_wp2_with (first
    |(refine wpList_load_row rfl 143 (.tmp 6) rfl G6 rfl 143 _ (0,0) _ HR7.out Tryz.underlying143 rfl HSZ.out ?_)
    |(refine wpList_store_row rfl 143 (.tmp 2) (.tmp 25) rfl w.heap.size #[.int .u64 n0,.int .u64 n1,.int .u64 n2,.int .u64 n3] rfl rfl 143 _ HZ7.out HSZ.out rfl (by simp[Value.oneCell']) ?_)
    |fail)
   refine bodyPost_ret (v:=.agg #[.int .u64 n0,.int .u64 n1,.int .u64 n2,.int .u64 n3]) (results_cell_row rfl _ _ w.heap.size 143 _ (0,0) _ rfl (setRow_heap _ _ _ _ _ _ HZ7.out) Tryz.underlying143 rfl HSZ.out) rfl ?_;exact⟨[n0,n1,n2,n3],rfl,wrd4 a0 a1 b0 b1 c0 c1 d0 d1,HF.out,rfl,HB.out.trans ((Wr.setRow _ _ _).below (Nat.le_refl _))⟩
  ·have HF:Hid (val 18446744073709551616 [n0,n1,n2,n3+9223372036854775808]=cdV (ev x) (ev y) (ev z)):=by
    show _=_
    have e1:=HV.out.1;unfold cdV top255;rw[←HV.out.2,hx2,←e1];simp only[val];omega
   have HOR:Hid (bits .or .u64 n3 9223372036854775808=n3+9223372036854775808):=u64_or_add' 9223372036854775808 n3 63 (by decide) (by decide) d0 (by show n3<9223372036854775808;exact hd3) d1 1 (by decide);have HS8:Hid ((w7.setCell ⟨G6,3,none⟩ (.int .u64 (bits .or .u64 n3 9223372036854775808))).heap[G6]?=some (.cells #[.int .u64 n0,.int .u64 n1,.int .u64 n2,.int .u64 (bits .or .u64 n3 9223372036854775808)] 143 (0,0))):=by
    show _=_;rw[heap_setCell_same w7 G6 3 _ _ _ HR7.out];rfl
   have HZ8:Hid ((w7.setCell ⟨G6,3,none⟩ (.int .u64 (bits .or .u64 n3 9223372036854775808))).heap[w.heap.size]?=some (.cells #[.int .u64 0,.int .u64 0,.int .u64 0,.int .u64 0] 143 (0,0))):=by
    show _=_;rw[((Wr.refl G6 w7).setCell 3 _).block _ (Ne.symm hne)];exact HZ7.out
   have HB8:Hid (Below w.heap.size w (w7.setCell ⟨G6,3,none⟩ (.int .u64 (bits .or .u64 n3 9223372036854775808)))):=HB.out.trans (((Wr.refl G6 w7).setCell 3 _).below hG6);have c3:w7.cell? ⟨G6,3,none⟩=some (.int .u64 n3):=by rw[cell_of_row w7 G6 3 _ _ _ HR7.out];rfl
   have f3:w7.frozen? ⟨G6,3,none⟩=false:=frozen_of_row w7 G6 3 _ _ HR7.out;rw[show(ev xx%2 == 1)=true by rw[hx2];rfl];go_wp2_with (first
    |(refine wpList_load_row rfl 143 (.tmp 6) rfl G6 rfl 143 _ (0,0) _ HS8.out Tryz.underlying143 rfl HSZ.out ?_)
    |(refine wpList_store_row rfl 143 (.tmp 2) (.tmp 25) rfl w.heap.size #[.int .u64 n0,.int .u64 n1,.int .u64 n2,.int .u64 (bits .or .u64 n3 9223372036854775808)] rfl rfl 143 _ HZ8.out HSZ.out rfl (by simp[Value.oneCell']) ?_)
    |fail)
   refine bodyPost_ret (v:=.agg #[.int .u64 n0,.int .u64 n1,.int .u64 n2,.int .u64 (bits .or .u64 n3 9223372036854775808)]) (results_cell_row rfl _ _ w.heap.size 143 _ (0,0) _ rfl (setRow_heap _ _ _ _ _ _ HZ8.out) Tryz.underlying143 rfl HSZ.out) rfl ?_;exact⟨[n0,n1,n2,n3+9223372036854775808],rfl,wrd4 a0 a1 b0 b1 c0 c1 (by omega) (by omega),HF.out,by rw[HOR.out];rfl,HB8.out.trans ((Wr.setRow _ _ _).below (Nat.le_refl _))⟩
end Go.Proofs.YtjdhhgaelgemcaaGreatDoor
namespace Go.Proofs.YtjdhhgaelgemcaaGreatDoor
set_option linter.unusedVariables false
abbrev Q4:Type:=Int×Int×Int×Int
theorem al (a b:Int):(a%fp+b)%fp=(a+b)%fp:=by rw[Int.add_emod,Int.emod_emod_of_dvd _ (Int.dvd_refl fp),←Int.add_emod]
theorem ar (a b:Int):(a+b%fp)%fp=(a+b)%fp:=by rw[Int.add_emod,Int.emod_emod_of_dvd _ (Int.dvd_refl fp),←Int.add_emod]
theorem sl (a b:Int):(a%fp-b)%fp=(a-b)%fp:=by rw[Int.sub_emod,Int.emod_emod_of_dvd _ (Int.dvd_refl fp),←Int.sub_emod]
theorem sr_ (a b:Int):(a-b%fp)%fp=(a-b)%fp:=by rw[Int.sub_emod,Int.emod_emod_of_dvd _ (Int.dvd_refl fp),←Int.sub_emod]
def fX (A B C G:Int):Int:=(B-A)%fp*((G-C)%fp)%fp
def fY (A B C G:Int):Int:=(G+C)%fp*((B+A)%fp)%fp
def fZ (A B C G:Int):Int:=(G-C)%fp*((G+C)%fp)%fp
def fT (A B C G:Int):Int:=(B-A)%fp*((B+A)%fp)%fp
def F4 (P Q:Q4):Q4:=
 (fX (smA P.1 P.2.1 Q.1 Q.2.1) (smB P.1 P.2.1 Q.1 Q.2.1) (smC mdD P.2.2.2 Q.2.2.2) (smG P.2.2.1 Q.2.2.1),
  fY (smA P.1 P.2.1 Q.1 Q.2.1) (smB P.1 P.2.1 Q.1 Q.2.1) (smC mdD P.2.2.2 Q.2.2.2) (smG P.2.2.1 Q.2.2.1),
  fZ (smA P.1 P.2.1 Q.1 Q.2.1) (smB P.1 P.2.1 Q.1 Q.2.1) (smC mdD P.2.2.2 Q.2.2.2) (smG P.2.2.1 Q.2.2.1),
  fT (smA P.1 P.2.1 Q.1 Q.2.1) (smB P.1 P.2.1 Q.1 Q.2.1) (smC mdD P.2.2.2 Q.2.2.2) (smG P.2.2.1 Q.2.2.1))
def scl (l:Int) (P:Q4):Q4:=(l*P.1%fp,l*P.2.1%fp,l*P.2.2.1%fp,l*P.2.2.2%fp)
theorem scA (l m X1 Y1 X2 Y2:Int):smA (l*X1%fp) (l*Y1%fp) (m*X2%fp) (m*Y2%fp)=l*m*smA X1 Y1 X2 Y2%fp:=by
 unfold smA;simp only[ml,mr,sl,sr_]
 congr 1;grind
theorem scB (l m X1 Y1 X2 Y2:Int):smB (l*X1%fp) (l*Y1%fp) (m*X2%fp) (m*Y2%fp)=l*m*smB X1 Y1 X2 Y2%fp:=by
 unfold smB;simp only[ml,mr,al,ar]
 congr 1;grind
theorem scC (l m D T1 T2:Int):smC D (l*T1%fp) (m*T2%fp)=l*m*smC D T1 T2%fp:=by
 unfold smC;simp only[ml,mr]
 congr 1;grind
theorem scG (l m Z1 Z2:Int):smG (l*Z1%fp) (m*Z2%fp)=l*m*smG Z1 Z2%fp:=by
 unfold smG;simp only[ml,mr,al,ar]
 congr 1;grind
theorem scFX (k A B C G:Int):fX (k*A%fp) (k*B%fp) (k*C%fp) (k*G%fp)=k*k*fX A B C G%fp:=by
 unfold fX;simp only[ml,mr,sl,sr_]
 congr 1;grind
theorem scFY (k A B C G:Int):fY (k*A%fp) (k*B%fp) (k*C%fp) (k*G%fp)=k*k*fY A B C G%fp:=by
 unfold fY;simp only[ml,mr,al,ar]
 congr 1;grind
theorem scFZ (k A B C G:Int):fZ (k*A%fp) (k*B%fp) (k*C%fp) (k*G%fp)=k*k*fZ A B C G%fp:=by
 unfold fZ;simp only[ml,mr,al,ar,sl,sr_]
 congr 1;grind
theorem scFT (k A B C G:Int):fT (k*A%fp) (k*B%fp) (k*C%fp) (k*G%fp)=k*k*fT A B C G%fp:=by
 unfold fT;simp only[ml,mr,al,ar,sl,sr_]
 congr 1;grind
theorem F4_scl (l m:Int) (P Q:Q4):F4 (scl l P) (scl m Q)=scl (l*m*(l*m)) (F4 P Q):=by
 obtain⟨x,y,z,t⟩:=P;obtain⟨x',y',z',t'⟩:=Q;simp only[F4,scl,scA,scB,scC,scG,scFX,scFY,scFZ,scFT]
theorem scl_scl (l m:Int) (P:Q4):scl l (scl m P)=scl (l*m) P:=by
 obtain⟨x,y,z,t⟩:=P;simp only[scl,mr,Int.mul_assoc]
def Rd (P:Q4):Prop:=(0≤P.1∧P.1<fp)∧(0≤P.2.1∧P.2.1<fp)∧(0≤P.2.2.1∧P.2.2.1<fp)∧(0≤P.2.2.2∧P.2.2.2<fp)
theorem scl_one {P:Q4} (h:Rd P):scl 1 P=P:=by
 obtain⟨x,y,z,t⟩:=P;obtain⟨h1,h2,h3,h4⟩:=h;simp only[scl,Int.one_mul];simp only at h1 h2 h3 h4;rw[Int.emod_eq_of_lt h1.1 h1.2,Int.emod_eq_of_lt h2.1 h2.2,Int.emod_eq_of_lt h3.1 h3.2,Int.emod_eq_of_lt h4.1 h4.2]
theorem md_rd (a:Int):0≤a%fp∧a%fp<fp:=⟨Int.emod_nonneg _ (by decide),Int.emod_lt_of_pos _ (by decide)⟩
theorem F4_rd (P Q:Q4):Rd (F4 P Q):=⟨md_rd _,md_rd _,md_rd _,md_rd _⟩
def idQ:Q4:=(0,1,1,0)
theorem idQ_dbl:F4 idQ idQ=scl 4 idQ:=by
 have h:smA 0 1 0 1=1∧smB 0 1 0 1=1∧smC mdD 0 0=0∧smG 1 1=2:=by
  refine⟨by decide,by decide,?_,by decide⟩;unfold smC;rw[Int.mul_zero];decide
 unfold idQ;simp only[F4,h.1,h.2.1,h.2.2.1,h.2.2.2];decide
def vbit (V:Int) (i:Nat):Bool:=V/2^i%2 == 1
def pS (V:Int) (P:Q4):Nat→Q4
 |0=>idQ
 |n+1=>bif vbit V (255-n) then F4 (F4 (pS V P n) (pS V P n)) P else F4 (pS V P n) (pS V P n)
def mS (V:Int) (P:Q4):Nat→Q4×Bool
 |0=>(idQ,false)
 |n+1=>
  let d:=bif (mS V P n).2 then F4 (mS V P n).1 (mS V P n).1 else(mS V P n).1
  bif vbit V (255-n) then(F4 d P,true) else(d,(mS V P n).2)
theorem same_S (V:Int) (P:Q4) (hP:Rd P) (n:Nat):(∃ k:Nat,pS V P n=scl (2^k) (mS V P n).1)∧((mS V P n).2=false→(mS V P n).1=idQ)∧Rd (mS V P n).1:=by
 induction n with
 |zero=>exact⟨⟨0,by show idQ=scl 1 idQ;decide⟩,fun _=>rfl,by show Rd idQ;unfold Rd idQ;decide⟩
 |succ n ih=>
  obtain⟨⟨k,hk⟩,hi,hr⟩:=ih;have hd:∃ j:Nat,F4 (pS V P n) (pS V P n)=scl (2^j) (bif (mS V P n).2 then F4 (mS V P n).1 (mS V P n).1 else(mS V P n).1):=by
   rw[hk,F4_scl];cases hb:(mS V P n).2 with
   |true=>exact⟨k+k+(k+k),by rw[cond_true,Int.pow_add,Int.pow_add]⟩
   |false=>
    rw[hi hb,idQ_dbl,scl_scl,cond_false];exact⟨k+k+(k+k)+2,by rw[Int.pow_add,Int.pow_add,Int.pow_add];rfl⟩
  obtain⟨j,hj⟩:=hd;have hrd:Rd (bif (mS V P n).2 then F4 (mS V P n).1 (mS V P n).1 else(mS V P n).1):=by
   cases (mS V P n).2 with
   |true=>exact F4_rd _ _
   |false=>exact hr
  cases hv:vbit V (255-n) with
  |true=>
   refine⟨⟨j+j,?_⟩,?_,?_⟩
   ·simp only[pS,mS,hv,cond_true];rw[hj];have e:=F4_scl (2^j) 1 (bif (mS V P n).2 then F4 (mS V P n).1 (mS V P n).1 else(mS V P n).1) P;rw[scl_one hP,Int.mul_one] at e;rw[e,Int.pow_add]
   ·simp only[mS,hv,cond_true];intro h;cases h
   ·simp only[mS,hv,cond_true];exact F4_rd _ _
  |false=>
   refine⟨⟨j,?_⟩,?_,?_⟩
   ·simp only[pS,mS,hv,cond_false];exact hj
   ·simp only[mS,hv,cond_false];intro h;rw[h];exact hi h
   ·simp only[mS,hv,cond_false];exact hrd
theorem pow_inv (n k:Nat) (X Z:Int) (h:(2:Int)^(n+1)%fp=1):(2^k*X%fp)*((2^k*Z%fp)^n%fp)%fp=X*(Z^n%fp)%fp:=by
 rw[ml,mr,mr,←mr,mpow,mr,Int.mul_pow];have e:(2:Int)^k*X*((2^k)^n*Z^n)=(2^(n+1))^k*(X*Z^n):=by
  have e1:(2:Int)^k*(2^k)^n=(2^(n+1))^k:=by
   rw[←Int.pow_mul,←Int.pow_add,←Int.pow_mul];congr 1;grind
  rw[←e1];grind
 rw[e,←ml,←mpow,h,Int.one_pow,show(1:Int)%fp=1 from by decide,Int.one_mul]
theorem cdV_scl (k:Nat) (X Y Z:Int):cdV (2^k*X%fp) (2^k*Y%fp) (2^k*Z%fp)=cdV X Y Z:=by
 have h:(2:Int)^(fpN-2+1)%fp=1:=by
  have:=fermatI 2 (by decide) (by decide)
  rwa [show fpN-2+1=fpN-1 from by decide +kernel]
 unfold cdV;rw[inv0_eq,inv0_eq,pow_inv _ k X Z h,pow_inv _ k Y Z h]
end Go.Proofs.YtjdhhgaelgemcaaGreatDoor
namespace Go.Proofs.YtjdhhgaelgemcaaGreatDoor
open Go.ChangeShapes Go.WideShapes Go.ChangeAt Go.RowKit
set_option linter.unusedVariables false
def ptQ (zs:List Int):Q4:=(mX zs mdD,mY zs,1%fp,mX zs mdD*mY zs%fp)
theorem mB_len2 {zs:List Int} (h:mB zs mdD=true):zs.length=32∧mY zs<fp:=by
 unfold mB at h;simp only[Bool.and_eq_true] at h;exact⟨by simpa using h.1.1.1,by simpa using h.1.1.2⟩
def bB:List Int:=[88,102,102,102,102,102,102,102,102,102,102,102,102,102,102,102,102,102,102,102,102,102,102,102,102,102,102,102,102,102,102,102]
theorem bB_len:bB.length=32:=rfl
theorem bB_val:val 256 bB=baseY:=by decide +kernel
theorem bB_byte:Byte bB:=by unfold Byte bB;decide
theorem bB_ok:mB bB mdD=true:=by decide +kernel
theorem bB_of {bs:List Int} (hb:Byte bs) (hl:bs.length=32) (hv:val 256 bs=baseY):bs=bB:=
 val_inj (B:=256) (by decide) hb bB_byte (by rw[hl,bB_len]) (by rw[hv,bB_val])
theorem word_bit (ns:List Int) (hw:Wrd ns) (i:Nat):ns.getD (i/64) 0/2^(i%64)%2=val 18446744073709551616 ns/2^i%2:=by
 have hd:=val_digit (B:=18446744073709551616) (by decide) hw (i/64);rw[←hd];generalize val 18446744073709551616 ns=V;have e1:(18446744073709551616:Int)^(i/64)=2^(64*(i/64)):=by rw[Int.pow_mul];rfl
 have e2:(2:Int)^i=2^(64*(i/64))*2^(i%64):=by rw[←Int.pow_add];congr 1;omega
 have hp:(0:Int)≤2^(64*(i/64)):=Int.le_of_lt (Int.pow_pos (by decide));rw[e1,e2,←Int.ediv_ediv_of_nonneg hp];generalize V/2^(64*(i/64))=U;have e3:(18446744073709551616:Int)=2^(i%64)*2^(64-i%64):=by
  rw[←Int.pow_add,show i%64+(64-i%64)=64 by omega];rfl
 have h1:0<64-i%64:=by omega
 rw[e3];have hq:(0:Int)<2^(i%64):=Int.pow_pos (by decide);rw[Int.emod_def U,Int.mul_assoc,Int.sub_eq_add_neg,←Int.mul_neg,Int.add_mul_ediv_left _ _ (by omega)];obtain⟨m,hm⟩:∃ m,64-i%64=m+1:=⟨63-i%64,by omega⟩
 rw[hm,Int.pow_succ];generalize U/2^(i%64)=A;generalize U/(2^(i%64)*(2^m*2))=B;rw[show -(2^m*2*B)=2*(-(2^m*B)) by grind,Int.add_mul_emod_self_left]
set_option maxHeartbeats 1000000 in
theorem bit_any (g:Nat) (ns:List Int) (i:Nat) (w:World) (hl:ns.length=4) (hi:i<256) (hr:RowW w g 143 ns) (hw:Wrd ns) :
  Calls Tryz.prog 122 #[.pointer (some ⟨g,0,none⟩),.int .i64 i] w fun e w'=>e=.returned (.int .u64 (val 18446744073709551616 ns/2^i%2))∧w'=w:=by
 have c3:=hr.cell (i/64) (by omega);obtain⟨h0,h1⟩:=hw.get (i/64);have HB:Hid (ns.getD (i/64) 0/2^(i%64)%2=val 18446744073709551616 ns/2^i%2):=word_bit ns hw i;have hp:(0:Int)<2^(i%64):=Int.pow_pos (by decide);have HA:Hid (bits .and .u64 (ns.getD (i/64) 0/2^(i%64)) 1=ns.getD (i/64) 0/2^(i%64)%2):=by
  have q0:0≤ns.getD (i/64) 0/2^(i%64):=Int.ediv_nonneg h0 (by omega);have q1:ns.getD (i/64) 0/2^(i%64)≤ns.getD (i/64) 0:=Int.ediv_le_self _ h0;exact u64_and_mask _ 1 q0 (by omega) 1 (by decide) (by decide)
 have hlt:(i:Int)/64<4:=by omega
 have hi':(i:Int)<256:=by omega
 clear hr hw hl hp;generalize ns.getD (i/64) 0=x at *;go_enter Tryz.func122,Tryz.ntmps122;go_wp2;rw[HA.out,HB.out]
 go_ret
 exact⟨rfl,rfl⟩
theorem AddP.q4 {w:World} {g:Nat} {X1 Y1 Z1 T1 X2 Y2 Z2 T2:Int} {e:Ending} {w':World} (h:AddP w g X1 Y1 Z1 T1 X2 Y2 Z2 T2 e w') :
  ∃ x y z t,Pt w' g x y z t∧WrH g w w'∧e=.returned (.tuple #[])∧((ev x,ev y,ev z,ev t):Q4)=F4 (X1,Y1,Z1,T1) (X2,Y2,Z2,T2):=by
 obtain⟨x,y,z,t,h1,h2,h3,h4,h5,h6,h7⟩:=h;exact⟨x,y,z,t,h1,h2,h3,by rw[h4,h5,h6,h7];rfl⟩
theorem Pt.wrh2 {w w':World} {g V:Nat} {x y z t:List Int} (h:Pt w g x y z t) (hw:WrH V w w') (hne:g≠V):Pt w' g x y z t:=⟨hw.rowW h.row hne,h.x,h.y,h.z,h.t⟩
def MulP (w:World) (g:Nat) (Q:Q4) (e:Ending) (w':World):Prop:=
 ∃ x y z t,Pt w' g x y z t∧WrH g w w'∧e=.returned (.tuple #[])∧((ev x,ev y,ev z,ev t):Q4)=Q
structure MuS (w:World) (g:Nat) (x y z t ns:List Int) (Q:Q4) (wr:World):Prop where
 below:Below w.heap.size w wr
 num:RowW wr w.heap.size 143 ns
 pt:Pt wr g x y z t
 lt:g<w.heap.size
 sum:∃ a b c d,Pt wr (w.heap.size+1+1) a b c d∧((ev a,ev b,ev c,ev d):Q4)=Q
theorem ev_id:((ev [0,0,0,0,0],ev [1,0,0,0,0],ev [1,0,0,0,0],ev [0,0,0,0,0]):Q4)=idQ:=by decide
theorem heap_third (w:World) (o1 o2 o3:Obj):(((w.alloc o1).alloc o2).alloc o3).heap[w.heap.size+1+1]?=some o3:=by
 have:=heap_alloc_new ((w.alloc o1).alloc o2) o3
 rwa [show((w.alloc o1).alloc o2).heap.size=w.heap.size+1+1 by simp] at this
def z20:List Int:=[0,0,0,0,0,0,0,0,0,0,0,0,0,0,0,0,0,0,0,0]
theorem one_ok2:EOk [1,0,0,0,0]:=one_ok
theorem Tryz.sizePoint2:(Tryz.prog.info? 140).map (·.size)=some 20:=by kernel_rfl
set_option maxRecDepth 100000 in
set_option maxHeartbeats 4000000 in
theorem multiply_gen (S:Nat→Q4) (g:Nat) (x y z t ns:List Int) (w:World) (hp:Pt w g x y z t) (hl:ns.length=4) (hw:Wrd ns) (hS0:Hid (S 0=idQ))
  (hSs:Hid (∀ n,S (n+1)=bif vbit (val 18446744073709551616 ns) (255-n) then F4 (F4 (S n) (S n)) (ev x,ev y,ev z,ev t) else F4 (S n) (S n))) :
  Calls Tryz.prog 104 #[.pointer (some ⟨g,0,none⟩),.agg (ns.map (Value.int .u64)).toArray] w (MulP w g (S 256)):=by
 match ns,hl with
 |[n0,n1,n2,n3],_=>
 have HB:Hid (Below w.heap.size w (((w.alloc (.cells #[.int .u64 n0,.int .u64 n1,.int .u64 n2,.int .u64 n3] 143)).alloc (.cells #[.int .u64 1,.int .u64 0,.int .u64 0,.int .u64 0,.int .u64 0] 138)).alloc (.cells #[.int .u64 0,.int .u64 0,.int .u64 0,.int .u64 0,.int .u64 0,.int .u64 0,.int .u64 0,.int .u64 0,.int .u64 0,.int .u64 0,.int .u64 0,.int .u64 0,.int .u64 0,.int .u64 0,.int .u64 0,.int .u64 0,.int .u64 0,.int .u64 0,.int .u64 0,.int .u64 0] 140))):=(((Below.refl _ _).alloc (Nat.le_refl _) _).alloc (by simp) _).alloc (by simp;omega) _;have HNR:Hid (RowW (((w.alloc (.cells #[.int .u64 n0,.int .u64 n1,.int .u64 n2,.int .u64 n3] 143)).alloc (.cells #[.int .u64 1,.int .u64 0,.int .u64 0,.int .u64 0,.int .u64 0] 138)).alloc (.cells #[.int .u64 0,.int .u64 0,.int .u64 0,.int .u64 0,.int .u64 0,.int .u64 0,.int .u64 0,.int .u64 0,.int .u64 0,.int .u64 0,.int .u64 0,.int .u64 0,.int .u64 0,.int .u64 0,.int .u64 0,.int .u64 0,.int .u64 0,.int .u64 0,.int .u64 0,.int .u64 0] 140)) w.heap.size 143 [n0,n1,n2,n3]):=by
  show _=_
  rw[Below.heap_alloc _ _ w.heap.size (by simp;omega),Below.heap_alloc _ _ w.heap.size (by simp)];exact heap_alloc_new w _
 have HZR:Hid (RowW (((w.alloc (.cells #[.int .u64 n0,.int .u64 n1,.int .u64 n2,.int .u64 n3] 143)).alloc (.cells #[.int .u64 1,.int .u64 0,.int .u64 0,.int .u64 0,.int .u64 0] 138)).alloc (.cells #[.int .u64 0,.int .u64 0,.int .u64 0,.int .u64 0,.int .u64 0,.int .u64 0,.int .u64 0,.int .u64 0,.int .u64 0,.int .u64 0,.int .u64 0,.int .u64 0,.int .u64 0,.int .u64 0,.int .u64 0,.int .u64 0,.int .u64 0,.int .u64 0,.int .u64 0,.int .u64 0] 140)) (w.heap.size+1+1) 140 z20):=heap_third w _ _ _;have HER:Hid (EAt ((w.alloc (.cells #[.int .u64 n0,.int .u64 n1,.int .u64 n2,.int .u64 n3] 143)).alloc (.cells #[.int .u64 1,.int .u64 0,.int .u64 0,.int .u64 0,.int .u64 0] 138)) (w.heap.size+1) 0 [1,0,0,0,0]):=by
  have r:RowW ((w.alloc (.cells #[.int .u64 n0,.int .u64 n1,.int .u64 n2,.int .u64 n3] 143)).alloc (.cells #[.int .u64 1,.int .u64 0,.int .u64 0,.int .u64 0,.int .u64 0] 138)) (w.heap.size+1) 138 [1,0,0,0,0]:=by
   have:=heap_alloc_new (w.alloc (.cells #[.int .u64 n0,.int .u64 n1,.int .u64 n2,.int .u64 n3] 143)) (.cells #[.int .u64 1,.int .u64 0,.int .u64 0,.int .u64 0,.int .u64 0] 138)
   rwa [show(w.alloc (.cells #[.int .u64 n0,.int .u64 n1,.int .u64 n2,.int .u64 n3] 143)).heap.size=w.heap.size+1 by simp] at this
  exact EAt.of_row r one_ok2
 have HPT:Hid (Pt w g x y z t):=hp;have HWD:Hid (Wrd [n0,n1,n2,n3]):=hw;clear hp hw;simp only[List.map_cons,List.map_nil];go_enter Tryz.func104,Tryz.ntmps104;go_wp2_with (first
  |(refine wpList_loadE rfl (.tmp 4) rfl (w.heap.size+1) 0 [1,0,0,0,0] rfl HER.out ?_)
  |(refine wpList_storeP rfl (.tmp 5) (.tmp 10) rfl (w.heap.size+1+1) [0,0,0,0,0] [1,0,0,0,0] [1,0,0,0,0] [0,0,0,0,0] z20 rfl rfl zero_ok one_ok2 one_ok2 zero_ok rfl HZR.out ?_)
  |fail)
 intro w0 hp0 hw0;have HS:Hid (MuS w g x y z t [n0,n1,n2,n3] (S 0) w0):=by
  have b0:Below w.heap.size w w0:=HB.out.trans (hw0.below (by omega));exact⟨b0,hw0.rowW HNR.out (by omega),HPT.out.below b0 HPT.out.row.lt,HPT.out.row.lt,[0,0,0,0,0],[1,0,0,0,0],[1,0,0,0,0],[0,0,0,0,0],hp0,by rw[hS0.out];exact ev_id⟩
 clear hp0 hw0 HB HNR HZR HER;go_wp2_with fail
 go_loopw [6] (fun i wr=>∃ j:Nat,j≤256∧i=.int .i64 ((j:Int)-1)∧MuS w g x y z t [n0,n1,n2,n3] (S (256-j)) wr) (fun i _=>(intOf i+1).toNat)
 case atStart=>exact⟨256,Nat.le_refl _,by go_num,by rw[Nat.sub_self];exact HS.out⟩
 case round=>
  clear HS;obtain⟨j,hj,rfl,hst⟩:=hrel;by_cases hj0:0<j
  ·obtain⟨i,rfl⟩:∃ i,j=i+1:=⟨j-1,by omega⟩
   have ei:((i+1:Nat):Int)-1=(i:Int):=by omega
   rw[ei];clear ei;obtain⟨hbel,hnum,hpt,hlt,a,b,c,d,hsum,hq⟩:=hst;have HST:Hid (Below w.heap.size w wr∧RowW wr w.heap.size 143 [n0,n1,n2,n3]∧Pt wr g x y z t∧g<w.heap.size∧Pt wr (w.heap.size+1+1) a b c d∧((ev a,ev b,ev c,ev d):Q4)=S (256-(i+1))):=⟨hbel,hnum,hpt,hlt,hsum,hq⟩
   clear hbel hnum hpt hlt hsum hq;go_wp2_with fail;refine(add_any (w.heap.size+1+1) (w.heap.size+1+1) a b c d a b c d _ HST.out.2.2.2.2.1 HST.out.2.2.2.2.1).mono ?_;intro e w2 h2;obtain⟨a2,b2,c2,d2,p2,hw2,rfl,q2⟩:=h2.q4;obtain⟨s1,s2,s3,s4,s5,s6⟩:=HST.out;have HST2:Hid (Below w.heap.size w w2∧RowW w2 w.heap.size 143 [n0,n1,n2,n3]∧Pt w2 g x y z t∧g<w.heap.size∧Pt w2 (w.heap.size+1+1) a2 b2 c2 d2∧((ev a2,ev b2,ev c2,ev d2):Q4)=F4 (S (256-(i+1))) (S (256-(i+1)))):=
    ⟨s1.trans (hw2.below w.heap.size (by omega) s1.size),hw2.rowW s2 (by omega),s3.wrh2 hw2 (by omega),s4,p2,by rw[q2,s6]⟩
   clear h2 p2 hw2 q2 s1 s2 s3 s4 s5 s6 HST;go_wp2_with fail;refine(bit_any w.heap.size [n0,n1,n2,n3] i _ rfl (by omega) HST2.out.2.1 HWD.out).mono ?_;rintro e w3 ⟨rfl,rfl⟩;have hv:val 18446744073709551616 [n0,n1,n2,n3]/2^i%2=0∨val 18446744073709551616 [n0,n1,n2,n3]/2^i%2=1:=by omega
   have en:256-i=256-(i+1)+1:=by omega
   have en2:255-(256-(i+1))=i:=by omega
   rcases hv with hv|hv
   ·have hvb:vbit (val 18446744073709551616 [n0,n1,n2,n3]) i=false:=by unfold vbit;rw[hv];rfl
    have HN:Hid (MuS w g x y z t [n0,n1,n2,n3] (S (256-i)) w3):=by
     obtain⟨s1,s2,s3,s4,s5,s6⟩:=HST2.out;refine⟨s1,s2,s3,s4,a2,b2,c2,d2,s5,?_⟩;rw[s6,en,hSs.out,en2,hvb];rfl
    rw[hv];clear hv HST2 en en2 hvb;go_wp2;go_roundw
    case rel=>exact⟨i,by omega,by go_num,HN.out⟩
    case measure=>simp[intOf]
   ·have hvb:vbit (val 18446744073709551616 [n0,n1,n2,n3]) i=true:=by unfold vbit;rw[hv];rfl
    rw[hv];clear hv;go_wp2_with fail;refine(add_any (w.heap.size+1+1) g a2 b2 c2 d2 x y z t _ HST2.out.2.2.2.2.1 HST2.out.2.2.1).mono ?_;intro e w4 h4;obtain⟨a4,b4,c4,d4,p4,hw4,rfl,q4⟩:=h4.q4;have HN:Hid (MuS w g x y z t [n0,n1,n2,n3] (S (256-i)) w4):=by
     obtain⟨s1,s2,s3,s4,s5,s6⟩:=HST2.out;refine⟨s1.trans (hw4.below w.heap.size (by omega) s1.size),hw4.rowW s2 (by omega),s3.wrh2 hw4 (by omega),s4,a4,b4,c4,d4,p4,?_⟩;rw[q4,s6,en,hSs.out,en2,hvb];rfl
    clear HST2 en en2 hvb h4 p4 hw4 q4;go_wp2;go_roundw
    case rel=>exact⟨i,by omega,by go_num,HN.out⟩
    case measure=>simp[intOf]
  ·have hj00:j=0:=by omega
   subst hj00;obtain⟨hbel,hnum,hpt,hlt,a,b,c,d,hsum,hq⟩:=hst;rw[Nat.sub_zero] at hq;have HL:Hid (wr.heap[w.heap.size+1+1]?=some (.cells ((pl a b c d).map (Value.int .u64)).toArray 140 (0,0))):=hsum.row;have HPX:Hid ((pl x y z t).length=20):=by show _=_;unfold pl;simp[HPT.out.x.1,HPT.out.y.1,HPT.out.z.1,HPT.out.t.1]
   have HSZ:Hid ((Tryz.prog.info? 140).map (·.size)=some ((pl a b c d).map (Value.int .u64)).toArray.size):=by
    show _=_
    rw[Tryz.sizePoint2];unfold pl;simp[hsum.x.1,hsum.y.1,hsum.z.1,hsum.t.1]
   have HOK:Hid (EOk a∧EOk b∧EOk c∧EOk d):=⟨hsum.x,hsum.y,hsum.z,hsum.t⟩
   have HPR:Hid (RowW wr g 140 (pl x y z t)):=hpt.row;have HFF:Hid (Below w.heap.size w wr∧((ev a,ev b,ev c,ev d):Q4)=S 256):=⟨hbel,hq⟩
   clear hbel hnum hpt hsum hq;go_wp2_with (first
    |(refine wpList_load_row rfl 140 (.tmp 5) rfl (w.heap.size+1+1) rfl 140 _ (0,0) _ HL.out Tryz.underlying140 rfl HSZ.out ?_)
    |(refine wpList_storeP rfl (.tmp 23) (.tmp 22) rfl g a b c d _ rfl rfl HOK.out.1 HOK.out.2.1 HOK.out.2.2.1 HOK.out.2.2.2 HPX.out HPR.out ?_)
    |fail)
   intro w5 hp5 hw5;have HF:Hid (MulP w g (S 256) (.returned (.tuple #[])) w5):=
    ⟨a,b,c,d,hp5,(WrH.of_below HFF.out.1).trans hw5.wrH,rfl,HFF.out.2⟩
   clear hp5 hw5 HFF HPR HOK HSZ HPX HL;go_wp2
   go_end0
   exact HF.out
theorem multiply_any (g:Nat) (x y z t ns:List Int) (w:World) (hp:Pt w g x y z t) (hl:ns.length=4) (hw:Wrd ns) :
  Calls Tryz.prog 104 #[.pointer (some ⟨g,0,none⟩),.agg (ns.map (Value.int .u64)).toArray] w (MulP w g (pS (val 18446744073709551616 ns) (ev x,ev y,ev z,ev t) 256)):=
 multiply_gen (pS (val 18446744073709551616 ns) (ev x,ev y,ev z,ev t)) g x y z t ns w hp hl hw rfl (fun _=>rfl)
theorem byte_bit (ks:List Int) (hw:Byte ks) (i:Nat):ks.getD (i/8) 0/2^(i%8)%2=val 256 ks/2^i%2:=by
 have hd:=val_digit (B:=256) (by decide) (fun z hz=>hw z hz) (i/8);rw[←hd];generalize val 256 ks=V;have e1:(256:Int)^(i/8)=2^(8*(i/8)):=by rw[Int.pow_mul];rfl
 have e2:(2:Int)^i=2^(8*(i/8))*2^(i%8):=by rw[←Int.pow_add];congr 1;omega
 have hp:(0:Int)≤2^(8*(i/8)):=Int.le_of_lt (Int.pow_pos (by decide));rw[e1,e2,←Int.ediv_ediv_of_nonneg hp];generalize V/2^(8*(i/8))=U;have e3:(256:Int)=2^(i%8)*2^(8-i%8):=by
  rw[←Int.pow_add,show i%8+(8-i%8)=8 by omega];rfl
 have h1:0<8-i%8:=by omega
 rw[e3];have hq:(0:Int)<2^(i%8):=Int.pow_pos (by decide);rw[Int.emod_def U,Int.mul_assoc,Int.sub_eq_add_neg,←Int.mul_neg,Int.add_mul_ediv_left _ _ (by omega)];obtain⟨m,hm⟩:∃ m,8-i%8=m+1:=⟨7-i%8,by omega⟩
 rw[hm,Int.pow_succ];generalize U/2^(i%8)=A;generalize U/(2^(i%8)*(2^m*2))=B;rw[show -(2^m*2*B)=2*(-(2^m*B)) by grind,Int.add_mul_emod_self_left]
theorem FeA.lt {w:World} {g:Nat} {x:Int} (h:FeA w (some ⟨g,0,none⟩) x):g<w.heap.size:=by
 obtain⟨zs,h1,h2,h3⟩:=h;obtain⟨b,o,e,hb,hc⟩:=h1.get (by have:=h2.1;omega);cases e;exact hb
def OutS (B:Nat) (wr:World) (G:Nat) (Q:Q4):Prop:=
 ∃ h0 k0 h1 k1 h2 k2 h3 k3,PtW wr G #[.slice (some ⟨h0,0,none⟩) 16 k0,.slice (some ⟨h1,0,none⟩) 16 k1,.slice (some ⟨h2,0,none⟩) 16 k2,.slice (some ⟨h3,0,none⟩) 16 k3]∧FeA wr (some ⟨h0,0,none⟩) Q.1∧FeA wr (some ⟨h1,0,none⟩) Q.2.1∧FeA wr (some ⟨h2,0,none⟩) Q.2.2.1∧FeA wr (some ⟨h3,0,none⟩) Q.2.2.2∧(h0≠G∧h1≠G∧h2≠G∧h3≠G)∧(B<h0∧B<h1∧B<h2∧B<h3)
structure TmE (w:World) (pc:Array Value) (G:Nat) (wr:World):Prop where
 below:Below w.heap.size w wr
 pb:PtW wr w.heap.size pc
 rs:PtW wr (w.heap.size+1) #[.slice none 0 0,.slice none 0 0,.slice none 0 0,.slice none 0 0]
 gt:w.heap.size+1<G
theorem TmE.call {w wr w':World} {pc:Array Value} {G:Nat} (h:TmE w pc G wr) (b:Below wr.heap.size wr w'):TmE w pc G w':=
 ⟨h.below.trans (b.mono h.below.size),h.pb.below b h.pb.lt,h.rs.below b h.rs.lt,h.gt⟩
theorem PtW.wr2 {w w':World} {g V:Nat} {cs:Array Value} (h:PtW w g cs) (hw:Wr V w w') (hne:g≠V):PtW w' g cs:=by unfold PtW;rw[hw.block g hne];exact h
theorem TmE.wr {w wr w':World} {pc:Array Value} {G:Nat} (h:TmE w pc G wr) (hw:Wr G wr w'):TmE w pc G w':=
 ⟨h.below.trans (hw.below (by have:=h.gt;omega)),h.pb.wr2 hw (by have:=h.gt;omega),h.rs.wr2 hw (by have:=h.gt;omega),h.gt⟩
def TimP (w:World) (Q:Q4) (e:Ending) (w':World):Prop:=
 ∃ h0 k0 h1 k1 h2 k2 h3 k3,e=.returned (.agg #[.slice (some ⟨h0,0,none⟩) 16 k0,.slice (some ⟨h1,0,none⟩) 16 k1,.slice (some ⟨h2,0,none⟩) 16 k2,.slice (some ⟨h3,0,none⟩) 16 k3])∧FeA w' (some ⟨h0,0,none⟩) Q.1∧FeA w' (some ⟨h1,0,none⟩) Q.2.1∧FeA w' (some ⟨h2,0,none⟩) Q.2.2.1∧FeA w' (some ⟨h3,0,none⟩) Q.2.2.2∧Below w.heap.size w w'
theorem OutS.put {B:Nat} {wr w5 w6:World} {G:Nat} {P Q:Q4} {v:Value} (hG:G<wr.heap.size) (hB:B<G)
  (h:SumP wr (smA P.1 P.2.1 Q.1 Q.2.1) (smB P.1 P.2.1 Q.1 Q.2.1) (smC mdD P.2.2.2 Q.2.2.2) (smG P.2.2.1 Q.2.2.1) (.returned v) w5) :
  ∃ s0 s1 s2 s3,v=.agg #[s0,s1,s2,s3]∧(s0.oneCell'=true∧s1.oneCell'=true∧s2.oneCell'=true∧s3.oneCell'=true)∧(PtW w6 G #[s0,s1,s2,s3]→Wr G w5 w6→OutS B w6 G (F4 P Q)):=by
 obtain⟨g1,k1,g2,k2,g3,k3,g4,k4,e,f1,f2,f3,f4,b,q1,q2,q3,q4⟩:=h;cases e;refine⟨_,_,_,_,rfl,⟨rfl,rfl,rfl,rfl⟩,fun hp hw=>⟨g1,k1,g2,k2,g3,k3,g4,k4,hp,f1.wr hw (by omega),f2.wr hw (by omega),f3.wr hw (by omega),f4.wr hw (by omega),⟨by omega,by omega,by omega,by omega⟩,by omega,by omega,by omega,by omega⟩⟩
set_option maxRecDepth 100000 in
set_option maxHeartbeats 8000000 in
theorem ltimes_gen (M:Nat→Q4×Bool) (kp:Option Addr) (kc:Nat) (ks:List Int) (p0 p1 p2 p3 gd c0 c1 c2 c3 cd:Nat) (P:Q4) (w:World) (hk:ks.length=32) (hb:Byte ks) (ha:At .u8 w kp ks)
  (h0:FeA w (some ⟨p0,0,none⟩) P.1) (h1:FeA w (some ⟨p1,0,none⟩) P.2.1) (h2:FeA w (some ⟨p2,0,none⟩) P.2.2.1) (h3:FeA w (some ⟨p3,0,none⟩) P.2.2.2) (hd:FeA w (some ⟨gd,0,none⟩) mdD) (hM0:Hid (M 0=(idQ,false)))
  (hMs:Hid (∀ n Q b,M n=(Q,b)→M (n+1)=bif vbit (val 256 ks) (255-n) then(F4 (bif b then F4 Q Q else Q) P,true) else(bif b then F4 Q Q else Q,b))) :
  Calls Tryz.prog 77 #[.slice kp 32 kc,.agg #[.slice (some ⟨p0,0,none⟩) 16 c0,.slice (some ⟨p1,0,none⟩) 16 c1,.slice (some ⟨p2,0,none⟩) 16 c2,.slice (some ⟨p3,0,none⟩) 16 c3],.slice (some ⟨gd,0,none⟩) 16 cd] w (TimP w (M 256).1):=by
 have bb:Below w.heap.size w ((w.alloc (.cells #[.slice (some ⟨p0,0,none⟩) 16 c0,.slice (some ⟨p1,0,none⟩) 16 c1,.slice (some ⟨p2,0,none⟩) 16 c2,.slice (some ⟨p3,0,none⟩) 16 c3] 109)).alloc (.cells #[.slice none 0 0,.slice none 0 0,.slice none 0 0,.slice none 0 0] 109)):=((Below.refl _ _).alloc (Nat.le_refl _) _).alloc (by simp) _;have HP0:Hid (PtW ((w.alloc (.cells #[.slice (some ⟨p0,0,none⟩) 16 c0,.slice (some ⟨p1,0,none⟩) 16 c1,.slice (some ⟨p2,0,none⟩) 16 c2,.slice (some ⟨p3,0,none⟩) 16 c3] 109)).alloc (.cells #[.slice none 0 0,.slice none 0 0,.slice none 0 0,.slice none 0 0] 109)) w.heap.size #[.slice (some ⟨p0,0,none⟩) 16 c0,.slice (some ⟨p1,0,none⟩) 16 c1,.slice (some ⟨p2,0,none⟩) 16 c2,.slice (some ⟨p3,0,none⟩) 16 c3]):=by
  show _=_
  rw[Below.heap_alloc _ _ w.heap.size (by simp)];exact heap_alloc_new w _
 have HZ0:Hid (PtW ((w.alloc (.cells #[.slice (some ⟨p0,0,none⟩) 16 c0,.slice (some ⟨p1,0,none⟩) 16 c1,.slice (some ⟨p2,0,none⟩) 16 c2,.slice (some ⟨p3,0,none⟩) 16 c3] 109)).alloc (.cells #[.slice none 0 0,.slice none 0 0,.slice none 0 0,.slice none 0 0] 109)) (w.heap.size+1) #[.slice none 0 0,.slice none 0 0,.slice none 0 0,.slice none 0 0]):=by
  show _=_
  have:=heap_alloc_new (w.alloc (.cells #[.slice (some ⟨p0,0,none⟩) 16 c0,.slice (some ⟨p1,0,none⟩) 16 c1,.slice (some ⟨p2,0,none⟩) 16 c2,.slice (some ⟨p3,0,none⟩) 16 c3] 109)) (.cells #[.slice none 0 0,.slice none 0 0,.slice none 0 0,.slice none 0 0] 109);simpa using this
 have HB0:Hid (Below w.heap.size w ((w.alloc (.cells #[.slice (some ⟨p0,0,none⟩) 16 c0,.slice (some ⟨p1,0,none⟩) 16 c1,.slice (some ⟨p2,0,none⟩) 16 c2,.slice (some ⟨p3,0,none⟩) 16 c3] 109)).alloc (.cells #[.slice none 0 0,.slice none 0 0,.slice none 0 0,.slice none 0 0] 109))):=bb;have HF0:Hid (FeA w (some ⟨p0,0,none⟩) P.1):=h0;have HF1:Hid (FeA w (some ⟨p1,0,none⟩) P.2.1):=h1;have HF2:Hid (FeA w (some ⟨p2,0,none⟩) P.2.2.1):=h2;have HF3:Hid (FeA w (some ⟨p3,0,none⟩) P.2.2.2):=h3;have HFD:Hid (FeA w (some ⟨gd,0,none⟩) mdD):=hd;obtain⟨kb,ko,rfl,hkb,hkc⟩:=ha.get (by omega);have HKB:Hid (kb<w.heap.size):=hkb;have HKC:Hid (∀ q,q<32→w.cell? ⟨kb,ko+q,none⟩=some (.int .u8 (ks.getD q 0))):=fun q hq=>hkc q (by omega)
 have HBY:Hid (Byte ks):=hb;have HKL:Hid (ks.length=32):=hk;clear bb h0 h1 h2 h3 hd ha hb hk hkb hkc;go_enter Tryz.func77,Tryz.ntmps77;go_wp2_with fail;generalize ((w.alloc (.cells #[.slice (some ⟨p0,0,none⟩) 16 c0,.slice (some ⟨p1,0,none⟩) 16 c1,.slice (some ⟨p2,0,none⟩) 16 c2,.slice (some ⟨p3,0,none⟩) 16 c3] 109)).alloc (.cells #[.slice none 0 0,.slice none 0 0,.slice none 0 0,.slice none 0 0] 109))=w0 at *;refine(small_any 0 _ (by decide) (by decide)).mono ?_;rintro e w1 ⟨g1,k1,rfl,hr1,_,hf,hb⟩;have hg1:w.heap.size+1<g1:=by have:=HZ0.out.lt;omega
 have HX:Hid (FeA w1 (some ⟨g1,0,none⟩) (0%fp)):=hf;have b1:Below w.heap.size w w1:=HB0.out.trans (hb.mono HB0.out.size);have HP1:Hid (PtW w1 w.heap.size #[.slice (some ⟨p0,0,none⟩) 16 c0,.slice (some ⟨p1,0,none⟩) 16 c1,.slice (some ⟨p2,0,none⟩) 16 c2,.slice (some ⟨p3,0,none⟩) 16 c3]):=HP0.out.below hb HP0.out.lt;have HZ1:Hid (PtW w1 (w.heap.size+1) #[.slice none 0 0,.slice none 0 0,.slice none 0 0,.slice none 0 0]):=HZ0.out.below hb HZ0.out.lt;have HB1:Hid (Below w.heap.size w w1):=b1;clear hf hb HB0 HP0 HZ0 b1;go_wp2_with fail;refine(small_any 1 _ (by decide) (by decide)).mono ?_;rintro e w2 ⟨g2,k2,rfl,hr2,_,hf,hb⟩;have hg2:w.heap.size+1<g2:=by have:=HZ1.out.lt;omega
 have HX2:Hid (FeA w2 (some ⟨g1,0,none⟩) (0%fp)):=HX.out.below hb;have HY2:Hid (FeA w2 (some ⟨g2,0,none⟩) (1%fp)):=hf;have HP2:Hid (PtW w2 w.heap.size #[.slice (some ⟨p0,0,none⟩) 16 c0,.slice (some ⟨p1,0,none⟩) 16 c1,.slice (some ⟨p2,0,none⟩) 16 c2,.slice (some ⟨p3,0,none⟩) 16 c3]):=HP1.out.below hb HP1.out.lt;have HZ2:Hid (PtW w2 (w.heap.size+1) #[.slice none 0 0,.slice none 0 0,.slice none 0 0,.slice none 0 0]):=HZ1.out.below hb HZ1.out.lt;have HB2:Hid (Below w.heap.size w w2):=HB1.out.trans (hb.mono HB1.out.size);clear hf hb HB1 HP1 HZ1 HX;go_wp2_with fail;refine(affine_any (some ⟨g1,0,none⟩) (some ⟨g2,0,none⟩) k1 k2 _ _ _ HX2.out HY2.out).mono ?_;rintro e w3 ⟨gz,cz,gt,ct,rfl,f3,f4,hb,hr3,hr4⟩;have hgz:w.heap.size+1<gz:=by have:=HZ2.out.lt;omega
 have hgt:w.heap.size+1<gt:=by have:=HZ2.out.lt;omega
 have HX3:Hid (FeA w3 (some ⟨g1,0,none⟩) (0%fp)∧FeA w3 (some ⟨g2,0,none⟩) (1%fp)∧FeA w3 (some ⟨gz,0,none⟩) (1%fp)∧FeA w3 (some ⟨gt,0,none⟩) (0%fp*(1%fp)%fp)):=⟨HX2.out.below hb,HY2.out.below hb,f3,f4⟩
 have HP3:Hid (PtW w3 w.heap.size #[.slice (some ⟨p0,0,none⟩) 16 c0,.slice (some ⟨p1,0,none⟩) 16 c1,.slice (some ⟨p2,0,none⟩) 16 c2,.slice (some ⟨p3,0,none⟩) 16 c3]):=HP2.out.below hb HP2.out.lt;have HZ3:Hid (PtW w3 (w.heap.size+1) #[.slice none 0 0,.slice none 0 0,.slice none 0 0,.slice none 0 0]):=HZ2.out.below hb HZ2.out.lt;have HB3:Hid (Below w.heap.size w w3):=HB2.out.trans (hb.mono HB2.out.size);have HPN:Hid (PtW (w3.alloc (.cells #[.slice none 0 0,.slice none 0 0,.slice none 0 0,.slice none 0 0] 109)) w3.heap.size #[.slice none 0 0,.slice none 0 0,.slice none 0 0,.slice none 0 0]):=PtW.new w3;clear f3 f4 hb HB2 HP2 HZ2 HX2 HY2;go_wp2_with (first
  |(refine wpList_storePt rfl (.tmp 7) (.tmp 12) rfl w3.heap.size _ _ _ _ _ rfl rfl rfl rfl rfl rfl rfl HPN.out ?_)
  |fail)
 intro w4 hp4 hw4;have b34:Below w3.heap.size w3 w4:=(below_new3 _ _).trans (hw4.below (Nat.le_refl _));have HE:Hid (TmE w #[.slice (some ⟨p0,0,none⟩) 16 c0,.slice (some ⟨p1,0,none⟩) 16 c1,.slice (some ⟨p2,0,none⟩) 16 c2,.slice (some ⟨p3,0,none⟩) 16 c3] w3.heap.size w4):=⟨HB3.out.trans (b34.mono HB3.out.size),HP3.out.below b34 HP3.out.lt,HZ3.out.below b34 HZ3.out.lt,HZ3.out.lt⟩
 have HO:Hid (OutS (w.heap.size+1) w4 w3.heap.size (M 0).1):=by
  show OutS _ _ _ _
  rw[hM0.out];obtain⟨q1,q2,q3,q4⟩:=HX3.out;refine⟨g1,k1,g2,k2,gz,cz,gt,ct,hp4,?_,?_,?_,?_,⟨?_,?_,?_,?_⟩,hg1,hg2,hgz,hgt⟩
  ·exact q1.below b34
  ·exact q2.below b34
  ·exact q3.below b34
  ·exact q4.below b34
  ·have:=q1.lt;omega
  ·have:=q2.lt;omega
  ·have:=q3.lt;omega
  ·have:=q4.lt;omega
 clear hp4 hw4 b34 HPN HX3 HP3 HZ3 HB3;generalize w3.heap.size=G at *;go_wp2_with fail
 go_loopw [8,9] (fun b i wr=>∃ j:Nat,j≤256∧i=.int .i64 ((j:Int)-1)∧b=.bool (M (256-j)).2∧TmE w #[.slice (some ⟨p0,0,none⟩) 16 c0,.slice (some ⟨p1,0,none⟩) 16 c1,.slice (some ⟨p2,0,none⟩) 16 c2,.slice (some ⟨p3,0,none⟩) 16 c3] G wr∧OutS (w.heap.size+1) wr G (M (256-j)).1) (fun _ i _=>(intOf i+1).toNat)
 case atStart=>exact⟨256,Nat.le_refl _,by go_num,by rw[Nat.sub_self,hM0.out],HE.out,by rw[Nat.sub_self];exact HO.out⟩
 case round=>
  clear HE HO;obtain⟨j,hj,rfl,rfl,hE,hO⟩:=hrel;by_cases hj0:0<j
  ·obtain⟨i,rfl⟩:∃ i,j=i+1:=⟨j-1,by omega⟩
   have ei:((i+1:Nat):Int)-1=(i:Int):=by omega
   rw[ei];clear ei;have en:256-i=256-(i+1)+1:=by omega
   have en2:255-(256-(i+1))=i:=by omega
   have hi8:i<256:=by omega
   generalize hM:M (256-(i+1))=mq at *;obtain⟨Q,bg⟩:=mq;simp only at hO ⊢;cases bg with
   |false=>
    have hge:¬ ((i:Int)<0):=by omega
    have cK:wr.cell? ⟨kb,ko+i/8,none⟩=some (.int .u8 (ks.getD (i/8) 0)):=by rw[hE.below.cell (p:=⟨kb,ko+i/8,none⟩) HKB.out];exact HKC.out (i/8) (by omega)
    have hx:=HBY.out.get (i/8);have HBIT:Hid (ks.getD (i/8) 0/2^(i%8)%2=(val 256 ks)/2^i%2):=byte_bit ks HBY.out i;have hlt:(i:Int)/8<32:=by omega
    have HE:Hid (TmE w #[.slice (some ⟨p0,0,none⟩) 16 c0,.slice (some ⟨p1,0,none⟩) 16 c1,.slice (some ⟨p2,0,none⟩) 16 c2,.slice (some ⟨p3,0,none⟩) 16 c3] G wr):=hE;have HO:Hid (OutS (w.heap.size+1) wr G (Q)):=hO;clear hE hO;generalize ks.getD (i/8) 0=x at *;obtain⟨hx0,hx1⟩:=hx;have hv:(val 256 ks)/2^i%2=0∨(val 256 ks)/2^i%2=1:=by omega
    have hpp:(0:Int)<2^(i%8):=Int.pow_pos (by decide);have hy0:0≤x/2^(i%8):=Int.ediv_nonneg hx0 (by omega);have hy1:x/2^(i%8)≤x:=Int.ediv_le_self _ hx0;rcases hv with hv|hv
    ·have hvb:vbit (val 256 ks) i=false:=by unfold vbit;rw[hv];rfl
     have hb0:x/2^(i%8)%2=0:=by rw[HBIT.out,hv]
     have HN:Hid ((M (256-i))=(Q,false)):=by
      show _=_
      rw[en,hMs.out _ _ _ hM,en2,hvb];rfl
     clear hv HBIT hvb;have ht:(x/2^(i%8)).tmod 2=0:=by rw[Int.tmod_eq_emod_of_nonneg hy0,hb0]
     clear hb0;go_wp2;go_roundw
     case rel=>exact⟨i,by omega,by go_num,by rw[HN.out],HE.out,by rw[HN.out];exact HO.out⟩
     case measure=>simp[intOf]
    ·have hvb:vbit (val 256 ks) i=true:=by unfold vbit;rw[hv];rfl
     have hb0:x/2^(i%8)%2=1:=by rw[HBIT.out,hv]
     have HN:Hid ((M (256-i))=(F4 (Q) P,true)):=by
      show _=_
      rw[en,hMs.out _ _ _ hM,en2,hvb];rfl
     clear hv HBIT hvb;have ht:(x/2^(i%8)).tmod 2=1:=by rw[Int.tmod_eq_emod_of_nonneg hy0,hb0]
     clear hb0;obtain⟨h0,k0,h1,k1,h2,k2,h3,k3,hp,hf0,hf1,hf2,hf3,hne⟩:=HO.out;have hE:=HE.out;have CS := sum_any (some ⟨h0,0,none⟩) (some ⟨h1,0,none⟩) (some ⟨h2,0,none⟩) (some ⟨h3,0,none⟩) (some ⟨p0,0,none⟩) (some ⟨p1,0,none⟩) (some ⟨p2,0,none⟩) (some ⟨p3,0,none⟩) (some ⟨gd,0,none⟩) k0 k1 k2 k3 c0 c1 c2 c3 cd _ _ _ _ _ _ _ _ mdD wr (fun e he=>by
                                                                                                      simp only[List.mem_cons,List.not_mem_nil,or_false] at he
                                                                                                      rcases he with rfl|rfl|rfl|rfl|rfl|rfl|rfl|rfl|rfl
                                                                                                      · exact hf0
                                                                                                      · exact hf1
                                                                                                      · exact hf2
                                                                                                      · exact hf3
                                                                                                      · exact(HF0.out.below hE.below)
                                                                                                      · exact(HF1.out.below hE.below)
                                                                                                      · exact(HF2.out.below hE.below)
                                                                                                      · exact(HF3.out.below hE.below)
                                                                                                      · exact(HFD.out.below hE.below))
     have HPO:Hid (PtW wr G #[.slice (some ⟨h0,0,none⟩) 16 k0,.slice (some ⟨h1,0,none⟩) 16 k1,.slice (some ⟨h2,0,none⟩) 16 k2,.slice (some ⟨h3,0,none⟩) 16 k3]):=hp;have HPB:Hid (PtW wr w.heap.size #[.slice (some ⟨p0,0,none⟩) 16 c0,.slice (some ⟨p1,0,none⟩) 16 c1,.slice (some ⟨p2,0,none⟩) 16 c2,.slice (some ⟨p3,0,none⟩) 16 c3]):=hE.pb;clear hp hf0 hf1 hf2 hf3 hne hE HO;go_wp2_with (first
      |(refine wpList_load_row rfl 109 (.tmp 7) rfl G rfl 109 _ (0,0) _ HPO.out Tryz.underlying109 rfl Tryz.sizePt ?_)
      |(refine wpList_load_row rfl 109 (.tmp 4) rfl w.heap.size rfl 109 _ (0,0) _ HPB.out Tryz.underlying109 rfl Tryz.sizePt ?_)
      |fail)
     refine CS.mono ?_;intro e w8 h8;have h8b:Below wr.heap.size wr w8:=by obtain⟨_,_,_,_,_,_,_,_,_,_,_,_,_,b,_⟩:=h8;exact b
     have h8e:∃ v,e=.returned v:=by obtain⟨_,_,_,_,_,_,_,_,r,_⟩:=h8;exact⟨_,r⟩
     obtain⟨v8,rfl⟩:=h8e;have hput:=fun w9=>OutS.put (B:=w.heap.size+1) (w6:=w9) (P:=Q) (Q:=P) HPO.out.lt HE.out.gt h8
     obtain⟨s0,s1,s2,s3,rfl,hone,_⟩:=hput w8;have HPT:Hid (∀ w9,PtW w9 G #[s0,s1,s2,s3]→Wr G w8 w9→OutS (w.heap.size+1) w9 G (F4 (Q) P)):=fun w9 hp hw=>by
      obtain⟨q0,q1,q2,q3,e,_,k⟩:=hput w9;cases e;exact k hp hw
     have HON:Hid (s0.oneCell'=true∧s1.oneCell'=true∧s2.oneCell'=true∧s3.oneCell'=true):=hone;have HP8:Hid (PtW w8 G #[.slice (some ⟨h0,0,none⟩) 16 k0,.slice (some ⟨h1,0,none⟩) 16 k1,.slice (some ⟨h2,0,none⟩) 16 k2,.slice (some ⟨h3,0,none⟩) 16 k3]):=HPO.out.below h8b HPO.out.lt;have HE8:Hid (TmE w #[.slice (some ⟨p0,0,none⟩) 16 c0,.slice (some ⟨p1,0,none⟩) 16 c1,.slice (some ⟨p2,0,none⟩) 16 c2,.slice (some ⟨p3,0,none⟩) 16 c3] G w8):=HE.out.call h8b;clear h8 h8b hput hone CS HE HPO HPB;go_wp2_with (first
      |(refine wpList_storePt rfl (.tmp 7) (.tmp 40) rfl G s0 s1 s2 s3 _ HON.out.1 HON.out.2.1 HON.out.2.2.1 HON.out.2.2.2 rfl rfl rfl HP8.out ?_)
      |fail)
     intro w9 hp9 hw9;have HO9:Hid (OutS (w.heap.size+1) w9 G (F4 (Q) P)):=HPT.out w9 hp9 hw9;have HE9:Hid (TmE w #[.slice (some ⟨p0,0,none⟩) 16 c0,.slice (some ⟨p1,0,none⟩) 16 c1,.slice (some ⟨p2,0,none⟩) 16 c2,.slice (some ⟨p3,0,none⟩) 16 c3] G w9):=HE8.out.wr hw9;clear hp9 hw9 HPT HON HP8 HE8;go_wp2;go_roundw
     case rel=>exact⟨i,by omega,by go_num,by rw[HN.out],HE9.out,by rw[HN.out];exact HO9.out⟩
     case measure=>simp[intOf]
   |true=>
    obtain⟨h0,k0,h1,k1,h2,k2,h3,k3,hp,hf0,hf1,hf2,hf3,hne⟩:=hO;have CS:=sum_any (some ⟨h0,0,none⟩) (some ⟨h1,0,none⟩) (some ⟨h2,0,none⟩) (some ⟨h3,0,none⟩) (some ⟨h0,0,none⟩) (some ⟨h1,0,none⟩) (some ⟨h2,0,none⟩) (some ⟨h3,0,none⟩) (some ⟨gd,0,none⟩) k0 k1 k2 k3 k0 k1 k2 k3 cd _ _ _ _ _ _ _ _ mdD wr (fun e he=>by
     simp only[List.mem_cons,List.not_mem_nil,or_false] at he;rcases he with rfl|rfl|rfl|rfl|rfl|rfl|rfl|rfl|rfl
     ·exact hf0
     ·exact hf1
     ·exact hf2
     ·exact hf3
     ·exact hf0
     ·exact hf1
     ·exact hf2
     ·exact hf3
     ·exact(HFD.out.below hE.below))
    have HPO:Hid (PtW wr G #[.slice (some ⟨h0,0,none⟩) 16 k0,.slice (some ⟨h1,0,none⟩) 16 k1,.slice (some ⟨h2,0,none⟩) 16 k2,.slice (some ⟨h3,0,none⟩) 16 k3]):=hp;have HE:Hid (TmE w #[.slice (some ⟨p0,0,none⟩) 16 c0,.slice (some ⟨p1,0,none⟩) 16 c1,.slice (some ⟨p2,0,none⟩) 16 c2,.slice (some ⟨p3,0,none⟩) 16 c3] G wr):=hE;clear hp hf0 hf1 hf2 hf3 hne hE;go_wp2_with (first
     |(refine wpList_load_row rfl 109 (.tmp 7) rfl G rfl 109 _ (0,0) _ HPO.out Tryz.underlying109 rfl Tryz.sizePt ?_)
     |fail)
    refine CS.mono ?_;intro e w5 h5;have h5b:Below wr.heap.size wr w5:=by obtain⟨_,_,_,_,_,_,_,_,_,_,_,_,_,b,_⟩:=h5;exact b
    have h5e:∃ v,e=.returned v:=by obtain⟨_,_,_,_,_,_,_,_,r,_⟩:=h5;exact⟨_,r⟩
    obtain⟨v5,rfl⟩:=h5e;have hput:=fun w9=>OutS.put (B:=w.heap.size+1) (w6:=w9) (P:=Q) (Q:=Q) HPO.out.lt HE.out.gt h5
    obtain⟨s0,s1,s2,s3,rfl,hone,_⟩:=hput w5;have HPT:Hid (∀ w9,PtW w9 G #[s0,s1,s2,s3]→Wr G w5 w9→OutS (w.heap.size+1) w9 G (F4 Q Q)):=fun w9 hp hw=>by
     obtain⟨q0,q1,q2,q3,e,_,k⟩:=hput w9;cases e;exact k hp hw
    have HON:Hid (s0.oneCell'=true∧s1.oneCell'=true∧s2.oneCell'=true∧s3.oneCell'=true):=hone;have HP5:Hid (PtW w5 G #[.slice (some ⟨h0,0,none⟩) 16 k0,.slice (some ⟨h1,0,none⟩) 16 k1,.slice (some ⟨h2,0,none⟩) 16 k2,.slice (some ⟨h3,0,none⟩) 16 k3]):=HPO.out.below h5b HPO.out.lt;have HE5:Hid (TmE w #[.slice (some ⟨p0,0,none⟩) 16 c0,.slice (some ⟨p1,0,none⟩) 16 c1,.slice (some ⟨p2,0,none⟩) 16 c2,.slice (some ⟨p3,0,none⟩) 16 c3] G w5):=HE.out.call h5b;clear h5 h5b hput hone CS HE HPO;go_wp2_with (first
     |(refine wpList_storePt rfl (.tmp 7) (.tmp 25) rfl G s0 s1 s2 s3 _ HON.out.1 HON.out.2.1 HON.out.2.2.1 HON.out.2.2.2 rfl rfl rfl HP5.out ?_)
     |fail)
    intro w6 hp6 hw6;have hO:OutS (w.heap.size+1) w6 G (F4 Q Q):=HPT.out w6 hp6 hw6;have hE:TmE w #[.slice (some ⟨p0,0,none⟩) 16 c0,.slice (some ⟨p1,0,none⟩) 16 c1,.slice (some ⟨p2,0,none⟩) 16 c2,.slice (some ⟨p3,0,none⟩) 16 c3] G w6:=HE5.out.wr hw6;clear hp6 hw6 HPT HON HP5 HE5;have cK:w6.cell? ⟨kb,ko+i/8,none⟩=some (.int .u8 (ks.getD (i/8) 0)):=by rw[hE.below.cell (p:=⟨kb,ko+i/8,none⟩) HKB.out];exact HKC.out (i/8) (by omega)
    have hx:=HBY.out.get (i/8);have HBIT:Hid (ks.getD (i/8) 0/2^(i%8)%2=(val 256 ks)/2^i%2):=byte_bit ks HBY.out i;have hlt:(i:Int)/8<32:=by omega
    have HE:Hid (TmE w #[.slice (some ⟨p0,0,none⟩) 16 c0,.slice (some ⟨p1,0,none⟩) 16 c1,.slice (some ⟨p2,0,none⟩) 16 c2,.slice (some ⟨p3,0,none⟩) 16 c3] G w6):=hE;have HO:Hid (OutS (w.heap.size+1) w6 G (F4 Q Q)):=hO;clear hE hO;generalize ks.getD (i/8) 0=x at *;obtain⟨hx0,hx1⟩:=hx;have hv:(val 256 ks)/2^i%2=0∨(val 256 ks)/2^i%2=1:=by omega
    have hpp:(0:Int)<2^(i%8):=Int.pow_pos (by decide);have hy0:0≤x/2^(i%8):=Int.ediv_nonneg hx0 (by omega);have hy1:x/2^(i%8)≤x:=Int.ediv_le_self _ hx0;rcases hv with hv|hv
    ·have hvb:vbit (val 256 ks) i=false:=by unfold vbit;rw[hv];rfl
     have hb0:x/2^(i%8)%2=0:=by rw[HBIT.out,hv]
     have HN:Hid ((M (256-i))=(F4 Q Q,true)):=by
      show _=_
      rw[en,hMs.out _ _ _ hM,en2,hvb];rfl
     clear hv HBIT hvb;have ht:(x/2^(i%8)).tmod 2=0:=by rw[Int.tmod_eq_emod_of_nonneg hy0,hb0]
     clear hb0;go_wp2;go_roundw
     case rel=>exact⟨i,by omega,by go_num,by rw[HN.out],HE.out,by rw[HN.out];exact HO.out⟩
     case measure=>simp[intOf]
    ·have hvb:vbit (val 256 ks) i=true:=by unfold vbit;rw[hv];rfl
     have hb0:x/2^(i%8)%2=1:=by rw[HBIT.out,hv]
     have HN:Hid ((M (256-i))=(F4 (F4 Q Q) P,true)):=by
      show _=_
      rw[en,hMs.out _ _ _ hM,en2,hvb];rfl
     clear hv HBIT hvb;have ht:(x/2^(i%8)).tmod 2=1:=by rw[Int.tmod_eq_emod_of_nonneg hy0,hb0]
     clear hb0;obtain⟨h0,k0,h1,k1,h2,k2,h3,k3,hp,hf0,hf1,hf2,hf3,hne⟩:=HO.out;have hE:=HE.out;have CS := sum_any (some ⟨h0,0,none⟩) (some ⟨h1,0,none⟩) (some ⟨h2,0,none⟩) (some ⟨h3,0,none⟩) (some ⟨p0,0,none⟩) (some ⟨p1,0,none⟩) (some ⟨p2,0,none⟩) (some ⟨p3,0,none⟩) (some ⟨gd,0,none⟩) k0 k1 k2 k3 c0 c1 c2 c3 cd _ _ _ _ _ _ _ _ mdD w6 (fun e he=>by
                                                                                                      simp only[List.mem_cons,List.not_mem_nil,or_false] at he
                                                                                                      rcases he with rfl|rfl|rfl|rfl|rfl|rfl|rfl|rfl|rfl
                                                                                                      · exact hf0
                                                                                                      · exact hf1
                                                                                                      · exact hf2
                                                                                                      · exact hf3
                                                                                                      · exact(HF0.out.below hE.below)
                                                                                                      · exact(HF1.out.below hE.below)
                                                                                                      · exact(HF2.out.below hE.below)
                                                                                                      · exact(HF3.out.below hE.below)
                                                                                                      · exact(HFD.out.below hE.below))
     have HPO:Hid (PtW w6 G #[.slice (some ⟨h0,0,none⟩) 16 k0,.slice (some ⟨h1,0,none⟩) 16 k1,.slice (some ⟨h2,0,none⟩) 16 k2,.slice (some ⟨h3,0,none⟩) 16 k3]):=hp;have HPB:Hid (PtW w6 w.heap.size #[.slice (some ⟨p0,0,none⟩) 16 c0,.slice (some ⟨p1,0,none⟩) 16 c1,.slice (some ⟨p2,0,none⟩) 16 c2,.slice (some ⟨p3,0,none⟩) 16 c3]):=hE.pb;clear hp hf0 hf1 hf2 hf3 hne hE HO;go_wp2_with (first
      |(refine wpList_load_row rfl 109 (.tmp 7) rfl G rfl 109 _ (0,0) _ HPO.out Tryz.underlying109 rfl Tryz.sizePt ?_)
      |(refine wpList_load_row rfl 109 (.tmp 4) rfl w.heap.size rfl 109 _ (0,0) _ HPB.out Tryz.underlying109 rfl Tryz.sizePt ?_)
      |fail)
     refine CS.mono ?_;intro e w8 h8;have h8b:Below w6.heap.size w6 w8:=by obtain⟨_,_,_,_,_,_,_,_,_,_,_,_,_,b,_⟩:=h8;exact b
     have h8e:∃ v,e=.returned v:=by obtain⟨_,_,_,_,_,_,_,_,r,_⟩:=h8;exact⟨_,r⟩
     obtain⟨v8,rfl⟩:=h8e;have hput:=fun w9=>OutS.put (B:=w.heap.size+1) (w6:=w9) (P:=F4 Q Q) (Q:=P) HPO.out.lt HE.out.gt h8
     obtain⟨s0,s1,s2,s3,rfl,hone,_⟩:=hput w8;have HPT:Hid (∀ w9,PtW w9 G #[s0,s1,s2,s3]→Wr G w8 w9→OutS (w.heap.size+1) w9 G (F4 (F4 Q Q) P)):=fun w9 hp hw=>by
      obtain⟨q0,q1,q2,q3,e,_,k⟩:=hput w9;cases e;exact k hp hw
     have HON:Hid (s0.oneCell'=true∧s1.oneCell'=true∧s2.oneCell'=true∧s3.oneCell'=true):=hone;have HP8:Hid (PtW w8 G #[.slice (some ⟨h0,0,none⟩) 16 k0,.slice (some ⟨h1,0,none⟩) 16 k1,.slice (some ⟨h2,0,none⟩) 16 k2,.slice (some ⟨h3,0,none⟩) 16 k3]):=HPO.out.below h8b HPO.out.lt;have HE8:Hid (TmE w #[.slice (some ⟨p0,0,none⟩) 16 c0,.slice (some ⟨p1,0,none⟩) 16 c1,.slice (some ⟨p2,0,none⟩) 16 c2,.slice (some ⟨p3,0,none⟩) 16 c3] G w8):=HE.out.call h8b;clear h8 h8b hput hone CS HE HPO HPB;go_wp2_with (first
      |(refine wpList_storePt rfl (.tmp 7) (.tmp 40) rfl G s0 s1 s2 s3 _ HON.out.1 HON.out.2.1 HON.out.2.2.1 HON.out.2.2.2 rfl rfl rfl HP8.out ?_)
      |fail)
     intro w9 hp9 hw9;have HO9:Hid (OutS (w.heap.size+1) w9 G (F4 (F4 Q Q) P)):=HPT.out w9 hp9 hw9;have HE9:Hid (TmE w #[.slice (some ⟨p0,0,none⟩) 16 c0,.slice (some ⟨p1,0,none⟩) 16 c1,.slice (some ⟨p2,0,none⟩) 16 c2,.slice (some ⟨p3,0,none⟩) 16 c3] G w9):=HE8.out.wr hw9;clear hp9 hw9 HPT HON HP8 HE8;go_wp2;go_roundw
     case rel=>exact⟨i,by omega,by go_num,by rw[HN.out],HE9.out,by rw[HN.out];exact HO9.out⟩
     case measure=>simp[intOf]
  ·have hj00:j=0:=by omega
   subst hj00;obtain⟨h0,k0,h1,k1,h2,k2,h3,k3,hp,hf0,hf1,hf2,hf3,hne⟩:=hO;have HNE:Hid (h0≠w.heap.size+1∧h1≠w.heap.size+1∧h2≠w.heap.size+1∧h3≠w.heap.size+1):=by obtain⟨_,q1,q2,q3,q4⟩:=hne;exact⟨by omega,by omega,by omega,by omega⟩
   clear hne;have HPO:Hid (PtW wr G #[.slice (some ⟨h0,0,none⟩) 16 k0,.slice (some ⟨h1,0,none⟩) 16 k1,.slice (some ⟨h2,0,none⟩) 16 k2,.slice (some ⟨h3,0,none⟩) 16 k3]):=hp;have HRS:Hid (PtW wr (w.heap.size+1) #[.slice none 0 0,.slice none 0 0,.slice none 0 0,.slice none 0 0]):=hE.rs;have HFF:Hid (FeA wr (some ⟨h0,0,none⟩) (M 256).1.1∧FeA wr (some ⟨h1,0,none⟩) (M 256).1.2.1∧FeA wr (some ⟨h2,0,none⟩) (M 256).1.2.2.1∧FeA wr (some ⟨h3,0,none⟩) (M 256).1.2.2.2∧Below w.heap.size w wr):=⟨hf0,hf1,hf2,hf3,hE.below⟩
   clear hp hf0 hf1 hf2 hf3;go_wp2_with (first
    |(refine wpList_load_row rfl 109 (.tmp 7) rfl G rfl 109 _ (0,0) _ HPO.out Tryz.underlying109 rfl Tryz.sizePt ?_)
    |(refine wpList_storePt rfl (.tmp 6) (.tmp 41) rfl (w.heap.size+1) _ _ _ _ _ rfl rfl rfl rfl rfl rfl rfl HRS.out ?_)
    |fail)
   intro w7 hp7 hw7;have HP7:Hid (PtW w7 (w.heap.size+1) #[.slice (some ⟨h0,0,none⟩) 16 k0,.slice (some ⟨h1,0,none⟩) 16 k1,.slice (some ⟨h2,0,none⟩) 16 k2,.slice (some ⟨h3,0,none⟩) 16 k3]):=hp7;have HF7:Hid (TimP w (M 256).1 (.returned (.agg #[.slice (some ⟨h0,0,none⟩) 16 k0,.slice (some ⟨h1,0,none⟩) 16 k1,.slice (some ⟨h2,0,none⟩) 16 k2,.slice (some ⟨h3,0,none⟩) 16 k3])) w7):=by
    obtain⟨q1,q2,q3,q4,q5⟩:=HFF.out;exact⟨h0,k0,h1,k1,h2,k2,h3,k3,rfl,q1.wr hw7 HNE.out.1,q2.wr hw7 HNE.out.2.1,q3.wr hw7 HNE.out.2.2.1,q4.wr hw7 HNE.out.2.2.2,q5.trans (hw7.below (by omega))⟩
   clear hp7 hw7 HPO HRS HFF HNE;go_wp2;exact bodyPost_ret (v:=.agg #[.slice (some ⟨h0,0,none⟩) 16 k0,.slice (some ⟨h1,0,none⟩) 16 k1,.slice (some ⟨h2,0,none⟩) 16 k2,.slice (some ⟨h3,0,none⟩) 16 k3]) (results_cell_row rfl _ _ (w.heap.size+1) 109 _ (0,0) _ rfl HP7.out Tryz.underlying109 rfl Tryz.sizePt) rfl HF7.out
theorem ltimes_any (kp:Option Addr) (kc:Nat) (ks:List Int) (p0 p1 p2 p3 gd c0 c1 c2 c3 cd:Nat) (P:Q4) (w:World) (hk:ks.length=32) (hb:Byte ks) (ha:At .u8 w kp ks)
  (h0:FeA w (some ⟨p0,0,none⟩) P.1) (h1:FeA w (some ⟨p1,0,none⟩) P.2.1) (h2:FeA w (some ⟨p2,0,none⟩) P.2.2.1) (h3:FeA w (some ⟨p3,0,none⟩) P.2.2.2) (hd:FeA w (some ⟨gd,0,none⟩) mdD) :
  Calls Tryz.prog 77 #[.slice kp 32 kc,.agg #[.slice (some ⟨p0,0,none⟩) 16 c0,.slice (some ⟨p1,0,none⟩) 16 c1,.slice (some ⟨p2,0,none⟩) 16 c2,.slice (some ⟨p3,0,none⟩) 16 c3],.slice (some ⟨gd,0,none⟩) 16 cd] w (TimP w (mS (val 256 ks) P 256).1):=
 ltimes_gen (mS (val 256 ks) P) kp kc ks p0 p1 p2 p3 gd c0 c1 c2 c3 cd P w hk hb ha h0 h1 h2 h3 hd rfl (fun n Q b h=>by simp only[mS,h])
end Go.Proofs.YtjdhhgaelgemcaaGreatDoor
