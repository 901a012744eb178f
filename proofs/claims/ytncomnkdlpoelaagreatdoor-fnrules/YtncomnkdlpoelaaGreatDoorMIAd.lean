import Derived.Test.YtncomnkdlpoelaaGreatDoorMIDd
import Derived.Test.YtncomnkdlpoelaaGreatDoorMSSum
import Derived.Test.YtncomnkdlpoelaaGreatDoorMCatC
namespace Go.Proofs.YtncomnkdlpoelaaGreatDoor
open Go.ChangeShapes Go.WideShapes Go.ChangeAt Go.RowKit
set_option linter.unusedVariables false
def AddP (w:World) (g:Nat) (X1 Y1 Z1 T1 X2 Y2 Z2 T2:Int) (e:Ending) (w':World):Prop:=
 ∃ x y z t,Pt w' g x y z t∧WrH g w w'∧e=.returned (.tuple #[])∧
  ev x=(smB X1 Y1 X2 Y2-smA X1 Y1 X2 Y2)%fp*((smG Z1 Z2-smC mdD T1 T2)%fp)%fp∧
  ev y=(smG Z1 Z2+smC mdD T1 T2)%fp*((smB X1 Y1 X2 Y2+smA X1 Y1 X2 Y2)%fp)%fp∧
  ev z=(smG Z1 Z2-smC mdD T1 T2)%fp*((smG Z1 Z2+smC mdD T1 T2)%fp)%fp∧
  ev t=(smB X1 Y1 X2 Y2-smA X1 Y1 X2 Y2)%fp*((smB X1 Y1 X2 Y2+smA X1 Y1 X2 Y2)%fp)%fp
theorem em1 (a b:Int):a%fp*b%fp=a*b%fp:=by rw[Int.mul_emod,Int.emod_emod,←Int.mul_emod]
theorem eq_C (D T1 T2:Int):T1*T2%fp*((D+D)%fp)%fp=smC D T1 T2:=by
 unfold smC;rw[em1,em1]
 congr 1;grind
theorem eq_G (Z1 Z2:Int):(Z1*Z2%fp+Z1*Z2%fp)%fp=smG Z1 Z2:=by
 unfold smG;rw[em1,←Int.add_emod]
 congr 1;grind
theorem len5 {xs:List Int} (h:xs.length=5):∃ a b c d e,xs=[a,b,c,d,e]:=by
 match xs,h with
 |[a,b,c,d,e],_=>exact⟨a,b,c,d,e,rfl⟩
theorem Tryz.sizePoint:(Tryz.prog.info? 143).map (·.size)=some 20:=by kernel_rfl
theorem wpList_storeP {w:World} {ops:Array Oper} {rest:List Oper} {o:Oper} {a:Act} {Q:Exit→Act→World→Prop} (hgd:o.guard=none) (px py:Operand) (ho:o.op=.store 143 px py)
  (g:Nat) (x y z t old:List Int) (hx:a.eval px=.pointer (some ⟨g,0,none⟩)) (hy:a.eval py=.agg ((pl x y z t).map (Value.int .u64)).toArray) (kx:EOk x) (ky:EOk y) (kz:EOk z) (kt:EOk t) (hl:old.length=20) (hr:RowW w g 143 old)
  (hK:∀ w',Pt w' g x y z t→Wr g w w'→wpList Tryz.prog ops Q rest (a.put o.dst undef) w') :
  wpList Tryz.prog ops Q (o::rest) a w:=by
 have hn:(pl x y z t).length=20:=by unfold pl;simp[kx.1,ky.1,kz.1,kt.1]
 exact wpList_store_row hgd 143 px py ho g ((pl x y z t).map (Value.int .u64)).toArray hx hy 143 _ hr (by rw[Tryz.sizePoint];simp[hn]) (by simp[hn,hl]) (all_oneCell_toArray (ints_oneCell _ _)) (hK _ ⟨setRow_heap _ _ _ _ _ _ hr,kx,ky,kz,kt⟩ (Wr.setRow _ _ _))
set_option maxRecDepth 100000 in
set_option maxHeartbeats 16000000 in
theorem add_any (g h:Nat) (x1 y1 z1 t1 x2 y2 z2 t2:List Int) (w:World) (hp:Pt w g x1 y1 z1 t1) (hq:Pt w h x2 y2 z2 t2) :
  Calls Tryz.prog 110 #[.pointer (some ⟨g,0,none⟩),.pointer (some ⟨h,0,none⟩)] w (AddP w g (ev x1) (ev y1) (ev z1) (ev t1) (ev x2) (ev y2) (ev z2) (ev t2)):=by
 have HS0:Hid (RunD w w [] [(g,0,x1),(g,5,y1),(g,10,z1),(g,15,t1),(h,0,x2),(h,5,y2),(h,10,z2),(h,15,t2)]):=RunD.start w _ (fun e he=>by
  simp only[List.mem_cons,List.not_mem_nil,or_false] at he;rcases he with rfl|rfl|rfl|rfl|rfl|rfl|rfl|rfl
  ·exact hp.ex
  ·exact hp.ey
  ·exact hp.ez
  ·exact hp.et
  ·exact hq.ex
  ·exact hq.ey
  ·exact hq.ez
  ·exact hq.et)
 have HPT:=hdI <| hp
 clear hp hq;go_enter Tryz.func110,Tryz.ntmps110;go_wp2_with fail;refine(curveD2_any _).mono ?_;rintro e w1 ⟨dd,hk,hv,rfl,b⟩;have HKdd:Hid (EOk dd∧ev dd=ev curveD2L):=⟨hk,hv⟩
 have HS1:=hdI <| HS0.out.call b
 clear hk hv b HS0;have HA2:=hdI <| HS1.out.room
 clear HS1;go_wp2_with (first
  |(refine wpList_storeD HA2.out rfl (.tmp 4) (.tmp 17) rfl 0 (w1.heap.size) [0,0,0,0,0] dd rfl rfl rfl HKdd.out.1 rfl ?_)
  |fail)
 intro w3 S;have HS3:=hdI <| S
 clear S HA2;generalize w1.heap.size=G3a at *;go_wp2_with fail;refine wp_region_any (by kernel_rfl) ?_;refine wpAny_slots9 (fun _ _ _=>True) (frame:=(fun (a b c d e f g h i j k l m n o p q r s u v w x y z A B C D E F G H I J K L M N O P Q R S T U V W X Y Z a0 a1 a2 a3 a4 a5 a6 a7:Value)=>fun (t:Nat→Value)=>({ tmps:=List.toArray [a,b,c,d,e,t 14,t 15,f,g,h,i,j,k,l,m,n,o,p,t 0,t 1,t 2,t 3,t 4,t 5,t 6,t 7,t 8,t 9,t 10,t 11,t 12,t 13,q,r,s,u,v,w,x,y,z,A,B,C,D,E,F,G,H,I,J,K,L,M,N,O,P,Q,R,S,T,U,V,W,X,Y,Z,a0,a1,a2,a3,a4,a5,a6,a7],defers:=[] }:Act)) _ _ _ _ _ _ _ _ _ _ _ _ _ _ _ _ _ _ _ _ _ _ _ _ _ _ _ _ _ _ _ _ _ _ _ _ _ _ _ _ _ _ _ _ _ _ _ _ _ _ _ _ _ _ _ _ _ _ _)
  (Ext:=ExA w3 14 15 16 17 ((ev y1-ev x1)%fp) ((ev y2-ev x2)%fp)) (Good:=fun i L _ v=>if i=0 then v=.pointer (some ⟨g,0,none⟩) else if i=1 then v=.pointer (some ⟨g,0,none⟩) else if i=2 then v=.pointer (some ⟨g,5,none⟩) else if i=3 then v=.pointer (some ⟨g,0,none⟩) else if i=4 then v=.pointer (some ⟨g,0,none⟩) else if i=5 then v=.pointer (some ⟨g,0,none⟩) else if i=6 then EV ((ev y1-ev x1)%fp) v else if i=7 then v=.pointer (some ⟨h,0,none⟩) else if i=8 then v=.pointer (some ⟨h,0,none⟩) else if i=9 then v=.pointer (some ⟨h,5,none⟩) else if i=10 then v=.pointer (some ⟨h,0,none⟩) else if i=11 then v=.pointer (some ⟨h,0,none⟩) else if i=12 then v=.pointer (some ⟨h,0,none⟩) else if i=13 then EV ((ev y2-ev x2)%fp) v else if i=14 then L 14=true else if i=15 then L 15=true else if i=16 then L 16=true else if i=17 then L 17=true else True) ?hstab (by kernel_rfl) ?hop ?hdone _ _ ((fun (x0 x1 x2 x3 x4 x5 x6 x7 x8 x9 x10 x11 x12 x13 x14 x15:Value)=>fun (i:Nat)=>if i=0 then x0 else if i=1 then x1 else if i=2 then x2 else if i=3 then x3 else if i=4 then x4 else if i=5 then x5 else if i=6 then x6 else if i=7 then x7 else if i=8 then x8 else if i=9 then x9 else if i=10 then x10 else if i=11 then x11 else if i=12 then x12 else if i=13 then x13 else if i=14 then x14 else if i=15 then x15 else undef) _ _ _ _ _ _ _ _ _ _ _ _ _ _ _ _) _ (by simp) ?ext ?start (by simp)
 case start=>intro i hi h;exact absurd h (by rw[Array.getD_eq_getD_getElem?,Array.getElem?_replicate];split<;>simp)
 case ext=>exact ExA.start _ _ _ (by simp) (by simp) (by simp) (by simp) ⟨rfl,rfl,rfl,Nat.le_refl _,fun _ _=>rfl⟩
 case hstab=>
  intro j L w9 w' i v _ _ _ h;by_cases h14:j=14
  ·subst h14;simp at h ⊢;unfold updK;simp[h]
  by_cases h15:j=15
  ·subst h15;simp at h ⊢;unfold updK;simp[h]
  by_cases h16:j=16
  ·subst h16;simp at h ⊢;unfold updK;simp[h]
  by_cases h17:j=17
  ·subst h17;simp at h ⊢;unfold updK;simp[h]
  simp only[if_neg h14,if_neg h15,if_neg h16,if_neg h17] at h ⊢;exact h
 case hop=>
  intro i o L t w' ho hLi hx hdep K hK;have hi:i<18:=(Array.getElem?_eq_some_iff.1 ho).1;obtain rfl|rfl|rfl|rfl|rfl|rfl|rfl|rfl|rfl|rfl|rfl|rfl|rfl|rfl|rfl|rfl|rfl|rfl:i=0∨i=1∨i=2∨i=3∨i=4∨i=5∨i=6∨i=7∨i=8∨i=9∨i=10∨i=11∨i=12∨i=13∨i=14∨i=15∨i=16∨i=17:=by omega
  all_goals(simp at ho;subst ho)
  ·clear hdep;have hK':=hK w' (.pointer (some ⟨g,0,none⟩)) (by simp) (hx.low 0 (by decide) (by decide) (by decide) (by decide) _ (Below.refl _ _)) trivial;clear hK;rw[if_pos (by rfl)];go_simp;simpa[upd] using hK'
  ·have d0:t 0=.pointer (some ⟨g,0,none⟩):=by simpa using hdep ⟨0,.data⟩ (by simp) rfl
   clear hdep;have hK':=hK w' (.pointer (some ⟨g,0,none⟩)) (by simp) (hx.low 1 (by decide) (by decide) (by decide) (by decide) _ (Below.refl _ _)) trivial;clear hK;rw[if_pos (by rfl)];go_simp;simpa[upd,d0] using hK'
  ·have d1:t 1=.pointer (some ⟨g,0,none⟩):=by simpa using hdep ⟨1,.data⟩ (by simp) rfl
   clear hdep;have hK':=hK w' (.pointer (some ⟨g,5,none⟩)) (by simp) (hx.low 2 (by decide) (by decide) (by decide) (by decide) _ (Below.refl _ _)) trivial;clear hK;rw[if_pos (by rfl)];go_simp;simpa[upd,d1] using hK'
  ·clear hdep;have hK':=hK w' (.pointer (some ⟨g,0,none⟩)) (by simp) (hx.low 3 (by decide) (by decide) (by decide) (by decide) _ (Below.refl _ _)) trivial;clear hK;rw[if_pos (by rfl)];go_simp;simpa[upd] using hK'
  ·have d3:t 3=.pointer (some ⟨g,0,none⟩):=by simpa using hdep ⟨3,.data⟩ (by simp) rfl
   clear hdep;have hK':=hK w' (.pointer (some ⟨g,0,none⟩)) (by simp) (hx.low 4 (by decide) (by decide) (by decide) (by decide) _ (Below.refl _ _)) trivial;clear hK;rw[if_pos (by rfl)];go_simp;simpa[upd,d3] using hK'
  ·have d4:t 4=.pointer (some ⟨g,0,none⟩):=by simpa using hdep ⟨4,.data⟩ (by simp) rfl
   clear hdep;have hK':=hK w' (.pointer (some ⟨g,0,none⟩)) (by simp) (hx.low 5 (by decide) (by decide) (by decide) (by decide) _ (Below.refl _ _)) trivial;clear hK;rw[if_pos (by rfl)];go_simp;simpa[upd,d4] using hK'
  ·have d2:t 2=.pointer (some ⟨g,5,none⟩):=by simpa using hdep ⟨2,.data⟩ (by simp) rfl
   have d5:t 5=.pointer (some ⟨g,0,none⟩):=by simpa using hdep ⟨5,.data⟩ (by simp) rfl
   clear hdep;have A:=minus_any g 5 g 0 y1 x1 w' ((HS3.out.el 1 _ _ _ rfl).below hx.below) ((HS3.out.el 0 _ _ _ rfl).below hx.below);have hK':∀ ww v,EV ((ev y1-ev x1)%fp) v→Below w'.heap.size w' ww→K _ ww:=fun ww v hv hb=>hK ww v (by simpa using hv) (hx.low 6 (by decide) (by decide) (by decide) (by decide) _ hb) trivial
   clear hK;rw[if_pos (by rfl)];go_simp;try simp only[d2,d5]
   refine A.mono ?_;rintro e w9 ⟨es,hk,hv,rfl,hb⟩;have hK2:=hK' w9 _ ⟨es,hk,hv,rfl⟩ hb;clear hK' A hk hv hb;go_simp;simpa[upd,d2,d5] using hK2
  ·clear hdep;have hK':=hK w' (.pointer (some ⟨h,0,none⟩)) (by simp) (hx.low 7 (by decide) (by decide) (by decide) (by decide) _ (Below.refl _ _)) trivial;clear hK;rw[if_pos (by rfl)];go_simp;simpa[upd] using hK'
  ·have d7:t 7=.pointer (some ⟨h,0,none⟩):=by simpa using hdep ⟨7,.data⟩ (by simp) rfl
   clear hdep;have hK':=hK w' (.pointer (some ⟨h,0,none⟩)) (by simp) (hx.low 8 (by decide) (by decide) (by decide) (by decide) _ (Below.refl _ _)) trivial;clear hK;rw[if_pos (by rfl)];go_simp;simpa[upd,d7] using hK'
  ·have d8:t 8=.pointer (some ⟨h,0,none⟩):=by simpa using hdep ⟨8,.data⟩ (by simp) rfl
   clear hdep;have hK':=hK w' (.pointer (some ⟨h,5,none⟩)) (by simp) (hx.low 9 (by decide) (by decide) (by decide) (by decide) _ (Below.refl _ _)) trivial;clear hK;rw[if_pos (by rfl)];go_simp;simpa[upd,d8] using hK'
  ·clear hdep;have hK':=hK w' (.pointer (some ⟨h,0,none⟩)) (by simp) (hx.low 10 (by decide) (by decide) (by decide) (by decide) _ (Below.refl _ _)) trivial;clear hK;rw[if_pos (by rfl)];go_simp;simpa[upd] using hK'
  ·have d10:t 10=.pointer (some ⟨h,0,none⟩):=by simpa using hdep ⟨10,.data⟩ (by simp) rfl
   clear hdep;have hK':=hK w' (.pointer (some ⟨h,0,none⟩)) (by simp) (hx.low 11 (by decide) (by decide) (by decide) (by decide) _ (Below.refl _ _)) trivial;clear hK;rw[if_pos (by rfl)];go_simp;simpa[upd,d10] using hK'
  ·have d11:t 11=.pointer (some ⟨h,0,none⟩):=by simpa using hdep ⟨11,.data⟩ (by simp) rfl
   clear hdep;have hK':=hK w' (.pointer (some ⟨h,0,none⟩)) (by simp) (hx.low 12 (by decide) (by decide) (by decide) (by decide) _ (Below.refl _ _)) trivial;clear hK;rw[if_pos (by rfl)];go_simp;simpa[upd,d11] using hK'
  ·have d9:t 9=.pointer (some ⟨h,5,none⟩):=by simpa using hdep ⟨9,.data⟩ (by simp) rfl
   have d12:t 12=.pointer (some ⟨h,0,none⟩):=by simpa using hdep ⟨12,.data⟩ (by simp) rfl
   clear hdep;have A:=minus_any h 5 h 0 y2 x2 w' ((HS3.out.el 5 _ _ _ rfl).below hx.below) ((HS3.out.el 4 _ _ _ rfl).below hx.below);have hK':∀ ww v,EV ((ev y2-ev x2)%fp) v→Below w'.heap.size w' ww→K _ ww:=fun ww v hv hb=>hK ww v (by simpa using hv) (hx.low 13 (by decide) (by decide) (by decide) (by decide) _ hb) trivial
   clear hK;rw[if_pos (by rfl)];go_simp;try simp only[d9,d12]
   refine A.mono ?_;rintro e w9 ⟨es,hk,hv,rfl,hb⟩;have hK2:=hK' w9 _ ⟨es,hk,hv,rfl⟩ hb;clear hK' A hk hv hb;go_simp;simpa[upd,d9,d12] using hK2
  ·clear hdep;have hK':=hK _ (.pointer (some ⟨w'.heap.size,0,none⟩)) (by simp[updK]) (hx.alloc1 hLi (by decide) (by decide) (by decide)) trivial;clear hK;rw[if_pos (by rfl)];go_simp;simpa[upd] using hK'
  ·clear hdep;have hK':=hK _ (.pointer (some ⟨w'.heap.size,0,none⟩)) (by simp[updK]) (hx.alloc2 hLi (by decide) (by decide) (by decide)) trivial;clear hK;rw[if_pos (by rfl)];go_simp;simpa[upd] using hK'
  ·have l14:L 14=true:=by simpa using hdep ⟨14,.data⟩ (by simp) rfl
   have f6:EV ((ev y1-ev x1)%fp) (t 6):=by simpa using hdep ⟨6,.data⟩ (by simp) rfl
   clear hdep;obtain⟨g9,zs9,e9,r9,k9⟩:=hx.get1 l14;refine f6.elim_ fun es9 ke ve ee=>?_
   have hK':∀ ww,RowW ww g9 141 es9→Wr g9 w' ww→K _ ww:=fun ww rr hw=>hK ww undef (by simp[updK]) (hx.store1 l14 e9 (by decide) (by decide) (by decide) ke ve hw rr _) trivial
   clear hK;rw[if_pos (by rfl)];refine wp_storeX (.tmp 5) (.tmp 24) rfl g9 zs9 es9 e9 ee ke k9 r9 fun ww rr hw=>?_
   have hK2:=hK' ww rr hw;clear hK';simpa[upd,Act.put] using hK2
  ·have l15:L 15=true:=by simpa using hdep ⟨15,.data⟩ (by simp) rfl
   have f13:EV ((ev y2-ev x2)%fp) (t 13):=by simpa using hdep ⟨13,.data⟩ (by simp) rfl
   clear hdep;obtain⟨g9,zs9,e9,r9,k9⟩:=hx.swap.get1 l15;refine f13.elim_ fun es9 ke ve ee=>?_
   have hK':∀ ww,RowW ww g9 141 es9→Wr g9 w' ww→K _ ww:=fun ww rr hw=>hK ww undef (by simp[updK]) (hx.store2 l15 e9 (by decide) (by decide) (by decide) ke ve hw rr _) trivial
   clear hK;rw[if_pos (by rfl)];refine wp_storeX (.tmp 6) (.tmp 31) rfl g9 zs9 es9 e9 ee ke k9 r9 fun ww rr hw=>?_
   have hK2:=hK' ww rr hw;clear hK';simpa[upd,Act.put] using hK2
 case hdone=>
  intro L t4 w4 hx hg;have l16:L 16=true:=by simpa using hg 16 (by decide)
  have l17:L 17=true:=by simpa using hg 17 (by decide)
  clear hg;obtain⟨G4a,pd,q1,qg1,qr1,qk1,qv1⟩:=hx.fin1 l16;obtain⟨G4b,qd,q2,qg2,qr2,qk2,qv2⟩:=hx.swap.fin1 l17;have qne:=hx.ne (hx.v1.1 l16) (hx.v2.1 l17) _ _ q1 q2;have HS4:=hdI <| HS3.out.two hx.below qg1 qr1 qk1 qg2 qr2 qk2 qne
  have HKpd:Hid (EOk pd∧ev pd=(ev y1-ev x1)%fp):=⟨qk1,qv1⟩
  have HKqd:Hid (EOk qd∧ev qd=(ev y2-ev x2)%fp):=⟨qk2,qv2⟩
  simp only[q1,q2];clear hx q1 q2 qg1 qg2 qr1 qr2 qk1 qk2 qv1 qv2 qne HS3;go_wp2_with fail;refine wp_region_any (by kernel_rfl) ?_;refine wpAny_slots9 (fun _ _ _=>True) (frame:=(fun (a b c d e f g h i j k l m n o p q r s u v w x y z A B C D E F G H I J K L M N O P Q R S T U V W X Y Z a0 a1 a2 a3 a4 a5 a6 a7:Value)=>fun (t:Nat→Value)=>({ tmps:=List.toArray [a,b,c,d,e,f,g,t 14,t 15,h,i,j,k,l,m,n,o,p,q,r,s,u,v,w,x,y,z,A,B,C,D,E,t 0,t 1,t 2,t 3,t 4,t 5,t 6,t 7,t 8,t 9,t 10,t 11,t 12,t 13,F,G,H,I,J,K,L,M,N,O,P,Q,R,S,T,U,V,W,X,Y,Z,a0,a1,a2,a3,a4,a5,a6,a7],defers:=[] }:Act)) _ _ _ _ _ _ _ _ _ _ _ _ _ _ _ _ _ _ _ _ _ _ _ _ _ _ _ _ _ _ _ _ _ _ _ _ _ _ _ _ _ _ _ _ _ _ _ _ _ _ _ _ _ _ _ _ _ _ _)
   (Ext:=ExA w4 14 15 16 17 ((ev y1+ev x1)%fp) ((ev y2+ev x2)%fp)) (Good:=fun i L _ v=>if i=0 then v=.pointer (some ⟨g,0,none⟩) else if i=1 then v=.pointer (some ⟨g,0,none⟩) else if i=2 then v=.pointer (some ⟨g,5,none⟩) else if i=3 then v=.pointer (some ⟨g,0,none⟩) else if i=4 then v=.pointer (some ⟨g,0,none⟩) else if i=5 then v=.pointer (some ⟨g,0,none⟩) else if i=6 then EV ((ev y1+ev x1)%fp) v else if i=7 then v=.pointer (some ⟨h,0,none⟩) else if i=8 then v=.pointer (some ⟨h,0,none⟩) else if i=9 then v=.pointer (some ⟨h,5,none⟩) else if i=10 then v=.pointer (some ⟨h,0,none⟩) else if i=11 then v=.pointer (some ⟨h,0,none⟩) else if i=12 then v=.pointer (some ⟨h,0,none⟩) else if i=13 then EV ((ev y2+ev x2)%fp) v else if i=14 then L 14=true else if i=15 then L 15=true else if i=16 then L 16=true else if i=17 then L 17=true else True) ?hstab (by kernel_rfl) ?hop ?hdone _ _ ((fun (x0 x1 x2 x3 x4 x5 x6 x7 x8 x9 x10 x11 x12 x13 x14 x15:Value)=>fun (i:Nat)=>if i=0 then x0 else if i=1 then x1 else if i=2 then x2 else if i=3 then x3 else if i=4 then x4 else if i=5 then x5 else if i=6 then x6 else if i=7 then x7 else if i=8 then x8 else if i=9 then x9 else if i=10 then x10 else if i=11 then x11 else if i=12 then x12 else if i=13 then x13 else if i=14 then x14 else if i=15 then x15 else undef) _ _ _ _ _ _ _ _ _ _ _ _ _ _ _ _) _ (by simp) ?ext ?start (by simp)
  case start=>intro i hi h;exact absurd h (by rw[Array.getD_eq_getD_getElem?,Array.getElem?_replicate];split<;>simp)
  case ext=>exact ExA.start _ _ _ (by simp) (by simp) (by simp) (by simp) ⟨rfl,rfl,rfl,Nat.le_refl _,fun _ _=>rfl⟩
  case hstab=>
   intro j L w9 w' i v _ _ _ h;by_cases h14:j=14
   ·subst h14;simp at h ⊢;unfold updK;simp[h]
   by_cases h15:j=15
   ·subst h15;simp at h ⊢;unfold updK;simp[h]
   by_cases h16:j=16
   ·subst h16;simp at h ⊢;unfold updK;simp[h]
   by_cases h17:j=17
   ·subst h17;simp at h ⊢;unfold updK;simp[h]
   simp only[if_neg h14,if_neg h15,if_neg h16,if_neg h17] at h ⊢;exact h
  case hop=>
   intro i o L t w' ho hLi hx hdep K hK;have hi:i<18:=(Array.getElem?_eq_some_iff.1 ho).1;obtain rfl|rfl|rfl|rfl|rfl|rfl|rfl|rfl|rfl|rfl|rfl|rfl|rfl|rfl|rfl|rfl|rfl|rfl:i=0∨i=1∨i=2∨i=3∨i=4∨i=5∨i=6∨i=7∨i=8∨i=9∨i=10∨i=11∨i=12∨i=13∨i=14∨i=15∨i=16∨i=17:=by omega
   all_goals(simp at ho;subst ho)
   ·clear hdep;have hK':=hK w' (.pointer (some ⟨g,0,none⟩)) (by simp) (hx.low 0 (by decide) (by decide) (by decide) (by decide) _ (Below.refl _ _)) trivial;clear hK;rw[if_pos (by rfl)];go_simp;simpa[upd] using hK'
   ·have d0:t 0=.pointer (some ⟨g,0,none⟩):=by simpa using hdep ⟨0,.data⟩ (by simp) rfl
    clear hdep;have hK':=hK w' (.pointer (some ⟨g,0,none⟩)) (by simp) (hx.low 1 (by decide) (by decide) (by decide) (by decide) _ (Below.refl _ _)) trivial;clear hK;rw[if_pos (by rfl)];go_simp;simpa[upd,d0] using hK'
   ·have d1:t 1=.pointer (some ⟨g,0,none⟩):=by simpa using hdep ⟨1,.data⟩ (by simp) rfl
    clear hdep;have hK':=hK w' (.pointer (some ⟨g,5,none⟩)) (by simp) (hx.low 2 (by decide) (by decide) (by decide) (by decide) _ (Below.refl _ _)) trivial;clear hK;rw[if_pos (by rfl)];go_simp;simpa[upd,d1] using hK'
   ·clear hdep;have hK':=hK w' (.pointer (some ⟨g,0,none⟩)) (by simp) (hx.low 3 (by decide) (by decide) (by decide) (by decide) _ (Below.refl _ _)) trivial;clear hK;rw[if_pos (by rfl)];go_simp;simpa[upd] using hK'
   ·have d3:t 3=.pointer (some ⟨g,0,none⟩):=by simpa using hdep ⟨3,.data⟩ (by simp) rfl
    clear hdep;have hK':=hK w' (.pointer (some ⟨g,0,none⟩)) (by simp) (hx.low 4 (by decide) (by decide) (by decide) (by decide) _ (Below.refl _ _)) trivial;clear hK;rw[if_pos (by rfl)];go_simp;simpa[upd,d3] using hK'
   ·have d4:t 4=.pointer (some ⟨g,0,none⟩):=by simpa using hdep ⟨4,.data⟩ (by simp) rfl
    clear hdep;have hK':=hK w' (.pointer (some ⟨g,0,none⟩)) (by simp) (hx.low 5 (by decide) (by decide) (by decide) (by decide) _ (Below.refl _ _)) trivial;clear hK;rw[if_pos (by rfl)];go_simp;simpa[upd,d4] using hK'
   ·have d2:t 2=.pointer (some ⟨g,5,none⟩):=by simpa using hdep ⟨2,.data⟩ (by simp) rfl
    have d5:t 5=.pointer (some ⟨g,0,none⟩):=by simpa using hdep ⟨5,.data⟩ (by simp) rfl
    clear hdep;have A:=plus_any g 5 g 0 y1 x1 w' ((HS4.out.el 1 _ _ _ rfl).below hx.below) ((HS4.out.el 0 _ _ _ rfl).below hx.below);have hK':∀ ww v,EV ((ev y1+ev x1)%fp) v→Below w'.heap.size w' ww→K _ ww:=fun ww v hv hb=>hK ww v (by simpa using hv) (hx.low 6 (by decide) (by decide) (by decide) (by decide) _ hb) trivial
    clear hK;rw[if_pos (by rfl)];go_simp;try simp only[d2,d5]
    refine A.mono ?_;rintro e w9 ⟨es,hk,hv,rfl,hb⟩;have hK2:=hK' w9 _ ⟨es,hk,hv,rfl⟩ hb;clear hK' A hk hv hb;go_simp;simpa[upd,d2,d5] using hK2
   ·clear hdep;have hK':=hK w' (.pointer (some ⟨h,0,none⟩)) (by simp) (hx.low 7 (by decide) (by decide) (by decide) (by decide) _ (Below.refl _ _)) trivial;clear hK;rw[if_pos (by rfl)];go_simp;simpa[upd] using hK'
   ·have d7:t 7=.pointer (some ⟨h,0,none⟩):=by simpa using hdep ⟨7,.data⟩ (by simp) rfl
    clear hdep;have hK':=hK w' (.pointer (some ⟨h,0,none⟩)) (by simp) (hx.low 8 (by decide) (by decide) (by decide) (by decide) _ (Below.refl _ _)) trivial;clear hK;rw[if_pos (by rfl)];go_simp;simpa[upd,d7] using hK'
   ·have d8:t 8=.pointer (some ⟨h,0,none⟩):=by simpa using hdep ⟨8,.data⟩ (by simp) rfl
    clear hdep;have hK':=hK w' (.pointer (some ⟨h,5,none⟩)) (by simp) (hx.low 9 (by decide) (by decide) (by decide) (by decide) _ (Below.refl _ _)) trivial;clear hK;rw[if_pos (by rfl)];go_simp;simpa[upd,d8] using hK'
   ·clear hdep;have hK':=hK w' (.pointer (some ⟨h,0,none⟩)) (by simp) (hx.low 10 (by decide) (by decide) (by decide) (by decide) _ (Below.refl _ _)) trivial;clear hK;rw[if_pos (by rfl)];go_simp;simpa[upd] using hK'
   ·have d10:t 10=.pointer (some ⟨h,0,none⟩):=by simpa using hdep ⟨10,.data⟩ (by simp) rfl
    clear hdep;have hK':=hK w' (.pointer (some ⟨h,0,none⟩)) (by simp) (hx.low 11 (by decide) (by decide) (by decide) (by decide) _ (Below.refl _ _)) trivial;clear hK;rw[if_pos (by rfl)];go_simp;simpa[upd,d10] using hK'
   ·have d11:t 11=.pointer (some ⟨h,0,none⟩):=by simpa using hdep ⟨11,.data⟩ (by simp) rfl
    clear hdep;have hK':=hK w' (.pointer (some ⟨h,0,none⟩)) (by simp) (hx.low 12 (by decide) (by decide) (by decide) (by decide) _ (Below.refl _ _)) trivial;clear hK;rw[if_pos (by rfl)];go_simp;simpa[upd,d11] using hK'
   ·have d9:t 9=.pointer (some ⟨h,5,none⟩):=by simpa using hdep ⟨9,.data⟩ (by simp) rfl
    have d12:t 12=.pointer (some ⟨h,0,none⟩):=by simpa using hdep ⟨12,.data⟩ (by simp) rfl
    clear hdep;have A:=plus_any h 5 h 0 y2 x2 w' ((HS4.out.el 5 _ _ _ rfl).below hx.below) ((HS4.out.el 4 _ _ _ rfl).below hx.below);have hK':∀ ww v,EV ((ev y2+ev x2)%fp) v→Below w'.heap.size w' ww→K _ ww:=fun ww v hv hb=>hK ww v (by simpa using hv) (hx.low 13 (by decide) (by decide) (by decide) (by decide) _ hb) trivial
    clear hK;rw[if_pos (by rfl)];go_simp;try simp only[d9,d12]
    refine A.mono ?_;rintro e w9 ⟨es,hk,hv,rfl,hb⟩;have hK2:=hK' w9 _ ⟨es,hk,hv,rfl⟩ hb;clear hK' A hk hv hb;go_simp;simpa[upd,d9,d12] using hK2
   ·clear hdep;have hK':=hK _ (.pointer (some ⟨w'.heap.size,0,none⟩)) (by simp[updK]) (hx.alloc1 hLi (by decide) (by decide) (by decide)) trivial;clear hK;rw[if_pos (by rfl)];go_simp;simpa[upd] using hK'
   ·clear hdep;have hK':=hK _ (.pointer (some ⟨w'.heap.size,0,none⟩)) (by simp[updK]) (hx.alloc2 hLi (by decide) (by decide) (by decide)) trivial;clear hK;rw[if_pos (by rfl)];go_simp;simpa[upd] using hK'
   ·have l14:L 14=true:=by simpa using hdep ⟨14,.data⟩ (by simp) rfl
    have f6:EV ((ev y1+ev x1)%fp) (t 6):=by simpa using hdep ⟨6,.data⟩ (by simp) rfl
    clear hdep;obtain⟨g9,zs9,e9,r9,k9⟩:=hx.get1 l14;refine f6.elim_ fun es9 ke ve ee=>?_
    have hK':∀ ww,RowW ww g9 141 es9→Wr g9 w' ww→K _ ww:=fun ww rr hw=>hK ww undef (by simp[updK]) (hx.store1 l14 e9 (by decide) (by decide) (by decide) ke ve hw rr _) trivial
    clear hK;rw[if_pos (by rfl)];refine wp_storeX (.tmp 7) (.tmp 38) rfl g9 zs9 es9 e9 ee ke k9 r9 fun ww rr hw=>?_
    have hK2:=hK' ww rr hw;clear hK';simpa[upd,Act.put] using hK2
   ·have l15:L 15=true:=by simpa using hdep ⟨15,.data⟩ (by simp) rfl
    have f13:EV ((ev y2+ev x2)%fp) (t 13):=by simpa using hdep ⟨13,.data⟩ (by simp) rfl
    clear hdep;obtain⟨g9,zs9,e9,r9,k9⟩:=hx.swap.get1 l15;refine f13.elim_ fun es9 ke ve ee=>?_
    have hK':∀ ww,RowW ww g9 141 es9→Wr g9 w' ww→K _ ww:=fun ww rr hw=>hK ww undef (by simp[updK]) (hx.store2 l15 e9 (by decide) (by decide) (by decide) ke ve hw rr _) trivial
    clear hK;rw[if_pos (by rfl)];refine wp_storeX (.tmp 8) (.tmp 45) rfl g9 zs9 es9 e9 ee ke k9 r9 fun ww rr hw=>?_
    have hK2:=hK' ww rr hw;clear hK';simpa[upd,Act.put] using hK2
  case hdone=>
   intro L t5 w5 hx hg;have l16:L 16=true:=by simpa using hg 16 (by decide)
   have l17:L 17=true:=by simpa using hg 17 (by decide)
   clear hg;obtain⟨G5a,pu,q1,qg1,qr1,qk1,qv1⟩:=hx.fin1 l16;obtain⟨G5b,qu,q2,qg2,qr2,qk2,qv2⟩:=hx.swap.fin1 l17;have qne:=hx.ne (hx.v1.1 l16) (hx.v2.1 l17) _ _ q1 q2;have HS5:=hdI <| HS4.out.two hx.below qg1 qr1 qk1 qg2 qr2 qk2 qne
   have HKpu:Hid (EOk pu∧ev pu=(ev y1+ev x1)%fp):=⟨qk1,qv1⟩
   have HKqu:Hid (EOk qu∧ev qu=(ev y2+ev x2)%fp):=⟨qk2,qv2⟩
   simp only[q1,q2];clear hx q1 q2 qg1 qg2 qr1 qr2 qk1 qk2 qv1 qv2 qne HS4;go_wp2_with fail;refine(times_any G4a 0 G4b 0 pd qd _ (HS5.out.re 3 _ _ rfl) (HS5.out.re 2 _ _ rfl)).mono ?_;rintro e w6 ⟨dn,hk,hv,rfl,b⟩;have HKdn:Hid (EOk dn∧ev dn=ev pd*ev qd%fp):=⟨hk,hv⟩
   have HS6:=hdI <| HS5.out.call b
   clear hk hv b HS5;go_wp2_with fail;refine(times_any G5a 0 G5b 0 pu qu _ (HS6.out.re 1 _ _ rfl) (HS6.out.re 0 _ _ rfl)).mono ?_;rintro e w7 ⟨up,hk,hv,rfl,b⟩;have HKup:Hid (EOk up∧ev up=ev pu*ev qu%fp):=⟨hk,hv⟩
   have HS7:=hdI <| HS6.out.call b
   clear hk hv b HS6;have HA8:=hdI <| HS7.out.room2
   clear HS7;go_wp2_with (first
    |(refine wpList_storeD HA8.out rfl (.tmp 9) (.tmp 46) rfl 1 (w7.heap.size) [0,0,0,0,0] dn rfl rfl rfl HKdn.out.1 rfl ?_)
    |fail)
   intro w9 S;have HS9:=hdI <| S
   clear S HA8;go_wp2_with (first
    |(refine wpList_storeD HS9.out rfl (.tmp 10) (.tmp 47) rfl 0 (w7.heap.size+1) [0,0,0,0,0] up rfl rfl rfl HKup.out.1 rfl ?_)
    |fail)
   intro w10 S;have HS10:=hdI <| S
   clear S HS9;generalize w7.heap.size+1=G10b at *;generalize w7.heap.size=G10a at *;go_wp2_with fail;refine wp_region_any (by kernel_rfl) ?_;refine wpAny_slots9 (fun _ _ _=>True) (frame:=(fun (a b c d e f g h i j k l m n o p q r s u v w x y z A B C D E F G H I J K L M N O P Q R S T U V W X Y Z a0 a1 a2 a3 a4 a5 a6 a7 a8 a9 b0 b1 b2 b3 b4 b5:Value)=>fun (t:Nat→Value)=>({ tmps:=List.toArray [a,b,c,d,e,f,g,h,i,j,k,t 7,l,m,n,o,p,q,r,s,u,v,w,x,y,z,A,B,C,D,E,F,G,H,I,J,K,L,M,N,O,P,Q,R,S,T,U,V,t 0,t 1,t 2,t 3,t 4,t 5,t 6,W,X,Y,Z,a0,a1,a2,a3,a4,a5,a6,a7,a8,a9,b0,b1,b2,b3,b4,b5],defers:=[] }:Act)) _ _ _ _ _ _ _ _ _ _ _ _ _ _ _ _ _ _ _ _ _ _ _ _ _ _ _ _ _ _ _ _ _ _ _ _ _ _ _ _ _ _ _ _ _ _ _ _ _ _ _ _ _ _ _ _ _ _ _ _ _ _ _ _ _ _ _)
    (Ext:=ExA w10 7 98 8 99 (ev t1*ev t2%fp) (0)) (Good:=fun i L _ v=>if i=0 then v=.pointer (some ⟨g,0,none⟩) else if i=1 then v=.pointer (some ⟨g,0,none⟩) else if i=2 then v=.pointer (some ⟨g,15,none⟩) else if i=3 then v=.pointer (some ⟨h,0,none⟩) else if i=4 then v=.pointer (some ⟨h,0,none⟩) else if i=5 then v=.pointer (some ⟨h,15,none⟩) else if i=6 then EV (ev t1*ev t2%fp) v else if i=7 then L 7=true else if i=8 then L 8=true else True) ?hstab (by kernel_rfl) ?hop ?hdone _ _ ((fun (x0 x1 x2 x3 x4 x5 x6 x7:Value)=>fun (i:Nat)=>if i=0 then x0 else if i=1 then x1 else if i=2 then x2 else if i=3 then x3 else if i=4 then x4 else if i=5 then x5 else if i=6 then x6 else if i=7 then x7 else undef) _ _ _ _ _ _ _ _) _ (by simp) ?ext ?start (by simp)
   case start=>intro i hi h;exact absurd h (by rw[Array.getD_eq_getD_getElem?,Array.getElem?_replicate];split<;>simp)
   case ext=>exact ExA.start _ _ _ (by simp) (by simp) (by simp) (by simp) ⟨rfl,rfl,rfl,Nat.le_refl _,fun _ _=>rfl⟩
   case hstab=>
    intro j L w9 w' i v _ _ _ h;by_cases h7:j=7
    ·subst h7;simp at h ⊢;unfold updK;simp[h]
    by_cases h8:j=8
    ·subst h8;simp at h ⊢;unfold updK;simp[h]
    simp only[if_neg h7,if_neg h8] at h ⊢;exact h
   case hop=>
    intro i o L t w' ho hLi hx hdep K hK;have hi:i<9:=(Array.getElem?_eq_some_iff.1 ho).1;obtain rfl|rfl|rfl|rfl|rfl|rfl|rfl|rfl|rfl:i=0∨i=1∨i=2∨i=3∨i=4∨i=5∨i=6∨i=7∨i=8:=by omega
    all_goals(simp at ho;subst ho)
    ·clear hdep;have hK':=hK w' (.pointer (some ⟨g,0,none⟩)) (by simp) (hx.low 0 (by decide) (by decide) (by decide) (by decide) _ (Below.refl _ _)) trivial;clear hK;rw[if_pos (by rfl)];go_simp;simpa[upd] using hK'
    ·have d0:t 0=.pointer (some ⟨g,0,none⟩):=by simpa using hdep ⟨0,.data⟩ (by simp) rfl
     clear hdep;have hK':=hK w' (.pointer (some ⟨g,0,none⟩)) (by simp) (hx.low 1 (by decide) (by decide) (by decide) (by decide) _ (Below.refl _ _)) trivial;clear hK;rw[if_pos (by rfl)];go_simp;simpa[upd,d0] using hK'
    ·have d1:t 1=.pointer (some ⟨g,0,none⟩):=by simpa using hdep ⟨1,.data⟩ (by simp) rfl
     clear hdep;have hK':=hK w' (.pointer (some ⟨g,15,none⟩)) (by simp) (hx.low 2 (by decide) (by decide) (by decide) (by decide) _ (Below.refl _ _)) trivial;clear hK;rw[if_pos (by rfl)];go_simp;simpa[upd,d1] using hK'
    ·clear hdep;have hK':=hK w' (.pointer (some ⟨h,0,none⟩)) (by simp) (hx.low 3 (by decide) (by decide) (by decide) (by decide) _ (Below.refl _ _)) trivial;clear hK;rw[if_pos (by rfl)];go_simp;simpa[upd] using hK'
    ·have d3:t 3=.pointer (some ⟨h,0,none⟩):=by simpa using hdep ⟨3,.data⟩ (by simp) rfl
     clear hdep;have hK':=hK w' (.pointer (some ⟨h,0,none⟩)) (by simp) (hx.low 4 (by decide) (by decide) (by decide) (by decide) _ (Below.refl _ _)) trivial;clear hK;rw[if_pos (by rfl)];go_simp;simpa[upd,d3] using hK'
    ·have d4:t 4=.pointer (some ⟨h,0,none⟩):=by simpa using hdep ⟨4,.data⟩ (by simp) rfl
     clear hdep;have hK':=hK w' (.pointer (some ⟨h,15,none⟩)) (by simp) (hx.low 5 (by decide) (by decide) (by decide) (by decide) _ (Below.refl _ _)) trivial;clear hK;rw[if_pos (by rfl)];go_simp;simpa[upd,d4] using hK'
    ·have d2:t 2=.pointer (some ⟨g,15,none⟩):=by simpa using hdep ⟨2,.data⟩ (by simp) rfl
     have d5:t 5=.pointer (some ⟨h,15,none⟩):=by simpa using hdep ⟨5,.data⟩ (by simp) rfl
     clear hdep;have A:=times_any g 15 h 15 t1 t2 w' ((HS10.out.el 3 _ _ _ rfl).below hx.below) ((HS10.out.el 7 _ _ _ rfl).below hx.below);have hK':∀ ww v,EV (ev t1*ev t2%fp) v→Below w'.heap.size w' ww→K _ ww:=fun ww v hv hb=>hK ww v (by simpa using hv) (hx.low 6 (by decide) (by decide) (by decide) (by decide) _ hb) trivial
     clear hK;rw[if_pos (by rfl)];go_simp;try simp only[d2,d5]
     refine A.mono ?_;rintro e w9 ⟨es,hk,hv,rfl,hb⟩;have hK2:=hK' w9 _ ⟨es,hk,hv,rfl⟩ hb;clear hK' A hk hv hb;go_simp;simpa[upd,d2,d5] using hK2
    ·clear hdep;have hK':=hK _ (.pointer (some ⟨w'.heap.size,0,none⟩)) (by simp[updK]) (hx.alloc1 hLi (by decide) (by decide) (by decide)) trivial;clear hK;rw[if_pos (by rfl)];go_simp;simpa[upd] using hK'
    ·have l7:L 7=true:=by simpa using hdep ⟨7,.data⟩ (by simp) rfl
     have f6:EV (ev t1*ev t2%fp) (t 6):=by simpa using hdep ⟨6,.data⟩ (by simp) rfl
     clear hdep;obtain⟨g9,zs9,e9,r9,k9⟩:=hx.get1 l7;refine f6.elim_ fun es9 ke ve ee=>?_
     have hK':∀ ww,RowW ww g9 141 es9→Wr g9 w' ww→K _ ww:=fun ww rr hw=>hK ww undef (by simp[updK]) (hx.store1 l7 e9 (by decide) (by decide) (by decide) ke ve hw rr _) trivial
     clear hK;rw[if_pos (by rfl)];refine wp_storeX (.tmp 11) (.tmp 54) rfl g9 zs9 es9 e9 ee ke k9 r9 fun ww rr hw=>?_
     have hK2:=hK' ww rr hw;clear hK';simpa[upd,Act.put] using hK2
   case hdone=>
    intro L t11 w11 hx hg;have l8:L 8=true:=by simpa using hg 8 (by decide)
    clear hg;obtain⟨G11a,cc,q1,qg1,qr1,qk1,qv1⟩:=hx.fin1 l8;have HS11:=hdI <| HS10.out.one hx.below qg1 qr1 qk1
    have HKcc:Hid (EOk cc∧ev cc=ev t1*ev t2%fp):=⟨qk1,qv1⟩
    simp only[q1];clear hx q1 qg1 qr1 qk1 qv1 HS10;go_wp2_with fail;refine(times_any G11a 0 G3a 0 cc dd _ (HS11.out.re 0 _ _ rfl) (HS11.out.re 7 _ _ rfl)).mono ?_;rintro e w12 ⟨cd,hk,hv,rfl,b⟩;have HKcd:Hid (EOk cd∧ev cd=ev cc*ev dd%fp):=⟨hk,hv⟩
    have HS12:=hdI <| HS11.out.call b
    clear hk hv b HS11;go_wp2_with (first
     |(refine wpList_storeD HS12.out rfl (.tmp 11) (.tmp 55) rfl 0 G11a cc cd rfl rfl rfl HKcd.out.1 rfl ?_)
     |fail)
    intro w13 S;have HS13:=hdI <| S
    clear S HS12;go_wp2_with fail;refine wp_region_any (by kernel_rfl) ?_;refine wpAny_slots9 (fun _ _ _=>True) (frame:=(fun (a b c d e f g h i j k l m n o p q r s u v w x y z A B C D E F G H I J K L M N O P Q R S T U V W X Y Z a0 a1 a2 a3 a4 a5 a6 a7 a8 a9 b0 b1 b2 b3 b4 b5:Value)=>fun (t:Nat→Value)=>({ tmps:=List.toArray [a,b,c,d,e,f,g,h,i,j,k,l,t 7,m,n,o,p,q,r,s,u,v,w,x,y,z,A,B,C,D,E,F,G,H,I,J,K,L,M,N,O,P,Q,R,S,T,U,V,W,X,Y,Z,a0,a1,a2,a3,t 0,t 1,t 2,t 3,t 4,t 5,t 6,a4,a5,a6,a7,a8,a9,b0,b1,b2,b3,b4,b5],defers:=[] }:Act)) _ _ _ _ _ _ _ _ _ _ _ _ _ _ _ _ _ _ _ _ _ _ _ _ _ _ _ _ _ _ _ _ _ _ _ _ _ _ _ _ _ _ _ _ _ _ _ _ _ _ _ _ _ _ _ _ _ _ _ _ _ _ _ _ _ _ _)
     (Ext:=ExA w13 7 98 8 99 (ev z1*ev z2%fp) (0)) (Good:=fun i L _ v=>if i=0 then v=.pointer (some ⟨g,0,none⟩) else if i=1 then v=.pointer (some ⟨g,0,none⟩) else if i=2 then v=.pointer (some ⟨g,10,none⟩) else if i=3 then v=.pointer (some ⟨h,0,none⟩) else if i=4 then v=.pointer (some ⟨h,0,none⟩) else if i=5 then v=.pointer (some ⟨h,10,none⟩) else if i=6 then EV (ev z1*ev z2%fp) v else if i=7 then L 7=true else if i=8 then L 8=true else True) ?hstab (by kernel_rfl) ?hop ?hdone _ _ ((fun (x0 x1 x2 x3 x4 x5 x6 x7:Value)=>fun (i:Nat)=>if i=0 then x0 else if i=1 then x1 else if i=2 then x2 else if i=3 then x3 else if i=4 then x4 else if i=5 then x5 else if i=6 then x6 else if i=7 then x7 else undef) _ _ _ _ _ _ _ _) _ (by simp) ?ext ?start (by simp)
    case start=>intro i hi h;exact absurd h (by rw[Array.getD_eq_getD_getElem?,Array.getElem?_replicate];split<;>simp)
    case ext=>exact ExA.start _ _ _ (by simp) (by simp) (by simp) (by simp) ⟨rfl,rfl,rfl,Nat.le_refl _,fun _ _=>rfl⟩
    case hstab=>
     intro j L w9 w' i v _ _ _ h;by_cases h7:j=7
     ·subst h7;simp at h ⊢;unfold updK;simp[h]
     by_cases h8:j=8
     ·subst h8;simp at h ⊢;unfold updK;simp[h]
     simp only[if_neg h7,if_neg h8] at h ⊢;exact h
    case hop=>
     intro i o L t w' ho hLi hx hdep K hK;have hi:i<9:=(Array.getElem?_eq_some_iff.1 ho).1;obtain rfl|rfl|rfl|rfl|rfl|rfl|rfl|rfl|rfl:i=0∨i=1∨i=2∨i=3∨i=4∨i=5∨i=6∨i=7∨i=8:=by omega
     all_goals(simp at ho;subst ho)
     ·clear hdep;have hK':=hK w' (.pointer (some ⟨g,0,none⟩)) (by simp) (hx.low 0 (by decide) (by decide) (by decide) (by decide) _ (Below.refl _ _)) trivial;clear hK;rw[if_pos (by rfl)];go_simp;simpa[upd] using hK'
     ·have d0:t 0=.pointer (some ⟨g,0,none⟩):=by simpa using hdep ⟨0,.data⟩ (by simp) rfl
      clear hdep;have hK':=hK w' (.pointer (some ⟨g,0,none⟩)) (by simp) (hx.low 1 (by decide) (by decide) (by decide) (by decide) _ (Below.refl _ _)) trivial;clear hK;rw[if_pos (by rfl)];go_simp;simpa[upd,d0] using hK'
     ·have d1:t 1=.pointer (some ⟨g,0,none⟩):=by simpa using hdep ⟨1,.data⟩ (by simp) rfl
      clear hdep;have hK':=hK w' (.pointer (some ⟨g,10,none⟩)) (by simp) (hx.low 2 (by decide) (by decide) (by decide) (by decide) _ (Below.refl _ _)) trivial;clear hK;rw[if_pos (by rfl)];go_simp;simpa[upd,d1] using hK'
     ·clear hdep;have hK':=hK w' (.pointer (some ⟨h,0,none⟩)) (by simp) (hx.low 3 (by decide) (by decide) (by decide) (by decide) _ (Below.refl _ _)) trivial;clear hK;rw[if_pos (by rfl)];go_simp;simpa[upd] using hK'
     ·have d3:t 3=.pointer (some ⟨h,0,none⟩):=by simpa using hdep ⟨3,.data⟩ (by simp) rfl
      clear hdep;have hK':=hK w' (.pointer (some ⟨h,0,none⟩)) (by simp) (hx.low 4 (by decide) (by decide) (by decide) (by decide) _ (Below.refl _ _)) trivial;clear hK;rw[if_pos (by rfl)];go_simp;simpa[upd,d3] using hK'
     ·have d4:t 4=.pointer (some ⟨h,0,none⟩):=by simpa using hdep ⟨4,.data⟩ (by simp) rfl
      clear hdep;have hK':=hK w' (.pointer (some ⟨h,10,none⟩)) (by simp) (hx.low 5 (by decide) (by decide) (by decide) (by decide) _ (Below.refl _ _)) trivial;clear hK;rw[if_pos (by rfl)];go_simp;simpa[upd,d4] using hK'
     ·have d2:t 2=.pointer (some ⟨g,10,none⟩):=by simpa using hdep ⟨2,.data⟩ (by simp) rfl
      have d5:t 5=.pointer (some ⟨h,10,none⟩):=by simpa using hdep ⟨5,.data⟩ (by simp) rfl
      clear hdep;have A:=times_any g 10 h 10 z1 z2 w' ((HS13.out.el 2 _ _ _ rfl).below hx.below) ((HS13.out.el 6 _ _ _ rfl).below hx.below);have hK':∀ ww v,EV (ev z1*ev z2%fp) v→Below w'.heap.size w' ww→K _ ww:=fun ww v hv hb=>hK ww v (by simpa using hv) (hx.low 6 (by decide) (by decide) (by decide) (by decide) _ hb) trivial
      clear hK;rw[if_pos (by rfl)];go_simp;try simp only[d2,d5]
      refine A.mono ?_;rintro e w9 ⟨es,hk,hv,rfl,hb⟩;have hK2:=hK' w9 _ ⟨es,hk,hv,rfl⟩ hb;clear hK' A hk hv hb;go_simp;simpa[upd,d2,d5] using hK2
     ·clear hdep;have hK':=hK _ (.pointer (some ⟨w'.heap.size,0,none⟩)) (by simp[updK]) (hx.alloc1 hLi (by decide) (by decide) (by decide)) trivial;clear hK;rw[if_pos (by rfl)];go_simp;simpa[upd] using hK'
     ·have l7:L 7=true:=by simpa using hdep ⟨7,.data⟩ (by simp) rfl
      have f6:EV (ev z1*ev z2%fp) (t 6):=by simpa using hdep ⟨6,.data⟩ (by simp) rfl
      clear hdep;obtain⟨g9,zs9,e9,r9,k9⟩:=hx.get1 l7;refine f6.elim_ fun es9 ke ve ee=>?_
      have hK':∀ ww,RowW ww g9 141 es9→Wr g9 w' ww→K _ ww:=fun ww rr hw=>hK ww undef (by simp[updK]) (hx.store1 l7 e9 (by decide) (by decide) (by decide) ke ve hw rr _) trivial
      clear hK;rw[if_pos (by rfl)];refine wp_storeX (.tmp 12) (.tmp 62) rfl g9 zs9 es9 e9 ee ke k9 r9 fun ww rr hw=>?_
      have hK2:=hK' ww rr hw;clear hK';simpa[upd,Act.put] using hK2
    case hdone=>
     intro L t14 w14 hx hg;have l8:L 8=true:=by simpa using hg 8 (by decide)
     clear hg;obtain⟨G14a,zz,q1,qg1,qr1,qk1,qv1⟩:=hx.fin1 l8;have HS14:=hdI <| HS13.out.one hx.below qg1 qr1 qk1
     have HKzz:Hid (EOk zz∧ev zz=ev z1*ev z2%fp):=⟨qk1,qv1⟩
     simp only[q1];clear hx q1 qg1 qr1 qk1 qv1 HS13;go_wp2_with fail;refine(plus_any G14a 0 G14a 0 zz zz _ (HS14.out.re 0 _ _ rfl) (HS14.out.re 0 _ _ rfl)).mono ?_;rintro e w15 ⟨gg,hk,hv,rfl,b⟩;have HKgg:Hid (EOk gg∧ev gg=(ev zz+ev zz)%fp):=⟨hk,hv⟩
     have HS15:=hdI <| HS14.out.call b
     clear hk hv b HS14;go_wp2_with (first
      |(refine wpList_storeD HS15.out rfl (.tmp 12) (.tmp 63) rfl 0 G14a zz gg rfl rfl rfl HKgg.out.1 rfl ?_)
      |fail)
     intro w16 S;have HS16:=hdI <| S
     clear S HS15;go_wp2_with fail;refine(minus_any G10b 0 G10a 0 up dn _ (HS16.out.re 2 _ _ rfl) (HS16.out.re 3 _ _ rfl)).mono ?_;rintro e w17 ⟨ee,hk,hv,rfl,b⟩;have HKee:Hid (EOk ee∧ev ee=(ev up-ev dn)%fp):=⟨hk,hv⟩
     have HS17:=hdI <| HS16.out.call b
     clear hk hv b HS16;go_wp2_with fail;refine(minus_any G14a 0 G11a 0 gg cd _ (HS17.out.re 0 _ _ rfl) (HS17.out.re 1 _ _ rfl)).mono ?_;rintro e w18 ⟨ff,hk,hv,rfl,b⟩;have HKff:Hid (EOk ff∧ev ff=(ev gg-ev cd)%fp):=⟨hk,hv⟩
     have HS18:=hdI <| HS17.out.call b
     clear hk hv b HS17;have HA19:=hdI <| HS18.out.room2
     clear HS18;go_wp2_with (first
      |(refine wpList_storeD HA19.out rfl (.tmp 13) (.tmp 64) rfl 1 (w18.heap.size) [0,0,0,0,0] ee rfl rfl rfl HKee.out.1 rfl ?_)
      |fail)
     intro w20 S;have HS20:=hdI <| S
     clear S HA19;go_wp2_with (first
      |(refine wpList_storeD HS20.out rfl (.tmp 14) (.tmp 65) rfl 0 (w18.heap.size+1) [0,0,0,0,0] ff rfl rfl rfl HKff.out.1 rfl ?_)
      |fail)
     intro w21 S;have HS21:=hdI <| S
     clear S HS20;generalize w18.heap.size+1=G21b at *;generalize w18.heap.size=G21a at *;go_wp2_with fail;refine(plus_any G14a 0 G11a 0 gg cd _ (HS21.out.re 2 _ _ rfl) (HS21.out.re 3 _ _ rfl)).mono ?_;rintro e w22 ⟨hh,hk,hv,rfl,b⟩;have HKhh:Hid (EOk hh∧ev hh=(ev gg+ev cd)%fp):=⟨hk,hv⟩
     have HS22:=hdI <| HS21.out.call b
     clear hk hv b HS21;go_wp2_with fail;refine(plus_any G10b 0 G10a 0 up dn _ (HS22.out.re 4 _ _ rfl) (HS22.out.re 5 _ _ rfl)).mono ?_;rintro e w23 ⟨kk,hk,hv,rfl,b⟩;have HKkk:Hid (EOk kk∧ev kk=(ev up+ev dn)%fp):=⟨hk,hv⟩
     have HS23:=hdI <| HS22.out.call b
     clear hk hv b HS22;have HA24:=hdI <| HS23.out.room2
     clear HS23;go_wp2_with (first
      |(refine wpList_storeD HA24.out rfl (.tmp 15) (.tmp 66) rfl 1 (w23.heap.size) [0,0,0,0,0] hh rfl rfl rfl HKhh.out.1 rfl ?_)
      |fail)
     intro w25 S;have HS25:=hdI <| S
     clear S HA24;go_wp2_with (first
      |(refine wpList_storeD HS25.out rfl (.tmp 16) (.tmp 67) rfl 0 (w23.heap.size+1) [0,0,0,0,0] kk rfl rfl rfl HKkk.out.1 rfl ?_)
      |fail)
     intro w26 S;have HS26:=hdI <| S
     clear S HS25;generalize w23.heap.size+1=G26b at *;generalize w23.heap.size=G26a at *;go_wp2_with fail;refine(times_any G21a 0 G21b 0 ee ff _ (HS26.out.re 3 _ _ rfl) (HS26.out.re 2 _ _ rfl)).mono ?_;rintro e w27 ⟨X,hk,hv,rfl,b⟩;have HKX:Hid (EOk X∧ev X=ev ee*ev ff%fp):=⟨hk,hv⟩
     have HS27:=hdI <| HS26.out.call b
     clear hk hv b HS26;go_wp2_with fail;refine(times_any G26a 0 G26b 0 hh kk _ (HS27.out.re 1 _ _ rfl) (HS27.out.re 0 _ _ rfl)).mono ?_;rintro e w28 ⟨Y,hk,hv,rfl,b⟩;have HKY:Hid (EOk Y∧ev Y=ev hh*ev kk%fp):=⟨hk,hv⟩
     have HS28:=hdI <| HS27.out.call b
     clear hk hv b HS27;go_wp2_with fail;refine(times_any G21b 0 G26a 0 ff hh _ (HS28.out.re 2 _ _ rfl) (HS28.out.re 1 _ _ rfl)).mono ?_;rintro e w29 ⟨Z,hk,hv,rfl,b⟩;have HKZ:Hid (EOk Z∧ev Z=ev ff*ev hh%fp):=⟨hk,hv⟩
     have HS29:=hdI <| HS28.out.call b
     clear hk hv b HS28;go_wp2_with fail;refine(times_any G21a 0 G26b 0 ee kk _ (HS29.out.re 3 _ _ rfl) (HS29.out.re 0 _ _ rfl)).mono ?_;rintro e w30 ⟨T,hk,hv,rfl,b⟩;have HKT:Hid (EOk T∧ev T=ev ee*ev kk%fp):=⟨hk,hv⟩
     have HS30:=hdI <| HS29.out.call b
     clear hk hv b HS29;obtain⟨X0,X1,X2,X3,X4,rfl⟩:=len5 HKX.out.1.1;obtain⟨Y0,Y1,Y2,Y3,Y4,rfl⟩:=len5 HKY.out.1.1;obtain⟨Z0,Z1,Z2,Z3,Z4,rfl⟩:=len5 HKZ.out.1.1;obtain⟨T0,T1,T2,T3,T4,rfl⟩:=len5 HKT.out.1.1;have HPL:=hdI <| HPT.out.row.below HS30.out.below HPT.out.row.lt
     have HPX:Hid ((pl x1 y1 z1 t1).length=20):=by show _=_;unfold pl;simp[HPT.out.x.1,HPT.out.y.1,HPT.out.z.1,HPT.out.t.1]
     go_wp2_with (first
      |(refine wpList_storeP rfl (.tmp 74) (.tmp 73) rfl g [X0,X1,X2,X3,X4] [Y0,Y1,Y2,Y3,Y4] [Z0,Z1,Z2,Z3,Z4] [T0,T1,T2,T3,T4] _ rfl rfl HKX.out.1 HKY.out.1 HKZ.out.1 HKT.out.1 HPX.out HPL.out ?_)
      |fail)
     intro wz hpt hwz;have HF:Hid (AddP w g (ev x1) (ev y1) (ev z1) (ev t1) (ev x2) (ev y2) (ev z2) (ev t2) (.returned (.tuple #[])) wz):=by
      refine⟨[X0,X1,X2,X3,X4],[Y0,Y1,Y2,Y3,Y4],[Z0,Z1,Z2,Z3,Z4],[T0,T1,T2,T3,T4],hpt,(WrH.of_below HS30.out.below).trans ⟨hwz.os,hwz.tape,hwz.output,by rw[hwz.size];exact Nat.le_refl _,fun k _ hk=>hwz.block k hk⟩,rfl,?_⟩;have eA:ev dn=smA (ev x1) (ev y1) (ev x2) (ev y2):=by rw[HKdn.out.2,HKpd.out.2,HKqd.out.2];rfl
      have eB:ev up=smB (ev x1) (ev y1) (ev x2) (ev y2):=by rw[HKup.out.2,HKpu.out.2,HKqu.out.2];rfl
      have eC:ev cd=smC mdD (ev t1) (ev t2):=by rw[HKcd.out.2,HKcc.out.2,HKdd.out.2,twoD,eq_C]
      have eG:ev gg=smG (ev z1) (ev z2):=by rw[HKgg.out.2,HKzz.out.2,eq_G]
      refine⟨?_,?_,?_,?_⟩
      ·rw[HKX.out.2,HKee.out.2,HKff.out.2,eA,eB,eC,eG]
      ·rw[HKY.out.2,HKhh.out.2,HKkk.out.2,eA,eB,eC,eG]
      ·rw[HKZ.out.2,HKff.out.2,HKhh.out.2,eC,eG]
      ·rw[HKT.out.2,HKee.out.2,HKkk.out.2,eA,eB]
     clear hpt hwz HPL HPX HPT HS30;go_wp2
     go_end0
     exact HF.out
theorem nm_or (x y s q:Int) (k:Nat) (hx:0≤x) (hk:x<2^k) (hx':x<18446744073709551616) (hq:0≤q) (hq':q*2^k<18446744073709551616) (hs:IntKind.u64.wrap (y*s)=q*2^k) :
  bits .or .u64 x (IntKind.u64.wrap (y*s))=x+q*2^k:=by
 rw[hs];have hp:(0:Int)<2^k:=Int.pow_pos (by decide);exact u64_or_add' (q*2^k) x k (Int.mul_nonneg hq (by omega)) hq' hx hk hx' q rfl
theorem nm_0 (a b:Int) (ha:0≤a) (ha':a<2251799813685248) (hb:0≤b) (hb':b<2251799813685248):bits .or .u64 a (IntKind.u64.wrap (b*2251799813685248))=a+b%8192*2251799813685248:=
 nm_or a b 2251799813685248 (b%8192) 51 ha (by show a<2251799813685248;omega) (by omega) (by omega) (by show b%8192*2251799813685248<_;omega) (by rw[IntKind.wrap_u64];show _=b%8192*2251799813685248;omega)
theorem nm_1 (b c:Int) (ha:0≤b) (ha':b<2251799813685248) (hb:0≤c) (hb':c<2251799813685248):bits .or .u64 (b/8192) (IntKind.u64.wrap (c*274877906944))=b/8192+c%67108864*274877906944:=
 nm_or (b/8192) c 274877906944 (c%67108864) 38 (by omega) (by show b/8192<274877906944;omega) (by omega) (by omega) (by show c%67108864*274877906944<_;omega) (by rw[IntKind.wrap_u64];show _=c%67108864*274877906944;omega)
theorem nm_2 (c d:Int) (ha:0≤c) (ha':c<2251799813685248) (hb:0≤d) (hb':d<2251799813685248):bits .or .u64 (c/67108864) (IntKind.u64.wrap (d*33554432))=c/67108864+d%549755813888*33554432:=
 nm_or (c/67108864) d 33554432 (d%549755813888) 25 (by omega) (by show c/67108864<33554432;omega) (by omega) (by omega) (by show d%549755813888*33554432<_;omega) (by rw[IntKind.wrap_u64];show _=d%549755813888*33554432;omega)
theorem nm_3 (d e:Int) (ha:0≤d) (ha':d<2251799813685248) (hb:0≤e) (hb':e<2251799813685248):bits .or .u64 (d/549755813888) (IntKind.u64.wrap (e*4096))=d/549755813888+e*4096:=
 nm_or (d/549755813888) e 4096 e 12 (by omega) (by show d/549755813888<4096;omega) (by omega) (by omega) (by show e*4096<_;omega) (by rw[IntKind.wrap_u64];show _=e*4096;omega)
theorem nm_val (a b c d e:Int) (a0:0≤a) (a1:a<2251799813685248) (b0:0≤b) (b1:b<2251799813685248) (c0:0≤c) (c1:c<2251799813685248) (d0:0≤d) (d1:d<2251799813685248) (e0:0≤e) (e1:e<2251799813685248) :
  Wrd [a+b%8192*2251799813685248,b/8192+c%67108864*274877906944,c/67108864+d%549755813888*33554432,d/549755813888+e*4096]∧
  val 18446744073709551616 [a+b%8192*2251799813685248,b/8192+c%67108864*274877906944,c/67108864+d%549755813888*33554432,d/549755813888+e*4096]=val B51 [a,b,c,d,e]:=by
 constructor
 ·intro z hz;simp only[List.mem_cons,List.not_mem_nil,or_false] at hz;rcases hz with rfl|rfl|rfl|rfl<;>omega
 ·simp only[val];unfold B51;omega
set_option maxHeartbeats 2000000 in
theorem number_any (g o:Nat) (xs:List Int) (w:World) (h:EAt w g o xs) :
  Calls Tryz.prog 141 #[.pointer (some ⟨g,o,none⟩)] w (NumPost w (ev xs)):=by
 have hk:=h.2.1;have hv:=(lsE_all hk).2.2;have hbd:=sst_bd (xs.set 0 (xs.getD 0 0+19*lsT xs));obtain⟨a,b,c,d,e,hl⟩:=len5 (lsE_len xs);have q0:=hbd 0;have q1:=hbd 1;have q2:=hbd 2;have q3:=hbd 3;have q4:=hbd 4;rw[show sst (xs.set 0 (xs.getD 0 0+19*lsT xs)) 5=[a,b,c,d,e] from hl] at q0 q1 q2 q3 q4;simp only[List.getD_cons_zero,List.getD_cons_succ] at q0 q1 q2 q3 q4;obtain⟨a0,a1⟩:=q0;obtain⟨b0,b1⟩:=q1;obtain⟨c0,c1⟩:=q2;obtain⟨d0,d1⟩:=q3;obtain⟨e0,e1⟩:=q4;rw[hl] at hv;have HV:=nm_val a b c d e a0 a1 b0 b1 c0 c1 d0 d1 e0 e1;rw[hv] at HV;have H0:=hdI <| nm_0 a b a0 a1 b0 b1
 have H1:=hdI <| nm_1 b c b0 b1 c0 c1
 have H2:=hdI <| nm_2 c d c0 c1 d0 d1
 have H3:Hid (bits .or .u64 (d/549755813888) (e*4096)=d/549755813888+e*4096):=by
  have h3:=nm_3 d e d0 d1 e0 e1;rw[show IntKind.u64.wrap (e*4096)=e*4096 by rw[IntKind.wrap_u64];omega] at h3;exact h3
 have bw:Below w.heap.size w (w.alloc (.cells #[.int .u64 0,.int .u64 0,.int .u64 0,.int .u64 0] 146)):=below_new2 _ _;have h0:=h.below bw;have HR0:(w.alloc (.cells #[.int .u64 0,.int .u64 0,.int .u64 0,.int .u64 0] 146)).heap[w.heap.size]?=some (.cells #[.int .u64 0,.int .u64 0,.int .u64 0,.int .u64 0] 146 (0,0)):=heap_alloc_new w _;have hs0:w.heap.size<(w.alloc (.cells #[.int .u64 0,.int .u64 0,.int .u64 0,.int .u64 0] 146)).heap.size:=by simp
 have HVV:=hdI <| HV
 clear HV hv hbd hk h;go_enter Tryz.func141,Tryz.ntmps141;go_wp2_with fail;generalize w.alloc (.cells #[.int .u64 0,.int .u64 0,.int .u64 0,.int .u64 0] 146)=w0 at *;refine(leastE_any g o xs _ h0).mono ?_;rintro e' w1 ⟨rfl,hb⟩;rw[hl];have HR1:Hid (w1.heap[w.heap.size]?=some (.cells #[.int .u64 0,.int .u64 0,.int .u64 0,.int .u64 0] 146 (0,0))):=by show _=_;rw[hb.block _ hs0];exact HR0
 have HB1:Hid (Below w.heap.size w w1):=bw.trans (hb.mono bw.size);have hs1:w.heap.size<w1.heap.size:=by have:=hb.size;omega
 clear hb h0 HR0 hs0 bw hl;have HR2:Hid ((w1.alloc (.cells #[.int .u64 a,.int .u64 b,.int .u64 c,.int .u64 d,.int .u64 e] 141)).heap[w.heap.size]?=some (.cells #[.int .u64 0,.int .u64 0,.int .u64 0,.int .u64 0] 146 (0,0))):=by show _=_;rw[Below.heap_alloc _ _ w.heap.size hs1];exact HR1.out
 have HB2:Hid (Below w.heap.size w (w1.alloc (.cells #[.int .u64 a,.int .u64 b,.int .u64 c,.int .u64 d,.int .u64 e] 141))):=HB1.out.trans ((below_new2 _ _).mono HB1.out.size);have HSZ:Hid ((Tryz.prog.info? 146).map (·.size)=some 4):=by show _=_;kernel_rfl
 simp only[List.map_cons,List.map_nil];go_wp2_with (first
  |(refine wpList_store_row rfl 146 (.tmp 2) (.tmp 33) rfl w.heap.size #[.int .u64 (bits .or .u64 a (IntKind.u64.wrap (b*2251799813685248))),.int .u64 (bits .or .u64 (b/8192) (IntKind.u64.wrap (c*274877906944))),.int .u64 (bits .or .u64 (c/67108864) (IntKind.u64.wrap (d*33554432))),.int .u64 (bits .or .u64 (d/549755813888) (e*4096))] rfl rfl 146 _ HR2.out HSZ.out rfl (by simp[Value.oneCell']) ?_)
  |fail)
 refine bodyPost_ret (v:=.agg #[.int .u64 (bits .or .u64 a (IntKind.u64.wrap (b*2251799813685248))),.int .u64 (bits .or .u64 (b/8192) (IntKind.u64.wrap (c*274877906944))),.int .u64 (bits .or .u64 (c/67108864) (IntKind.u64.wrap (d*33554432))),.int .u64 (bits .or .u64 (d/549755813888) (e*4096))]) (results_cell_row rfl _ _ w.heap.size 146 _ (0,0) _ rfl (setRow_heap _ _ _ _ _ _ HR2.out) Tryz.underlying146 rfl HSZ.out) rfl ?_;refine⟨[a+b%8192*2251799813685248,b/8192+c%67108864*274877906944,c/67108864+d%549755813888*33554432,d/549755813888+e*4096],rfl,HVV.out.1,HVV.out.2,?_,HB2.out.trans ((Wr.setRow _ _ _).below (Nat.le_refl _))⟩;rw[H0.out,H1.out,H2.out,H3.out];rfl
theorem wrd4 {a b c d:Int} (a0:0≤a) (a1:a<18446744073709551616) (b0:0≤b) (b1:b<18446744073709551616) (c0:0≤c) (c1:c<18446744073709551616) (d0:0≤d) (d1:d<18446744073709551616):Wrd [a,b,c,d]:=by
 intro z hz;simp only[List.mem_cons,List.not_mem_nil,or_false] at hz;rcases hz with rfl|rfl|rfl|rfl<;>exact⟨by assumption,by assumption⟩
set_option maxRecDepth 100000 in
set_option maxHeartbeats 16000000 in
theorem pcode_any (g:Nat) (x y z t:List Int) (w:World) (hp:Pt w g x y z t) :
  Calls Tryz.prog 111 #[.pointer (some ⟨g,0,none⟩)] w (NumPost w (cdV (ev x) (ev y) (ev z))):=by
 have bw:Below w.heap.size w (w.alloc (.cells #[.int .u64 0,.int .u64 0,.int .u64 0,.int .u64 0] 146)):=below_new2 _ _;have hp0:=hp.below bw hp.row.lt;have HS0:Hid (RunD (w.alloc (.cells #[.int .u64 0,.int .u64 0,.int .u64 0,.int .u64 0] 146)) (w.alloc (.cells #[.int .u64 0,.int .u64 0,.int .u64 0,.int .u64 0] 146)) [] [(g,0,x),(g,5,y),(g,10,z)]):=RunD.start _ _ (fun e he=>by
  simp only[List.mem_cons,List.not_mem_nil,or_false] at he;rcases he with rfl|rfl|rfl
  ·exact hp0.ex
  ·exact hp0.ey
  ·exact hp0.ez)
 have HR0:(w.alloc (.cells #[.int .u64 0,.int .u64 0,.int .u64 0,.int .u64 0] 146)).heap[w.heap.size]?=some (.cells #[.int .u64 0,.int .u64 0,.int .u64 0,.int .u64 0] 146 (0,0)):=heap_alloc_new w _;have hs0:w.heap.size<(w.alloc (.cells #[.int .u64 0,.int .u64 0,.int .u64 0,.int .u64 0] 146)).heap.size:=by simp
 clear hp hp0;go_enter Tryz.func111,Tryz.ntmps111;go_wp2_with fail;generalize w.alloc (.cells #[.int .u64 0,.int .u64 0,.int .u64 0,.int .u64 0] 146)=w0 at *;refine(inverse_any g 10 z _ (HS0.out.el 2 _ _ _ rfl)).mono ?_;rintro e w1 ⟨iv,hk,hv,rfl,b⟩;have HKiv:Hid (EOk iv∧ev iv=inv0 (ev z)):=⟨hk,hv⟩
 have HS1:=hdI <| HS0.out.call b
 clear hk hv b HS0;have HA2:=hdI <| HS1.out.room
 clear HS1;go_wp2_with (first
  |(refine wpList_storeD HA2.out rfl (.tmp 3) (.tmp 10) rfl 0 (w1.heap.size) [0,0,0,0,0] iv rfl rfl rfl HKiv.out.1 rfl ?_)
  |fail)
 intro w3 S;have HS3:=hdI <| S
 clear S HA2;generalize w1.heap.size=G3a at *;go_wp2_with fail;refine wp_region_any (by kernel_rfl) ?_;refine wpAny_slots9 (fun _ _ _=>True) (frame:=(fun (a b c d e f g h i j k l m n o p:Value)=>fun (t:Nat→Value)=>({ tmps:=List.toArray [a,b,c,d,t 8,t 9,e,f,g,h,i,t 0,t 1,t 2,t 3,t 4,t 5,t 6,t 7,j,k,l,m,n,o,p],defers:=[] }:Act)) _ _ _ _ _ _ _ _ _ _ _ _ _ _ _ _)
  (Ext:=ExA w3 8 9 10 11 (ev x*ev iv%fp) (ev y*ev iv%fp)) (Good:=fun i L _ v=>if i=0 then v=.pointer (some ⟨g,0,none⟩) else if i=1 then v=.pointer (some ⟨g,0,none⟩) else if i=2 then v=.pointer (some ⟨g,0,none⟩) else if i=3 then EV (ev x*ev iv%fp) v else if i=4 then v=.pointer (some ⟨g,0,none⟩) else if i=5 then v=.pointer (some ⟨g,0,none⟩) else if i=6 then v=.pointer (some ⟨g,5,none⟩) else if i=7 then EV (ev y*ev iv%fp) v else if i=8 then L 8=true else if i=9 then L 9=true else if i=10 then L 10=true else if i=11 then L 11=true else True) ?hstab (by kernel_rfl) ?hop ?hdone _ _ ((fun (x0 x1 x2 x3 x4 x5 x6 x7 x8 x9:Value)=>fun (i:Nat)=>if i=0 then x0 else if i=1 then x1 else if i=2 then x2 else if i=3 then x3 else if i=4 then x4 else if i=5 then x5 else if i=6 then x6 else if i=7 then x7 else if i=8 then x8 else if i=9 then x9 else undef) _ _ _ _ _ _ _ _ _ _) _ (by simp) ?ext ?start (by simp)
 case start=>intro i hi h;exact absurd h (by rw[Array.getD_eq_getD_getElem?,Array.getElem?_replicate];split<;>simp)
 case ext=>exact ExA.start _ _ _ (by simp) (by simp) (by simp) (by simp) ⟨rfl,rfl,rfl,Nat.le_refl _,fun _ _=>rfl⟩
 case hstab=>
  intro j L w9 w' i v _ _ _ h;by_cases h8:j=8
  ·subst h8;simp at h ⊢;unfold updK;simp[h]
  by_cases h9:j=9
  ·subst h9;simp at h ⊢;unfold updK;simp[h]
  by_cases h10:j=10
  ·subst h10;simp at h ⊢;unfold updK;simp[h]
  by_cases h11:j=11
  ·subst h11;simp at h ⊢;unfold updK;simp[h]
  simp only[if_neg h8,if_neg h9,if_neg h10,if_neg h11] at h ⊢;exact h
 case hop=>
  intro i o L t w' ho hLi hx hdep K hK;have hi:i<12:=(Array.getElem?_eq_some_iff.1 ho).1;obtain rfl|rfl|rfl|rfl|rfl|rfl|rfl|rfl|rfl|rfl|rfl|rfl:i=0∨i=1∨i=2∨i=3∨i=4∨i=5∨i=6∨i=7∨i=8∨i=9∨i=10∨i=11:=by omega
  all_goals(simp at ho;subst ho)
  ·clear hdep;have hK':=hK w' (.pointer (some ⟨g,0,none⟩)) (by simp) (hx.low 0 (by decide) (by decide) (by decide) (by decide) _ (Below.refl _ _)) trivial;clear hK;rw[if_pos (by rfl)];go_simp;simpa[upd] using hK'
  ·have d0:t 0=.pointer (some ⟨g,0,none⟩):=by simpa using hdep ⟨0,.data⟩ (by simp) rfl
   clear hdep;have hK':=hK w' (.pointer (some ⟨g,0,none⟩)) (by simp) (hx.low 1 (by decide) (by decide) (by decide) (by decide) _ (Below.refl _ _)) trivial;clear hK;rw[if_pos (by rfl)];go_simp;simpa[upd,d0] using hK'
  ·have d1:t 1=.pointer (some ⟨g,0,none⟩):=by simpa using hdep ⟨1,.data⟩ (by simp) rfl
   clear hdep;have hK':=hK w' (.pointer (some ⟨g,0,none⟩)) (by simp) (hx.low 2 (by decide) (by decide) (by decide) (by decide) _ (Below.refl _ _)) trivial;clear hK;rw[if_pos (by rfl)];go_simp;simpa[upd,d1] using hK'
  ·have d2:t 2=.pointer (some ⟨g,0,none⟩):=by simpa using hdep ⟨2,.data⟩ (by simp) rfl
   clear hdep;have A:=times_any g 0 G3a 0 x iv w' ((HS3.out.el 0 _ _ _ rfl).below hx.below) ((HS3.out.re 0 _ _ rfl).below hx.below);have hK':∀ ww v,EV (ev x*ev iv%fp) v→Below w'.heap.size w' ww→K _ ww:=fun ww v hv hb=>hK ww v (by simpa using hv) (hx.low 3 (by decide) (by decide) (by decide) (by decide) _ hb) trivial
   clear hK;rw[if_pos (by rfl)];go_simp;try simp only[d2]
   refine A.mono ?_;rintro e w9 ⟨es,hk,hv,rfl,hb⟩;have hK2:=hK' w9 _ ⟨es,hk,hv,rfl⟩ hb;clear hK' A hk hv hb;go_simp;simpa[upd,d2] using hK2
  ·clear hdep;have hK':=hK w' (.pointer (some ⟨g,0,none⟩)) (by simp) (hx.low 4 (by decide) (by decide) (by decide) (by decide) _ (Below.refl _ _)) trivial;clear hK;rw[if_pos (by rfl)];go_simp;simpa[upd] using hK'
  ·have d4:t 4=.pointer (some ⟨g,0,none⟩):=by simpa using hdep ⟨4,.data⟩ (by simp) rfl
   clear hdep;have hK':=hK w' (.pointer (some ⟨g,0,none⟩)) (by simp) (hx.low 5 (by decide) (by decide) (by decide) (by decide) _ (Below.refl _ _)) trivial;clear hK;rw[if_pos (by rfl)];go_simp;simpa[upd,d4] using hK'
  ·have d5:t 5=.pointer (some ⟨g,0,none⟩):=by simpa using hdep ⟨5,.data⟩ (by simp) rfl
   clear hdep;have hK':=hK w' (.pointer (some ⟨g,5,none⟩)) (by simp) (hx.low 6 (by decide) (by decide) (by decide) (by decide) _ (Below.refl _ _)) trivial;clear hK;rw[if_pos (by rfl)];go_simp;simpa[upd,d5] using hK'
  ·have d6:t 6=.pointer (some ⟨g,5,none⟩):=by simpa using hdep ⟨6,.data⟩ (by simp) rfl
   clear hdep;have A:=times_any g 5 G3a 0 y iv w' ((HS3.out.el 1 _ _ _ rfl).below hx.below) ((HS3.out.re 0 _ _ rfl).below hx.below);have hK':∀ ww v,EV (ev y*ev iv%fp) v→Below w'.heap.size w' ww→K _ ww:=fun ww v hv hb=>hK ww v (by simpa using hv) (hx.low 7 (by decide) (by decide) (by decide) (by decide) _ hb) trivial
   clear hK;rw[if_pos (by rfl)];go_simp;try simp only[d6]
   refine A.mono ?_;rintro e w9 ⟨es,hk,hv,rfl,hb⟩;have hK2:=hK' w9 _ ⟨es,hk,hv,rfl⟩ hb;clear hK' A hk hv hb;go_simp;simpa[upd,d6] using hK2
  ·clear hdep;have hK':=hK _ (.pointer (some ⟨w'.heap.size,0,none⟩)) (by simp[updK]) (hx.alloc1 hLi (by decide) (by decide) (by decide)) trivial;clear hK;rw[if_pos (by rfl)];go_simp;simpa[upd] using hK'
  ·clear hdep;have hK':=hK _ (.pointer (some ⟨w'.heap.size,0,none⟩)) (by simp[updK]) (hx.alloc2 hLi (by decide) (by decide) (by decide)) trivial;clear hK;rw[if_pos (by rfl)];go_simp;simpa[upd] using hK'
  ·have l8:L 8=true:=by simpa using hdep ⟨8,.data⟩ (by simp) rfl
   have f3:EV (ev x*ev iv%fp) (t 3):=by simpa using hdep ⟨3,.data⟩ (by simp) rfl
   clear hdep;obtain⟨g9,zs9,e9,r9,k9⟩:=hx.get1 l8;refine f3.elim_ fun es9 ke ve ee=>?_
   have hK':∀ ww,RowW ww g9 141 es9→Wr g9 w' ww→K _ ww:=fun ww rr hw=>hK ww undef (by simp[updK]) (hx.store1 l8 e9 (by decide) (by decide) (by decide) ke ve hw rr _) trivial
   clear hK;rw[if_pos (by rfl)];refine wp_storeX (.tmp 4) (.tmp 14) rfl g9 zs9 es9 e9 ee ke k9 r9 fun ww rr hw=>?_
   have hK2:=hK' ww rr hw;clear hK';simpa[upd,Act.put] using hK2
  ·have l9:L 9=true:=by simpa using hdep ⟨9,.data⟩ (by simp) rfl
   have f7:EV (ev y*ev iv%fp) (t 7):=by simpa using hdep ⟨7,.data⟩ (by simp) rfl
   clear hdep;obtain⟨g9,zs9,e9,r9,k9⟩:=hx.swap.get1 l9;refine f7.elim_ fun es9 ke ve ee=>?_
   have hK':∀ ww,RowW ww g9 141 es9→Wr g9 w' ww→K _ ww:=fun ww rr hw=>hK ww undef (by simp[updK]) (hx.store2 l9 e9 (by decide) (by decide) (by decide) ke ve hw rr _) trivial
   clear hK;rw[if_pos (by rfl)];refine wp_storeX (.tmp 5) (.tmp 18) rfl g9 zs9 es9 e9 ee ke k9 r9 fun ww rr hw=>?_
   have hK2:=hK' ww rr hw;clear hK';simpa[upd,Act.put] using hK2
 case hdone=>
  intro L t4 w4 hx hg;have l10:L 10=true:=by simpa using hg 10 (by decide)
  have l11:L 11=true:=by simpa using hg 11 (by decide)
  clear hg;obtain⟨G4a,xx,q1,qg1,qr1,qk1,qv1⟩:=hx.fin1 l10;obtain⟨G4b,yy,q2,qg2,qr2,qk2,qv2⟩:=hx.swap.fin1 l11;have qne:=hx.ne (hx.v1.1 l10) (hx.v2.1 l11) _ _ q1 q2;have HS4:=hdI <| HS3.out.two hx.below qg1 qr1 qk1 qg2 qr2 qk2 qne
  have HKxx:Hid (EOk xx∧ev xx=ev x*ev iv%fp):=⟨qk1,qv1⟩
  have HKyy:Hid (EOk yy∧ev yy=ev y*ev iv%fp):=⟨qk2,qv2⟩
  simp only[q1,q2];clear hx q1 q2 qg1 qg2 qr1 qr2 qk1 qk2 qv1 qv2 qne HS3;go_wp2_with fail;refine(number_any G4b 0 yy _ (HS4.out.re 0 _ _ rfl)).mono ?_;rintro e wn ⟨ms,hl,hw,hv,rfl,b⟩
  match ms,hl with
  |[n0,n1,n2,n3],_=>
  obtain⟨a0,a1⟩:=hw.get 0;obtain⟨b0,b1⟩:=hw.get 1;obtain⟨c0,c1⟩:=hw.get 2;obtain⟨d0,d1⟩:=hw.get 3;simp only[List.getD_cons_zero,List.getD_cons_succ] at a0 a1 b0 b1 c0 c1 d0 d1;have HSn:Hid (RunD w0 (wn.alloc (.cells #[.int .u64 n0,.int .u64 n1,.int .u64 n2,.int .u64 n3] 146)) [(G4b,yy),(G4a,xx),(G3a,iv)] [(g,0,x),(g,5,y),(g,10,z)]):=(HS4.out.call b).call (below_new2 _ _);have HNR:Hid (RowW (wn.alloc (.cells #[.int .u64 n0,.int .u64 n1,.int .u64 n2,.int .u64 n3] 146)) wn.heap.size 146 [n0,n1,n2,n3]):=heap_alloc_new wn _;have hd3:n3<9223372036854775808:=by
   have e1:=HKyy.out.2;have e2:=ev_bd yy;have e3:val 18446744073709551616 [n0,n1,n2,n3]<57896044618658097711785492504343953926634992332820282019728792003956564819968:=by
    rw[hv];have:fp<57896044618658097711785492504343953926634992332820282019728792003956564819968:=by decide
    omega
   simp only[val] at e3;omega
  have HV:Hid (val 18446744073709551616 [n0,n1,n2,n3]=ev y*inv0 (ev z)%fp∧ev xx=ev x*inv0 (ev z)%fp):=⟨by rw[hv,HKyy.out.2,HKiv.out.2],by rw[HKxx.out.2,HKiv.out.2]⟩
  have HGW:=hdI <| Nat.le_trans HS4.out.below.size b.size
  clear hv b HS4 hw;simp only[List.map_cons,List.map_nil];go_wp2_with fail;generalize wn.alloc (.cells #[.int .u64 n0,.int .u64 n1,.int .u64 n2,.int .u64 n3] 146)=w6 at *;refine(isOdd_any G4a 0 xx _ (HSn.out.re 1 _ _ rfl)).mono ?_;rintro e w7 ⟨rfl,b⟩;have HR7:=hdI <| (HNR.out.below b HNR.out.lt)
  have HB7:=hdI <| HSn.out.below.trans (b.mono HSn.out.below.size)
  have HZ7:Hid (w7.heap[w.heap.size]?=some (.cells #[.int .u64 0,.int .u64 0,.int .u64 0,.int .u64 0] 146 (0,0))):=by show _=_;rw[HB7.out.block _ hs0];exact HR0
  have HSZ:Hid ((Tryz.prog.info? 146).map (·.size)=some 4):=by show _=_;kernel_rfl
  have HB:=hdI <| bw.trans (HB7.out.mono bw.size)
  have hne:wn.heap.size≠w.heap.size:=by have:=HGW.out;omega
  have hG6:w.heap.size≤wn.heap.size:=by have:=HGW.out;omega
  clear b HSn HNR HB7 HR0 bw hs0 HKxx HKyy HKiv HGW;generalize wn.heap.size=G6 at *;have hx2:ev xx%2=0∨ev xx%2=1:=by omega
  rcases hx2 with hx2|hx2
  ·have HF:Hid (val 18446744073709551616 [n0,n1,n2,n3]=cdV (ev x) (ev y) (ev z)):=by
    show _=_
    unfold cdV;rw[HV.out.1,←HV.out.2,hx2];omega
   rw[show(ev xx%2 == 1)=false by rw[hx2];rfl];go_wp2_with (first
    |(refine wpList_load_row rfl 146 (.tmp 6) rfl G6 rfl 146 _ (0,0) _ HR7.out Tryz.underlying146 rfl HSZ.out ?_)
    |(refine wpList_store_row rfl 146 (.tmp 2) (.tmp 25) rfl w.heap.size #[.int .u64 n0,.int .u64 n1,.int .u64 n2,.int .u64 n3] rfl rfl 146 _ HZ7.out HSZ.out rfl (by simp[Value.oneCell']) ?_)
    |fail)
   refine bodyPost_ret (v:=.agg #[.int .u64 n0,.int .u64 n1,.int .u64 n2,.int .u64 n3]) (results_cell_row rfl _ _ w.heap.size 146 _ (0,0) _ rfl (setRow_heap _ _ _ _ _ _ HZ7.out) Tryz.underlying146 rfl HSZ.out) rfl ?_;exact⟨[n0,n1,n2,n3],rfl,wrd4 a0 a1 b0 b1 c0 c1 d0 d1,HF.out,rfl,HB.out.trans ((Wr.setRow _ _ _).below (Nat.le_refl _))⟩
  ·have HF:Hid (val 18446744073709551616 [n0,n1,n2,n3+9223372036854775808]=cdV (ev x) (ev y) (ev z)):=by
    show _=_
    have e1:=HV.out.1;unfold cdV top255;rw[←HV.out.2,hx2,←e1];simp only[val];omega
   have HOR:Hid (bits .or .u64 n3 9223372036854775808=n3+9223372036854775808):=u64_or_add' 9223372036854775808 n3 63 (by decide) (by decide) d0 (by show n3<9223372036854775808;exact hd3) d1 1 (by decide);have HS8:Hid ((w7.setCell ⟨G6,3,none⟩ (.int .u64 (bits .or .u64 n3 9223372036854775808))).heap[G6]?=some (.cells #[.int .u64 n0,.int .u64 n1,.int .u64 n2,.int .u64 (bits .or .u64 n3 9223372036854775808)] 146 (0,0))):=by
    show _=_;rw[heap_setCell_same w7 G6 3 _ _ _ HR7.out];rfl
   have HZ8:Hid ((w7.setCell ⟨G6,3,none⟩ (.int .u64 (bits .or .u64 n3 9223372036854775808))).heap[w.heap.size]?=some (.cells #[.int .u64 0,.int .u64 0,.int .u64 0,.int .u64 0] 146 (0,0))):=by
    show _=_;rw[((Wr.refl G6 w7).setCell 3 _).block _ (Ne.symm hne)];exact HZ7.out
   have HB8:Hid (Below w.heap.size w (w7.setCell ⟨G6,3,none⟩ (.int .u64 (bits .or .u64 n3 9223372036854775808)))):=HB.out.trans (((Wr.refl G6 w7).setCell 3 _).below hG6);have c3:w7.cell? ⟨G6,3,none⟩=some (.int .u64 n3):=by rw[cell_of_row w7 G6 3 _ _ _ HR7.out];rfl
   have f3:w7.frozen? ⟨G6,3,none⟩=false:=frozen_of_row w7 G6 3 _ _ HR7.out;rw[show(ev xx%2 == 1)=true by rw[hx2];rfl];go_wp2_with (first
    |(refine wpList_load_row rfl 146 (.tmp 6) rfl G6 rfl 146 _ (0,0) _ HS8.out Tryz.underlying146 rfl HSZ.out ?_)
    |(refine wpList_store_row rfl 146 (.tmp 2) (.tmp 25) rfl w.heap.size #[.int .u64 n0,.int .u64 n1,.int .u64 n2,.int .u64 (bits .or .u64 n3 9223372036854775808)] rfl rfl 146 _ HZ8.out HSZ.out rfl (by simp[Value.oneCell']) ?_)
    |fail)
   refine bodyPost_ret (v:=.agg #[.int .u64 n0,.int .u64 n1,.int .u64 n2,.int .u64 (bits .or .u64 n3 9223372036854775808)]) (results_cell_row rfl _ _ w.heap.size 146 _ (0,0) _ rfl (setRow_heap _ _ _ _ _ _ HZ8.out) Tryz.underlying146 rfl HSZ.out) rfl ?_;exact⟨[n0,n1,n2,n3+9223372036854775808],rfl,wrd4 a0 a1 b0 b1 c0 c1 (by omega) (by omega),HF.out,by rw[HOR.out];rfl,HB8.out.trans ((Wr.setRow _ _ _).below (Nat.le_refl _))⟩
end Go.Proofs.YtncomnkdlpoelaaGreatDoor
