import Derived.Test.YtncomnkdlpoelaaGreatDoorMISt
import Derived.Test.YtncomnkdlpoelaaGreatDoorMReg
import Derived.Test.YtncomnkdlpoelaaGreatDoorMBase
import Derived.Deep.MidRow
import Derived.Laws.Tables
import Derived.Maps.AppendAt
namespace Go.Proofs.YtncomnkdlpoelaaGreatDoor
open Go.ChangeShapes Go.WideShapes Go.ChangeAt Go.RowKit
set_option linter.unusedVariables false
theorem updK_ne {L:Nat→Bool} {i j:Nat} (h:j≠i):updK L i j=L j:=by unfold updK;simp[h]
theorem updK_same {L:Nat→Bool} {i:Nat}:updK L i i=true:=by unfold updK;simp
def ExD (w0:World) (g k:Nat) (A B:World→Prop) (L:Nat→Bool) (w':World):Prop:=WrH g w0 w'∧(L k=false→A w')∧(L k=true→B w')
theorem ExD.ref {w0:World} {g k:Nat} {A B:World→Prop} {L:Nat→Bool} {w':World} (i:Nat) (hi:i≠k) (h:ExD w0 g k A B L w'):ExD w0 g k A B (updK L i) w':=
 ⟨h.1,by rw[updK_ne (Ne.symm hi)];exact h.2.1,by rw[updK_ne (Ne.symm hi)];exact h.2.2⟩
theorem ExD.low {w0:World} {g k:Nat} {A B:World→Prop} {L:Nat→Bool} {w' ww:World} (i:Nat) (hi:i≠k) (h:ExD w0 g k A B L w') (hA:A w'→A ww) (hB:B w'→B ww) (b:Below w'.heap.size w' ww):ExD w0 g k A B (updK L i) ww:=
 ⟨h.1.trans (WrH.of_below b),by rw[updK_ne (Ne.symm hi)];exact fun q=>hA (h.2.1 q),by rw[updK_ne (Ne.symm hi)];exact fun q=>hB (h.2.2 q)⟩
theorem wp_loadE {w:World} {o:Oper} {a:Act} {K:Act→World→Prop} {Q:Exit→Act→World→Prop} (x:Operand) (ho:o.op=.load 141 x)
  (g p:Nat) (es:List Int) (hx:a.eval x=.pointer (some ⟨g,p,none⟩)) (h:EAt w g p es) (hK:K (a.put o.dst (.agg (es.map (Value.int .u64)).toArray)) w):o.wp Tryz.prog a w K Q:=by
 have hr:w.rangeAt g p (es.map (Value.int .u64)):=fun j v hv=>by
  have hj:j<es.length:=by have:=(List.getElem?_eq_some_iff.1 hv).1;simpa using this
  rw[h.2.2 j (by have:=h.2.1.1;omega)];simp[hj] at hv;simp[hj,hv]
 have hl:=h.2.1.1;exact wp_load_mid 141 x ho g p hx (es.map (Value.int .u64)) _ hr Tryz.underlying141 rfl (by rw[Tryz.sizeEl];simp[hl]) hK
theorem wp_midT {w:World} {g:Nat} {x y z t:List Int} {o:Oper} {a:Act} {K:Act→World→Prop} {Q:Exit→Act→World→Prop} (pt:Pt w g x y z t) (px py:Operand) (ho:o.op=.store 141 px py)
  (es:List Int) (hx:a.eval px=.pointer (some ⟨g,15,none⟩)) (hy:a.eval py=.agg (es.map (Value.int .u64)).toArray) (hk:EOk es)
  (hK:∀ w',Pt w' g x y z es→Wr g w w'→K (a.put o.dst undef) w'):o.wp Tryz.prog a w K Q:=by
 have hsz:((es.map (Value.int .u64)).toArray).size=5:=by simp[hk.1]
 have hl:(pl x y z t).length=20:=by unfold pl;simp[pt.x.1,pt.y.1,pt.z.1,pt.t.1]
 refine wp_store_mid 141 px py ho g 15 ((es.map (Value.int .u64)).toArray) hx hy (by rw[hsz];exact fun j hj=>⟨by rw[pt.row.cell (15+j) (by omega)];rfl,pt.row.frozen _⟩) (sizeEl hk.1) (all_oneCell_toArray (ints_oneCell _ _)) (hK _ ?_ (Wr.setCells _ _ 15 (Wr.refl _ _)));have hr:=RowW.setCells es (pl x y z t) w 15 pt.row;rw[over_t pt.x.1 pt.y.1 pt.z.1 pt.t.1 hk.1] at hr;exact⟨hr,pt.x,pt.y,pt.z,hk⟩
def TG (X Y:Int) (v:Value):Prop:=∃ ts,EOk ts∧ev ts=X*Y%fp∧v=.agg (ts.map (Value.int .u64)).toArray
def dcY (zs:List Int):Int:=val 256 zs%(fp+19)
def dcO (zs:List Int):Bool:=val 256 zs/(fp+19) == 1
def dc1 (zs:List Int):Int:=drX (uF (dcY zs)) (vF (dcY zs))
def dcX (zs:List Int):Int:=if((dc1 zs%2 == 1) != dcO zs)=true then(0-dc1 zs)%fp else dc1 zs
def dcR (zs:List Int):Bool:=zs.length == 32 && decide (dcY zs<fp) && drR (uF (dcY zs)) (vF (dcY zs)) && ((dcX zs%2 == 1) == dcO zs)
def DC (w:World) (g:Nat) (zs:List Int) (e:Ending) (w':World):Prop:=
 ∃ x y z t,Pt w' g x y z t∧WrH g w w'∧e=.returned (.bool (dcR zs))∧(dcR zs=true→ev x=dcX zs∧ev y=dcY zs∧ev z=1∧ev t=dcX zs*dcY zs%fp)
theorem dc_num (a b c d V:Int) (ha:0≤a) (ha':a<18446744073709551616) (hb:0≤b) (hb':b<18446744073709551616) (hc:0≤c) (hc':c<18446744073709551616) (hd:0≤d) (hd':d<18446744073709551616) (hV:val 18446744073709551616 [a,b,c,d]=V) :
  (d/9223372036854775808 == 1)=(V/(fp+19) == 1):=by
 have:d/9223372036854775808=V/(fp+19):=by
  subst hV;simp only[val,fp_lit];omega
 rw[this]
set_option maxHeartbeats 8000000 in
theorem decode_any (g:Nat) (x y z t0:List Int) (p:Option Addr) (n cap:Nat) (zs:List Int) (w:World) (hn:zs.length=n) (hm:n≤1048576) (ha:At .u8 w p zs) (hz:Byte zs) (hp:Pt w g x y z t0) :
  Calls Tryz.prog 103 #[.pointer (some ⟨g,0,none⟩),.slice p n cap] w (DC w g zs):=by
 have HP:=hdI <| hp
 have hlt:=hp.row.lt;by_cases h32:n=32
 ·have h32':((n:Int) == 32)=true:=by rw[h32];rfl
  have H32:Hid (32≤n):=by show _≤_;omega
  have HLN:Hid (zs.length=32):=by show _=_;omega
  have htk:zs.take 32=zs:=List.take_of_length_le (by omega);clear h32;go_enter Tryz.func103,Tryz.ntmps103;go_wp2_with fail;have cl:=nof_any p n cap zs w hn H32.out hm ha hz;refine cl.mono ?_;rintro e w1 ⟨ms,hl,hw,hv,rfl,b1⟩;rw[htk] at hv
  match ms,hl with
  |[a,b,c,d],_=>
  obtain⟨a0,a1⟩:=hw.get 0;obtain⟨b0,b1'⟩:=hw.get 1;obtain⟨c0,c1⟩:=hw.get 2;obtain⟨d0,d1⟩:=hw.get 3;simp only[List.getD_cons_zero,List.getD_cons_succ] at a0 a1 b0 b1' c0 c1 d0 d1;have HO:Hid ((d/9223372036854775808 == 1)=dcO zs):=dc_num a b c d _ a0 a1 b0 b1' c0 c1 d0 d1 hv;have HY:Hid (val B51 (lmb a b c d)=dcY zs):=by
   show _=_
   rw[lmb_val a b c d a0 a1 b0 b1' c0 c1 d0 d1,hv];rfl
  have HP1:Hid (Pt w1 g x y z t0):=HP.out.below b1 hlt;have HW1:Hid (WrH g w w1):=WrH.of_below b1;have HWD:Hid (Wrd [a,b,c,d]):=hw;have HZN:Hid (RowW (w1.alloc (.cells #[.int .u64 0,.int .u64 0,.int .u64 0,.int .u64 0] 146)) w1.heap.size 146 [0,0,0,0]):=heap_alloc_new w1 _;have HSZ:Hid ((Tryz.prog.info? 146).map (·.size)=some (([a,b,c,d].map (Value.int .u64)).toArray).size):=sizeNum rfl;go_wp2_with (first
   |(refine wpList_store_row rfl 146 (.tmp 5) (.tmp 11) rfl w1.heap.size (([a,b,c,d].map (Value.int .u64)).toArray) rfl rfl 146 _ HZN.out HSZ.out rfl (all_oneCell_toArray (ints_oneCell _ _)) ?_)
   |fail)
  have R2:RowW ((w1.alloc (.cells #[.int .u64 0,.int .u64 0,.int .u64 0,.int .u64 0] 146)).setRow w1.heap.size #[.int .u64 a,.int .u64 b,.int .u64 c,.int .u64 d]) w1.heap.size 146 [a,b,c,d]:=HZN.out.setRow [a,b,c,d];have B2:Below w1.heap.size w1 ((w1.alloc (.cells #[.int .u64 0,.int .u64 0,.int .u64 0,.int .u64 0] 146)).setRow w1.heap.size #[.int .u64 a,.int .u64 b,.int .u64 c,.int .u64 d]):=(below_new2 _ _).trans ((Wr.setRow _ _ _).below (Nat.le_refl _));have hlt1:=HP1.out.row.lt;generalize (w1.alloc (.cells #[.int .u64 0,.int .u64 0,.int .u64 0,.int .u64 0] 146)).setRow w1.heap.size #[.int .u64 a,.int .u64 b,.int .u64 c,.int .u64 d]=w2 at *;have HP2:Hid (Pt w2 g x y z t0):=HP1.out.below B2 hlt1;have HW2:Hid (WrH g w w2):=HW1.out.trans (WrH.of_below B2);have HR2:Hid (RowW w2 w1.heap.size 146 [a,b,c,d]):=R2;clear R2 B2 HP1 HW1 HZN;generalize w1.heap.size=Gn at *;go_wp2_with fail;refine(bit255_any Gn [a,b,c,d] _ rfl HR2.out HWD.out).mono ?_;rintro e w2' ⟨rfl,rfl⟩;simp only[List.getD_cons_zero,List.getD_cons_succ];go_wp2_with (first
   |(refine wpList_load_row rfl 146 (.tmp 5) rfl Gn rfl 146 _ (0,0) _ HR2.out Tryz.underlying146 rfl HSZ.out ?_)
   |fail)
  rw[HO.out];refine(elementOf_any a b c d _ a0 a1 b0 b1' c0 c1 d0 d1).mono ?_;rintro e w3 ⟨rfl,b3⟩;have HS3:Hid (RunP w w3 g x y z t0 [] []):=⟨HW2.out.trans (WrH.of_below b3),hlt,HP2.out.below b3 HP2.out.row.lt,by simp,List.Pairwise.nil,by simp⟩
  have HKlm:Hid (EOk (lmb a b c d)∧val B51 (lmb a b c d)=dcY zs):=⟨lmb_ok a b c d,HY.out⟩
  have HLS:Hid (lsE (lmb a b c d)=lmb a b c d↔dcY zs<fp):=by
   show _↔_
   rw[←HY.out];exact lmb_least a b c d
  clear b3 HP2 HW2 HR2 HO HSZ HWD HY;generalize lmb a b c d=ys at *;clear a0 a1 b0 b1' c0 c1 d0 d1;have HKys:Hid (EOk ys∧ev ys=ev ys):=⟨HKlm.out.1,rfl⟩
  go_wp2_with (first
   |(refine wpList_midP HS3.out rfl (.tmp 18) (.tmp 16) rfl 5 (by decide) ys x ys z t0 (over_y HS3.out.pt.x.1 HS3.out.pt.y.1 HKlm.out.1.1) ⟨HS3.out.pt.x,HKlm.out.1,HS3.out.pt.z,HS3.out.pt.t⟩ rfl rfl HKlm.out.1 rfl ?_)
   |fail)
  intro w4 S4;have HS4:Hid (RunP w w4 g x ys z t0 [] []):=S4;clear S4 HS3;have HA:Hid (∀(w' ww:World),Below w'.heap.size w' ww→Pt w' g x ys z t0→Pt ww g x ys z t0):=fun w' ww b h=>h.below b h.row.lt
  have hyl:=HKys.out.1.1;have hll:=lsE_len ys;by_cases hle:lsE ys=ys
  ·have HQ:Hid (decide (ys=lsE ys)=true):=decide_eq_true hle.symm;have HYL:Hid (dcY zs<fp):=HLS.out.1 hle;have HEV:Hid (ev ys=dcY zs):=by
    show _=_
    have:=(lsE_all HKys.out.1).2.2;rw[hle,HKlm.out.2] at this;exact this.symm
   clear hle;have EX0:Hid (ExD w g 11 (fun w1=>Pt w1 g x ys z t0) (fun w1=>∃ xs,EOk xs∧ev xs=dc1 zs∧Pt w1 g xs ys z t0) (fun n=>(Array.replicate 14 false).getD n false) w4.drew):=⟨HS4.out.wrh.trans (WrH.of_below (Below.refl _ _).drew),fun _=>⟨HS4.out.pt.row,HS4.out.pt.x,HS4.out.pt.y,HS4.out.pt.z,HS4.out.pt.t⟩,fun q=>absurd q (by simp)⟩
   have HB:Hid (∀(w' ww:World),Below w'.heap.size w' ww→(∃ xs,EOk xs∧ev xs=dc1 zs∧Pt w' g xs ys z t0)→(∃ xs,EOk xs∧ev xs=dc1 zs∧Pt ww g xs ys z t0)):=fun w' ww b ⟨xs,h1,h2,h⟩=>⟨xs,h1,h2,h.below b h.row.lt⟩
   have REF:Hid (∀ i,i≠11→∀(L:Nat→Bool) (w':World),ExD w g 11 (fun w1=>Pt w1 g x ys z t0) (fun w1=>∃ xs,EOk xs∧ev xs=dc1 zs∧Pt w1 g xs ys z t0) L w'→ExD w g 11 (fun w1=>Pt w1 g x ys z t0) (fun w1=>∃ xs,EOk xs∧ev xs=dc1 zs∧Pt w1 g xs ys z t0) (updK L i) w'):=fun i hi L w' h=>ExD.ref i hi h
   have YY:Hid (∀(L:Nat→Bool) (w':World),ExD w g 11 (fun w1=>Pt w1 g x ys z t0) (fun w1=>∃ xs,EOk xs∧ev xs=dc1 zs∧Pt w1 g xs ys z t0) L w'→EAt w' g 5 ys):=fun L w' h=>by
    cases hL:L 11
    ·exact(h.2.1 hL).ey
    ·obtain⟨_,_,_,q⟩:=h.2.2 hL;exact q.ey
   go_wp2;refine wp_region_any (by kernel_rfl) ?_;refine wpAny_slotsG (fun _ _ _=>True) (frame:=(fun (a b c d e f g h i j k l m n o p q r s u v w x y z A B C D E F G H I J K L M N O P Q R S T U V W X Y Z a0:Value)=>fun (t:Nat→Value)=>({ tmps:=List.toArray [a,b,c,d,e,f,g,h,i,j,k,l,m,n,o,p,q,r,s,t 0,t 1,t 2,t 3,t 4,t 5,t 6,t 7,t 8,t 9,t 10,t 11,t 12,t 13,u,v,w,x,y,z,A,B,C,D,E,F,G,H,I,J,K,L,M,N,O,P,Q,R,S,T,U,V,W,X,Y,Z,a0],defers:=[] }:Act)) _ _ _ _ _ _ _ _ _ _ _ _ _ _ _ _ _ _ _ _ _ _ _ _ _ _ _ _ _ _ _ _ _ _ _ _ _ _ _ _ _ _ _ _ _ _ _ _ _ _ _ _)
    (Ext:=fun L w'=>ExD w g 11 (fun w1=>Pt w1 g x ys z t0) (fun w1=>∃ xs,EOk xs∧ev xs=dc1 zs∧Pt w1 g xs ys z t0) L w') (Good:=fun i L _ v=>if i=0 then v=.pointer (some ⟨g,0,none⟩) else if i=1 then v=.pointer (some ⟨g,0,none⟩) else if i=2 then v=.pointer (some ⟨g,5,none⟩) else if i=3 then v=.agg (ys.map (Value.int .u64)).toArray else if i=4 then v=.pointer (some ⟨g,0,none⟩) else if i=5 then v=.pointer (some ⟨g,0,none⟩) else if i=6 then v=.pointer (some ⟨g,5,none⟩) else if i=7 then v=.agg ((lsE ys).map (Value.int .u64)).toArray else if i=8 then v=.bool false else if i=9 then v=.bool false else if i=10 then v=.pointer (some ⟨g,0,none⟩) else if i=11 then v=.bool (drR (uF (dcY zs)) (vF (dcY zs)))∧L 11=true else if i=12 then v=.bool (!(drR (uF (dcY zs)) (vF (dcY zs)))) else if i=13 then v=.bool (!(drR (uF (dcY zs)) (vF (dcY zs)))) else True) ?hstab (by kernel_rfl) ?hop ?hdone _ _ ((fun (x0 x1 x2 x3 x4 x5 x6 x7 x8 x9 x10 x11 x12 x13:Value)=>fun (i:Nat)=>if i=0 then x0 else if i=1 then x1 else if i=2 then x2 else if i=3 then x3 else if i=4 then x4 else if i=5 then x5 else if i=6 then x6 else if i=7 then x7 else if i=8 then x8 else if i=9 then x9 else if i=10 then x10 else if i=11 then x11 else if i=12 then x12 else if i=13 then x13 else undef) _ _ _ _ _ _ _ _ _ _ _ _ _ _) _ (by simp) ?ext ?start (by simp)
   case start=>intro i hi h;exact absurd h (by rw[Array.getD_eq_getD_getElem?,Array.getElem?_replicate];split<;>simp)
   case ext=>exact EX0.out
   case hstab=>
    intro j L w w' i v _ _ _ h;by_cases hj:j=11
    ·subst hj;simp at h ⊢;exact⟨h.1,by unfold updK;simp[h.2]⟩
    ·simp only[if_neg hj] at h ⊢;exact h
   case hop=>
    intro i o L t w' ho hLi hx hdep K hK;have hi:i<14:=(Array.getElem?_eq_some_iff.1 ho).1;obtain rfl|rfl|rfl|rfl|rfl|rfl|rfl|rfl|rfl|rfl|rfl|rfl|rfl|rfl:i=0∨i=1∨i=2∨i=3∨i=4∨i=5∨i=6∨i=7∨i=8∨i=9∨i=10∨i=11∨i=12∨i=13:=by omega
    all_goals(simp at ho;subst ho)
    ·clear hdep;have hK':=hK w' (.pointer (some ⟨g,0,none⟩)) (by simp) (REF.out 0 (by decide) L w' hx) trivial;clear hK;rw[if_pos (by rfl)];go_simp;simpa[upd] using hK'
    ·have d0:t 0=.pointer (some ⟨g,0,none⟩):=by simpa using hdep ⟨0,.data⟩ (by simp) rfl
     clear hdep;have hK':=hK w' (.pointer (some ⟨g,0,none⟩)) (by simp) (REF.out 1 (by decide) L w' hx) trivial;clear hK;rw[if_pos (by rfl)];go_simp;simpa[upd,d0] using hK'
    ·have d1:t 1=.pointer (some ⟨g,0,none⟩):=by simpa using hdep ⟨1,.data⟩ (by simp) rfl
     clear hdep;have hK':=hK w' (.pointer (some ⟨g,5,none⟩)) (by simp) (REF.out 2 (by decide) L w' hx) trivial;clear hK;rw[if_pos (by rfl)];go_simp;simpa[upd,d1] using hK'
    ·have d2:t 2=.pointer (some ⟨g,5,none⟩):=by simpa using hdep ⟨2,.data⟩ (by simp) rfl
     clear hdep;have hK':=hK w' (.agg (ys.map (Value.int .u64)).toArray) (by simp) (REF.out 3 (by decide) L w' hx) trivial;have ex:=YY.out L w' hx;clear hK;rw[if_pos (by rfl)];refine wp_loadE (.tmp 21) rfl g 5 ys (show t 2=_ from d2) ex ?_;go_simp;simpa[upd,d2] using hK'
    ·clear hdep;have hK':=hK w' (.pointer (some ⟨g,0,none⟩)) (by simp) (REF.out 4 (by decide) L w' hx) trivial;clear hK;rw[if_pos (by rfl)];go_simp;simpa[upd] using hK'
    ·have d4:t 4=.pointer (some ⟨g,0,none⟩):=by simpa using hdep ⟨4,.data⟩ (by simp) rfl
     clear hdep;have hK':=hK w' (.pointer (some ⟨g,0,none⟩)) (by simp) (REF.out 5 (by decide) L w' hx) trivial;clear hK;rw[if_pos (by rfl)];go_simp;simpa[upd,d4] using hK'
    ·have d5:t 5=.pointer (some ⟨g,0,none⟩):=by simpa using hdep ⟨5,.data⟩ (by simp) rfl
     clear hdep;have hK':=hK w' (.pointer (some ⟨g,5,none⟩)) (by simp) (REF.out 6 (by decide) L w' hx) trivial;clear hK;rw[if_pos (by rfl)];go_simp;simpa[upd,d5] using hK'
    ·have d6:t 6=.pointer (some ⟨g,5,none⟩):=by simpa using hdep ⟨6,.data⟩ (by simp) rfl
     clear hdep;have A:=leastE_any g 5 ys w' (YY.out L w' hx);have hK':∀ ww,Below w'.heap.size w' ww→K _ ww:=fun ww b=>hK ww (.agg ((lsE ys).map (Value.int .u64)).toArray) (by simp) (ExD.low 7 (by decide) hx (fun q=>HA.out _ _ b q) (fun q=>HB.out _ _ b q) b) trivial
     clear hK;rw[if_pos (by rfl)];go_simp;refine A.mono ?_;rintro e w9 ⟨rfl,hb⟩;have hK2:=hK' w9 hb;clear hK' A hb;go_simp;simpa[upd,d6] using hK2
    ·have d3:t 3=.agg (ys.map (Value.int .u64)).toArray:=by simpa using hdep ⟨3,.data⟩ (by simp) rfl
     have d7:t 7=.agg ((lsE ys).map (Value.int .u64)).toArray:=by simpa using hdep ⟨7,.data⟩ (by simp) rfl
     clear hdep;have hK':=hK w' (.bool false) (by simp) (REF.out 8 (by decide) L w' hx) trivial;clear hK;rw[if_pos (by rfl)];go_simp;simp only[run_eqW _ 9998 5 141 Tryz.underlying141 ys (lsE ys) hyl hll,HQ.out,Result.andThen_ok];go_simp;simpa[upd,d3,d7] using hK'
    ·have d8:t 8=.bool false:=by simpa using hdep ⟨8,.data⟩ (by simp) rfl
     clear hdep;have hK':=hK w' (.bool false) (by simp) (REF.out 9 (by decide) L w' hx) trivial;clear hK;rw[if_pos (by rfl)];go_simp;simpa[upd,d8] using hK'
    ·have d9:t 9=.bool false:=by simpa using hdep ⟨9,.guard⟩ (by simp) rfl
     clear hdep;have hK':=hK w' (.pointer (some ⟨g,0,none⟩)) (by simp) (REF.out 10 (by decide) L w' hx) trivial;clear hK;rw[if_pos (by simp[Region.wanted,yielded,d9])];go_simp;simpa[upd,d9] using hK'
    ·have d10:t 10=.pointer (some ⟨g,0,none⟩):=by simpa using hdep ⟨10,.data⟩ (by simp) rfl
     have d9:t 9=.bool false:=by simpa using hdep ⟨9,.guard⟩ (by simp) rfl
     clear hdep;have A:=findX_any g x ys z t0 w' (hx.2.1 hLi);rw[HEV.out] at A;have hK':∀ ww,(∃ xs,EOk xs∧ev xs=dc1 zs∧Pt ww g xs ys z t0)→WrH g w' ww→K _ ww:=fun ww hq hw=>hK ww (.bool (drR (uF (dcY zs)) (vF (dcY zs)))) (by simp[updK]) ⟨hx.1.trans hw,fun q=>absurd q (by rw[updK_same];decide),fun _=>hq⟩ trivial
     clear hK;rw[if_pos (by simp[Region.wanted,yielded,d9])];go_simp;refine A.mono ?_;rintro e w9 ⟨xs,hk,rfl,hv,hp,hw⟩;have hK2:=hK' w9 ⟨xs,hk,hv,hp⟩ hw;clear hK' A hk hv hp hw;go_simp;simpa[upd,d9,d10] using hK2
    ·have d11:t 11=.bool (drR (uF (dcY zs)) (vF (dcY zs)))∧L 11=true:=by simpa using hdep ⟨11,.data⟩ (by simp) rfl
     have d9:t 9=.bool false:=by simpa using hdep ⟨9,.guard⟩ (by simp) rfl
     clear hdep;have hK':=hK w' (.bool (!(drR (uF (dcY zs)) (vF (dcY zs))))) (by simp) (REF.out 12 (by decide) L w' hx) trivial;clear hK;rw[if_pos (by simp[Region.wanted,yielded,d9])];go_simp;simpa[upd,d9,d11] using hK'
    ·have d9:t 9=.bool false:=by simpa using hdep ⟨9,.data⟩ (by simp) rfl
     have d12:t 12=.bool (!(drR (uF (dcY zs)) (vF (dcY zs)))):=by simpa using hdep ⟨12,.data⟩ (by simp) rfl
     clear hdep;have hK':=hK w' (.bool (!(drR (uF (dcY zs)) (vF (dcY zs))))) (by simp) (REF.out 13 (by decide) L w' hx) trivial;clear hK;rw[if_pos (by rfl)];go_simp;simpa[upd,d9,d12] using hK'
   case hdone=>
    intro L t w' hx hg;have d0:t 0=.pointer (some ⟨g,0,none⟩):=by simpa using hg 0 (by decide)
    have d1:t 1=.pointer (some ⟨g,0,none⟩):=by simpa using hg 1 (by decide)
    have d2:t 2=.pointer (some ⟨g,5,none⟩):=by simpa using hg 2 (by decide)
    have d3:t 3=.agg (ys.map (Value.int .u64)).toArray:=by simpa using hg 3 (by decide)
    have d4:t 4=.pointer (some ⟨g,0,none⟩):=by simpa using hg 4 (by decide)
    have d5:t 5=.pointer (some ⟨g,0,none⟩):=by simpa using hg 5 (by decide)
    have d6:t 6=.pointer (some ⟨g,5,none⟩):=by simpa using hg 6 (by decide)
    have d7:t 7=.agg ((lsE ys).map (Value.int .u64)).toArray:=by simpa using hg 7 (by decide)
    have d8:t 8=.bool false:=by simpa using hg 8 (by decide)
    have d9:t 9=.bool false:=by simpa using hg 9 (by decide)
    have d10:t 10=.pointer (some ⟨g,0,none⟩):=by simpa using hg 10 (by decide)
    have d11:t 11=.bool (drR (uF (dcY zs)) (vF (dcY zs)))∧L 11=true:=by simpa using hg 11 (by decide)
    have d12:t 12=.bool (!(drR (uF (dcY zs)) (vF (dcY zs)))):=by simpa using hg 12 (by decide)
    have d13:t 13=.bool (!(drR (uF (dcY zs)) (vF (dcY zs)))):=by simpa using hg 13 (by decide)
    clear hg;obtain⟨xs,hk,hv,hpt⟩:=hx.2.2 d11.2;have HS5:Hid (RunP w w' g xs ys z t0 [] []):=⟨hx.1,hlt,hpt,by simp,List.Pairwise.nil,by simp⟩
    have HKxs:Hid (EOk xs∧ev xs=dc1 zs):=⟨hk,hv⟩
    clear hx HS4 HA EX0 REF YY HQ HB hk hv hpt;dsimp only;rw[d0,d1,d2,d3,d4,d5,d6,d7,d8,d9,d10,d11.1,d12,d13];clear d0 d1 d2 d3 d4 d5 d6 d7 d8 d9 d10 d11 d12 d13;cases hr:drR (uF (dcY zs)) (vF (dcY zs))
    ·have HDR:Hid (dcR zs=false):=by
      show _=_
      unfold dcR;rw[hr];simp
     clear hr;go_wp2
     go_ret
     refine⟨xs,ys,z,t0,HS5.out.pt,HS5.out.wrh,by rw[HDR.out];rfl,fun h=>?_⟩;rw[HDR.out] at h;cases h
    ·have HDR:Hid (dcR zs=((dcX zs%2 == 1) == dcO zs)):=by
      show _=_
      unfold dcR;rw[hr,decide_eq_true HYL.out,show(zs.length == 32)=true from by rw[HLN.out];rfl];simp
     clear hr;go_wp2_with fail;refine(isOdd_any g 0 xs _ HS5.out.pt.ex).mono ?_;rintro e w6 ⟨rfl,b⟩;rw[HKxs.out.2];have HS6:Hid (RunP w w6 g xs ys z t0 [] []):=HS5.out.call b;have HXD:Hid (dcX zs=if((dc1 zs%2 == 1) != dcO zs)=true then(0-dc1 zs)%fp else dc1 zs):=rfl;obtain⟨od,hod⟩:∃ od,od=dcO zs:=⟨_,rfl⟩
     obtain⟨o1,ho1⟩:∃ o1,o1=(dc1 zs%2 == 1):=⟨_,rfl⟩
     rw[←hod,←ho1];have HOD:=hdI <| hod
     have HXE:Hid (dcX zs=if(o1 != od)=true then(0-dc1 zs)%fp else dc1 zs):=by
      show _=_
      rw[HXD.out,←hod,←ho1]
     clear hod ho1 HXD;cases od
     ·cases o1
      ·have HKns:Hid (EOk xs∧ev xs=dcX zs):=⟨HKxs.out.1,by rw[HKxs.out.2,HXE.out];rfl⟩
       have HS8:=hdI <| HS6.out
       clear HS6 HKxs;generalize hxn:xs=ns at *;clear hxn;go_wp2_with (first
        |(refine wpList_midP HS8.out rfl (.tmp 49) (.tmp 47) rfl 10 (by decide) oneL ns ys oneL t0 (over_z HS8.out.pt.x.1 HS8.out.pt.y.1 HS8.out.pt.z.1 one_ok.1) ⟨HS8.out.pt.x,HS8.out.pt.y,one_ok,HS8.out.pt.t⟩ rfl rfl one_ok rfl ?_)
        |fail)
       intro wa Sa;have HSa:=hdI <| Sa
       have EX0:Hid (ExD w g 10 (fun w1=>Pt w1 g ns ys oneL t0) (fun w1=>∃ ts,EOk ts∧ev ts=ev ns*ev ys%fp∧Pt w1 g ns ys oneL ts) (fun n=>(Array.replicate 11 false).getD n false) wa.drew):=⟨HSa.out.wrh.trans (WrH.of_below (Below.refl _ _).drew),fun _=>⟨HSa.out.pt.row,HSa.out.pt.x,HSa.out.pt.y,HSa.out.pt.z,HSa.out.pt.t⟩,fun q=>absurd q (by simp)⟩
       have HA:Hid (∀(w' ww:World),Below w'.heap.size w' ww→Pt w' g ns ys oneL t0→Pt ww g ns ys oneL t0):=fun w' ww b h=>h.below b h.row.lt
       have HB:Hid (∀(w' ww:World),Below w'.heap.size w' ww→(∃ ts,EOk ts∧ev ts=ev ns*ev ys%fp∧Pt w' g ns ys oneL ts)→(∃ ts,EOk ts∧ev ts=ev ns*ev ys%fp∧Pt ww g ns ys oneL ts)):=fun w' ww b ⟨ts,h1,h2,h⟩=>⟨ts,h1,h2,h.below b h.row.lt⟩
       have REF:Hid (∀ i,i≠10→∀(L:Nat→Bool) (w':World),ExD w g 10 (fun w1=>Pt w1 g ns ys oneL t0) (fun w1=>∃ ts,EOk ts∧ev ts=ev ns*ev ys%fp∧Pt w1 g ns ys oneL ts) L w'→ExD w g 10 (fun w1=>Pt w1 g ns ys oneL t0) (fun w1=>∃ ts,EOk ts∧ev ts=ev ns*ev ys%fp∧Pt w1 g ns ys oneL ts) (updK L i) w'):=fun i hi L w' h=>ExD.ref i hi h
       have YY:Hid (∀(L:Nat→Bool) (w':World),ExD w g 10 (fun w1=>Pt w1 g ns ys oneL t0) (fun w1=>∃ ts,EOk ts∧ev ts=ev ns*ev ys%fp∧Pt w1 g ns ys oneL ts) L w'→EAt w' g 0 ns∧EAt w' g 5 ys):=fun L w' h=>by
        cases hL:L 10
        ·exact⟨(h.2.1 hL).ex,(h.2.1 hL).ey⟩
        ·obtain⟨_,_,_,q⟩:=h.2.2 hL;exact⟨q.ex,q.ey⟩
       go_wp2;refine wp_region_any (by kernel_rfl) ?_;refine wpAny_slotsG (fun _ _ _=>True) (frame:=(fun (a b c d e f g h i j k l m n o p q r s u v w x y z A B C D E F G H I J K L M N O P Q R S T U V W X Y Z a0 a1 a2 a3 a4:Value)=>fun (t:Nat→Value)=>({ tmps:=List.toArray [a,b,c,d,e,f,g,h,i,j,k,l,m,n,o,p,q,r,s,u,v,w,x,y,z,A,B,C,D,E,F,G,H,I,J,K,L,M,N,O,P,Q,R,S,T,U,V,W,X,Y,t 0,t 1,t 2,t 3,t 4,t 5,t 6,t 7,t 8,t 9,Z,a0,a1,a2,a3,a4],defers:=[] }:Act)) _ _ _ _ _ _ _ _ _ _ _ _ _ _ _ _ _ _ _ _ _ _ _ _ _ _ _ _ _ _ _ _ _ _ _ _ _ _ _ _ _ _ _ _ _ _ _ _ _ _ _ _ _ _ _ _)
        (Ext:=fun L w'=>ExD w g 10 (fun w1=>Pt w1 g ns ys oneL t0) (fun w1=>∃ ts,EOk ts∧ev ts=ev ns*ev ys%fp∧Pt w1 g ns ys oneL ts) L w') (Good:=fun i L _ v=>if i=0 then v=.pointer (some ⟨g,0,none⟩) else if i=1 then v=.pointer (some ⟨g,0,none⟩) else if i=2 then v=.pointer (some ⟨g,0,none⟩) else if i=3 then v=.pointer (some ⟨g,0,none⟩) else if i=4 then v=.pointer (some ⟨g,0,none⟩) else if i=5 then v=.pointer (some ⟨g,0,none⟩) else if i=6 then v=.pointer (some ⟨g,5,none⟩) else if i=7 then TG (ev ns) (ev ys) (v) else if i=8 then v=.pointer (some ⟨g,0,none⟩) else if i=9 then v=.pointer (some ⟨g,15,none⟩) else if i=10 then v=undef∧L 10=true else True) ?hstab (by kernel_rfl) ?hop ?hdone _ _ ((fun (x0 x1 x2 x3 x4 x5 x6 x7 x8 x9:Value)=>fun (i:Nat)=>if i=0 then x0 else if i=1 then x1 else if i=2 then x2 else if i=3 then x3 else if i=4 then x4 else if i=5 then x5 else if i=6 then x6 else if i=7 then x7 else if i=8 then x8 else if i=9 then x9 else undef) _ _ _ _ _ _ _ _ _ _) _ (by simp) ?ext ?start (by simp)
       case start=>intro i hi h;exact absurd h (by rw[Array.getD_eq_getD_getElem?,Array.getElem?_replicate];split<;>simp)
       case ext=>exact EX0.out
       case hstab=>
        intro j L w w' i v _ _ _ h;by_cases hj:j=10
        ·subst hj;simp at h ⊢;exact⟨h.1,by unfold updK;simp[h.2]⟩
        ·simp only[if_neg hj] at h ⊢;exact h
       case hop=>
        intro i o L t w' ho hLi hx hdep K hK;have hi:i<11:=(Array.getElem?_eq_some_iff.1 ho).1;obtain rfl|rfl|rfl|rfl|rfl|rfl|rfl|rfl|rfl|rfl|rfl:i=0∨i=1∨i=2∨i=3∨i=4∨i=5∨i=6∨i=7∨i=8∨i=9∨i=10:=by omega
        all_goals(simp at ho;subst ho)
        all_goals try(have hK':=hK w' _ rfl (REF.out _ (by decide) L w' hx) trivial;clear hK;simp[Region.binds] at hdep;rw[if_pos (by rfl)];go_simp;simpa[upd,hdep] using hK';done)
        ·have d3:t 3=.pointer (some ⟨g,0,none⟩):=by simpa using hdep ⟨3,.data⟩ (by simp) rfl
         have d6:t 6=.pointer (some ⟨g,5,none⟩):=by simpa using hdep ⟨6,.data⟩ (by simp) rfl
         have A:=times_any g 0 g 5 ns ys w' (YY.out L w' hx).1 (YY.out L w' hx).2;have hK':∀ ww ts,EOk ts→ev ts=ev ns*ev ys%fp→Below w'.heap.size w' ww→K _ ww:=fun ww ts h1 h2 b=>hK ww (.agg (ts.map (Value.int .u64)).toArray) (by simp;exact⟨ts,h1,h2,rfl⟩) (ExD.low 7 (by decide) hx (fun q=>HA.out _ _ b q) (fun q=>HB.out _ _ b q) b) trivial
         rw[if_pos (by rfl)];go_simp;refine A.mono ?_;rintro e w9 ⟨ts,h1,h2,rfl,hb⟩;have hK2:=hK' w9 ts h1 h2 hb;go_simp;simpa[upd,d3,d6] using hK2
        ·have d9:t 9=.pointer (some ⟨g,15,none⟩):=by simpa using hdep ⟨9,.data⟩ (by simp) rfl
         have d7:TG (ev ns) (ev ys) (t 7):=by simpa using hdep ⟨7,.data⟩ (by simp) rfl
         obtain⟨ts,h1,h2,h3⟩:=d7;rw[if_pos (by rfl)];refine wp_midT (hx.2.1 hLi) (.tmp 59) (.tmp 57) rfl ts (show t 9=_ from d9) (show t 7=_ from h3) h1 ?_;intro ww hp hw;have hK':=hK ww undef (by simp[updK]) ⟨hx.1.trans hw.wrH,fun q=>absurd q (by rw[updK_same];decide),fun _=>⟨ts,h1,h2,hp⟩⟩ trivial;go_simp;simpa[upd,d9,h3] using hK'
       case hdone=>
        intro L t w' hx hg;have d0:t 0=.pointer (some ⟨g,0,none⟩):=by simpa using hg 0 (by decide)
        have d1:t 1=.pointer (some ⟨g,0,none⟩):=by simpa using hg 1 (by decide)
        have d2:t 2=.pointer (some ⟨g,0,none⟩):=by simpa using hg 2 (by decide)
        have d3:t 3=.pointer (some ⟨g,0,none⟩):=by simpa using hg 3 (by decide)
        have d4:t 4=.pointer (some ⟨g,0,none⟩):=by simpa using hg 4 (by decide)
        have d5:t 5=.pointer (some ⟨g,0,none⟩):=by simpa using hg 5 (by decide)
        have d6:t 6=.pointer (some ⟨g,5,none⟩):=by simpa using hg 6 (by decide)
        have d7:TG (ev ns) (ev ys) (t 7):=by simpa using hg 7 (by decide)
        have d8:t 8=.pointer (some ⟨g,0,none⟩):=by simpa using hg 8 (by decide)
        have d9:t 9=.pointer (some ⟨g,15,none⟩):=by simpa using hg 9 (by decide)
        have d10:t 10=undef∧L 10=true:=by simpa using hg 10 (by decide)
        obtain⟨ts,hk,hv,hpt⟩:=hx.2.2 d10.2;obtain⟨ts',_,_,e7⟩:=d7;have HSb:Hid (RunP w w' g ns ys oneL ts [] []):=⟨hx.1,hlt,hpt,by simp,List.Pairwise.nil,by simp⟩
        have HKts:Hid (EOk ts∧ev ts=dcX zs*dcY zs%fp):=⟨hk,by rw[hv,HKns.out.2,HEV.out]⟩
        dsimp only;rw[d0,d1,d2,d3,d4,d5,d6,e7,d8,d9];go_wp2_with fail;refine(isOdd_any g 0 ns _ HSb.out.pt.ex).mono ?_;rintro e wc ⟨rfl,b⟩;rw[HKns.out.2];have HSc:=hdI <| HSb.out.call b
        obtain⟨o2,ho2⟩:∃ o2,o2=(dcX zs%2 == 1):=⟨_,rfl⟩
        rw[←ho2];have HDD:Hid (dcR zs=(o2 == false)):=by
         show _=_
         rw[HDR.out,←ho2,←HOD.out]
        clear ho2;go_wp2
        go_ret
        exact⟨ns,ys,oneL,ts,HSc.out.pt,HSc.out.wrh,by rw[HDD.out];cases o2<;>rfl,fun _=>⟨HKns.out.2,HEV.out,by decide,HKts.out.2⟩⟩
      ·go_wp2_with fail;refine(negated_any g 0 xs _ HS6.out.pt.ex).mono ?_;rintro e w7 ⟨ns,hk,hv,rfl,b⟩;have HKns:Hid (EOk ns∧ev ns=dcX zs):=⟨hk,by rw[hv,HKxs.out.2,HXE.out];rfl⟩
       have HS7:=hdI <| HS6.out.call b
       clear hk hv b HS6;go_wp2_with (first
        |(refine wpList_midP HS7.out rfl (.tmp 45) (.tmp 43) rfl 0 (by decide) ns ns ys z t0 (over_x HS7.out.pt.x.1 HKns.out.1.1) ⟨HKns.out.1,HS7.out.pt.y,HS7.out.pt.z,HS7.out.pt.t⟩ rfl rfl HKns.out.1 rfl ?_)
        |fail)
       intro w8 S8;have HS8:=hdI <| S8
       clear S8 HS7;go_wp2_with (first
        |(refine wpList_midP HS8.out rfl (.tmp 49) (.tmp 47) rfl 10 (by decide) oneL ns ys oneL t0 (over_z HS8.out.pt.x.1 HS8.out.pt.y.1 HS8.out.pt.z.1 one_ok.1) ⟨HS8.out.pt.x,HS8.out.pt.y,one_ok,HS8.out.pt.t⟩ rfl rfl one_ok rfl ?_)
        |fail)
       intro wa Sa;have HSa:=hdI <| Sa
       have EX0:Hid (ExD w g 10 (fun w1=>Pt w1 g ns ys oneL t0) (fun w1=>∃ ts,EOk ts∧ev ts=ev ns*ev ys%fp∧Pt w1 g ns ys oneL ts) (fun n=>(Array.replicate 11 false).getD n false) wa.drew):=⟨HSa.out.wrh.trans (WrH.of_below (Below.refl _ _).drew),fun _=>⟨HSa.out.pt.row,HSa.out.pt.x,HSa.out.pt.y,HSa.out.pt.z,HSa.out.pt.t⟩,fun q=>absurd q (by simp)⟩
       have HA:Hid (∀(w' ww:World),Below w'.heap.size w' ww→Pt w' g ns ys oneL t0→Pt ww g ns ys oneL t0):=fun w' ww b h=>h.below b h.row.lt
       have HB:Hid (∀(w' ww:World),Below w'.heap.size w' ww→(∃ ts,EOk ts∧ev ts=ev ns*ev ys%fp∧Pt w' g ns ys oneL ts)→(∃ ts,EOk ts∧ev ts=ev ns*ev ys%fp∧Pt ww g ns ys oneL ts)):=fun w' ww b ⟨ts,h1,h2,h⟩=>⟨ts,h1,h2,h.below b h.row.lt⟩
       have REF:Hid (∀ i,i≠10→∀(L:Nat→Bool) (w':World),ExD w g 10 (fun w1=>Pt w1 g ns ys oneL t0) (fun w1=>∃ ts,EOk ts∧ev ts=ev ns*ev ys%fp∧Pt w1 g ns ys oneL ts) L w'→ExD w g 10 (fun w1=>Pt w1 g ns ys oneL t0) (fun w1=>∃ ts,EOk ts∧ev ts=ev ns*ev ys%fp∧Pt w1 g ns ys oneL ts) (updK L i) w'):=fun i hi L w' h=>ExD.ref i hi h
       have YY:Hid (∀(L:Nat→Bool) (w':World),ExD w g 10 (fun w1=>Pt w1 g ns ys oneL t0) (fun w1=>∃ ts,EOk ts∧ev ts=ev ns*ev ys%fp∧Pt w1 g ns ys oneL ts) L w'→EAt w' g 0 ns∧EAt w' g 5 ys):=fun L w' h=>by
        cases hL:L 10
        ·exact⟨(h.2.1 hL).ex,(h.2.1 hL).ey⟩
        ·obtain⟨_,_,_,q⟩:=h.2.2 hL;exact⟨q.ex,q.ey⟩
       go_wp2;refine wp_region_any (by kernel_rfl) ?_;refine wpAny_slotsG (fun _ _ _=>True) (frame:=(fun (a b c d e f g h i j k l m n o p q r s u v w x y z A B C D E F G H I J K L M N O P Q R S T U V W X Y Z a0 a1 a2 a3 a4:Value)=>fun (t:Nat→Value)=>({ tmps:=List.toArray [a,b,c,d,e,f,g,h,i,j,k,l,m,n,o,p,q,r,s,u,v,w,x,y,z,A,B,C,D,E,F,G,H,I,J,K,L,M,N,O,P,Q,R,S,T,U,V,W,X,Y,t 0,t 1,t 2,t 3,t 4,t 5,t 6,t 7,t 8,t 9,Z,a0,a1,a2,a3,a4],defers:=[] }:Act)) _ _ _ _ _ _ _ _ _ _ _ _ _ _ _ _ _ _ _ _ _ _ _ _ _ _ _ _ _ _ _ _ _ _ _ _ _ _ _ _ _ _ _ _ _ _ _ _ _ _ _ _ _ _ _ _)
        (Ext:=fun L w'=>ExD w g 10 (fun w1=>Pt w1 g ns ys oneL t0) (fun w1=>∃ ts,EOk ts∧ev ts=ev ns*ev ys%fp∧Pt w1 g ns ys oneL ts) L w') (Good:=fun i L _ v=>if i=0 then v=.pointer (some ⟨g,0,none⟩) else if i=1 then v=.pointer (some ⟨g,0,none⟩) else if i=2 then v=.pointer (some ⟨g,0,none⟩) else if i=3 then v=.pointer (some ⟨g,0,none⟩) else if i=4 then v=.pointer (some ⟨g,0,none⟩) else if i=5 then v=.pointer (some ⟨g,0,none⟩) else if i=6 then v=.pointer (some ⟨g,5,none⟩) else if i=7 then TG (ev ns) (ev ys) (v) else if i=8 then v=.pointer (some ⟨g,0,none⟩) else if i=9 then v=.pointer (some ⟨g,15,none⟩) else if i=10 then v=undef∧L 10=true else True) ?hstab (by kernel_rfl) ?hop ?hdone _ _ ((fun (x0 x1 x2 x3 x4 x5 x6 x7 x8 x9:Value)=>fun (i:Nat)=>if i=0 then x0 else if i=1 then x1 else if i=2 then x2 else if i=3 then x3 else if i=4 then x4 else if i=5 then x5 else if i=6 then x6 else if i=7 then x7 else if i=8 then x8 else if i=9 then x9 else undef) _ _ _ _ _ _ _ _ _ _) _ (by simp) ?ext ?start (by simp)
       case start=>intro i hi h;exact absurd h (by rw[Array.getD_eq_getD_getElem?,Array.getElem?_replicate];split<;>simp)
       case ext=>exact EX0.out
       case hstab=>
        intro j L w w' i v _ _ _ h;by_cases hj:j=10
        ·subst hj;simp at h ⊢;exact⟨h.1,by unfold updK;simp[h.2]⟩
        ·simp only[if_neg hj] at h ⊢;exact h
       case hop=>
        intro i o L t w' ho hLi hx hdep K hK;have hi:i<11:=(Array.getElem?_eq_some_iff.1 ho).1;obtain rfl|rfl|rfl|rfl|rfl|rfl|rfl|rfl|rfl|rfl|rfl:i=0∨i=1∨i=2∨i=3∨i=4∨i=5∨i=6∨i=7∨i=8∨i=9∨i=10:=by omega
        all_goals(simp at ho;subst ho)
        all_goals try(have hK':=hK w' _ rfl (REF.out _ (by decide) L w' hx) trivial;clear hK;simp[Region.binds] at hdep;rw[if_pos (by rfl)];go_simp;simpa[upd,hdep] using hK';done)
        ·have d3:t 3=.pointer (some ⟨g,0,none⟩):=by simpa using hdep ⟨3,.data⟩ (by simp) rfl
         have d6:t 6=.pointer (some ⟨g,5,none⟩):=by simpa using hdep ⟨6,.data⟩ (by simp) rfl
         have A:=times_any g 0 g 5 ns ys w' (YY.out L w' hx).1 (YY.out L w' hx).2;have hK':∀ ww ts,EOk ts→ev ts=ev ns*ev ys%fp→Below w'.heap.size w' ww→K _ ww:=fun ww ts h1 h2 b=>hK ww (.agg (ts.map (Value.int .u64)).toArray) (by simp;exact⟨ts,h1,h2,rfl⟩) (ExD.low 7 (by decide) hx (fun q=>HA.out _ _ b q) (fun q=>HB.out _ _ b q) b) trivial
         rw[if_pos (by rfl)];go_simp;refine A.mono ?_;rintro e w9 ⟨ts,h1,h2,rfl,hb⟩;have hK2:=hK' w9 ts h1 h2 hb;go_simp;simpa[upd,d3,d6] using hK2
        ·have d9:t 9=.pointer (some ⟨g,15,none⟩):=by simpa using hdep ⟨9,.data⟩ (by simp) rfl
         have d7:TG (ev ns) (ev ys) (t 7):=by simpa using hdep ⟨7,.data⟩ (by simp) rfl
         obtain⟨ts,h1,h2,h3⟩:=d7;rw[if_pos (by rfl)];refine wp_midT (hx.2.1 hLi) (.tmp 59) (.tmp 57) rfl ts (show t 9=_ from d9) (show t 7=_ from h3) h1 ?_;intro ww hp hw;have hK':=hK ww undef (by simp[updK]) ⟨hx.1.trans hw.wrH,fun q=>absurd q (by rw[updK_same];decide),fun _=>⟨ts,h1,h2,hp⟩⟩ trivial;go_simp;simpa[upd,d9,h3] using hK'
       case hdone=>
        intro L t w' hx hg;have d0:t 0=.pointer (some ⟨g,0,none⟩):=by simpa using hg 0 (by decide)
        have d1:t 1=.pointer (some ⟨g,0,none⟩):=by simpa using hg 1 (by decide)
        have d2:t 2=.pointer (some ⟨g,0,none⟩):=by simpa using hg 2 (by decide)
        have d3:t 3=.pointer (some ⟨g,0,none⟩):=by simpa using hg 3 (by decide)
        have d4:t 4=.pointer (some ⟨g,0,none⟩):=by simpa using hg 4 (by decide)
        have d5:t 5=.pointer (some ⟨g,0,none⟩):=by simpa using hg 5 (by decide)
        have d6:t 6=.pointer (some ⟨g,5,none⟩):=by simpa using hg 6 (by decide)
        have d7:TG (ev ns) (ev ys) (t 7):=by simpa using hg 7 (by decide)
        have d8:t 8=.pointer (some ⟨g,0,none⟩):=by simpa using hg 8 (by decide)
        have d9:t 9=.pointer (some ⟨g,15,none⟩):=by simpa using hg 9 (by decide)
        have d10:t 10=undef∧L 10=true:=by simpa using hg 10 (by decide)
        obtain⟨ts,hk,hv,hpt⟩:=hx.2.2 d10.2;obtain⟨ts',_,_,e7⟩:=d7;have HSb:Hid (RunP w w' g ns ys oneL ts [] []):=⟨hx.1,hlt,hpt,by simp,List.Pairwise.nil,by simp⟩
        have HKts:Hid (EOk ts∧ev ts=dcX zs*dcY zs%fp):=⟨hk,by rw[hv,HKns.out.2,HEV.out]⟩
        dsimp only;rw[d0,d1,d2,d3,d4,d5,d6,e7,d8,d9];go_wp2_with fail;refine(isOdd_any g 0 ns _ HSb.out.pt.ex).mono ?_;rintro e wc ⟨rfl,b⟩;rw[HKns.out.2];have HSc:=hdI <| HSb.out.call b
        obtain⟨o2,ho2⟩:∃ o2,o2=(dcX zs%2 == 1):=⟨_,rfl⟩
        rw[←ho2];have HDD:Hid (dcR zs=(o2 == false)):=by
         show _=_
         rw[HDR.out,←ho2,←HOD.out]
        clear ho2;go_wp2
        go_ret
        exact⟨ns,ys,oneL,ts,HSc.out.pt,HSc.out.wrh,by rw[HDD.out];cases o2<;>rfl,fun _=>⟨HKns.out.2,HEV.out,by decide,HKts.out.2⟩⟩
     ·cases o1
      ·go_wp2_with fail;refine(negated_any g 0 xs _ HS6.out.pt.ex).mono ?_;rintro e w7 ⟨ns,hk,hv,rfl,b⟩;have HKns:Hid (EOk ns∧ev ns=dcX zs):=⟨hk,by rw[hv,HKxs.out.2,HXE.out];rfl⟩
       have HS7:=hdI <| HS6.out.call b
       clear hk hv b HS6;go_wp2_with (first
        |(refine wpList_midP HS7.out rfl (.tmp 45) (.tmp 43) rfl 0 (by decide) ns ns ys z t0 (over_x HS7.out.pt.x.1 HKns.out.1.1) ⟨HKns.out.1,HS7.out.pt.y,HS7.out.pt.z,HS7.out.pt.t⟩ rfl rfl HKns.out.1 rfl ?_)
        |fail)
       intro w8 S8;have HS8:=hdI <| S8
       clear S8 HS7;go_wp2_with (first
        |(refine wpList_midP HS8.out rfl (.tmp 49) (.tmp 47) rfl 10 (by decide) oneL ns ys oneL t0 (over_z HS8.out.pt.x.1 HS8.out.pt.y.1 HS8.out.pt.z.1 one_ok.1) ⟨HS8.out.pt.x,HS8.out.pt.y,one_ok,HS8.out.pt.t⟩ rfl rfl one_ok rfl ?_)
        |fail)
       intro wa Sa;have HSa:=hdI <| Sa
       have EX0:Hid (ExD w g 10 (fun w1=>Pt w1 g ns ys oneL t0) (fun w1=>∃ ts,EOk ts∧ev ts=ev ns*ev ys%fp∧Pt w1 g ns ys oneL ts) (fun n=>(Array.replicate 11 false).getD n false) wa.drew):=⟨HSa.out.wrh.trans (WrH.of_below (Below.refl _ _).drew),fun _=>⟨HSa.out.pt.row,HSa.out.pt.x,HSa.out.pt.y,HSa.out.pt.z,HSa.out.pt.t⟩,fun q=>absurd q (by simp)⟩
       have HA:Hid (∀(w' ww:World),Below w'.heap.size w' ww→Pt w' g ns ys oneL t0→Pt ww g ns ys oneL t0):=fun w' ww b h=>h.below b h.row.lt
       have HB:Hid (∀(w' ww:World),Below w'.heap.size w' ww→(∃ ts,EOk ts∧ev ts=ev ns*ev ys%fp∧Pt w' g ns ys oneL ts)→(∃ ts,EOk ts∧ev ts=ev ns*ev ys%fp∧Pt ww g ns ys oneL ts)):=fun w' ww b ⟨ts,h1,h2,h⟩=>⟨ts,h1,h2,h.below b h.row.lt⟩
       have REF:Hid (∀ i,i≠10→∀(L:Nat→Bool) (w':World),ExD w g 10 (fun w1=>Pt w1 g ns ys oneL t0) (fun w1=>∃ ts,EOk ts∧ev ts=ev ns*ev ys%fp∧Pt w1 g ns ys oneL ts) L w'→ExD w g 10 (fun w1=>Pt w1 g ns ys oneL t0) (fun w1=>∃ ts,EOk ts∧ev ts=ev ns*ev ys%fp∧Pt w1 g ns ys oneL ts) (updK L i) w'):=fun i hi L w' h=>ExD.ref i hi h
       have YY:Hid (∀(L:Nat→Bool) (w':World),ExD w g 10 (fun w1=>Pt w1 g ns ys oneL t0) (fun w1=>∃ ts,EOk ts∧ev ts=ev ns*ev ys%fp∧Pt w1 g ns ys oneL ts) L w'→EAt w' g 0 ns∧EAt w' g 5 ys):=fun L w' h=>by
        cases hL:L 10
        ·exact⟨(h.2.1 hL).ex,(h.2.1 hL).ey⟩
        ·obtain⟨_,_,_,q⟩:=h.2.2 hL;exact⟨q.ex,q.ey⟩
       go_wp2;refine wp_region_any (by kernel_rfl) ?_;refine wpAny_slotsG (fun _ _ _=>True) (frame:=(fun (a b c d e f g h i j k l m n o p q r s u v w x y z A B C D E F G H I J K L M N O P Q R S T U V W X Y Z a0 a1 a2 a3 a4:Value)=>fun (t:Nat→Value)=>({ tmps:=List.toArray [a,b,c,d,e,f,g,h,i,j,k,l,m,n,o,p,q,r,s,u,v,w,x,y,z,A,B,C,D,E,F,G,H,I,J,K,L,M,N,O,P,Q,R,S,T,U,V,W,X,Y,t 0,t 1,t 2,t 3,t 4,t 5,t 6,t 7,t 8,t 9,Z,a0,a1,a2,a3,a4],defers:=[] }:Act)) _ _ _ _ _ _ _ _ _ _ _ _ _ _ _ _ _ _ _ _ _ _ _ _ _ _ _ _ _ _ _ _ _ _ _ _ _ _ _ _ _ _ _ _ _ _ _ _ _ _ _ _ _ _ _ _)
        (Ext:=fun L w'=>ExD w g 10 (fun w1=>Pt w1 g ns ys oneL t0) (fun w1=>∃ ts,EOk ts∧ev ts=ev ns*ev ys%fp∧Pt w1 g ns ys oneL ts) L w') (Good:=fun i L _ v=>if i=0 then v=.pointer (some ⟨g,0,none⟩) else if i=1 then v=.pointer (some ⟨g,0,none⟩) else if i=2 then v=.pointer (some ⟨g,0,none⟩) else if i=3 then v=.pointer (some ⟨g,0,none⟩) else if i=4 then v=.pointer (some ⟨g,0,none⟩) else if i=5 then v=.pointer (some ⟨g,0,none⟩) else if i=6 then v=.pointer (some ⟨g,5,none⟩) else if i=7 then TG (ev ns) (ev ys) (v) else if i=8 then v=.pointer (some ⟨g,0,none⟩) else if i=9 then v=.pointer (some ⟨g,15,none⟩) else if i=10 then v=undef∧L 10=true else True) ?hstab (by kernel_rfl) ?hop ?hdone _ _ ((fun (x0 x1 x2 x3 x4 x5 x6 x7 x8 x9:Value)=>fun (i:Nat)=>if i=0 then x0 else if i=1 then x1 else if i=2 then x2 else if i=3 then x3 else if i=4 then x4 else if i=5 then x5 else if i=6 then x6 else if i=7 then x7 else if i=8 then x8 else if i=9 then x9 else undef) _ _ _ _ _ _ _ _ _ _) _ (by simp) ?ext ?start (by simp)
       case start=>intro i hi h;exact absurd h (by rw[Array.getD_eq_getD_getElem?,Array.getElem?_replicate];split<;>simp)
       case ext=>exact EX0.out
       case hstab=>
        intro j L w w' i v _ _ _ h;by_cases hj:j=10
        ·subst hj;simp at h ⊢;exact⟨h.1,by unfold updK;simp[h.2]⟩
        ·simp only[if_neg hj] at h ⊢;exact h
       case hop=>
        intro i o L t w' ho hLi hx hdep K hK;have hi:i<11:=(Array.getElem?_eq_some_iff.1 ho).1;obtain rfl|rfl|rfl|rfl|rfl|rfl|rfl|rfl|rfl|rfl|rfl:i=0∨i=1∨i=2∨i=3∨i=4∨i=5∨i=6∨i=7∨i=8∨i=9∨i=10:=by omega
        all_goals(simp at ho;subst ho)
        all_goals try(have hK':=hK w' _ rfl (REF.out _ (by decide) L w' hx) trivial;clear hK;simp[Region.binds] at hdep;rw[if_pos (by rfl)];go_simp;simpa[upd,hdep] using hK';done)
        ·have d3:t 3=.pointer (some ⟨g,0,none⟩):=by simpa using hdep ⟨3,.data⟩ (by simp) rfl
         have d6:t 6=.pointer (some ⟨g,5,none⟩):=by simpa using hdep ⟨6,.data⟩ (by simp) rfl
         have A:=times_any g 0 g 5 ns ys w' (YY.out L w' hx).1 (YY.out L w' hx).2;have hK':∀ ww ts,EOk ts→ev ts=ev ns*ev ys%fp→Below w'.heap.size w' ww→K _ ww:=fun ww ts h1 h2 b=>hK ww (.agg (ts.map (Value.int .u64)).toArray) (by simp;exact⟨ts,h1,h2,rfl⟩) (ExD.low 7 (by decide) hx (fun q=>HA.out _ _ b q) (fun q=>HB.out _ _ b q) b) trivial
         rw[if_pos (by rfl)];go_simp;refine A.mono ?_;rintro e w9 ⟨ts,h1,h2,rfl,hb⟩;have hK2:=hK' w9 ts h1 h2 hb;go_simp;simpa[upd,d3,d6] using hK2
        ·have d9:t 9=.pointer (some ⟨g,15,none⟩):=by simpa using hdep ⟨9,.data⟩ (by simp) rfl
         have d7:TG (ev ns) (ev ys) (t 7):=by simpa using hdep ⟨7,.data⟩ (by simp) rfl
         obtain⟨ts,h1,h2,h3⟩:=d7;rw[if_pos (by rfl)];refine wp_midT (hx.2.1 hLi) (.tmp 59) (.tmp 57) rfl ts (show t 9=_ from d9) (show t 7=_ from h3) h1 ?_;intro ww hp hw;have hK':=hK ww undef (by simp[updK]) ⟨hx.1.trans hw.wrH,fun q=>absurd q (by rw[updK_same];decide),fun _=>⟨ts,h1,h2,hp⟩⟩ trivial;go_simp;simpa[upd,d9,h3] using hK'
       case hdone=>
        intro L t w' hx hg;have d0:t 0=.pointer (some ⟨g,0,none⟩):=by simpa using hg 0 (by decide)
        have d1:t 1=.pointer (some ⟨g,0,none⟩):=by simpa using hg 1 (by decide)
        have d2:t 2=.pointer (some ⟨g,0,none⟩):=by simpa using hg 2 (by decide)
        have d3:t 3=.pointer (some ⟨g,0,none⟩):=by simpa using hg 3 (by decide)
        have d4:t 4=.pointer (some ⟨g,0,none⟩):=by simpa using hg 4 (by decide)
        have d5:t 5=.pointer (some ⟨g,0,none⟩):=by simpa using hg 5 (by decide)
        have d6:t 6=.pointer (some ⟨g,5,none⟩):=by simpa using hg 6 (by decide)
        have d7:TG (ev ns) (ev ys) (t 7):=by simpa using hg 7 (by decide)
        have d8:t 8=.pointer (some ⟨g,0,none⟩):=by simpa using hg 8 (by decide)
        have d9:t 9=.pointer (some ⟨g,15,none⟩):=by simpa using hg 9 (by decide)
        have d10:t 10=undef∧L 10=true:=by simpa using hg 10 (by decide)
        obtain⟨ts,hk,hv,hpt⟩:=hx.2.2 d10.2;obtain⟨ts',_,_,e7⟩:=d7;have HSb:Hid (RunP w w' g ns ys oneL ts [] []):=⟨hx.1,hlt,hpt,by simp,List.Pairwise.nil,by simp⟩
        have HKts:Hid (EOk ts∧ev ts=dcX zs*dcY zs%fp):=⟨hk,by rw[hv,HKns.out.2,HEV.out]⟩
        dsimp only;rw[d0,d1,d2,d3,d4,d5,d6,e7,d8,d9];go_wp2_with fail;refine(isOdd_any g 0 ns _ HSb.out.pt.ex).mono ?_;rintro e wc ⟨rfl,b⟩;rw[HKns.out.2];have HSc:=hdI <| HSb.out.call b
        obtain⟨o2,ho2⟩:∃ o2,o2=(dcX zs%2 == 1):=⟨_,rfl⟩
        rw[←ho2];have HDD:Hid (dcR zs=(o2 == true)):=by
         show _=_
         rw[HDR.out,←ho2,←HOD.out]
        clear ho2;go_wp2
        go_ret
        exact⟨ns,ys,oneL,ts,HSc.out.pt,HSc.out.wrh,by rw[HDD.out];cases o2<;>rfl,fun _=>⟨HKns.out.2,HEV.out,by decide,HKts.out.2⟩⟩
      ·have HKns:Hid (EOk xs∧ev xs=dcX zs):=⟨HKxs.out.1,by rw[HKxs.out.2,HXE.out];rfl⟩
       have HS8:=hdI <| HS6.out
       clear HS6 HKxs;generalize hxn:xs=ns at *;clear hxn;go_wp2_with (first
        |(refine wpList_midP HS8.out rfl (.tmp 49) (.tmp 47) rfl 10 (by decide) oneL ns ys oneL t0 (over_z HS8.out.pt.x.1 HS8.out.pt.y.1 HS8.out.pt.z.1 one_ok.1) ⟨HS8.out.pt.x,HS8.out.pt.y,one_ok,HS8.out.pt.t⟩ rfl rfl one_ok rfl ?_)
        |fail)
       intro wa Sa;have HSa:=hdI <| Sa
       have EX0:Hid (ExD w g 10 (fun w1=>Pt w1 g ns ys oneL t0) (fun w1=>∃ ts,EOk ts∧ev ts=ev ns*ev ys%fp∧Pt w1 g ns ys oneL ts) (fun n=>(Array.replicate 11 false).getD n false) wa.drew):=⟨HSa.out.wrh.trans (WrH.of_below (Below.refl _ _).drew),fun _=>⟨HSa.out.pt.row,HSa.out.pt.x,HSa.out.pt.y,HSa.out.pt.z,HSa.out.pt.t⟩,fun q=>absurd q (by simp)⟩
       have HA:Hid (∀(w' ww:World),Below w'.heap.size w' ww→Pt w' g ns ys oneL t0→Pt ww g ns ys oneL t0):=fun w' ww b h=>h.below b h.row.lt
       have HB:Hid (∀(w' ww:World),Below w'.heap.size w' ww→(∃ ts,EOk ts∧ev ts=ev ns*ev ys%fp∧Pt w' g ns ys oneL ts)→(∃ ts,EOk ts∧ev ts=ev ns*ev ys%fp∧Pt ww g ns ys oneL ts)):=fun w' ww b ⟨ts,h1,h2,h⟩=>⟨ts,h1,h2,h.below b h.row.lt⟩
       have REF:Hid (∀ i,i≠10→∀(L:Nat→Bool) (w':World),ExD w g 10 (fun w1=>Pt w1 g ns ys oneL t0) (fun w1=>∃ ts,EOk ts∧ev ts=ev ns*ev ys%fp∧Pt w1 g ns ys oneL ts) L w'→ExD w g 10 (fun w1=>Pt w1 g ns ys oneL t0) (fun w1=>∃ ts,EOk ts∧ev ts=ev ns*ev ys%fp∧Pt w1 g ns ys oneL ts) (updK L i) w'):=fun i hi L w' h=>ExD.ref i hi h
       have YY:Hid (∀(L:Nat→Bool) (w':World),ExD w g 10 (fun w1=>Pt w1 g ns ys oneL t0) (fun w1=>∃ ts,EOk ts∧ev ts=ev ns*ev ys%fp∧Pt w1 g ns ys oneL ts) L w'→EAt w' g 0 ns∧EAt w' g 5 ys):=fun L w' h=>by
        cases hL:L 10
        ·exact⟨(h.2.1 hL).ex,(h.2.1 hL).ey⟩
        ·obtain⟨_,_,_,q⟩:=h.2.2 hL;exact⟨q.ex,q.ey⟩
       go_wp2;refine wp_region_any (by kernel_rfl) ?_;refine wpAny_slotsG (fun _ _ _=>True) (frame:=(fun (a b c d e f g h i j k l m n o p q r s u v w x y z A B C D E F G H I J K L M N O P Q R S T U V W X Y Z a0 a1 a2 a3 a4:Value)=>fun (t:Nat→Value)=>({ tmps:=List.toArray [a,b,c,d,e,f,g,h,i,j,k,l,m,n,o,p,q,r,s,u,v,w,x,y,z,A,B,C,D,E,F,G,H,I,J,K,L,M,N,O,P,Q,R,S,T,U,V,W,X,Y,t 0,t 1,t 2,t 3,t 4,t 5,t 6,t 7,t 8,t 9,Z,a0,a1,a2,a3,a4],defers:=[] }:Act)) _ _ _ _ _ _ _ _ _ _ _ _ _ _ _ _ _ _ _ _ _ _ _ _ _ _ _ _ _ _ _ _ _ _ _ _ _ _ _ _ _ _ _ _ _ _ _ _ _ _ _ _ _ _ _ _)
        (Ext:=fun L w'=>ExD w g 10 (fun w1=>Pt w1 g ns ys oneL t0) (fun w1=>∃ ts,EOk ts∧ev ts=ev ns*ev ys%fp∧Pt w1 g ns ys oneL ts) L w') (Good:=fun i L _ v=>if i=0 then v=.pointer (some ⟨g,0,none⟩) else if i=1 then v=.pointer (some ⟨g,0,none⟩) else if i=2 then v=.pointer (some ⟨g,0,none⟩) else if i=3 then v=.pointer (some ⟨g,0,none⟩) else if i=4 then v=.pointer (some ⟨g,0,none⟩) else if i=5 then v=.pointer (some ⟨g,0,none⟩) else if i=6 then v=.pointer (some ⟨g,5,none⟩) else if i=7 then TG (ev ns) (ev ys) (v) else if i=8 then v=.pointer (some ⟨g,0,none⟩) else if i=9 then v=.pointer (some ⟨g,15,none⟩) else if i=10 then v=undef∧L 10=true else True) ?hstab (by kernel_rfl) ?hop ?hdone _ _ ((fun (x0 x1 x2 x3 x4 x5 x6 x7 x8 x9:Value)=>fun (i:Nat)=>if i=0 then x0 else if i=1 then x1 else if i=2 then x2 else if i=3 then x3 else if i=4 then x4 else if i=5 then x5 else if i=6 then x6 else if i=7 then x7 else if i=8 then x8 else if i=9 then x9 else undef) _ _ _ _ _ _ _ _ _ _) _ (by simp) ?ext ?start (by simp)
       case start=>intro i hi h;exact absurd h (by rw[Array.getD_eq_getD_getElem?,Array.getElem?_replicate];split<;>simp)
       case ext=>exact EX0.out
       case hstab=>
        intro j L w w' i v _ _ _ h;by_cases hj:j=10
        ·subst hj;simp at h ⊢;exact⟨h.1,by unfold updK;simp[h.2]⟩
        ·simp only[if_neg hj] at h ⊢;exact h
       case hop=>
        intro i o L t w' ho hLi hx hdep K hK;have hi:i<11:=(Array.getElem?_eq_some_iff.1 ho).1;obtain rfl|rfl|rfl|rfl|rfl|rfl|rfl|rfl|rfl|rfl|rfl:i=0∨i=1∨i=2∨i=3∨i=4∨i=5∨i=6∨i=7∨i=8∨i=9∨i=10:=by omega
        all_goals(simp at ho;subst ho)
        all_goals try(have hK':=hK w' _ rfl (REF.out _ (by decide) L w' hx) trivial;clear hK;simp[Region.binds] at hdep;rw[if_pos (by rfl)];go_simp;simpa[upd,hdep] using hK';done)
        ·have d3:t 3=.pointer (some ⟨g,0,none⟩):=by simpa using hdep ⟨3,.data⟩ (by simp) rfl
         have d6:t 6=.pointer (some ⟨g,5,none⟩):=by simpa using hdep ⟨6,.data⟩ (by simp) rfl
         have A:=times_any g 0 g 5 ns ys w' (YY.out L w' hx).1 (YY.out L w' hx).2;have hK':∀ ww ts,EOk ts→ev ts=ev ns*ev ys%fp→Below w'.heap.size w' ww→K _ ww:=fun ww ts h1 h2 b=>hK ww (.agg (ts.map (Value.int .u64)).toArray) (by simp;exact⟨ts,h1,h2,rfl⟩) (ExD.low 7 (by decide) hx (fun q=>HA.out _ _ b q) (fun q=>HB.out _ _ b q) b) trivial
         rw[if_pos (by rfl)];go_simp;refine A.mono ?_;rintro e w9 ⟨ts,h1,h2,rfl,hb⟩;have hK2:=hK' w9 ts h1 h2 hb;go_simp;simpa[upd,d3,d6] using hK2
        ·have d9:t 9=.pointer (some ⟨g,15,none⟩):=by simpa using hdep ⟨9,.data⟩ (by simp) rfl
         have d7:TG (ev ns) (ev ys) (t 7):=by simpa using hdep ⟨7,.data⟩ (by simp) rfl
         obtain⟨ts,h1,h2,h3⟩:=d7;rw[if_pos (by rfl)];refine wp_midT (hx.2.1 hLi) (.tmp 59) (.tmp 57) rfl ts (show t 9=_ from d9) (show t 7=_ from h3) h1 ?_;intro ww hp hw;have hK':=hK ww undef (by simp[updK]) ⟨hx.1.trans hw.wrH,fun q=>absurd q (by rw[updK_same];decide),fun _=>⟨ts,h1,h2,hp⟩⟩ trivial;go_simp;simpa[upd,d9,h3] using hK'
       case hdone=>
        intro L t w' hx hg;have d0:t 0=.pointer (some ⟨g,0,none⟩):=by simpa using hg 0 (by decide)
        have d1:t 1=.pointer (some ⟨g,0,none⟩):=by simpa using hg 1 (by decide)
        have d2:t 2=.pointer (some ⟨g,0,none⟩):=by simpa using hg 2 (by decide)
        have d3:t 3=.pointer (some ⟨g,0,none⟩):=by simpa using hg 3 (by decide)
        have d4:t 4=.pointer (some ⟨g,0,none⟩):=by simpa using hg 4 (by decide)
        have d5:t 5=.pointer (some ⟨g,0,none⟩):=by simpa using hg 5 (by decide)
        have d6:t 6=.pointer (some ⟨g,5,none⟩):=by simpa using hg 6 (by decide)
        have d7:TG (ev ns) (ev ys) (t 7):=by simpa using hg 7 (by decide)
        have d8:t 8=.pointer (some ⟨g,0,none⟩):=by simpa using hg 8 (by decide)
        have d9:t 9=.pointer (some ⟨g,15,none⟩):=by simpa using hg 9 (by decide)
        have d10:t 10=undef∧L 10=true:=by simpa using hg 10 (by decide)
        obtain⟨ts,hk,hv,hpt⟩:=hx.2.2 d10.2;obtain⟨ts',_,_,e7⟩:=d7;have HSb:Hid (RunP w w' g ns ys oneL ts [] []):=⟨hx.1,hlt,hpt,by simp,List.Pairwise.nil,by simp⟩
        have HKts:Hid (EOk ts∧ev ts=dcX zs*dcY zs%fp):=⟨hk,by rw[hv,HKns.out.2,HEV.out]⟩
        dsimp only;rw[d0,d1,d2,d3,d4,d5,d6,e7,d8,d9];go_wp2_with fail;refine(isOdd_any g 0 ns _ HSb.out.pt.ex).mono ?_;rintro e wc ⟨rfl,b⟩;rw[HKns.out.2];have HSc:=hdI <| HSb.out.call b
        obtain⟨o2,ho2⟩:∃ o2,o2=(dcX zs%2 == 1):=⟨_,rfl⟩
        rw[←ho2];have HDD:Hid (dcR zs=(o2 == true)):=by
         show _=_
         rw[HDR.out,←ho2,←HOD.out]
        clear ho2;go_wp2
        go_ret
        exact⟨ns,ys,oneL,ts,HSc.out.pt,HSc.out.wrh,by rw[HDD.out];cases o2<;>rfl,fun _=>⟨HKns.out.2,HEV.out,by decide,HKts.out.2⟩⟩
  ·have HQ:Hid (decide (ys=lsE ys)=false):=decide_eq_false (fun h=>hle h.symm);have HDR:Hid (dcR zs=false):=by
    show _=_
    have:decide (dcY zs<fp)=false:=decide_eq_false (fun h=>hle (HLS.out.2 h));unfold dcR;rw[this];simp
   have EX0:Hid (ExD w g 99 (fun w1=>Pt w1 g x ys z t0) (fun w1=>Pt w1 g x ys z t0) (fun n=>(Array.replicate 14 false).getD n false) w4.drew):=⟨HS4.out.wrh.trans (WrH.of_below (Below.refl _ _).drew),fun _=>⟨HS4.out.pt.row,HS4.out.pt.x,HS4.out.pt.y,HS4.out.pt.z,HS4.out.pt.t⟩,fun _=>⟨HS4.out.pt.row,HS4.out.pt.x,HS4.out.pt.y,HS4.out.pt.z,HS4.out.pt.t⟩⟩
   have REF:Hid (∀ i,i≠99→∀(L:Nat→Bool) (w':World),ExD w g 99 (fun w1=>Pt w1 g x ys z t0) (fun w1=>Pt w1 g x ys z t0) L w'→ExD w g 99 (fun w1=>Pt w1 g x ys z t0) (fun w1=>Pt w1 g x ys z t0) (updK L i) w'):=fun i hi L w' h=>ExD.ref i hi h
   have YY:Hid (∀(L:Nat→Bool) (w':World),ExD w g 99 (fun w1=>Pt w1 g x ys z t0) (fun w1=>Pt w1 g x ys z t0) L w'→EAt w' g 5 ys):=fun L w' h=>by
    cases hL:L 99
    ·exact(h.2.1 hL).ey
    ·exact(h.2.2 hL).ey
   go_wp2;refine wp_region_any (by kernel_rfl) ?_;refine wpAny_slotsG (fun _ _ _=>True) (frame:=(fun (a b c d e f g h i j k l m n o p q r s u v w x y z A B C D E F G H I J K L M N O P Q R S T U V W X Y Z a0:Value)=>fun (t:Nat→Value)=>({ tmps:=List.toArray [a,b,c,d,e,f,g,h,i,j,k,l,m,n,o,p,q,r,s,t 0,t 1,t 2,t 3,t 4,t 5,t 6,t 7,t 8,t 9,t 10,t 11,t 12,t 13,u,v,w,x,y,z,A,B,C,D,E,F,G,H,I,J,K,L,M,N,O,P,Q,R,S,T,U,V,W,X,Y,Z,a0],defers:=[] }:Act)) _ _ _ _ _ _ _ _ _ _ _ _ _ _ _ _ _ _ _ _ _ _ _ _ _ _ _ _ _ _ _ _ _ _ _ _ _ _ _ _ _ _ _ _ _ _ _ _ _ _ _ _)
    (Ext:=fun L w'=>ExD w g 99 (fun w1=>Pt w1 g x ys z t0) (fun w1=>Pt w1 g x ys z t0) L w') (Good:=fun i L _ v=>if i=0 then v=.pointer (some ⟨g,0,none⟩) else if i=1 then v=.pointer (some ⟨g,0,none⟩) else if i=2 then v=.pointer (some ⟨g,5,none⟩) else if i=3 then v=.agg (ys.map (Value.int .u64)).toArray else if i=4 then v=.pointer (some ⟨g,0,none⟩) else if i=5 then v=.pointer (some ⟨g,0,none⟩) else if i=6 then v=.pointer (some ⟨g,5,none⟩) else if i=7 then v=.agg ((lsE ys).map (Value.int .u64)).toArray else if i=8 then v=.bool true else if i=9 then v=.bool true else if i=10 then True else if i=11 then True else if i=12 then True else if i=13 then v=.bool true else True) ?hstab (by kernel_rfl) ?hop ?hdone _ _ ((fun (x0 x1 x2 x3 x4 x5 x6 x7 x8 x9 x10 x11 x12 x13:Value)=>fun (i:Nat)=>if i=0 then x0 else if i=1 then x1 else if i=2 then x2 else if i=3 then x3 else if i=4 then x4 else if i=5 then x5 else if i=6 then x6 else if i=7 then x7 else if i=8 then x8 else if i=9 then x9 else if i=10 then x10 else if i=11 then x11 else if i=12 then x12 else if i=13 then x13 else undef) _ _ _ _ _ _ _ _ _ _ _ _ _ _) _ (by simp) ?ext ?start (by simp)
   case start=>intro i hi h;exact absurd h (by rw[Array.getD_eq_getD_getElem?,Array.getElem?_replicate];split<;>simp)
   case ext=>exact EX0.out
   case hstab=>intro j L w w' i v _ _ _ h;exact h
   case hop=>
    intro i o L t w' ho hLi hx hdep K hK;have hi:i<14:=(Array.getElem?_eq_some_iff.1 ho).1;obtain rfl|rfl|rfl|rfl|rfl|rfl|rfl|rfl|rfl|rfl|rfl|rfl|rfl|rfl:i=0∨i=1∨i=2∨i=3∨i=4∨i=5∨i=6∨i=7∨i=8∨i=9∨i=10∨i=11∨i=12∨i=13:=by omega
    all_goals(simp at ho;subst ho)
    ·clear hdep;have hK':=hK w' (.pointer (some ⟨g,0,none⟩)) (by simp) (REF.out 0 (by decide) L w' hx) trivial;rw[if_pos (by rfl)];go_simp;simpa[upd] using hK'
    ·have d0:t 0=.pointer (some ⟨g,0,none⟩):=by simpa using hdep ⟨0,.data⟩ (by simp) rfl
     have hK':=hK w' (.pointer (some ⟨g,0,none⟩)) (by simp) (REF.out 1 (by decide) L w' hx) trivial;rw[if_pos (by rfl)];go_simp;simpa[upd,d0] using hK'
    ·have d1:t 1=.pointer (some ⟨g,0,none⟩):=by simpa using hdep ⟨1,.data⟩ (by simp) rfl
     have hK':=hK w' (.pointer (some ⟨g,5,none⟩)) (by simp) (REF.out 2 (by decide) L w' hx) trivial;rw[if_pos (by rfl)];go_simp;simpa[upd,d1] using hK'
    ·have d2:t 2=.pointer (some ⟨g,5,none⟩):=by simpa using hdep ⟨2,.data⟩ (by simp) rfl
     have hK':=hK w' (.agg (ys.map (Value.int .u64)).toArray) (by simp) (REF.out 3 (by decide) L w' hx) trivial;have ex:=YY.out L w' hx;rw[if_pos (by rfl)];refine wp_loadE (.tmp 21) rfl g 5 ys (show t 2=_ from d2) ex ?_;go_simp;simpa[upd,d2] using hK'
    ·clear hdep;have hK':=hK w' (.pointer (some ⟨g,0,none⟩)) (by simp) (REF.out 4 (by decide) L w' hx) trivial;rw[if_pos (by rfl)];go_simp;simpa[upd] using hK'
    ·have d4:t 4=.pointer (some ⟨g,0,none⟩):=by simpa using hdep ⟨4,.data⟩ (by simp) rfl
     have hK':=hK w' (.pointer (some ⟨g,0,none⟩)) (by simp) (REF.out 5 (by decide) L w' hx) trivial;rw[if_pos (by rfl)];go_simp;simpa[upd,d4] using hK'
    ·have d5:t 5=.pointer (some ⟨g,0,none⟩):=by simpa using hdep ⟨5,.data⟩ (by simp) rfl
     have hK':=hK w' (.pointer (some ⟨g,5,none⟩)) (by simp) (REF.out 6 (by decide) L w' hx) trivial;rw[if_pos (by rfl)];go_simp;simpa[upd,d5] using hK'
    ·have d6:t 6=.pointer (some ⟨g,5,none⟩):=by simpa using hdep ⟨6,.data⟩ (by simp) rfl
     have A:=leastE_any g 5 ys w' (YY.out L w' hx);have hK':∀ ww,Below w'.heap.size w' ww→K _ ww:=fun ww b=>hK ww (.agg ((lsE ys).map (Value.int .u64)).toArray) (by simp) (ExD.low 7 (by decide) hx (fun q=>HA.out _ _ b q) (fun q=>HA.out _ _ b q) b) trivial
     rw[if_pos (by rfl)];go_simp;refine A.mono ?_;rintro e w9 ⟨rfl,hb⟩;have hK2:=hK' w9 hb;go_simp;simpa[upd,d6] using hK2
    ·have d3:t 3=.agg (ys.map (Value.int .u64)).toArray:=by simpa using hdep ⟨3,.data⟩ (by simp) rfl
     have d7:t 7=.agg ((lsE ys).map (Value.int .u64)).toArray:=by simpa using hdep ⟨7,.data⟩ (by simp) rfl
     have hK':=hK w' (.bool true) (by simp) (REF.out 8 (by decide) L w' hx) trivial;rw[if_pos (by rfl)];go_simp;simp only[run_eqW _ 9998 5 141 Tryz.underlying141 ys (lsE ys) hyl hll,HQ.out,Result.andThen_ok];go_simp;simpa[upd,d3,d7] using hK'
    ·have d8:t 8=.bool true:=by simpa using hdep ⟨8,.data⟩ (by simp) rfl
     have hK':=hK w' (.bool true) (by simp) (REF.out 9 (by decide) L w' hx) trivial;rw[if_pos (by rfl)];go_simp;simpa[upd,d8] using hK'
    ·have d9:t 9=.bool true:=by simpa using hdep ⟨9,.guard⟩ (by simp) rfl
     have hK':=hK w' undef (by simp) (REF.out 10 (by decide) L w' hx) trivial;rw[if_neg (by simp[Region.wanted,yielded,d9])];go_simp;simpa[upd,d9] using hK'
    ·have d9:t 9=.bool true:=by simpa using hdep ⟨9,.guard⟩ (by simp) rfl
     have hK':=hK w' undef (by simp) (REF.out 11 (by decide) L w' hx) trivial;rw[if_neg (by simp[Region.wanted,yielded,d9])];go_simp;simpa[upd,d9] using hK'
    ·have d9:t 9=.bool true:=by simpa using hdep ⟨9,.guard⟩ (by simp) rfl
     have hK':=hK w' undef (by simp) (REF.out 12 (by decide) L w' hx) trivial;rw[if_neg (by simp[Region.wanted,yielded,d9])];go_simp;simpa[upd,d9] using hK'
    ·have d9:t 9=.bool true:=by simpa using hdep ⟨9,.data⟩ (by simp) rfl
     have hK':=hK w' (.bool true) (by simp) (REF.out 13 (by decide) L w' hx) trivial;rw[if_pos (by rfl)];go_simp;simpa[upd,d9] using hK'
   case hdone=>
    intro L t w' hx hg;have d0:t 0=.pointer (some ⟨g,0,none⟩):=by simpa using hg 0 (by decide)
    have d1:t 1=.pointer (some ⟨g,0,none⟩):=by simpa using hg 1 (by decide)
    have d2:t 2=.pointer (some ⟨g,5,none⟩):=by simpa using hg 2 (by decide)
    have d3:t 3=.agg (ys.map (Value.int .u64)).toArray:=by simpa using hg 3 (by decide)
    have d4:t 4=.pointer (some ⟨g,0,none⟩):=by simpa using hg 4 (by decide)
    have d5:t 5=.pointer (some ⟨g,0,none⟩):=by simpa using hg 5 (by decide)
    have d6:t 6=.pointer (some ⟨g,5,none⟩):=by simpa using hg 6 (by decide)
    have d7:t 7=.agg ((lsE ys).map (Value.int .u64)).toArray:=by simpa using hg 7 (by decide)
    have d8:t 8=.bool true:=by simpa using hg 8 (by decide)
    have d9:t 9=.bool true:=by simpa using hg 9 (by decide)
    have d13:t 13=.bool true:=by simpa using hg 13 (by decide)
    have HF:Hid (WrH g w w'∧Pt w' g x ys z t0):=⟨hx.1,by
     cases hL:L 99
     ·exact hx.2.1 hL
     ·exact hx.2.2 hL⟩
    dsimp only;rw[d0,d1,d2,d3,d4,d5,d6,d7,d8,d9,d13];go_wp2
    go_ret
    refine⟨x,ys,z,t0,HF.out.2,HF.out.1,by rw[HDR.out];rfl,fun h=>?_⟩;rw[HDR.out] at h;cases h
 ·have h32':((n:Int) == 32)=false:=by simp;omega
  have HR:Hid (dcR zs=false):=by
   show _=_
   unfold dcR;have:(zs.length == 32)=false:=by simp;omega
   rw[this];rfl
  go_enter Tryz.func103,Tryz.ntmps103;go_wp2
  go_ret
  refine⟨x,y,z,t0,HP.out,WrH.refl _ _,by rw[HR.out];rfl,fun h=>?_⟩;rw[HR.out] at h;cases h
end Go.Proofs.YtncomnkdlpoelaaGreatDoor
namespace Go.Proofs.YtncomnkdlpoelaaGreatDoor
set_option linter.unusedVariables false
theorem ml (a b:Int):(a%fp)*b%fp=a*b%fp:=by rw[Int.mul_emod,Int.emod_emod_of_dvd _ (Int.dvd_refl fp),←Int.mul_emod]
theorem mr (a b:Int):a*(b%fp)%fp=a*b%fp:=by rw[Int.mul_emod,Int.emod_emod_of_dvd _ (Int.dvd_refl fp),←Int.mul_emod]
theorem mpow (a:Int) (n:Nat):(a%fp)^n%fp=a^n%fp:=by
 induction n with
 |zero=>simp only[Int.pow_zero]
 |succ n ih=>rw[Int.pow_succ,Int.pow_succ,mr,Int.mul_emod,ih,←Int.mul_emod]
theorem ml2 (u a b:Int):u*(a%fp*b)%fp=u*(a*b)%fp:=by rw[←mr u (a%fp*b),ml,mr]
def exF (low nb top:Nat):Nat→Nat
 |0=>0
 |k+1=>2*exF low nb top k+(if pbit low nb (top-k) then 1 else 0)
theorem pwF_pow (x:Int) (low nb top k:Nat):pwF x low nb top k=x^exF low nb top k%fp:=by
 induction k with
 |zero=>simp only[pwF,exF,Int.pow_zero];decide
 |succ k ih=>
  simp only[pwF,exF,ih,pstep];split
  ·generalize exF low nb top k=E;have h1:∀ A:Int,A%fp*(A%fp)*x%fp=A*A*x%fp:=fun A=>by rw[←ml (A%fp*(A%fp)) x,mod_mul_mod,ml]
   rw[ml,h1,Int.pow_succ,Nat.two_mul,Int.pow_add]
  ·rw[ml,mr,Nat.add_zero,Nat.two_mul,Int.pow_add]
theorem ex0:exF 11 5 254 255=fpN-2:=by decide +kernel
theorem ex1:exF 5 3 251 252=(fpN-5)/8:=by decide +kernel
theorem exM:M250*4+1=(fpN-5)/8:=by unfold M250 m250;decide +kernel
theorem fermatI (x:Int) (h0:0<x) (h1:x<fp):x^(fpN-1)%fp=1:=by
 obtain⟨a,rfl⟩:=Int.eq_ofNat_of_zero_le (Int.le_of_lt h0);rw[fp_fpN] at h1 ⊢;have ha:¬ fpN∣a:=fun h=>by
  have:=Nat.le_of_dvd (by omega) h;omega
 have:=fermat (p:=fpN) fp_prm a ha;rw[←Int.natCast_pow,←Int.natCast_emod,this];rfl
theorem root_same (u v:Int) (p e:Nat) (hp:p=8*e+5) (hv:v^(p-1)%fp=1) :
  u*(v*v*v)*(u*(v*v*v)*(v*v*(v*v)))^e%fp=u*v^(p-2)*(u*v^(p-2))^e%fp:=by
 have e1:u*v^(p-2)*(u*v^(p-2))^e=u*u^e*(v^3*(v^7)^e)*(v^(p-1))^e:=by
  rw[Int.mul_pow,←Int.pow_mul,←Int.pow_mul,←Int.pow_mul];have:v^(p-2)*v^((p-2)*e)=v^3*v^(7*e)*v^((p-1)*e):=by
   rw[←Int.pow_add,←Int.pow_add,←Int.pow_add]
   congr 1
   subst hp;have a1:8*e+5-2=8*e+3:=by omega
   have a2:8*e+5-1=8*e+4:=by omega
   rw[a1,a2,Nat.add_mul,Nat.add_mul];omega
  generalize v^(p-2)=A at *;generalize v^((p-2)*e)=B at *;generalize v^(7*e)=C at *;generalize v^((p-1)*e)=E at *;generalize u^e=F at *;have h3:v^3=v*v*v:=by simp only[Int.pow_succ,Int.pow_zero,Int.one_mul]
  rw[h3] at *
  grind
 have e2:u*(v*v*v)*(u*(v*v*v)*(v*v*(v*v)))^e=u*u^e*(v^3*(v^7)^e):=by
  have h7:u*(v*v*v)*(v*v*(v*v))=u*v^7:=by simp only[Int.pow_succ,Int.pow_zero,Int.one_mul];grind
  rw[h7,Int.mul_pow];have h3:v^3=v*v*v:=by simp only[Int.pow_succ,Int.pow_zero,Int.one_mul]
  rw[h3];generalize (v^7)^e=C;generalize u^e=F
  grind
 rw[e1,e2,Int.mul_emod _ ((v^(p-1))^e),←mpow (v^(p-1)) e,hv,Int.one_pow];generalize u*u^e*(v^3*(v^7)^e)=Z;rw[show(1:Int)%fp=1 from by decide,Int.mul_one,Int.emod_emod_of_dvd _ (Int.dvd_refl fp)]
theorem fp_odd_root:fpN=8*((fpN-5)/8)+5:=by decide +kernel
theorem inv0_eq (x:Int):inv0 x=x^(fpN-2)%fp:=by unfold inv0;rw[pwF_pow,ex0]
theorem pw1_eq (x:Int):pw1 x=x^((fpN-5)/8)%fp:=by unfold pw1;rw[pwF_pow,ex1]
theorem rpF_eq (x:Int):rpF x=x^((fpN-5)/8)%fp:=by unfold rpF;rw[exM]
theorem rt_md (u v:Int) (h0:0<v) (h1:v<fp):rtF u v=u*inv0 v%fp*pw1 (u*inv0 v%fp)%fp:=by
 have hs:=root_same u v fpN ((fpN-5)/8) fp_odd_root (fermatI v h0 h1);unfold rtF;rw[rpF_eq,pw1_eq,inv0_eq];have s1:sqN v 1=v*v%fp:=rfl;have s2:sqN v 2=v*v%fp*(v*v%fp)%fp:=rfl;rw[s1,s2];generalize (fpN-5)/8=e at *;generalize v^(fpN-2)=I at *;have a1:u*(v*v%fp*v%fp)%fp=u*(v*v*v)%fp:=by rw[mr,ml2]
 have a2:v*v%fp*(v*v%fp)%fp=v*v*(v*v)%fp:=mod_mul_mod _ _;have a3:u*(I%fp)%fp=u*I%fp:=mr _ _;rw[a1,a2,a3,mod_mul_mod (u*(v*v*v)) (v*v*(v*v)),mpow,mpow,mod_mul_mod,mod_mul_mod];exact hs
def dNr:Nat:=37095705934669439343138083508754565189542113879843219016388785533085940283555
theorem mdD_N:mdD=(dNr:Int):=by decide +kernel
theorem curveD_N:ev curveDL=(dNr:Int):=by decide +kernel
theorem s_sq:pw2 (2%fp)*pw2 (2%fp)%fp=fp-1:=by decide +kernel
theorem s_eq:ev sm1L=pw2 (2%fp):=by decide +kernel
theorem d_non:mpw dNr fpN 255 ((fpN-1)/2)=fpN-1:=by decide +kernel
theorem d_nonI:(dNr:Int)^((fpN-1)/2)%fp=fp-1:=by
 have h:=mpw_eq dNr fpN 255 ((fpN-1)/2) (by decide +kernel);rw[d_non] at h;rw[fp_fpN,←Int.natCast_pow,←Int.natCast_emod,←h];decide +kernel
theorem half_even:(fpN-1)/2=2*((fpN-1)/4):=by decide +kernel
theorem half_two:2*((fpN-1)/2)=fpN-1:=by decide +kernel
theorem v_ne (Y:Int) (h0:0≤Y) (h1:Y<fp):((dNr:Int)*(Y*Y%fp)%fp+1%fp)%fp≠0:=by
 intro h;have hz:(dNr:Int)*(Y*Y)%fp=fp-1:=by
  rw[mr,show(1:Int)%fp=1 from by decide] at h;have a:=Int.emod_nonneg ((dNr:Int)*(Y*Y)) (show fp≠0 by decide);have b:=Int.emod_lt_of_pos ((dNr:Int)*(Y*Y)) (show 0<fp by decide);generalize (dNr:Int)*(Y*Y)%fp=q at *;rw[fp_lit] at *;omega
 have hY:0<Y:=by
  rcases Int.lt_or_eq_of_le h0 with h|h
  ·exact h
  ·subst h;rw[Int.mul_zero,Int.mul_zero] at hz;exact absurd hz (by decide)
 have f:=fermatI Y hY h1;have e1:((dNr:Int)*(Y*Y))^((fpN-1)/2)%fp=fp-1:=by
  rw[Int.mul_pow,←mod_mul_mod,d_nonI];have:(Y*Y)^((fpN-1)/2)=Y^(fpN-1):=by
   rw[←half_two,Int.pow_mul]
   congr 1
   simp only[Int.pow_succ,Int.pow_zero,Int.one_mul]
  rw[this,f];decide
 have e2:((dNr:Int)*(Y*Y))^((fpN-1)/2)%fp=1:=by
  rw[←mpow,hz,half_even,Int.pow_mul,←mpow];have:(fp-1)^2%fp=1:=by decide
  rw[this,Int.one_pow];decide
 rw[e1] at e2;exact absurd e2 (by decide)
end Go.Proofs.YtncomnkdlpoelaaGreatDoor
namespace Go.Proofs.YtncomnkdlpoelaaGreatDoor
set_option linter.unusedVariables false
set_option linter.unusedSimpArgs false
theorem vI (v:Int) (h0:0<v) (h1:v<fp):v*inv0 v%fp=1:=by
 have f:=fermatI v h0 h1;rw[inv0_eq,mr];rw[show fpN-1=(fpN-2)+1 from by decide +kernel,Int.pow_succ,Int.mul_comm] at f;exact f
theorem over_iff (a u v I:Int) (h:v*I%fp=1) (hu:u%fp=u):a*v%fp=u↔a%fp=u*I%fp:=by
 constructor
 ·intro e;have:a%fp=a*(v*I)%fp:=by rw[←mr,h,Int.mul_one]
  rw[this,←Int.mul_assoc,←ml,e]
 ·intro e;rw[←ml,e,ml,Int.mul_assoc,Int.mul_comm I v,←mr,h,Int.mul_one,hu]
theorem neg_iff (x u:Int) (h0:0≤u) (h1:u<fp):x%fp=(0-u)%fp↔(-x)%fp=u:=by
 rw[fp_lit] at *;omega
theorem rc_eq (u v:Int):rcF u v=rtF u v*rtF u v*v%fp:=by
 show rtF u v*rtF u v%fp*v%fp=_
 rw[ml]
theorem first_iff (u v:Int) (h0:0<v) (h1:v<fp) (u0:0≤u) (u1:u<fp):rcF u v=u↔rtF u v*rtF u v%fp=u*inv0 v%fp:=by
 rw[rc_eq];exact over_iff _ u v _ (vI v h0 h1) (Int.emod_eq_of_lt u0 u1)
theorem neg_one_mod (a:Int):a*(fp-1)%fp=(-a)%fp:=by
 rw[show a*(fp-1)=-a+fp*a from by grind,Int.add_mul_emod_self_left]
theorem second_iff (u v:Int) (h0:0<v) (h1:v<fp) (u0:0≤u) (u1:u<fp) :
  rcF u v=(0-u)%fp↔(rtF u v*pw2 (2%fp)%fp)*(rtF u v*pw2 (2%fp)%fp)%fp=u*inv0 v%fp:=by
 have hq:(rtF u v*pw2 (2%fp)%fp)*(rtF u v*pw2 (2%fp)%fp)%fp=(-(rtF u v*rtF u v))%fp:=by
  rw[mod_mul_mod];have:=s_sq;generalize pw2 (2%fp)=s at *;generalize rtF u v=r at *;rw[show r*s*(r*s)=r*r*(s*s) from by grind,←mr,this,neg_one_mod]
 rw[hq,rc_eq,neg_iff _ u u0 u1,←over_iff _ u v _ (vI v h0 h1) (Int.emod_eq_of_lt u0 u1),Int.neg_mul]
theorem uF_eq (Y:Int):uF Y=mdU Y:=by
 unfold uF mdU;rw[show ev oneL=1%fp from by decide];rfl
theorem vF_eq (Y:Int):vF Y=mdV Y mdD:=by
 unfold vF mdV;rw[show ev oneL=1%fp from by decide,curveD_N,mdD_N,Int.mul_comm];rfl
theorem mdV_bd (Y:Int) (h0:0≤Y) (h1:Y<fp):0<mdV Y mdD∧mdV Y mdD<fp:=by
 have h:=v_ne Y h0 h1;rw[←mdD_N] at h;unfold mdV;generalize mdD*(Y*Y%fp)%fp+1%fp=q at *;rw[fp_lit] at *;omega
theorem mdU_bd (Y:Int):0≤mdU Y∧mdU Y<fp:=by unfold mdU;rw[fp_lit];omega
theorem roots_same (Y:Int) (h0:0≤Y) (h1:Y<fp):drR (uF Y) (vF Y)=mdOk Y mdD∧drX (uF Y) (vF Y)=mdX Y mdD:=by
 rw[uF_eq,vF_eq];have hv:=mdV_bd Y h0 h1;have hu:=mdU_bd Y;have hR:mdR Y mdD=rtF (mdU Y) (mdV Y mdD):=(rt_md _ _ hv.1 hv.2).symm;have i1:=first_iff _ _ hv.1 hv.2 hu.1 hu.2;have i2:=second_iff _ _ hv.1 hv.2 hu.1 hu.2;unfold drR drX mdOk mdX mdQ mdW;rw[hR,s_eq];refine⟨?_,?_⟩
 ·rw[decide_eq_decide.2 i1,decide_eq_decide.2 i2]
 ·by_cases h:rcF (mdU Y) (mdV Y mdD)=mdU Y
  ·rw[if_pos h,if_pos (i1.1 h)]
  ·rw[if_neg h,if_neg (fun e=>h (i1.2 e))]
theorem mdX_bd (Y:Int):0≤mdX Y mdD∧mdX Y mdD<fp:=by
 unfold mdX mdQ mdR;generalize mdW Y mdD*pw1 (mdW Y mdD)=a;generalize a%fp*pw2 (2%fp)=b;split<;>(rw[fp_lit];omega)
theorem odd_same (zs:List Int) (hl:zs.length=32) (hz:Byte zs):dcO zs=(mO zs == 1):=by
 unfold dcO mO;have e:=val_take 256 zs 31 (by omega);rw[List.take_of_length_le (by omega)] at e;have dg:Dig 256 (zs.take 31):=fun z hz'=>hz z (List.mem_of_mem_take hz')
 have b0:=val_nonneg (B:=256) (by decide) dg;have b1:=val_lt (B:=256) (by decide) dg;rw[List.length_take,hl,show min 31 32=31 from rfl] at b1;have e3:(256:Int)^31=452312848583266388373324160190187140051835877600158453279131187530910662656:=by decide
 rw[e3] at e b1;have hb:=hz.get 31;have:val 256 zs/(fp+19)=zs.getD 31 0/128:=by rw[fp_lit];omega
 rw[this]
theorem par_all (x:Int) (o:Bool) (h0:0≤x) (h1:x<fp):((((if((x%2 == 1) != o)=true then(0-x)%fp else x)%2 == 1) == o))=!(o && decide (x=0%fp)):=by
 have hz:(0:Int)%fp=0:=by decide
 rw[hz];rw[fp_lit] at *;by_cases hx:x=0
 ·subst hx;cases o<;>decide
 ·rw[decide_eq_false hx,Bool.and_false];have hp:x%2=0∨x%2=1:=by omega
  have hn:(0-x)%57896044618658097711785492504343953926634992332820282019728792003956564819949=57896044618658097711785492504343953926634992332820282019728792003956564819949-x:=by omega
  rw[hn];rcases hp with hp|hp
  ·have h2:(57896044618658097711785492504343953926634992332820282019728792003956564819949-x)%2=1:=by omega
   cases o<;>simp[hp,h2]
  ·have h2:(57896044618658097711785492504343953926634992332820282019728792003956564819949-x)%2=0:=by omega
   cases o<;>simp[hp,h2]
theorem dec_same (zs:List Int) (hz:Byte zs):dcR zs=mB zs mdD:=by
 by_cases hl:zs.length=32
 ·have hY:dcY zs=mY zs:=rfl;unfold dcR mB;rw[hY];by_cases hy:mY zs<fp
  ·have h0:0≤mY zs:=by unfold mY;rw[fp_lit];omega
   obtain⟨r1,r2⟩:=roots_same (mY zs) h0 hy;have hb:=mdX_bd (mY zs);have hx:dcX zs=if((mdX (mY zs) mdD%2 == 1) != dcO zs)=true then(0-mdX (mY zs) mdD)%fp else mdX (mY zs) mdD:=by
    unfold dcX dc1;rw[hY,r2]
   rw[r1,hx,par_all _ _ hb.1 hb.2,odd_same zs hl hz]
  ·rw[decide_eq_false hy];simp
 ·unfold dcR mB;have:(zs.length == 32)=false:=by simpa using hl
  rw[this];rfl
end Go.Proofs.YtncomnkdlpoelaaGreatDoor
namespace Go.Proofs.YtncomnkdlpoelaaGreatDoor
open Go.ChangeShapes Go.WideShapes Go.ChangeAt Go.RowKit
set_option linter.unusedVariables false
set_option maxHeartbeats 2000000 in
theorem inverse_of (g o:Nat) (xs:List Int) (w:World) (h:EAt w g o xs) (v1 goalv:Int) (hv1:ev xs^M250%fp=v1) (hgoal:sqN v1 5*ev xs^11%fp=goalv) :
  Calls Tryz.prog 140 #[.pointer (some ⟨g,o,none⟩)] w (EP w goalv):=by
 have HE:=hdI <| hgoal
 have HV1:=hdI <| hv1
 have S0:=(Run.start w [(g,o,xs)] (fun e he=>by rcases List.mem_singleton.1 he with rfl;exact h)).room;have HO:=hdI <| S0
 clear S0 h hv1 hgoal;go_enter Tryz.func140,Tryz.ntmps140;go_wp2_with fail;refine(ones250_any g o xs _ (HO.out.el 0 _ _ _ rfl)).mono ?_;rintro e w1 ⟨es,hk,hv,rfl,b⟩;have HK1:Hid (EOk es∧ev es=v1):=⟨hk,hv.trans HV1.out⟩
 have S1:=HO.out.call b;have H1:=hdI <| S1
 clear S1 hk hv b HV1;go_wp2_with (first
  |(refine wpList_storeN H1.out rfl (.tmp 3) (.tmp 6) rfl es rfl rfl HK1.out.1 rfl ?_)
  |fail)
 intro w2 S2;have H2:=hdI <| S2
 clear S2 H1 HO;generalize w1.heap.size=G1 at *;go_wp2_with fail;refine(squared_any G1 0 es 5 _ (by decide) (H2.out.re 0 _ _ rfl)).mono ?_;rintro e w3 ⟨fs,hk,hv,rfl,b⟩;have HK2:Hid (EOk fs∧ev fs=sqN v1 5):=⟨hk,by rw[hv,HK1.out.2]⟩
 have H3:=hdI <| H2.out.call b
 clear H2 hk hv b;go_wp2_with (first
  |(refine wpList_storeN H3.out rfl (.tmp 4) (.tmp 7) rfl fs rfl rfl HK2.out.1 rfl ?_)
  |fail)
 intro w4 S4;have H4:=hdI <| S4
 clear S4 H3;generalize w3.heap.size=G2 at *;go_wp2
 go_loopw [8] (fun i wr=>∃(k:Nat) (vs:List Int),k≤11∧i=.int .i64 k∧EOk vs∧ev vs=sqN v1 5*ev xs^k%fp∧Run w wr [(G2,vs),(G1,es),(w.heap.size,[0,0,0,0,0])] [(g,o,xs)]) (fun i _=>11-(intOf i).toNat)
 case atStart=>
  refine⟨0,fs,by decide,rfl,HK2.out.1,?_,H4.out⟩;rw[Int.pow_zero,Int.mul_one,←HK2.out.2];exact(Int.emod_eq_of_lt (ev_bd fs).1 (ev_bd fs).2).symm
 case round=>
  clear H4;obtain⟨k,vs,hk,rfl,hok,hev,hrun⟩:=hrel;have HR:=hdI <| hrun
  have HV:Hid (EOk vs∧ev vs=sqN v1 5*ev xs^k%fp):=⟨hok,hev⟩
  clear hok hev hrun;by_cases hlt:k<11
  ·have hlt':(k:Int)<11:=by omega
   go_wp2_with fail;refine(times_any G2 0 g o vs xs _ (HR.out.re 0 _ _ rfl) (HR.out.el 0 _ _ _ rfl)).mono ?_;rintro e w5 ⟨us,hk',hv,rfl,b⟩;have HU:Hid (EOk us∧ev us=sqN v1 5*ev xs^(k+1)%fp):=⟨hk',by rw[hv,HV.out.2,ml,Int.pow_succ,Int.mul_assoc]⟩
   have H5:=hdI <| HR.out.call b
   clear hk' hv b HR;go_wp2_with (first
    |(refine wpList_storeR H5.out rfl (.tmp 4) (.tmp 11) rfl 0 G2 vs us rfl rfl rfl HU.out.1 rfl ?_)
    |fail)
   intro w6 S6;have H6:=hdI <| S6
   clear S6 H5;go_wp2;go_roundw
   case rel=>exact⟨k+1,us,by omega,by go_num,HU.out.1,HU.out.2,H6.out⟩
   case measure=>simp[intOf];omega
  ·have hk11:k=11:=by omega
   have HVE:Hid (ev vs=goalv):=by
    show _=_
    rw[HV.out.2,hk11,HE.out]
   have hlt':¬ (k:Int)<11:=by omega
   clear hk11;go_wp2_with (first
    |(refine wpList_loadE rfl (.tmp 4) rfl G2 0 vs rfl (HR.out.re 0 _ _ rfl) ?_)
    |(refine wpList_storeR HR.out rfl (.tmp 2) (.tmp 13) rfl 2 w.heap.size [0,0,0,0,0] vs rfl rfl rfl HV.out.1 rfl ?_)
    |fail)
   intro w7 S7;have H7:=hdI <| S7
   clear S7 HR;go_wp2;exact bodyPost_ret (v:=.agg (vs.map (Value.int .u64)).toArray) (H7.out.ret rfl _ 2 w.heap.size vs rfl rfl) rfl ⟨vs,HV.out.1,HVE.out,rfl,H7.out.below⟩
theorem exI:M250*32+11=fpN-2:=by unfold M250 m250;decide +kernel
theorem inverse_any (g o:Nat) (xs:List Int) (w:World) (h:EAt w g o xs) :
  Calls Tryz.prog 140 #[.pointer (some ⟨g,o,none⟩)] w (EP w (inv0 (ev xs))):=by
 have e:=e250 (ev xs) M250 5 11;rw[mr,show M250*2^5+11=fpN-2 from exI] at e;rw[inv0_eq];exact inverse_of g o xs w h _ _ rfl e
end Go.Proofs.YtncomnkdlpoelaaGreatDoor
namespace Go.Proofs.YtncomnkdlpoelaaGreatDoor
set_option linter.unusedVariables false
theorem decX_same (zs:List Int) (hl:zs.length=32) (hz:Byte zs) (hy:mY zs<fp):dcX zs=mX zs mdD:=by
 have h0:0≤mY zs:=by unfold mY;rw[fp_lit];omega
 obtain⟨r1,r2⟩:=roots_same (mY zs) h0 hy;have ho:=odd_same zs hl hz;have hb:=hz.get 31;have hm:mO zs=0∨mO zs=1:=by unfold mO;omega
 have hx:dcX zs=if((mdX (mY zs) mdD%2 == 1) != dcO zs)=true then(0-mdX (mY zs) mdD)%fp else mdX (mY zs) mdD:=by
  unfold dcX dc1;rw[show dcY zs=mY zs from rfl,r2]
 rw[hx,ho];unfold mX;rw[show(0:Int)%fp=0 from by decide];generalize mdX (mY zs) mdD=x;have hp:x%2=0∨x%2=1:=by omega
 rcases hm with hm|hm<;>rcases hp with hp|hp<;>rw[hm,hp]<;>simp
theorem twoD:ev curveD2L=(mdD+mdD)%fp:=by decide +kernel
end Go.Proofs.YtncomnkdlpoelaaGreatDoor
namespace Go.Proofs.YtncomnkdlpoelaaGreatDoor
open Go.ChangeShapes Go.WideShapes Go.ChangeAt Go.RowKit
set_option linter.unusedVariables false
def cp (zs:List Int) (k:Nat):List Int:=zs.take k++List.replicate (zs.length-k) 0
theorem dN (w:World) (q p:Nat):(w.drewN q).drewN p=w.drewN (q+p):=by simp[World.drewN,Nat.add_assoc]
theorem below_dq {B:Nat} {a w:World} (h:Below B a w) (n:Nat):Below B a (w.drewN n):=⟨h.os,h.tape,h.output,h.size,h.block⟩
theorem Tryz.infoTap:(Tryz.prog.info? 70).map (fun i=>(i.zero,i.size,i.bytes))=some (some (.agg #[.int .i64 0,.int .i64 0]),2,16):=by kernel_rfl
theorem Tryz.infoI64:(Tryz.prog.info? 2).map (fun i=>(i.zero,i.size,i.bytes))=some (some (.int .i64 0),1,8):=by kernel_rfl
end Go.Proofs.YtncomnkdlpoelaaGreatDoor
