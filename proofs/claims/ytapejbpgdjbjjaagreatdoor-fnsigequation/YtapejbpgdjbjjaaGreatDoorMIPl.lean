import Derived.Test.YtapejbpgdjbjjaaGreatDoorMFe
import Derived.Shelf.Bits.Mul64
import Derived.Laws.Externs
namespace Go.Proofs.YtapejbpgdjbjjaaGreatDoor
open Go.ChangeShapes Go.WideShapes Go.ChangeAt Go.RowKit
set_option linter.unusedVariables false
def EAt (w:World) (g o:Nat) (es:List Int):Prop:=g<w.heap.size∧EOk es∧∀ i,i<5→w.cell? ⟨g,o+i,none⟩=some (.int .u64 (es.getD i 0))
theorem EAt.below {w w':World} {g o:Nat} {es:List Int} (h:EAt w g o es) (hb:Below w.heap.size w w'):EAt w' g o es:=
 ⟨by have:=hb.size;have:=h.1;omega,h.2.1,fun i hi=>by rw[hb.cell (p:=⟨g,o+i,none⟩) h.1];exact h.2.2 i hi⟩
def EP (w:World) (x:Int) (e:Ending) (w':World):Prop:=
 ∃ es:List Int,EOk es∧ev es=x∧e=.returned (.agg (es.map (Value.int .u64)).toArray)∧Below w.heap.size w w'
theorem Tryz.sizeEl:(Tryz.prog.info? 52).map (·.size)=some 5:=by kernel_rfl
theorem sizeEl {ns:List Int} (h:ns.length=5):(Tryz.prog.info? 52).map (·.size)=some ((ns.map (Value.int .u64)).toArray).size:=by rw[Tryz.sizeEl];simp[h]
def mixE (f:Nat→Int) (zs:List Int) (k:Nat):List Int:=(List.range 5).map fun i=>if i<k then f i else zs.getD i 0
theorem mixE_len (f:Nat→Int) (zs:List Int) (k:Nat):(mixE f zs k).length=5:=by simp[mixE]
theorem mixE_get (f:Nat→Int) (zs:List Int) (k i:Nat) (h:i<5):(mixE f zs k).getD i 0=if i<k then f i else zs.getD i 0:=rget5 _ i h
theorem mixE_zero (f:Nat→Int) (zs:List Int) (h:zs.length=5):mixE f zs 0=zs:=by
 apply list5 (mixE_len _ _ _) h
 intro i hi;rw[mixE_get _ _ _ _ hi];simp
theorem mixE_step (f:Nat→Int) (zs:List Int) (k:Nat) (h:k<5):(mixE f zs k).set k (f k)=mixE f zs (k+1):=by
 apply list5 (by simp[mixE_len]) (mixE_len _ _ _)
 intro i hi
 rw[getD_set_eq _ _ _ _ (by simp[mixE_len];omega),mixE_get _ _ _ _ hi,mixE_get _ _ _ _ hi]
 by_cases h2:i=k
 ·subst h2;simp
 ·have h3:(i<k)↔(i<k+1):=by omega
  simp[h2,h3]
theorem val5 (B:Int) (f:Nat→Int) (zs:List Int):val B (mixE f zs 5)=val B ((List.range 5).map f):=by
 congr 1
theorem val_sub5 (B:Int) (f g:Nat→Int) (n:Nat):val B ((List.range n).map fun i=>f i-g i)=val B ((List.range n).map f)-val B ((List.range n).map g):=by
 have:=val_lin B f g n (-1)
 rw[show(fun i=>f i-g i)=fun i=>f i+-1*g i from by funext i;omega,this];omega
structure PlS (w:World) (zs:List Int) (wr:World):Prop where
 res:RowW wr w.heap.size 52 [0,0,0,0,0]
 row:RowW wr (w.heap.size+1) 52 zs
 below:Below w.heap.size w wr
theorem PlS.set {w:World} {zs:List Int} {wr:World} (h:PlS w zs wr) (k:Nat) (x:Int):PlS w (zs.set k x) ((wr.setCell ⟨w.heap.size+1,k,none⟩ (.int .u64 x)).drew):=
 ⟨((Wr.refl _ _).setCell k _).rowW h.res (by omega),h.row.set k x,(h.below.setCell (by simp) _).drew⟩
theorem PlS.carry {w:World} {zs ys:List Int} {wr w':World} (h:PlS w zs wr) (hs:StS wr (w.heap.size+1) ys w'):PlS w ys w':=
 ⟨hs.wr.rowW h.res (by omega),hs.row,h.below.trans (hs.wr.below (by omega))⟩
def addL (xs ys:List Int):List Int:=mixE (fun i=>xs.getD i 0+ys.getD i 0) [0,0,0,0,0] 5
theorem addL_ok {xs ys:List Int} (hx:EOk xs) (hy:EOk ys):U62 (addL xs ys)∧EOk (carryE (addL xs ys))∧ev (carryE (addL xs ys))=(ev xs+ev ys)%fp:=by
 have hb:∀ i,0≤(addL xs ys).getD i 0∧(addL xs ys).getD i 0<4503599627371008:=fun i=>by
  by_cases h:i<5
  ·unfold addL;rw[mixE_get _ _ _ _ h,if_pos h];have a0:=hx.2.1 i;have b0:=hy.2.1 i;rcases Nat.eq_zero_or_pos i with rfl|hi
   ·have:=hx.2.2.2;have:=hy.2.2.2;omega
   ·have:=hx.2.2.1 i hi;have:=hy.2.2.1 i hi;omega
  ·rw[getD_past (by unfold addL;rw[mixE_len];omega)];omega
 have hc:=gcy_le (C:=2) hb (by decide) (by decide) 5
 refine⟨fun i=>by have:=hb i;omega,carryE_ok hc.1 (by omega),?_⟩
 rw[ev_carryE (addL xs ys) (mixE_len _ _ _)]
 unfold ev addL
 rw[val5,val_eq_range B51 xs 5 hx.1,val_eq_range B51 ys 5 hy.1,←Int.add_emod]
 congr 1
 have:=val_lin B51 (fun i=>xs.getD i 0) (fun i=>ys.getD i 0) 5 1
 rw[show(fun i=>xs.getD i 0+ys.getD i 0)=fun i=>xs.getD i 0+1*ys.getD i 0 from by funext i;omega,this];omega
def twoP:List Int:=[4503599627370458,4503599627370494,4503599627370494,4503599627370494,4503599627370494]
theorem twoP_val:val B51 twoP=2*fp:=by decide
def subL (xs ys:List Int):List Int:=mixE (fun i=>twoP.getD i 0+xs.getD i 0-ys.getD i 0) twoP 5
theorem twoP_get (i:Nat) (h:i<5):4503599627370458≤twoP.getD i 0∧twoP.getD i 0≤4503599627370494:=by
 have:i=0∨i=1∨i=2∨i=3∨i=4:=by omega
 rcases this with rfl|rfl|rfl|rfl|rfl<;>decide
theorem subL_ok {xs ys:List Int} (hx:EOk xs) (hy:EOk ys):U62 (subL xs ys)∧EOk (carryE (subL xs ys))∧ev (carryE (subL xs ys))=(ev xs-ev ys)%fp:=by
 have hb:∀ i,0≤(subL xs ys).getD i 0∧(subL xs ys).getD i 0<6755399441056000:=fun i=>by
  by_cases h:i<5
  ·unfold subL;rw[mixE_get _ _ _ _ h,if_pos h];have a0:=hx.2.1 i;have b0:=hy.2.1 i;have t:=twoP_get i h;rcases Nat.eq_zero_or_pos i with rfl|hi
   ·have:=hx.2.2.2;have:=hy.2.2.2;omega
   ·have:=hx.2.2.1 i hi;have:=hy.2.2.1 i hi;omega
  ·rw[getD_past (by unfold subL;rw[mixE_len];omega)];omega
 have hc:=gcy_le (C:=3) hb (by decide) (by decide) 5
 refine⟨fun i=>by have:=hb i;omega,carryE_ok hc.1 (by omega),?_⟩
 rw[ev_carryE (subL xs ys) (mixE_len _ _ _)]
 unfold ev subL
 have e0:=twoP_val
 rw[val_eq_range B51 twoP 5 rfl] at e0
 rw[val5,val_sub5 B51 (fun i=>twoP.getD i 0+xs.getD i 0) (fun i=>ys.getD i 0) 5]
 have:=val_lin B51 (fun i=>twoP.getD i 0) (fun i=>xs.getD i 0) 5 1
 rw[show(fun i=>twoP.getD i 0+xs.getD i 0)=fun i=>twoP.getD i 0+1*xs.getD i 0 from by funext i;omega,this,e0,←val_eq_range B51 xs 5 hx.1,←val_eq_range B51 ys 5 hy.1,←Int.sub_emod]
 rw[show 2*fp+1*val B51 xs-val B51 ys=(val B51 xs-val B51 ys)+fp*2 by omega,Int.add_mul_emod_self_left]
set_option maxHeartbeats 1000000 in
theorem plus_any (g1 o1 g2 o2:Nat) (xs ys:List Int) (w:World) (h1:EAt w g1 o1 xs) (h2:EAt w g2 o2 ys) :
  Calls Tryz.prog 79 #[.pointer (some ⟨g1,o1,none⟩),.pointer (some ⟨g2,o2,none⟩)] w (EP w ((ev xs+ev ys)%fp)):=by
 obtain⟨q1,q2,q3⟩:=addL_ok h1.2.1 h2.2.1
 have HQ:Hid (U62 (addL xs ys)∧EOk (carryE (addL xs ys))∧ev (carryE (addL xs ys))=(ev xs+ev ys)%fp):=⟨q1,q2,q3⟩
 have HS:Hid (PlS w (mixE (fun i=>xs.getD i 0+ys.getD i 0) [0,0,0,0,0] 0) ((w.alloc (.cells #[.int .u64 0,.int .u64 0,.int .u64 0,.int .u64 0,.int .u64 0] 52)).alloc (.cells #[.int .u64 0,.int .u64 0,.int .u64 0,.int .u64 0,.int .u64 0] 52))):=by
  rw[mixE_zero _ _ rfl];exact⟨heap_alloc2_old _ _ _,heap_alloc2_new _ _ _,((Below.refl _ _).alloc (Nat.le_refl _) _).alloc (by simp) _⟩
 have H1:Hid (EAt w g1 o1 xs):=h1
 have H2:Hid (EAt w g2 o2 ys):=h2
 clear q1 q2 q3 h1 h2
 go_enter Tryz.func79,Tryz.ntmps79
 go_wp2
 go_loopw [7] (fun i wr=>∃ k:Nat,k≤5∧i=.int .i64 k∧PlS w (mixE (fun i=>xs.getD i 0+ys.getD i 0) [0,0,0,0,0] k) wr) (fun i _=>5-(intOf i).toNat)
 case atStart=>exact⟨0,by decide,rfl,HS.out⟩
 case round=>
  clear HS;obtain⟨k,hk,rfl,hst⟩:=hrel;by_cases hlt:k<5
  ·have hlt':(k:Int)<5:=by omega
   have c1:=(H1.out.below hst.below).2.2 k hlt;have c2:=(H2.out.below hst.below).2.2 k hlt;have a0:=H1.out.2.1.2.1 k;have b0:=H2.out.2.1.2.1 k;have ab:xs.getD k 0<2251799813685504:=by
    rcases Nat.eq_zero_or_pos k with rfl|hi
    ·exact H1.out.2.1.2.2.2
    ·have:=H1.out.2.1.2.2.1 k hi;omega
   have bb:ys.getD k 0<2251799813685504:=by
    rcases Nat.eq_zero_or_pos k with rfl|hi
    ·exact H2.out.2.1.2.2.2
    ·have:=H2.out.2.1.2.2.1 k hi;omega
   have c3:=hst.row.cell k (by rw[mixE_len];exact hlt);have f3:=hst.row.frozen k;have s1:=hst.set k (xs.getD k 0+ys.getD k 0);rw[mixE_step (fun i=>xs.getD i 0+ys.getD i 0) _ k hlt] at s1;have HS1:Hid (PlS w (mixE (fun i=>xs.getD i 0+ys.getD i 0) [0,0,0,0,0] (k+1)) ((wr.setCell ⟨w.heap.size+1,k,none⟩ (.int .u64 (xs.getD k 0+ys.getD k 0))).drew)):=s1;clear s1 hst;generalize (mixE (fun i=>xs.getD i 0+ys.getD i 0) [0,0,0,0,0] k).getD k 0=z at *;generalize xs.getD k 0=x at *;generalize ys.getD k 0=y at *;go_wp2
   go_region
   clear c1 c2 c3 f3;generalize (wr.setCell ⟨w.heap.size+1,k,none⟩ (.int .u64 (x+y))).drew=w1 at *;go_wp2;go_roundw
   case rel=>exact⟨k+1,by omega,by go_num,HS1.out⟩
   case measure=>simp[intOf];omega
  ·obtain rfl:k=5:=by omega
   go_wp2_with fail;refine(carryE_any _ (addL xs ys) _ (mixE_len _ _ _) hst.row HQ.out.1).mono ?_;rintro e w1 ⟨rfl,hs⟩;have s1:=hst.carry hs;have hl:=HQ.out.2.1.1;have HSZ:Hid ((Tryz.prog.info? 52).map (·.size)=some (((carryE (addL xs ys)).map (Value.int .u64)).toArray).size):=sizeEl hl;have HZ4:Hid (([0,0,0,0,0].map (Value.int .u64)).toArray.size=(((carryE (addL xs ys)).map (Value.int .u64)).toArray).size):=by show _=_;simp[hl]
   have HRS:Hid (RowW w1 w.heap.size 52 [0,0,0,0,0]):=s1.res;have HRO:Hid (RowW w1 (w.heap.size+1) 52 (carryE (addL xs ys))):=s1.row;have HBE:Hid (Below w.heap.size w w1):=s1.below;clear s1 hs hst hl;generalize carryE (addL xs ys)=es at *;go_wp2_with (first
    |(refine wpList_load_row rfl 52 (.tmp 5) rfl (w.heap.size+1) rfl 52 _ (0,0) _ HRO.out Tryz.underlying52 rfl HSZ.out ?_)
    |(refine wpList_store_row rfl 52 (.tmp 4) (.tmp 25) rfl w.heap.size ((es.map (Value.int .u64)).toArray) rfl rfl 52 _ HRS.out HSZ.out HZ4.out (all_oneCell_toArray (ints_oneCell _ _)) ?_))
   refine bodyPost_ret (v:=.agg (es.map (Value.int .u64)).toArray) (results_cell_row rfl _ _ w.heap.size 52 _ (0,0) _ rfl (setRow_heap _ _ _ _ _ _ HRS.out) Tryz.underlying52 rfl HSZ.out) rfl ⟨es,HQ.out.2.1,HQ.out.2.2,rfl,?_⟩;exact HBE.out.trans ((Wr.setRow _ _ _).below (Nat.le_refl _))
set_option maxHeartbeats 1000000 in
theorem minus_any (g1 o1 g2 o2:Nat) (xs ys:List Int) (w:World) (h1:EAt w g1 o1 xs) (h2:EAt w g2 o2 ys) :
  Calls Tryz.prog 78 #[.pointer (some ⟨g1,o1,none⟩),.pointer (some ⟨g2,o2,none⟩)] w (EP w ((ev xs-ev ys)%fp)):=by
 obtain⟨q1,q2,q3⟩:=subL_ok h1.2.1 h2.2.1
 have HQ:Hid (U62 (subL xs ys)∧EOk (carryE (subL xs ys))∧ev (carryE (subL xs ys))=(ev xs-ev ys)%fp):=⟨q1,q2,q3⟩
 have H1:Hid (EAt w g1 o1 xs):=h1
 have H2:Hid (EAt w g2 o2 ys):=h2
 clear q1 q2 q3 h1 h2
 go_enter Tryz.func78,Tryz.ntmps78
 have HR0:Hid (RowW ((w.alloc (.cells #[.int .u64 0,.int .u64 0,.int .u64 0,.int .u64 0,.int .u64 0] 52)).alloc (.cells #[.int .u64 0,.int .u64 0,.int .u64 0,.int .u64 0,.int .u64 0] 52)) w.heap.size 52 [0,0,0,0,0]):=heap_alloc2_old _ _ _
 have HBB:Hid (Below w.heap.size w ((w.alloc (.cells #[.int .u64 0,.int .u64 0,.int .u64 0,.int .u64 0,.int .u64 0] 52)).alloc (.cells #[.int .u64 0,.int .u64 0,.int .u64 0,.int .u64 0,.int .u64 0] 52))):=((Below.refl _ _).alloc (Nat.le_refl _) _).alloc (by simp) _
 have HR1:Hid (RowW ((w.alloc (.cells #[.int .u64 0,.int .u64 0,.int .u64 0,.int .u64 0,.int .u64 0] 52)).alloc (.cells #[.int .u64 0,.int .u64 0,.int .u64 0,.int .u64 0,.int .u64 0] 52)) (w.heap.size+1) 52 [0,0,0,0,0]):=heap_alloc2_new _ _ _
 have HSZ:Hid ((Tryz.prog.info? 52).map (·.size)=some ((twoP.map (Value.int .u64)).toArray).size):=sizeEl rfl
 go_wp2_with (first
  |(refine wpList_store_row rfl 52 (.tmp 5) (.tmp 7) rfl (w.heap.size+1) ((twoP.map (Value.int .u64)).toArray) rfl rfl 52 _ HR1.out HSZ.out rfl (all_oneCell_toArray (ints_oneCell _ _)) ?_)
  |fail)
 have HS:Hid (PlS w (mixE (fun i=>twoP.getD i 0+xs.getD i 0-ys.getD i 0) twoP 0) (((w.alloc (.cells #[.int .u64 0,.int .u64 0,.int .u64 0,.int .u64 0,.int .u64 0] 52)).alloc (.cells #[.int .u64 0,.int .u64 0,.int .u64 0,.int .u64 0,.int .u64 0] 52)).setRow (w.heap.size+1) (twoP.map (Value.int .u64)).toArray)):=by
  rw[mixE_zero _ _ rfl];have r0:=HR0.out;have r1:=HR1.out;have bb:=HBB.out;generalize (w.alloc (.cells #[.int .u64 0,.int .u64 0,.int .u64 0,.int .u64 0,.int .u64 0] 52)).alloc (.cells #[.int .u64 0,.int .u64 0,.int .u64 0,.int .u64 0,.int .u64 0] 52)=wz at *;exact⟨r0.setRow_other _ (by omega),r1.setRow twoP,bb.trans ((Wr.setRow _ _ _).below (by omega))⟩
 clear HR0 HR1 HSZ HBB
 generalize ((w.alloc (.cells #[.int .u64 0,.int .u64 0,.int .u64 0,.int .u64 0,.int .u64 0] 52)).alloc (.cells #[.int .u64 0,.int .u64 0,.int .u64 0,.int .u64 0,.int .u64 0] 52)).setRow (w.heap.size+1) (twoP.map (Value.int .u64)).toArray=w0 at *
 go_loopw [8] (fun i wr=>∃ k:Nat,k≤5∧i=.int .i64 k∧PlS w (mixE (fun i=>twoP.getD i 0+xs.getD i 0-ys.getD i 0) twoP k) wr) (fun i _=>5-(intOf i).toNat)
 case atStart=>exact⟨0,by decide,rfl,HS.out⟩
 case round=>
  clear HS;obtain⟨k,hk,rfl,hst⟩:=hrel;by_cases hlt:k<5
  ·have hlt':(k:Int)<5:=by omega
   have c1:=(H1.out.below hst.below).2.2 k hlt;have c2:=(H2.out.below hst.below).2.2 k hlt;have a0:=H1.out.2.1.2.1 k;have b0:=H2.out.2.1.2.1 k;have ab:xs.getD k 0<2251799813685504:=by
    rcases Nat.eq_zero_or_pos k with rfl|hi
    ·exact H1.out.2.1.2.2.2
    ·have:=H1.out.2.1.2.2.1 k hi;omega
   have bb:ys.getD k 0<2251799813685504:=by
    rcases Nat.eq_zero_or_pos k with rfl|hi
    ·exact H2.out.2.1.2.2.2
    ·have:=H2.out.2.1.2.2.1 k hi;omega
   have c3:=hst.row.cell k (by rw[mixE_len];exact hlt);have f3:=hst.row.frozen k;have ht:=twoP_get k hlt;have hz:(mixE (fun i=>twoP.getD i 0+xs.getD i 0-ys.getD i 0) twoP k).getD k 0=twoP.getD k 0:=by rw[mixE_get _ _ _ _ hlt];simp
   rw[hz] at c3;have s1:=hst.set k (twoP.getD k 0+xs.getD k 0-ys.getD k 0);rw[mixE_step (fun i=>twoP.getD i 0+xs.getD i 0-ys.getD i 0) _ k hlt] at s1;have HS1:Hid (PlS w (mixE (fun i=>twoP.getD i 0+xs.getD i 0-ys.getD i 0) twoP (k+1)) ((wr.setCell ⟨w.heap.size+1,k,none⟩ (.int .u64 (twoP.getD k 0+xs.getD k 0-ys.getD k 0))).drew)):=s1;have HW:Hid (IntKind.u64.wrap (twoP.getD k 0+IntKind.u64.wrap (xs.getD k 0-ys.getD k 0))=twoP.getD k 0+xs.getD k 0-ys.getD k 0):=by
    show _=_
    rw[IntKind.wrap_u64,IntKind.wrap_u64];omega
   clear s1 hst hz;obtain⟨ht0,ht1⟩:=ht;generalize twoP.getD k 0=z at *;generalize xs.getD k 0=x at *;generalize ys.getD k 0=y at *;go_wp2
   go_region
   rw[HW.out];clear c1 c2 c3 f3;generalize (wr.setCell ⟨w.heap.size+1,k,none⟩ (.int .u64 (z+x-y))).drew=w1 at *;go_wp2;go_roundw
   case rel=>exact⟨k+1,by omega,by go_num,HS1.out⟩
   case measure=>simp[intOf];omega
  ·obtain rfl:k=5:=by omega
   go_wp2_with fail;refine(carryE_any _ (subL xs ys) _ (mixE_len _ _ _) hst.row HQ.out.1).mono ?_;rintro e w1 ⟨rfl,hs⟩;have s1:=hst.carry hs;have hl:=HQ.out.2.1.1;have HSZ:Hid ((Tryz.prog.info? 52).map (·.size)=some (((carryE (subL xs ys)).map (Value.int .u64)).toArray).size):=sizeEl hl;have HZ4:Hid (([0,0,0,0,0].map (Value.int .u64)).toArray.size=(((carryE (subL xs ys)).map (Value.int .u64)).toArray).size):=by show _=_;simp[hl]
   have HRS:Hid (RowW w1 w.heap.size 52 [0,0,0,0,0]):=s1.res;have HRO:Hid (RowW w1 (w.heap.size+1) 52 (carryE (subL xs ys))):=s1.row;have HBE:Hid (Below w.heap.size w w1):=s1.below;clear s1 hs hst hl;generalize carryE (subL xs ys)=es at *;go_wp2_with (first
    |(refine wpList_load_row rfl 52 (.tmp 5) rfl (w.heap.size+1) rfl 52 _ (0,0) _ HRO.out Tryz.underlying52 rfl HSZ.out ?_)
    |(refine wpList_store_row rfl 52 (.tmp 4) (.tmp 29) rfl w.heap.size ((es.map (Value.int .u64)).toArray) rfl rfl 52 _ HRS.out HSZ.out HZ4.out (all_oneCell_toArray (ints_oneCell _ _)) ?_))
   refine bodyPost_ret (v:=.agg (es.map (Value.int .u64)).toArray) (results_cell_row rfl _ _ w.heap.size 52 _ (0,0) _ rfl (setRow_heap _ _ _ _ _ _ HRS.out) Tryz.underlying52 rfl HSZ.out) rfl ⟨es,HQ.out.2.1,HQ.out.2.2,rfl,?_⟩;exact HBE.out.trans ((Wr.setRow _ _ _).below (Nat.le_refl _))
end Go.Proofs.YtapejbpgdjbjjaaGreatDoor
namespace Go.Proofs.YtapejbpgdjbjjaaGreatDoor
open Go.ChangeShapes Go.WideShapes Go.ChangeAt Go.RowKit Go.Shelf Go.Lib
set_option linter.unusedVariables false
set_option maxHeartbeats 1000000 in
theorem mul64_nat (x y:Nat) (hx:x<18446744073709551616) (hy:y<18446744073709551616) (w:World) :
  Calls Tryz.prog 112 #[.int .u64 x,.int .u64 y] w fun e w'=>e=.returned (.tuple #[.int .u64 ((x*y/18446744073709551616:Nat):Int),.int .u64 ((x*y%18446744073709551616:Nat):Int)])∧w'=w:=by
 obtain⟨b1,b2,b3,hhi⟩:=Lib.mul64_hi x y hx hy
 have p1:=Lib.half_mul_le (a:=x/4294967296) (b:=y/4294967296) (by omega) (by omega)
 have p2:=Lib.half_mul_le (a:=x/4294967296) (b:=y%4294967296) (by omega) (by omega)
 have p3:=Lib.half_mul_le (a:=x%4294967296) (b:=y/4294967296) (by omega) (by omega)
 have q1:x/4294967296*(y/4294967296)<18446744073709551616:=by omega
 have q2:x/4294967296*(y%4294967296)<18446744073709551616:=by omega
 have q3:x%4294967296*(y/4294967296)<18446744073709551616:=by omega
 have q4:x/4294967296*(y/4294967296)+(x/4294967296*(y%4294967296)+x%4294967296*(y%4294967296)/4294967296)/4294967296<18446744073709551616:=by omega
 have q5:x/4294967296*(y/4294967296)+(x/4294967296*(y%4294967296)+x%4294967296*(y%4294967296)/4294967296)/4294967296+((x/4294967296*(y%4294967296)+x%4294967296*(y%4294967296)/4294967296)%4294967296+x%4294967296*(y/4294967296))/4294967296<18446744073709551616:=by omega
 go_enter Tryz.func112,Tryz.ntmps112
 go_wp2
 simp only[Mul64.maskN x hx,Mul64.maskN y hy,Mul64.divN,Mul64.mulN,Mul64.addN,Mul64.wrapN _ b1,Mul64.wrapN _ q2,Mul64.wrapN _ b2,Mul64.maskN _ b2,Mul64.wrapN _ q3,Mul64.wrapN _ b3,Mul64.wrapN _ q1,Mul64.wrapN _ q4,Mul64.wrapN _ q5,Mul64.wrapM (x*y)]
 rw[hhi]
 go_ret2
 exact⟨rfl,rfl⟩
theorem mul64_any (x y:Int) (hx:0≤x) (hx':x<18446744073709551616) (hy:0≤y) (hy':y<18446744073709551616) (w:World) :
  Calls Tryz.prog 112 #[.int .u64 x,.int .u64 y] w fun e w'=>e=.returned (.tuple #[.int .u64 (x*y/18446744073709551616),.int .u64 (x*y%18446744073709551616)])∧w'=w:=by
 obtain⟨x,rfl⟩:=Int.eq_ofNat_of_zero_le hx
 obtain⟨y,rfl⟩:=Int.eq_ofNat_of_zero_le hy
 refine(mul64_nat x y (by omega) (by omega) w).mono ?_
 rintro e w' ⟨rfl,rfl⟩
 refine⟨?_,rfl⟩
 rw[Int.natCast_ediv,Int.natCast_emod,Int.natCast_mul];rfl
def add64E:Array Value→Sem Value:=fun args=>do
 let (x, y, c) ← Extern.MathBitsCarry.three "Add64" args
 pure (Extern.MathBitsCarry.pair ((x+y+c)%Extern.MathBitsCarry.m64) ((x+y+c)/Extern.MathBitsCarry.m64))
theorem run_add64E (x y:Nat) (w:World) :
  (add64E #[.int .u64 x,.int .u64 y,.int .u64 0]).run Tryz.prog w=
   .ok (.tuple #[.int .u64 (((x+y)%18446744073709551616:Nat):Int),.int .u64 (((x+y)/18446744073709551616:Nat):Int)]) w:=rfl
theorem add64_0 (x y:Int) (hx:0≤x) (hy:0≤y) (w:World):(callFunc 113 #[.int .u64 x,.int .u64 y,.int .u64 0]).run Tryz.prog w=
  .ok (.value (.tuple #[.int .u64 ((x+y)%18446744073709551616),.int .u64 ((x+y)/18446744073709551616)])) w:=by
 obtain⟨x,rfl⟩:=Int.eq_ofNat_of_zero_le hx
 obtain⟨y,rfl⟩:=Int.eq_ofNat_of_zero_le hy
 have e1:(((x+y)%18446744073709551616:Nat):Int)=((x:Int)+y)%18446744073709551616:=by omega
 have e2:(((x+y)/18446744073709551616:Nat):Int)=((x:Int)+y)/18446744073709551616:=by omega
 rw[run_callFunc_extern Tryz.func113 (by kernel_rfl) (by kernel_rfl) (by kernel_rfl) (e:=add64E) (by kernel_rfl),run_add64E x y,e1,e2]
 rfl
structure WdS (w:World) (g:Nat) (S:Int) (wr:World):Prop where
 row:wr.heap[g]?=some (.cells #[.int .u64 (S/18446744073709551616),.int .u64 (S%18446744073709551616)] 115 (0,0))
 wr:Wr g w wr
set_option maxHeartbeats 1000000 in
theorem addP_any (g:Nat) (S a b:Int) (w:World) (hS:0≤S) (hr:w.heap[g]?=some (.cells #[.int .u64 (S/18446744073709551616),.int .u64 (S%18446744073709551616)] 115 (0,0))) (ha:0≤a) (ha':a<18446744073709551616) (hb:0≤b) (hb':b<18446744073709551616) (hT:S+a*b<340282366920938463463374607431768211456) :
  Calls Tryz.prog 95 #[.pointer (some ⟨g,0,none⟩),.int .u64 a,.int .u64 b] w fun e w'=>e=.returned (.tuple #[])∧WdS w g (S+a*b) w':=by
 obtain⟨p,hp⟩:∃ p,p=a*b:=⟨_,rfl⟩
 have hp0:0≤p:=by rw[hp];exact Int.mul_nonneg ha hb
 have M:=mul64_any a b ha ha' hb hb'
 rw[←hp] at M hT ⊢
 clear hp
 have c0:w.cell? ⟨g,0,none⟩=some (.int .u64 (S/18446744073709551616)):=cell_of_row _ _ _ _ _ _ hr
 have c1:w.cell? ⟨g,1,none⟩=some (.int .u64 (S%18446744073709551616)):=cell_of_row _ _ _ _ _ _ hr
 have f0:=frozen_of_row w g 0 _ _ hr
 have f1:=frozen_of_row w g 1 _ _ hr
 have r1:=heap_setCell_same w g 1 _ 115 (.int .u64 ((S%18446744073709551616+p%18446744073709551616)%18446744073709551616)) hr
 have r2:=heap_setCell_same _ g 0 _ 115 (.int .u64 (S/18446744073709551616+(p/18446744073709551616+(S%18446744073709551616+p%18446744073709551616)/18446744073709551616))) r1
 have HP:Hid (WdS w g (S+p) ((w.setCell ⟨g,1,none⟩ (.int .u64 ((S%18446744073709551616+p%18446744073709551616)%18446744073709551616))).setCell ⟨g,0,none⟩ (.int .u64 (S/18446744073709551616+(p/18446744073709551616+(S%18446744073709551616+p%18446744073709551616)/18446744073709551616))))):=by
  refine⟨?_,((Wr.refl _ _).setCell 1 _).setCell 0 _⟩;rw[r2];have e1:(S+p)/18446744073709551616=S/18446744073709551616+(p/18446744073709551616+(S%18446744073709551616+p%18446744073709551616)/18446744073709551616):=by omega
  have e2:(S+p)%18446744073709551616=(S%18446744073709551616+p%18446744073709551616)%18446744073709551616:=by omega
  rw[e1,e2];rfl
 have b0:0≤S/18446744073709551616:=by omega
 have b1:0≤S%18446744073709551616:=by omega
 have b2:0≤p/18446744073709551616:=by omega
 have b3:0≤p%18446744073709551616:=by omega
 have b4:S/18446744073709551616+(p/18446744073709551616+(S%18446744073709551616+p%18446744073709551616)/18446744073709551616)<18446744073709551616:=by omega
 have b5:S%18446744073709551616<18446744073709551616:=by omega
 have b6:p%18446744073709551616<18446744073709551616:=by omega
 clear r1 r2 hr hT
 generalize S/18446744073709551616=hi at *
 generalize S%18446744073709551616=lo at *
 generalize p/18446744073709551616=ph at *
 generalize p%18446744073709551616=pl at *
 go_enter Tryz.func95,Tryz.ntmps95
 go_wp2_with fail
 refine(M _).mono ?_
 rintro e w1 ⟨rfl,rfl⟩
 clear M
 go_wp2_with (simp only[add64_0 lo pl b1 b3])
 go_end0
 exact⟨rfl,HP.out⟩
end Go.Proofs.YtapejbpgdjbjjaaGreatDoor
namespace Go.Proofs.YtapejbpgdjbjjaaGreatDoor
set_option linter.unusedVariables false
def U62' (xs:List Int):Prop:=∀ i,0≤xs.getD i 0∧xs.getD i 0<9223372036854775808
/-! Products of elements. -/
def loE (a b:List Int) (i:Nat):Int:=cs a b i (i+1)
def hiE (a b:List Int) (i:Nat):Int:=cs a b (5+i) 5
def tl (a b:List Int):List Int:=(List.range 5).map fun i=>loE a b i+19*hiE a b i
theorem tl_len (a b:List Int):(tl a b).length=5:=by simp[tl]
theorem tl_get (a b:List Int) (i:Nat) (h:i<5):(tl a b).getD i 0=loE a b i+19*hiE a b i:=rget5 _ i h
theorem cs_past5 {a b:List Int} (ha:a.length=5) (s:Nat) (d:Nat):cs a b s (5+d)=cs a b s 5:=by
 induction d with
 |zero=>rfl
 |succ d ih=>rw[←Nat.add_assoc,cs,ih,getD_past (xs:=a) (by omega)];omega
theorem cs_zero5 {b:List Int} (a:List Int) (hb:b.length=5) (i n:Nat) (h:n≤i+1):cs a b (5+i) n=0:=by
 induction n with
 |zero=>rfl
 |succ n ih=>rw[cs,ih (by omega),getD_past (xs:=b) (by omega)];omega
theorem tl_val (a b:List Int) (ha:a.length=5) (hb:b.length=5):∃ H,val B51 (tl a b)=val B51 a*val B51 b-H*fp:=by
 have e1:=val_pad B51 (mulP a b) (5+5) (by have:=mulP_len a b;omega)
 rw[val_split,val_mulP] at e1
 refine⟨val B51 ((List.range 5).map fun i=>(mulP a b).getD (5+i) 0),?_⟩
 have e2:tl a b=(List.range 5).map fun i=>(mulP a b).getD i 0+19*(mulP a b).getD (5+i) 0:=by
  unfold tl loE hiE
  congr 1;funext i
  rw[mulP_get,mulP_get,show 5+i+1=5+(1+i) by omega,cs_past5 ha]
 rw[e2,val_lin B51 (fun i=>(mulP a b).getD i 0) (fun i=>(mulP a b).getD (5+i) 0) 5 19,←e1]
 have:(B51:Int)^5=fp+19:=by decide
 rw[this]
 generalize val B51 (List.map (fun i=>(mulP a b).getD i 0) (List.range 5))=p
 generalize val B51 (List.map (fun i=>(mulP a b).getD (5+i) 0) (List.range 5))=q
 grind
theorem ev_tl (a b:List Int) (ha:a.length=5) (hb:b.length=5):ev (tl a b)=ev a*ev b%fp:=by
 obtain⟨H,e⟩:=tl_val a b ha hb
 unfold ev
 rw[e,←Int.mul_emod]
 have:val B51 a*val B51 b-H*fp=val B51 a*val B51 b+fp*(-H):=by grind
 rw[this,Int.add_mul_emod_self_left]
theorem EOk.bd {a:List Int} (h:EOk a):Bd 2251799813685504 a∧∀ i,0≤a.getD i 0:=by
 refine⟨fun i=>?_,h.2.1⟩
 have h0:=h.2.1 i
 rcases Nat.eq_zero_or_pos i with rfl|hi
 ·have:=h.2.2.2;omega
 ·have:=h.2.2.1 i hi;omega
theorem cs_nonneg {a b:List Int} (ha:∀ i,0≤a.getD i 0) (hb:∀ i,0≤b.getD i 0) (s n:Nat):0≤cs a b s n:=by
 induction n with
 |zero=>exact Int.le_refl 0
 |succ n ih=>rw[cs];have:=Int.mul_nonneg (ha n) (hb (s-n));omega
theorem tl_bd {a b:List Int} (ha:EOk a) (hb:EOk b):(∀ s n,n≤5→0≤cs a b s n∧cs a b s n≤40564819207303340847894502572032)∧(∀ i,0≤(tl a b).getD i 0∧(tl a b).getD i 0≤811296384146066816957890051440640)∧(∀ i,0≤gcy B51 (tl a b) i∧gcy B51 (tl a b) i≤1152921504606846976)∧gcy B51 (tl a b) 5≤36028797018963968:=by
 have h1:∀ s n,n≤5→0≤cs a b s n∧cs a b s n≤40564819207303340847894502572032:=fun s n hn=>by
  have h:=(cs_bd ha.bd.1 hb.bd.1 (by decide) s n).2;have h0:=cs_nonneg ha.2.1 hb.2.1 s n;refine⟨h0,?_⟩;have hn':(n:Int)≤5:=by omega
  have:=Int.mul_le_mul_of_nonneg_right hn' (show(0:Int)≤2251799813685504*2251799813685504 by decide);have e:(5:Int)*(2251799813685504*2251799813685504)≤40564819207303340847894502572032:=by decide
  omega
 have h2:∀ i,0≤(tl a b).getD i 0∧(tl a b).getD i 0≤811296384146066816957890051440640:=fun i=>by
  by_cases h:i<5
  ·rw[tl_get _ _ _ h];unfold loE hiE;have p:=h1 i (i+1) (by omega);have q:=h1 (5+i) 5 (by omega);omega
  ·rw[getD_past (by rw[tl_len];omega)];omega
 have h3:∀ i,0≤gcy B51 (tl a b) i∧gcy B51 (tl a b) i≤1152921504606846976:=fun i=>gcy_le (M:=811296384146066816957890051440641) (C:=1152921504606846976) (fun i=>by have:=h2 i;omega) (by decide) (by decide) i
 refine⟨h1,h2,h3,?_⟩
 have h4:(tl a b).getD 4 0≤40564819207303340847894502572032:=by
  rw[tl_get _ _ _ (by decide)];have:hiE a b 4=0:=cs_zero5 a hb.1 4 5 (by decide);rw[this];unfold loE;have:=h1 4 (4+1) (by decide);omega
 have h5:=h3 4
 show((tl a b).getD 4 0+gcy B51 (tl a b) 4)/B51≤_
 unfold B51 at *
 omega
theorem times_ok {a b:List Int} (ha:EOk a) (hb:EOk b):U62' (carryE (tl a b))∧EOk (carryE (carryE (tl a b)))∧ev (carryE (carryE (tl a b)))=ev a*ev b%fp:=by
 obtain⟨h1,h2,h3,h4⟩:=tl_bd ha hb
 have g5:=h3 5
 have hb1:∀ i,0≤(carryE (tl a b)).getD i 0∧(carryE (tl a b)).getD i 0<1152921504606846976∧(1≤i→(carryE (tl a b)).getD i 0<2251799813685248):=fun i=>by
  unfold carryE;have s:=sst_bd (tl a b) i;have s0:=sst_bd (tl a b) 0;rw[getD_set_eq _ _ _ _ (by rw[sst_len];decide)];split<;>omega
 refine⟨fun i=>by have:=hb1 i;omega,carryE_ok ?_ ?_,?_⟩
 ·exact gcy_nonneg (fun i=>(hb1 i).1) 5
 ·have c1:=(hb1 0);have c2:=(hb1 1);have c3:=hb1 2;have c4:=hb1 3;have c5:=hb1 4;simp only[gcy];unfold B51;omega
 ·rw[ev_carryE _ (carryE_len _),ev_carryE _ (tl_len _ _),ev_tl _ _ ha.1 hb.1]
end Go.Proofs.YtapejbpgdjbjjaaGreatDoor
