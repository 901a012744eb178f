import Derived.Test.YtncomnkdlpoelaaGreatDoorMReg
import Derived.BigRegion
import Derived.Shelf.Bits.Mul64
import Derived.Laws.Externs
import Derived.Deep.MidRow
namespace Go.Proofs.YtncomnkdlpoelaaGreatDoor
open Go.ChangeShapes Go.WideShapes Go.ChangeAt Go.RowKit
set_option linter.unusedVariables false
theorem part_u64 (w:World) (xs:List Int) (i:Nat) (hi:i<xs.length):(part 135 (xs.map (Value.int .u64)).toArray i).run Tryz.prog w=.ok (.int .u64 (xs.getD i 0)) w:=by
 have hagg:(isAgg 135).run Tryz.prog w=.ok false w:=by
  unfold isAgg;rw[Sem.run_bind,run_underlying Tryz.underlying135 w];rfl
 simp[part,hagg,hi]
theorem sizeU64 (w:World):(sizeOf 135).run Tryz.prog w=.ok 1 w:=by
 have h:(Tryz.prog.info? 135).map (·.size)=some 1:=by kernel_rfl
 cases hq:Tryz.prog.info? 135 with
 |none=>simp[hq] at h
 |some i=>
  have hs:i.size=1:=by simpa[hq] using h
  simp[sizeOf,typeInfo,hq,hs]
theorem run_eqW (w:World) (d n:Nat) (t:TypeId) (hu:Tryz.prog.underlying t=some (.array n 135)) (xs ys:List Int) (hx:xs.length=n) (hy:ys.length=n) :
  (Op.equalIn (d+2) t (.agg (xs.map (Value.int .u64)).toArray) (.agg (ys.map (Value.int .u64)).toArray)).run Tryz.prog w=.ok (decide (xs=ys)) w:=by
 have key:decide (xs=ys)=(List.range' 0 n).all (fun i=>xs.getD i 0 == ys.getD i 0):=by
  rw[Bool.eq_iff_iff];simp only[decide_eq_true_eq,List.all_eq_true,List.mem_range',beq_iff_eq];constructor
  ·rintro rfl _ _;rfl
  ·intro h;apply List.ext_getElem (by omega);intro i h1 h2;have:=h i ⟨i,by omega,by omega⟩;simpa[h1,h2] using this
 rw[key];unfold Op.equalIn;simp only[Sem.run_bind,run_underlying hu,Result.andThen_ok,sizeU64,Nat.mul_one,Std.Legacy.Range.forIn_eq_forIn_range',Std.Legacy.Range.size,Nat.sub_zero,Nat.add_sub_cancel,Nat.div_one];have hl:∀ i∈List.range' 0 n,i<n:=fun i hi=>by rw[List.mem_range'] at hi;obtain⟨j,_,rfl⟩:=hi;omega
 revert hl;generalize List.range' 0 n=l;intro hl
 induction l with
 |nil=>simp
 |cons i l ih=>
  have hi:=hl i (List.mem_cons_self ..);have ih':=ih (fun j hj=>hl j (List.mem_cons_of_mem _ hj));simp only[List.forIn_cons,Sem.run_bind,part_u64 w xs i (by omega),part_u64 w ys i (by omega),Result.andThen_ok,run_equalIn_int w d 135 .u64 .u64 _ _ Tryz.underlying135,List.all_cons];cases hb:(xs.getD i 0 == ys.getD i 0)
  ·simp
  ·simp only[Bool.not_true,Bool.false_eq_true,if_false,Sem.run_pure,Result.andThen_ok,Bool.true_and];exact ih'
end Go.Proofs.YtncomnkdlpoelaaGreatDoor
namespace Go.Proofs.YtncomnkdlpoelaaGreatDoor
set_option linter.unusedVariables false
/-! Elements of five limbs of 51 bits. -/
def gcy (B:Int) (xs:List Int):Nat→Int
 |0=>0
 |i+1=>(xs.getD i 0+gcy B xs i)/B
theorem gcarry_val (B:Int) (xs:List Int) (n:Nat):val B ((List.range n).map fun i=>(xs.getD i 0+gcy B xs i)%B)+gcy B xs n*B^n=val B ((List.range n).map fun i=>xs.getD i 0):=by
 induction n with
 |zero=>simp[val,gcy]
 |succ n ih=>
  rw[val_range,val_range,←ih,Int.pow_succ];simp only[gcy];have e:(xs.getD n 0+gcy B xs n)%B+B*((xs.getD n 0+gcy B xs n)/B)=xs.getD n 0+gcy B xs n:=Int.emod_add_mul_ediv _ _;have e2:((xs.getD n 0+gcy B xs n)%B+B*((xs.getD n 0+gcy B xs n)/B))*B^n=(xs.getD n 0+gcy B xs n)*B^n:=by rw[e]
  generalize B^n=P at *;generalize (xs.getD n 0+gcy B xs n)/B=q at *;generalize (xs.getD n 0+gcy B xs n)%B=r at *;generalize val B (List.map (fun i=>(xs.getD i 0+gcy B xs i)%B) (List.range n))=v at *
  grind
def B51:Int:=2251799813685248
def sdig (xs:List Int) (k i:Nat):Int:=if i<k then(xs.getD i 0+gcy B51 xs i)%B51 else xs.getD i 0
def sst (xs:List Int) (k:Nat):List Int:=(List.range 5).map (sdig xs k)
theorem sst_len (xs:List Int) (k:Nat):(sst xs k).length=5:=by simp[sst]
theorem rget5 (f:Nat→Int) (i:Nat) (h:i<5):((List.range 5).map f).getD i 0=f i:=by simp[h]
theorem sst_get (xs:List Int) (k i:Nat) (h:i<5):(sst xs k).getD i 0=sdig xs k i:=rget5 _ i h
theorem list5 {a b:List Int} (ha:a.length=5) (hb:b.length=5) (h:∀ i,i<5→a.getD i 0=b.getD i 0):a=b:=by
 apply List.ext_getElem (by omega);intro i h1 h2;have:=h i (by omega);simpa[h1,h2] using this
theorem sst_zero (xs:List Int) (h:xs.length=5):sst xs 0=xs:=by
 apply list5 (sst_len _ _) h;intro i hi;rw[sst_get _ _ _ hi];simp[sdig]
theorem sst_step (xs:List Int) (k:Nat) (h:k<5):(sst xs k).set k ((xs.getD k 0+gcy B51 xs k)%B51)=sst xs (k+1):=by
 apply list5 (by simp[sst_len]) (sst_len _ _);intro i hi;rw[getD_set_eq _ _ _ _ (by simp[sst_len];omega),sst_get _ _ _ hi,sst_get _ _ _ hi];unfold sdig;by_cases h2:i=k
 ·subst h2;simp
 ·have h3:(i<k)↔(i<k+1):=by omega
  simp[h2,h3]
theorem sst_val (xs:List Int) (h:xs.length=5):val B51 (sst xs 5)+gcy B51 xs 5*(fp+19)=val B51 xs:=by
 have e:=gcarry_val B51 xs 5;rw[←val_eq_range B51 xs 5 h] at e;have e1:sst xs 5=(List.range 5).map fun i=>(xs.getD i 0+gcy B51 xs i)%B51:=by
  apply list5 (sst_len _ _) (by simp);intro i hi;rw[sst_get _ _ _ hi,rget5 _ _ hi];simp[sdig,hi]
 have e2:(B51:Int)^5=fp+19:=by decide
 rw[e1,←e2];exact e
def carryE (xs:List Int):List Int:=(sst xs 5).set 0 ((sst xs 5).getD 0 0+19*gcy B51 xs 5)
theorem carryE_len (xs:List Int):(carryE xs).length=5:=by simp[carryE,sst_len]
theorem carryE_val (xs:List Int) (h:xs.length=5):val B51 (carryE xs)=val B51 xs-gcy B51 xs 5*fp:=by
 unfold carryE;rw[val_set _ _ _ _ (by simp[sst_len]),←sst_val xs h];simp only[Int.pow_zero];generalize (sst xs 5).getD 0 0=y;generalize gcy B51 xs 5=c;generalize val B51 (sst xs 5)=v
 grind
def ev (xs:List Int):Int:=val B51 xs%fp
theorem ev_carryE (xs:List Int) (h:xs.length=5):ev (carryE xs)=ev xs:=by
 unfold ev;rw[carryE_val xs h];have:val B51 xs-gcy B51 xs 5*fp=val B51 xs+fp*(-(gcy B51 xs 5)):=by grind
 rw[this,Int.add_mul_emod_self_left]
def EOk (xs:List Int):Prop:=xs.length=5∧(∀ i,0≤xs.getD i 0)∧(∀ i,1≤i→xs.getD i 0<2251799813685248)∧xs.getD 0 0<2251799813685504
theorem sst_bd (xs:List Int) (i:Nat):0≤(sst xs 5).getD i 0∧(sst xs 5).getD i 0<2251799813685248:=by
 by_cases h:i<5
 ·rw[sst_get _ _ _ h];unfold sdig B51;rw[if_pos h];omega
 ·rw[getD_past (by rw[sst_len];omega)];omega
theorem carryE_ok {xs:List Int} (h0:0≤gcy B51 xs 5) (h1:gcy B51 xs 5≤13):EOk (carryE xs):=by
 have hl:0<(sst xs 5).length:=by rw[sst_len];decide
 have hb0:=sst_bd xs 0;refine⟨carryE_len _,fun i=>?_,fun i hi=>?_,?_⟩
 ·unfold carryE;rw[getD_set_eq _ _ _ _ hl];have:=sst_bd xs i;split<;>omega
 ·unfold carryE;rw[getD_set_eq _ _ _ _ hl,if_neg (by omega)];exact(sst_bd xs i).2
 ·unfold carryE;rw[getD_set_eq _ _ _ _ hl,if_pos rfl];omega
theorem gcy_nonneg {xs:List Int} (h:∀ i,0≤xs.getD i 0) (i:Nat):0≤gcy B51 xs i:=by
 induction i with
 |zero=>simp[gcy]
 |succ i ih=>have:=h i;simp only[gcy];unfold B51 at *;omega
theorem gcy_le {xs:List Int} {M C:Int} (h:∀ i,0≤xs.getD i 0∧xs.getD i 0<M) (hC:0≤C) (hM:M+C≤2251799813685248*(C+1)) (i:Nat):0≤gcy B51 xs i∧gcy B51 xs i≤C:=by
 induction i with
 |zero=>simp[gcy];omega
 |succ i ih=>have:=h i;simp only[gcy];unfold B51 at *;omega
end Go.Proofs.YtncomnkdlpoelaaGreatDoor
namespace Go.Proofs.YtncomnkdlpoelaaGreatDoor
open Go.ChangeShapes Go.WideShapes Go.ChangeAt Go.RowKit
set_option linter.unusedVariables false
def U62 (xs:List Int):Prop:=∀ i,0≤xs.getD i 0∧xs.getD i 0<9223372036854775808
structure StS (w:World) (g:Nat) (zs:List Int) (wr:World):Prop where
 row:RowW wr g 141 zs
 wr:Wr g w wr
theorem StS.set {w:World} {g:Nat} {zs:List Int} {wr:World} (h:StS w g zs wr) (k:Nat) (x:Int):StS w g (zs.set k x) ((wr.setCell ⟨g,k,none⟩ (.int .u64 x)).drew):=
 ⟨h.row.set k x,(h.wr.setCell k _).drew⟩
set_option maxHeartbeats 1000000 in
theorem settle_any (g:Nat) (xs:List Int) (w:World) (hl:xs.length=5) (hr:RowW w g 141 xs) (hx:U62 xs) :
  Calls Tryz.prog 148 #[.pointer (some ⟨g,0,none⟩)] w fun e w'=>e=.returned (.int .u64 (gcy B51 xs 5))∧StS w g (sst xs 5) w':=by
 have HC:Hid (∀ i,0≤gcy B51 xs i∧gcy B51 xs i≤4096):=fun i=>gcy_le (M:=9223372036854775808) hx (by decide) (by decide) i
 have HX:=hdI <| hx
 have HS:Hid (StS w g (sst xs 0) w):=⟨by rw[sst_zero xs hl];exact hr,Wr.refl _ _⟩
 clear hx hr;go_enter Tryz.func148,Tryz.ntmps148;go_wp2
 go_loopw [3,5] (fun c i wr=>∃ k:Nat,k≤5∧i=.int .i64 k∧c=.int .u64 (gcy B51 xs k)∧StS w g (sst xs k) wr) (fun _ i _=>5-(intOf i).toNat)
 case atStart=>exact⟨0,by decide,rfl,rfl,HS.out⟩
 case round=>
  clear HS;obtain⟨k,hk,rfl,rfl,hst⟩:=hrel;by_cases hlt:k<5
  ·have hlt':(k:Int)<5:=by omega
   obtain⟨hc0,hc1⟩:=HC.out k;obtain⟨hx0,hx1⟩:=HX.out k;have hget:(sst xs k).getD k 0=xs.getD k 0:=by rw[sst_get _ _ _ hlt];simp[sdig]
   have hlen:=sst_len xs k;have c0:=hst.row.cell k (by omega);have f0:=hst.row.frozen k;rw[hget] at c0;have s1:=hst.set k (xs.getD k 0+gcy B51 xs k);have c1:=s1.row.cell k (by rw[List.length_set];omega);have f1:=s1.row.frozen k;rw[getD_set_eq _ _ _ _ (by omega),if_pos rfl] at c1;have s2:=s1.set k ((xs.getD k 0+gcy B51 xs k)%B51);rw[List.set_set,sst_step xs k hlt] at s2;have HS2:=hdI <| s2
   have HCS:Hid (gcy B51 xs (k+1)=(xs.getD k 0+gcy B51 xs k)/2251799813685248):=rfl;have HAND:Hid (bits .and .u64 (xs.getD k 0+gcy B51 xs k) 2251799813685247=(xs.getD k 0+gcy B51 xs k)%B51):=u64_and_mask _ 51 (by omega) (by omega) _ (by decide) (by decide);clear hget hlen s1 s2 hst;generalize gcy B51 xs k=cc at *;generalize xs.getD k 0=x at *;go_wp2
   go_region
   clear c0 f0;generalize (wr.setCell ⟨g,k,none⟩ (.int .u64 (x+cc))).drew=w1 at *;go_wp2
   go_region
   rw[HAND.out];clear c1 f1;generalize (w1.setCell ⟨g,k,none⟩ (.int .u64 ((x+cc)%B51))).drew=w2 at *;go_wp2;go_roundw
   case rel=>exact⟨k+1,by omega,by go_num,by rw[HCS.out],HS2.out⟩
   case measure=>simp[intOf];omega
  ·obtain rfl:k=5:=by omega
   have HP:=hdI <| hst
   clear hst;go_wp2
   go_ret
   exact⟨rfl,HP.out⟩
set_option maxHeartbeats 400000 in
theorem carryE_any (g:Nat) (xs:List Int) (w:World) (hl:xs.length=5) (hr:RowW w g 141 xs) (hx:U62 xs) :
  Calls Tryz.prog 153 #[.pointer (some ⟨g,0,none⟩)] w fun e w'=>e=.returned (.tuple #[])∧StS w g (carryE xs) w':=by
 have hc:=gcy_le (M:=9223372036854775808) (C:=4096) hx (by decide) (by decide) 5;go_enter Tryz.func153,Tryz.ntmps153;go_wp2_with fail;refine(settle_any g xs _ hl hr hx).mono ?_;rintro e w1 ⟨rfl,st⟩;have hb:=sst_bd xs 0;have c0:=st.row.cell 0 (by rw[sst_len];decide);have f0:=st.row.frozen 0;have HS:Hid (StS w g (carryE xs) ((w1.setCell ⟨g,0,none⟩ (.int .u64 ((sst xs 5).getD 0 0+19*gcy B51 xs 5))).drew)):=st.set 0 _;clear st hr hx;generalize (sst xs 5).getD 0 0=y at *;generalize gcy B51 xs 5=c at *;obtain⟨hc0,hc1⟩:=hc;obtain⟨hb0,hb1⟩:=hb;go_wp2
 go_region
 clear c0 f0;generalize (w1.setCell ⟨g,0,none⟩ (.int .u64 (y+19*c))).drew=w2 at *;go_wp2
 go_end0
 exact⟨rfl,HS.out⟩
def EAt (w:World) (g o:Nat) (es:List Int):Prop:=g<w.heap.size∧EOk es∧∀ i,i<5→w.cell? ⟨g,o+i,none⟩=some (.int .u64 (es.getD i 0))
theorem EAt.below {w w':World} {g o:Nat} {es:List Int} (h:EAt w g o es) (hb:Below w.heap.size w w'):EAt w' g o es:=
 ⟨by have:=hb.size;have:=h.1;omega,h.2.1,fun i hi=>by rw[hb.cell (p:=⟨g,o+i,none⟩) h.1];exact h.2.2 i hi⟩
def EP (w:World) (x:Int) (e:Ending) (w':World):Prop:=
 ∃ es:List Int,EOk es∧ev es=x∧e=.returned (.agg (es.map (Value.int .u64)).toArray)∧Below w.heap.size w w'
theorem Tryz.sizeEl:(Tryz.prog.info? 141).map (·.size)=some 5:=by kernel_rfl
theorem sizeEl {ns:List Int} (h:ns.length=5):(Tryz.prog.info? 141).map (·.size)=some ((ns.map (Value.int .u64)).toArray).size:=by rw[Tryz.sizeEl];simp[h]
def mixE (f:Nat→Int) (zs:List Int) (k:Nat):List Int:=(List.range 5).map fun i=>if i<k then f i else zs.getD i 0
theorem mixE_len (f:Nat→Int) (zs:List Int) (k:Nat):(mixE f zs k).length=5:=by simp[mixE]
theorem mixE_get (f:Nat→Int) (zs:List Int) (k i:Nat) (h:i<5):(mixE f zs k).getD i 0=if i<k then f i else zs.getD i 0:=rget5 _ i h
theorem mixE_zero (f:Nat→Int) (zs:List Int) (h:zs.length=5):mixE f zs 0=zs:=by
 apply list5 (mixE_len _ _ _) h;intro i hi;rw[mixE_get _ _ _ _ hi];simp
theorem mixE_step (f:Nat→Int) (zs:List Int) (k:Nat) (h:k<5):(mixE f zs k).set k (f k)=mixE f zs (k+1):=by
 apply list5 (by simp[mixE_len]) (mixE_len _ _ _);intro i hi;rw[getD_set_eq _ _ _ _ (by simp[mixE_len];omega),mixE_get _ _ _ _ hi,mixE_get _ _ _ _ hi];by_cases h2:i=k
 ·subst h2;simp
 ·have h3:(i<k)↔(i<k+1):=by omega
  simp[h2,h3]
theorem val5 (B:Int) (f:Nat→Int) (zs:List Int):val B (mixE f zs 5)=val B ((List.range 5).map f):=by
 congr 1
theorem val_sub5 (B:Int) (f g:Nat→Int) (n:Nat):val B ((List.range n).map fun i=>f i-g i)=val B ((List.range n).map f)-val B ((List.range n).map g):=by
 have:=val_lin B f g n (-1);rw[show(fun i=>f i-g i)=fun i=>f i+-1*g i from by funext i;omega,this];omega
structure PlS (w:World) (zs:List Int) (wr:World):Prop where
 res:RowW wr w.heap.size 141 [0,0,0,0,0]
 row:RowW wr (w.heap.size+1) 141 zs
 below:Below w.heap.size w wr
theorem PlS.set {w:World} {zs:List Int} {wr:World} (h:PlS w zs wr) (k:Nat) (x:Int):PlS w (zs.set k x) ((wr.setCell ⟨w.heap.size+1,k,none⟩ (.int .u64 x)).drew):=
 ⟨((Wr.refl _ _).setCell k _).rowW h.res (by omega),h.row.set k x,(h.below.setCell (by simp) _).drew⟩
theorem PlS.carry {w:World} {zs ys:List Int} {wr w':World} (h:PlS w zs wr) (hs:StS wr (w.heap.size+1) ys w'):PlS w ys w':=
 ⟨hs.wr.rowW h.res (by omega),hs.row,h.below.trans (hs.wr.below (by omega))⟩
def addL (xs ys:List Int):List Int:=mixE (fun i=>xs.getD i 0+ys.getD i 0) [0,0,0,0,0] 5
theorem addL_ok {xs ys:List Int} (hx:EOk xs) (hy:EOk ys):U62 (addL xs ys)∧EOk (carryE (addL xs ys))∧ev (carryE (addL xs ys))=(ev xs+ev ys)%fp:=by
 have hb:∀ i,0≤(addL xs ys).getD i 0∧(addL xs ys).getD i 0<4503599627371008:=fun i=>by
  by_cases h:i<5
  ·unfold addL;rw[mixE_get _ _ _ _ h,if_pos h];have a0:=hx.2.1 i;have b0:=hy.2.1 i;rcases Nat.eq_zero_or_pos i with rfl|hi
   ·have:=hx.2.2.2;have:=hy.2.2.2;omega
   ·have:=hx.2.2.1 i hi;have:=hy.2.2.1 i hi;omega
  ·rw[getD_past (by unfold addL;rw[mixE_len];omega)];omega
 have hc:=gcy_le (C:=2) hb (by decide) (by decide) 5;refine⟨fun i=>by have:=hb i;omega,carryE_ok hc.1 (by omega),?_⟩;rw[ev_carryE (addL xs ys) (mixE_len _ _ _)];unfold ev addL;rw[val5,val_eq_range B51 xs 5 hx.1,val_eq_range B51 ys 5 hy.1,←Int.add_emod]
 congr 1
 have:=val_lin B51 (fun i=>xs.getD i 0) (fun i=>ys.getD i 0) 5 1;rw[show(fun i=>xs.getD i 0+ys.getD i 0)=fun i=>xs.getD i 0+1*ys.getD i 0 from by funext i;omega,this];omega
def twoP:List Int:=[4503599627370458,4503599627370494,4503599627370494,4503599627370494,4503599627370494]
theorem twoP_val:val B51 twoP=2*fp:=by decide
def subL (xs ys:List Int):List Int:=mixE (fun i=>twoP.getD i 0+xs.getD i 0-ys.getD i 0) twoP 5
theorem twoP_get (i:Nat) (h:i<5):4503599627370458≤twoP.getD i 0∧twoP.getD i 0≤4503599627370494:=by
 have:i=0∨i=1∨i=2∨i=3∨i=4:=by omega
 rcases this with rfl|rfl|rfl|rfl|rfl<;>decide
theorem subL_ok {xs ys:List Int} (hx:EOk xs) (hy:EOk ys):U62 (subL xs ys)∧EOk (carryE (subL xs ys))∧ev (carryE (subL xs ys))=(ev xs-ev ys)%fp:=by
 have hb:∀ i,0≤(subL xs ys).getD i 0∧(subL xs ys).getD i 0<6755399441056000:=fun i=>by
  by_cases h:i<5
  ·unfold subL;rw[mixE_get _ _ _ _ h,if_pos h];have a0:=hx.2.1 i;have b0:=hy.2.1 i;have t:=twoP_get i h;rcases Nat.eq_zero_or_pos i with rfl|hi
   ·have:=hx.2.2.2;have:=hy.2.2.2;omega
   ·have:=hx.2.2.1 i hi;have:=hy.2.2.1 i hi;omega
  ·rw[getD_past (by unfold subL;rw[mixE_len];omega)];omega
 have hc:=gcy_le (C:=3) hb (by decide) (by decide) 5;refine⟨fun i=>by have:=hb i;omega,carryE_ok hc.1 (by omega),?_⟩;rw[ev_carryE (subL xs ys) (mixE_len _ _ _)];unfold ev subL;have e0:=twoP_val;rw[val_eq_range B51 twoP 5 rfl] at e0;rw[val5,val_sub5 B51 (fun i=>twoP.getD i 0+xs.getD i 0) (fun i=>ys.getD i 0) 5];have:=val_lin B51 (fun i=>twoP.getD i 0) (fun i=>xs.getD i 0) 5 1;rw[show(fun i=>twoP.getD i 0+xs.getD i 0)=fun i=>twoP.getD i 0+1*xs.getD i 0 from by funext i;omega,this,e0,←val_eq_range B51 xs 5 hx.1,←val_eq_range B51 ys 5 hy.1,←Int.sub_emod];rw[show 2*fp+1*val B51 xs-val B51 ys=(val B51 xs-val B51 ys)+fp*2 by omega,Int.add_mul_emod_self_left]
set_option maxHeartbeats 1000000 in
theorem plus_any (g1 o1 g2 o2:Nat) (xs ys:List Int) (w:World) (h1:EAt w g1 o1 xs) (h2:EAt w g2 o2 ys) :
  Calls Tryz.prog 139 #[.pointer (some ⟨g1,o1,none⟩),.pointer (some ⟨g2,o2,none⟩)] w (EP w ((ev xs+ev ys)%fp)):=by
 obtain⟨q1,q2,q3⟩:=addL_ok h1.2.1 h2.2.1;have HQ:Hid (U62 (addL xs ys)∧EOk (carryE (addL xs ys))∧ev (carryE (addL xs ys))=(ev xs+ev ys)%fp):=⟨q1,q2,q3⟩
 have HS:Hid (PlS w (mixE (fun i=>xs.getD i 0+ys.getD i 0) [0,0,0,0,0] 0) ((w.alloc (.cells #[.int .u64 0,.int .u64 0,.int .u64 0,.int .u64 0,.int .u64 0] 141)).alloc (.cells #[.int .u64 0,.int .u64 0,.int .u64 0,.int .u64 0,.int .u64 0] 141))):=by
  rw[mixE_zero _ _ rfl];exact⟨heap_alloc2_old _ _ _,heap_alloc2_new _ _ _,((Below.refl _ _).alloc (Nat.le_refl _) _).alloc (by simp) _⟩
 have H1:=hdI <| h1
 have H2:=hdI <| h2
 clear q1 q2 q3 h1 h2;go_enter Tryz.func139,Tryz.ntmps139;go_wp2
 go_loopw [7] (fun i wr=>∃ k:Nat,k≤5∧i=.int .i64 k∧PlS w (mixE (fun i=>xs.getD i 0+ys.getD i 0) [0,0,0,0,0] k) wr) (fun i _=>5-(intOf i).toNat)
 case atStart=>exact⟨0,by decide,rfl,HS.out⟩
 case round=>
  clear HS;obtain⟨k,hk,rfl,hst⟩:=hrel;by_cases hlt:k<5
  ·have hlt':(k:Int)<5:=by omega
   have c1:=(H1.out.below hst.below).2.2 k hlt;have c2:=(H2.out.below hst.below).2.2 k hlt;have a0:=H1.out.2.1.2.1 k;have b0:=H2.out.2.1.2.1 k;have ab:xs.getD k 0<2251799813685504:=by
    rcases Nat.eq_zero_or_pos k with rfl|hi
    ·exact H1.out.2.1.2.2.2
    ·have:=H1.out.2.1.2.2.1 k hi;omega
   have bb:ys.getD k 0<2251799813685504:=by
    rcases Nat.eq_zero_or_pos k with rfl|hi
    ·exact H2.out.2.1.2.2.2
    ·have:=H2.out.2.1.2.2.1 k hi;omega
   have c3:=hst.row.cell k (by rw[mixE_len];exact hlt);have f3:=hst.row.frozen k;have s1:=hst.set k (xs.getD k 0+ys.getD k 0);rw[mixE_step (fun i=>xs.getD i 0+ys.getD i 0) _ k hlt] at s1;have HS1:=hdI <| s1
   clear s1 hst;generalize (mixE (fun i=>xs.getD i 0+ys.getD i 0) [0,0,0,0,0] k).getD k 0=z at *;generalize xs.getD k 0=x at *;generalize ys.getD k 0=y at *;go_wp2
   go_region
   clear c1 c2 c3 f3;generalize (wr.setCell ⟨w.heap.size+1,k,none⟩ (.int .u64 (x+y))).drew=w1 at *;go_wp2;go_roundw
   case rel=>exact⟨k+1,by omega,by go_num,HS1.out⟩
   case measure=>simp[intOf];omega
  ·obtain rfl:k=5:=by omega
   go_wp2_with fail;refine(carryE_any _ (addL xs ys) _ (mixE_len _ _ _) hst.row HQ.out.1).mono ?_;rintro e w1 ⟨rfl,hs⟩;have s1:=hst.carry hs;have hl:=HQ.out.2.1.1;have HSZ:=hdI <| sizeEl hl
   have HZ4:Hid (([0,0,0,0,0].map (Value.int .u64)).toArray.size=(((carryE (addL xs ys)).map (Value.int .u64)).toArray).size):=by show _=_;simp[hl]
   have HRS:=hdI <| s1.res
   have HRO:=hdI <| s1.row
   have HBE:=hdI <| s1.below
   clear s1 hs hst hl;generalize carryE (addL xs ys)=es at *;go_wp2_with (first
    |(refine wpList_load_row rfl 141 (.tmp 5) rfl (w.heap.size+1) rfl 141 _ (0,0) _ HRO.out Tryz.underlying141 rfl HSZ.out ?_)
    |(refine wpList_store_row rfl 141 (.tmp 4) (.tmp 25) rfl w.heap.size ((es.map (Value.int .u64)).toArray) rfl rfl 141 _ HRS.out HSZ.out HZ4.out (all_oneCell_toArray (ints_oneCell _ _)) ?_))
   refine bodyPost_ret (v:=.agg (es.map (Value.int .u64)).toArray) (results_cell_row rfl _ _ w.heap.size 141 _ (0,0) _ rfl (setRow_heap _ _ _ _ _ _ HRS.out) Tryz.underlying141 rfl HSZ.out) rfl ⟨es,HQ.out.2.1,HQ.out.2.2,rfl,?_⟩;exact HBE.out.trans ((Wr.setRow _ _ _).below (Nat.le_refl _))
set_option maxHeartbeats 1000000 in
theorem minus_any (g1 o1 g2 o2:Nat) (xs ys:List Int) (w:World) (h1:EAt w g1 o1 xs) (h2:EAt w g2 o2 ys) :
  Calls Tryz.prog 138 #[.pointer (some ⟨g1,o1,none⟩),.pointer (some ⟨g2,o2,none⟩)] w (EP w ((ev xs-ev ys)%fp)):=by
 obtain⟨q1,q2,q3⟩:=subL_ok h1.2.1 h2.2.1;have HQ:Hid (U62 (subL xs ys)∧EOk (carryE (subL xs ys))∧ev (carryE (subL xs ys))=(ev xs-ev ys)%fp):=⟨q1,q2,q3⟩
 have H1:=hdI <| h1
 have H2:=hdI <| h2
 clear q1 q2 q3 h1 h2;go_enter Tryz.func138,Tryz.ntmps138;have HR0:Hid (RowW ((w.alloc (.cells #[.int .u64 0,.int .u64 0,.int .u64 0,.int .u64 0,.int .u64 0] 141)).alloc (.cells #[.int .u64 0,.int .u64 0,.int .u64 0,.int .u64 0,.int .u64 0] 141)) w.heap.size 141 [0,0,0,0,0]):=heap_alloc2_old _ _ _;have HBB:Hid (Below w.heap.size w ((w.alloc (.cells #[.int .u64 0,.int .u64 0,.int .u64 0,.int .u64 0,.int .u64 0] 141)).alloc (.cells #[.int .u64 0,.int .u64 0,.int .u64 0,.int .u64 0,.int .u64 0] 141))):=((Below.refl _ _).alloc (Nat.le_refl _) _).alloc (by simp) _;have HR1:Hid (RowW ((w.alloc (.cells #[.int .u64 0,.int .u64 0,.int .u64 0,.int .u64 0,.int .u64 0] 141)).alloc (.cells #[.int .u64 0,.int .u64 0,.int .u64 0,.int .u64 0,.int .u64 0] 141)) (w.heap.size+1) 141 [0,0,0,0,0]):=heap_alloc2_new _ _ _;have HSZ:Hid ((Tryz.prog.info? 141).map (·.size)=some ((twoP.map (Value.int .u64)).toArray).size):=sizeEl rfl;go_wp2_with (first
  |(refine wpList_store_row rfl 141 (.tmp 5) (.tmp 7) rfl (w.heap.size+1) ((twoP.map (Value.int .u64)).toArray) rfl rfl 141 _ HR1.out HSZ.out rfl (all_oneCell_toArray (ints_oneCell _ _)) ?_)
  |fail)
 have HS:Hid (PlS w (mixE (fun i=>twoP.getD i 0+xs.getD i 0-ys.getD i 0) twoP 0) (((w.alloc (.cells #[.int .u64 0,.int .u64 0,.int .u64 0,.int .u64 0,.int .u64 0] 141)).alloc (.cells #[.int .u64 0,.int .u64 0,.int .u64 0,.int .u64 0,.int .u64 0] 141)).setRow (w.heap.size+1) (twoP.map (Value.int .u64)).toArray)):=by
  rw[mixE_zero _ _ rfl];have r0:=HR0.out;have r1:=HR1.out;have bb:=HBB.out;generalize (w.alloc (.cells #[.int .u64 0,.int .u64 0,.int .u64 0,.int .u64 0,.int .u64 0] 141)).alloc (.cells #[.int .u64 0,.int .u64 0,.int .u64 0,.int .u64 0,.int .u64 0] 141)=wz at *;exact⟨r0.setRow_other _ (by omega),r1.setRow twoP,bb.trans ((Wr.setRow _ _ _).below (by omega))⟩
 clear HR0 HR1 HSZ HBB;generalize ((w.alloc (.cells #[.int .u64 0,.int .u64 0,.int .u64 0,.int .u64 0,.int .u64 0] 141)).alloc (.cells #[.int .u64 0,.int .u64 0,.int .u64 0,.int .u64 0,.int .u64 0] 141)).setRow (w.heap.size+1) (twoP.map (Value.int .u64)).toArray=w0 at *
 go_loopw [8] (fun i wr=>∃ k:Nat,k≤5∧i=.int .i64 k∧PlS w (mixE (fun i=>twoP.getD i 0+xs.getD i 0-ys.getD i 0) twoP k) wr) (fun i _=>5-(intOf i).toNat)
 case atStart=>exact⟨0,by decide,rfl,HS.out⟩
 case round=>
  clear HS;obtain⟨k,hk,rfl,hst⟩:=hrel;by_cases hlt:k<5
  ·have hlt':(k:Int)<5:=by omega
   have c1:=(H1.out.below hst.below).2.2 k hlt;have c2:=(H2.out.below hst.below).2.2 k hlt;have a0:=H1.out.2.1.2.1 k;have b0:=H2.out.2.1.2.1 k;have ab:xs.getD k 0<2251799813685504:=by
    rcases Nat.eq_zero_or_pos k with rfl|hi
    ·exact H1.out.2.1.2.2.2
    ·have:=H1.out.2.1.2.2.1 k hi;omega
   have bb:ys.getD k 0<2251799813685504:=by
    rcases Nat.eq_zero_or_pos k with rfl|hi
    ·exact H2.out.2.1.2.2.2
    ·have:=H2.out.2.1.2.2.1 k hi;omega
   have c3:=hst.row.cell k (by rw[mixE_len];exact hlt);have f3:=hst.row.frozen k;have ht:=twoP_get k hlt;have hz:(mixE (fun i=>twoP.getD i 0+xs.getD i 0-ys.getD i 0) twoP k).getD k 0=twoP.getD k 0:=by rw[mixE_get _ _ _ _ hlt];simp
   rw[hz] at c3;have s1:=hst.set k (twoP.getD k 0+xs.getD k 0-ys.getD k 0);rw[mixE_step (fun i=>twoP.getD i 0+xs.getD i 0-ys.getD i 0) _ k hlt] at s1;have HS1:=hdI <| s1
   have HW:Hid (IntKind.u64.wrap (twoP.getD k 0+IntKind.u64.wrap (xs.getD k 0-ys.getD k 0))=twoP.getD k 0+xs.getD k 0-ys.getD k 0):=by
    show _=_
    rw[IntKind.wrap_u64,IntKind.wrap_u64];omega
   clear s1 hst hz;obtain⟨ht0,ht1⟩:=ht;generalize twoP.getD k 0=z at *;generalize xs.getD k 0=x at *;generalize ys.getD k 0=y at *;go_wp2
   go_region
   rw[HW.out];clear c1 c2 c3 f3;generalize (wr.setCell ⟨w.heap.size+1,k,none⟩ (.int .u64 (z+x-y))).drew=w1 at *;go_wp2;go_roundw
   case rel=>exact⟨k+1,by omega,by go_num,HS1.out⟩
   case measure=>simp[intOf];omega
  ·obtain rfl:k=5:=by omega
   go_wp2_with fail;refine(carryE_any _ (subL xs ys) _ (mixE_len _ _ _) hst.row HQ.out.1).mono ?_;rintro e w1 ⟨rfl,hs⟩;have s1:=hst.carry hs;have hl:=HQ.out.2.1.1;have HSZ:=hdI <| sizeEl hl
   have HZ4:Hid (([0,0,0,0,0].map (Value.int .u64)).toArray.size=(((carryE (subL xs ys)).map (Value.int .u64)).toArray).size):=by show _=_;simp[hl]
   have HRS:Hid (RowW w1 w.heap.size 141 [0,0,0,0,0]):=s1.res;have HRO:Hid (RowW w1 (w.heap.size+1) 141 (carryE (subL xs ys))):=s1.row;have HBE:Hid (Below w.heap.size w w1):=s1.below;clear s1 hs hst hl;generalize carryE (subL xs ys)=es at *;go_wp2_with (first
    |(refine wpList_load_row rfl 141 (.tmp 5) rfl (w.heap.size+1) rfl 141 _ (0,0) _ HRO.out Tryz.underlying141 rfl HSZ.out ?_)
    |(refine wpList_store_row rfl 141 (.tmp 4) (.tmp 29) rfl w.heap.size ((es.map (Value.int .u64)).toArray) rfl rfl 141 _ HRS.out HSZ.out HZ4.out (all_oneCell_toArray (ints_oneCell _ _)) ?_))
   refine bodyPost_ret (v:=.agg (es.map (Value.int .u64)).toArray) (results_cell_row rfl _ _ w.heap.size 141 _ (0,0) _ rfl (setRow_heap _ _ _ _ _ _ HRS.out) Tryz.underlying141 rfl HSZ.out) rfl ⟨es,HQ.out.2.1,HQ.out.2.2,rfl,?_⟩;exact HBE.out.trans ((Wr.setRow _ _ _).below (Nat.le_refl _))
end Go.Proofs.YtncomnkdlpoelaaGreatDoor
namespace Go.Proofs.YtncomnkdlpoelaaGreatDoor
open Go.ChangeShapes Go.WideShapes Go.ChangeAt Go.RowKit Go.Shelf Go.Lib
set_option linter.unusedVariables false
set_option maxHeartbeats 1000000 in
theorem mul64_nat (x y:Nat) (hx:x<18446744073709551616) (hy:y<18446744073709551616) (w:World) :
  Calls Tryz.prog 164 #[.int .u64 x,.int .u64 y] w fun e w'=>e=.returned (.tuple #[.int .u64 ((x*y/18446744073709551616:Nat):Int),.int .u64 ((x*y%18446744073709551616:Nat):Int)])∧w'=w:=by
 obtain⟨b1,b2,b3,hhi⟩:=Lib.mul64_hi x y hx hy;have p1:=Lib.half_mul_le (a:=x/4294967296) (b:=y/4294967296) (by omega) (by omega);have p2:=Lib.half_mul_le (a:=x/4294967296) (b:=y%4294967296) (by omega) (by omega);have p3:=Lib.half_mul_le (a:=x%4294967296) (b:=y/4294967296) (by omega) (by omega);have q1:x/4294967296*(y/4294967296)<18446744073709551616:=by omega
 have q2:x/4294967296*(y%4294967296)<18446744073709551616:=by omega
 have q3:x%4294967296*(y/4294967296)<18446744073709551616:=by omega
 have q4:x/4294967296*(y/4294967296)+(x/4294967296*(y%4294967296)+x%4294967296*(y%4294967296)/4294967296)/4294967296<18446744073709551616:=by omega
 have q5:x/4294967296*(y/4294967296)+(x/4294967296*(y%4294967296)+x%4294967296*(y%4294967296)/4294967296)/4294967296+((x/4294967296*(y%4294967296)+x%4294967296*(y%4294967296)/4294967296)%4294967296+x%4294967296*(y/4294967296))/4294967296<18446744073709551616:=by omega
 go_enter Tryz.func164,Tryz.ntmps164;go_wp2;simp only[Mul64.maskN x hx,Mul64.maskN y hy,Mul64.divN,Mul64.mulN,Mul64.addN,Mul64.wrapN _ b1,Mul64.wrapN _ q2,Mul64.wrapN _ b2,Mul64.maskN _ b2,Mul64.wrapN _ q3,Mul64.wrapN _ b3,Mul64.wrapN _ q1,Mul64.wrapN _ q4,Mul64.wrapN _ q5,Mul64.wrapM (x*y)];rw[hhi]
 go_ret2
 exact⟨rfl,rfl⟩
theorem mul64_any (x y:Int) (hx:0≤x) (hx':x<18446744073709551616) (hy:0≤y) (hy':y<18446744073709551616) (w:World) :
  Calls Tryz.prog 164 #[.int .u64 x,.int .u64 y] w fun e w'=>e=.returned (.tuple #[.int .u64 (x*y/18446744073709551616),.int .u64 (x*y%18446744073709551616)])∧w'=w:=by
 obtain⟨x,rfl⟩:=Int.eq_ofNat_of_zero_le hx;obtain⟨y,rfl⟩:=Int.eq_ofNat_of_zero_le hy;refine(mul64_nat x y (by omega) (by omega) w).mono ?_;rintro e w' ⟨rfl,rfl⟩;refine⟨?_,rfl⟩;rw[Int.natCast_ediv,Int.natCast_emod,Int.natCast_mul];rfl
def add64E:Array Value→Sem Value:=fun args=>do
 let (x, y, c) ← Extern.MathBitsCarry.three "Add64" args
 pure (Extern.MathBitsCarry.pair ((x+y+c)%Extern.MathBitsCarry.m64) ((x+y+c)/Extern.MathBitsCarry.m64))
theorem run_add64E (x y:Nat) (w:World) :
  (add64E #[.int .u64 x,.int .u64 y,.int .u64 0]).run Tryz.prog w=
   .ok (.tuple #[.int .u64 (((x+y)%18446744073709551616:Nat):Int),.int .u64 (((x+y)/18446744073709551616:Nat):Int)]) w:=rfl
theorem add64_0 (x y:Int) (hx:0≤x) (hy:0≤y) (w:World):(callFunc 165 #[.int .u64 x,.int .u64 y,.int .u64 0]).run Tryz.prog w=
  .ok (.value (.tuple #[.int .u64 ((x+y)%18446744073709551616),.int .u64 ((x+y)/18446744073709551616)])) w:=by
 obtain⟨x,rfl⟩:=Int.eq_ofNat_of_zero_le hx;obtain⟨y,rfl⟩:=Int.eq_ofNat_of_zero_le hy;have e1:(((x+y)%18446744073709551616:Nat):Int)=((x:Int)+y)%18446744073709551616:=by omega
 have e2:(((x+y)/18446744073709551616:Nat):Int)=((x:Int)+y)/18446744073709551616:=by omega
 rw[run_callFunc_extern Tryz.func165 (by kernel_rfl) (by kernel_rfl) (by kernel_rfl) (e:=add64E) (by kernel_rfl),run_add64E x y,e1,e2];rfl
structure WdS (w:World) (g:Nat) (S:Int) (wr:World):Prop where
 row:wr.heap[g]?=some (.cells #[.int .u64 (S/18446744073709551616),.int .u64 (S%18446744073709551616)] 206 (0,0))
 wr:Wr g w wr
set_option maxHeartbeats 1000000 in
theorem addP_any (g:Nat) (S a b:Int) (w:World) (hS:0≤S) (hr:w.heap[g]?=some (.cells #[.int .u64 (S/18446744073709551616),.int .u64 (S%18446744073709551616)] 206 (0,0))) (ha:0≤a) (ha':a<18446744073709551616) (hb:0≤b) (hb':b<18446744073709551616) (hT:S+a*b<340282366920938463463374607431768211456) :
  Calls Tryz.prog 152 #[.pointer (some ⟨g,0,none⟩),.int .u64 a,.int .u64 b] w fun e w'=>e=.returned (.tuple #[])∧WdS w g (S+a*b) w':=by
 obtain⟨p,hp⟩:∃ p,p=a*b:=⟨_,rfl⟩
 have hp0:0≤p:=by rw[hp];exact Int.mul_nonneg ha hb
 have M:=mul64_any a b ha ha' hb hb';rw[←hp] at M hT ⊢;clear hp;have c0:w.cell? ⟨g,0,none⟩=some (.int .u64 (S/18446744073709551616)):=cell_of_row _ _ _ _ _ _ hr;have c1:w.cell? ⟨g,1,none⟩=some (.int .u64 (S%18446744073709551616)):=cell_of_row _ _ _ _ _ _ hr;have f0:=frozen_of_row w g 0 _ _ hr;have f1:=frozen_of_row w g 1 _ _ hr;have r1:=heap_setCell_same w g 1 _ 206 (.int .u64 ((S%18446744073709551616+p%18446744073709551616)%18446744073709551616)) hr;have r2:=heap_setCell_same _ g 0 _ 206 (.int .u64 (S/18446744073709551616+(p/18446744073709551616+(S%18446744073709551616+p%18446744073709551616)/18446744073709551616))) r1;have HP:Hid (WdS w g (S+p) ((w.setCell ⟨g,1,none⟩ (.int .u64 ((S%18446744073709551616+p%18446744073709551616)%18446744073709551616))).setCell ⟨g,0,none⟩ (.int .u64 (S/18446744073709551616+(p/18446744073709551616+(S%18446744073709551616+p%18446744073709551616)/18446744073709551616))))):=by
  refine⟨?_,((Wr.refl _ _).setCell 1 _).setCell 0 _⟩;rw[r2];have e1:(S+p)/18446744073709551616=S/18446744073709551616+(p/18446744073709551616+(S%18446744073709551616+p%18446744073709551616)/18446744073709551616):=by omega
  have e2:(S+p)%18446744073709551616=(S%18446744073709551616+p%18446744073709551616)%18446744073709551616:=by omega
  rw[e1,e2];rfl
 have b0:0≤S/18446744073709551616:=by omega
 have b1:0≤S%18446744073709551616:=by omega
 have b2:0≤p/18446744073709551616:=by omega
 have b3:0≤p%18446744073709551616:=by omega
 have b4:S/18446744073709551616+(p/18446744073709551616+(S%18446744073709551616+p%18446744073709551616)/18446744073709551616)<18446744073709551616:=by omega
 have b5:S%18446744073709551616<18446744073709551616:=by omega
 have b6:p%18446744073709551616<18446744073709551616:=by omega
 clear r1 r2 hr hT;generalize S/18446744073709551616=hi at *;generalize S%18446744073709551616=lo at *;generalize p/18446744073709551616=ph at *;generalize p%18446744073709551616=pl at *;go_enter Tryz.func152,Tryz.ntmps152;go_wp2_with fail;refine(M _).mono ?_;rintro e w1 ⟨rfl,rfl⟩;clear M;go_wp2_with (simp only[add64_0 lo pl b1 b3])
 go_end0
 exact⟨rfl,HP.out⟩
end Go.Proofs.YtncomnkdlpoelaaGreatDoor
namespace Go.Proofs.YtncomnkdlpoelaaGreatDoor
open Go.ChangeShapes Go.WideShapes Go.ChangeAt Go.RowKit
set_option linter.unusedVariables false
section
variable {P:Program} {ops:Array Oper} {Q:Exit→Act→World→Prop} {md:Region.Mode}
theorem wpAny_slotsE (M:Nat→World→World→Prop) (frame:(Nat→Value)→Act) (Ext:(Nat→Bool)→World→Prop) (Good:Nat→(Nat→Bool)→World→Value→Prop)
  (hstab:∀ j L w w' i v,M i w w'→i≠j→L i=false→Good j L w v→Good j (updK L i) w' v)
  (hguard:ops.all (fun o=>o.guard.isNone)=true)
  (hback:(List.range ops.size).all (fun i=>((ops[i]?).map (fun o=>o.after.all (fun e=>decide (e.on<i)))).getD false)=true)
  (hop:∀(i:Nat) (o:Oper) (L:Nat→Bool) (u:Nat→Value) (w:World),ops[i]?=some o→L i=false→Ext L w→(∀ e∈o.after,Region.binds md e=true→Good e.on L w (u e.on))→
   ∀ K:Act→World→Prop,(∀ w' v,Good i (updK L i) w' v→Ext (updK L i) w'→M i w w'→K (frame (upd u i v)) w')→Oper.wp P o (frame u) w K Q)
  (hdone:∀ L u w,Ext L w→(∀ i,i<ops.size→Good i L w (u i))→Q .normal (frame u) w) :
  ∀(fuel:Nat) (listed:Array Bool) (u:Nat→Value) (w:World),listed.size=ops.size→Ext (fun n=>listed.getD n false) w→(∀ i,i<ops.size→listed.getD i false=true→Good i (fun n=>listed.getD n false) w (u i))→
   (listed.toList.filter (!·)).length≤fuel→wpAny P md ops Q fuel listed (frame u) w:=by
 have hb:∀(i:Nat) (o:Oper),ops[i]?=some o→∀ e∈o.after,e.on<i:=fun i o ho e he=>by
  have hi:=(Array.getElem?_eq_some_iff.1 ho).1;have:=List.all_eq_true.1 hback i (List.mem_range.2 hi);rw[ho] at this;simp at this;obtain⟨k,hk,rfl⟩:=Array.mem_iff_getElem.1 he;exact this k hk
 have hg:∀(i:Nat) (o:Oper),ops[i]?=some o→o.guard=none:=fun i o ho=>by
  have:=Array.all_eq_true_iff_forall_mem.1 hguard o (Array.mem_of_getElem? ho);simpa using this
 have hfin:∀(listed:Array Bool) (u:Nat→Value) (w:World),listed.size=ops.size→Ext (fun n=>listed.getD n false) w→(∀ i,i<ops.size→listed.getD i false=true→Good i (fun n=>listed.getD n false) w (u i))→Region.ready md ops listed=[]→Q .normal (frame u) w:=by
  intro listed u w hs he hgd hr;refine hdone _ u w he fun i hi=>hgd i hi ?_
  have hall:∀ n i,i<n→i<ops.size→listed.getD i false=true:=by
   intro n
   induction n with
   |zero=>intro i h;omega
   |succ n ih=>
    intro i hin hi;by_cases hlt:i<n
    ·exact ih i hlt hi
    ·cases hl:listed.getD i false with
     |true=>rfl
     |false=>
      exfalso
      have hl':listed.getD i true=false:=by
       have hil:i<listed.size:=by omega
       simp[hil] at hl ⊢;exact hl
      have:i∈Region.ready md ops listed:=mem_ready.2 ⟨hi,hl',ops[i],by simp[hi],fun e hee _=>ih e.on (by have:=hb i ops[i] (by simp[hi]) e hee;omega) (by have:=hb i ops[i] (by simp[hi]) e hee;omega)⟩;rw[hr] at this;cases this
  exact hall (i+1) i (by omega) hi
 intro fuel
 induction fuel with
 |zero=>
  intro listed u w hs he hgd hc;have hr:Region.ready md ops listed=[]:=by
   apply List.eq_nil_iff_forall_not_mem.2;intro i hi;obtain⟨h1,h2,_⟩:=mem_ready.1 hi;have hil:i<listed.size:=by omega
   have h3:listed[i]=false:=by simpa[hil] using h2
   have:listed[i]∈listed.toList.filter (!·):=by
    rw[List.mem_filter];exact⟨by simp,by rw[h3];rfl⟩
   have:=List.length_pos_of_mem this;omega
  exact⟨hr,hfin listed u w hs he hgd hr⟩
 |succ fuel ih=>
  intro listed u w hs he hgd hc;refine⟨fun hr=>hfin listed u w hs he hgd hr,fun i hi=>?_⟩;obtain⟨h1,h2,o,ho,h3⟩:=mem_ready.1 hi;refine wpOp_step ho fun K hK=>?_
  have hw:Region.wanted o (yielded ops (frame u).tmps)=true:=by simp[Region.wanted,hg i o ho]
  rw[if_pos hw];have hil:i<listed.size:=by omega
  have hnl:listed.getD i false=false:=by simp[hil] at h2 ⊢;exact h2
  have hupd:(fun n=>(listed.setIfInBounds i true).getD n false)=updK (fun n=>listed.getD n false) i:=by
   funext n;rw[getD_set listed i n hil];rfl
  refine hop i o (fun n=>listed.getD n false) u w ho hnl he (fun e hee hbd=>hgd e.on (by have:=hb i o ho e hee;omega) (h3 e hee hbd)) K fun w' v hgv hext hm=>hK _ _ ?_
  refine ih _ _ w' (by simpa using hs) (by rw[hupd];exact hext) (fun j hj hlj=>?_) ?_
  ·rw[getD_set listed i j hil] at hlj;unfold upd;by_cases hji:j=i
   ·subst hji;rw[hupd];simpa using hgv
   ·rw[if_neg hji] at hlj;rw[if_neg hji,hupd];exact hstab j _ w w' i _ hm (Ne.symm hji) hnl (hgd j hj hlj)
  ·have:listed.toList[i]?=some false:=by simp[hil] at h2;simp[hil,h2]
   have:=count_set listed.toList i this;rw[Array.toList_setIfInBounds];omega
end
end Go.Proofs.YtncomnkdlpoelaaGreatDoor
namespace Go.Proofs.YtncomnkdlpoelaaGreatDoor
set_option linter.unusedVariables false
def U62' (xs:List Int):Prop:=∀ i,0≤xs.getD i 0∧xs.getD i 0<9223372036854775808
/-! Products of elements. -/
def loE (a b:List Int) (i:Nat):Int:=cs a b i (i+1)
def hiE (a b:List Int) (i:Nat):Int:=cs a b (5+i) 5
def tl (a b:List Int):List Int:=(List.range 5).map fun i=>loE a b i+19*hiE a b i
theorem tl_len (a b:List Int):(tl a b).length=5:=by simp[tl]
theorem tl_get (a b:List Int) (i:Nat) (h:i<5):(tl a b).getD i 0=loE a b i+19*hiE a b i:=rget5 _ i h
theorem cs_past5 {a b:List Int} (ha:a.length=5) (s:Nat) (d:Nat):cs a b s (5+d)=cs a b s 5:=by
 induction d with
 |zero=>rfl
 |succ d ih=>rw[←Nat.add_assoc,cs,ih,getD_past (xs:=a) (by omega)];omega
theorem cs_zero5 {b:List Int} (a:List Int) (hb:b.length=5) (i n:Nat) (h:n≤i+1):cs a b (5+i) n=0:=by
 induction n with
 |zero=>rfl
 |succ n ih=>rw[cs,ih (by omega),getD_past (xs:=b) (by omega)];omega
theorem tl_val (a b:List Int) (ha:a.length=5) (hb:b.length=5):∃ H,val B51 (tl a b)=val B51 a*val B51 b-H*fp:=by
 have e1:=val_pad B51 (mulP a b) (5+5) (by have:=mulP_len a b;omega);rw[val_split,val_mulP] at e1;refine⟨val B51 ((List.range 5).map fun i=>(mulP a b).getD (5+i) 0),?_⟩;have e2:tl a b=(List.range 5).map fun i=>(mulP a b).getD i 0+19*(mulP a b).getD (5+i) 0:=by
  unfold tl loE hiE
  congr 1;funext i
  rw[mulP_get,mulP_get,show 5+i+1=5+(1+i) by omega,cs_past5 ha]
 rw[e2,val_lin B51 (fun i=>(mulP a b).getD i 0) (fun i=>(mulP a b).getD (5+i) 0) 5 19,←e1];have:(B51:Int)^5=fp+19:=by decide
 rw[this];generalize val B51 (List.map (fun i=>(mulP a b).getD i 0) (List.range 5))=p;generalize val B51 (List.map (fun i=>(mulP a b).getD (5+i) 0) (List.range 5))=q
 grind
theorem ev_tl (a b:List Int) (ha:a.length=5) (hb:b.length=5):ev (tl a b)=ev a*ev b%fp:=by
 obtain⟨H,e⟩:=tl_val a b ha hb;unfold ev;rw[e,←Int.mul_emod];have:val B51 a*val B51 b-H*fp=val B51 a*val B51 b+fp*(-H):=by grind
 rw[this,Int.add_mul_emod_self_left]
theorem EOk.bd {a:List Int} (h:EOk a):Bd 2251799813685504 a∧∀ i,0≤a.getD i 0:=by
 refine⟨fun i=>?_,h.2.1⟩;have h0:=h.2.1 i;rcases Nat.eq_zero_or_pos i with rfl|hi
 ·have:=h.2.2.2;omega
 ·have:=h.2.2.1 i hi;omega
theorem cs_nonneg {a b:List Int} (ha:∀ i,0≤a.getD i 0) (hb:∀ i,0≤b.getD i 0) (s n:Nat):0≤cs a b s n:=by
 induction n with
 |zero=>exact Int.le_refl 0
 |succ n ih=>rw[cs];have:=Int.mul_nonneg (ha n) (hb (s-n));omega
theorem tl_bd {a b:List Int} (ha:EOk a) (hb:EOk b):(∀ s n,n≤5→0≤cs a b s n∧cs a b s n≤40564819207303340847894502572032)∧(∀ i,0≤(tl a b).getD i 0∧(tl a b).getD i 0≤811296384146066816957890051440640)∧(∀ i,0≤gcy B51 (tl a b) i∧gcy B51 (tl a b) i≤1152921504606846976)∧gcy B51 (tl a b) 5≤36028797018963968:=by
 have h1:∀ s n,n≤5→0≤cs a b s n∧cs a b s n≤40564819207303340847894502572032:=fun s n hn=>by
  have h:=(cs_bd ha.bd.1 hb.bd.1 (by decide) s n).2;have h0:=cs_nonneg ha.2.1 hb.2.1 s n;refine⟨h0,?_⟩;have hn':(n:Int)≤5:=by omega
  have:=Int.mul_le_mul_of_nonneg_right hn' (show(0:Int)≤2251799813685504*2251799813685504 by decide);have e:(5:Int)*(2251799813685504*2251799813685504)≤40564819207303340847894502572032:=by decide
  omega
 have h2:∀ i,0≤(tl a b).getD i 0∧(tl a b).getD i 0≤811296384146066816957890051440640:=fun i=>by
  by_cases h:i<5
  ·rw[tl_get _ _ _ h];unfold loE hiE;have p:=h1 i (i+1) (by omega);have q:=h1 (5+i) 5 (by omega);omega
  ·rw[getD_past (by rw[tl_len];omega)];omega
 have h3:∀ i,0≤gcy B51 (tl a b) i∧gcy B51 (tl a b) i≤1152921504606846976:=fun i=>gcy_le (M:=811296384146066816957890051440641) (C:=1152921504606846976) (fun i=>by have:=h2 i;omega) (by decide) (by decide) i
 refine⟨h1,h2,h3,?_⟩;have h4:(tl a b).getD 4 0≤40564819207303340847894502572032:=by
  rw[tl_get _ _ _ (by decide)];have:hiE a b 4=0:=cs_zero5 a hb.1 4 5 (by decide);rw[this];unfold loE;have:=h1 4 (4+1) (by decide);omega
 have h5:=h3 4;show((tl a b).getD 4 0+gcy B51 (tl a b) 4)/B51≤_
 unfold B51 at *;omega
theorem times_ok {a b:List Int} (ha:EOk a) (hb:EOk b):U62' (carryE (tl a b))∧EOk (carryE (carryE (tl a b)))∧ev (carryE (carryE (tl a b)))=ev a*ev b%fp:=by
 obtain⟨h1,h2,h3,h4⟩:=tl_bd ha hb;have g5:=h3 5;have hb1:∀ i,0≤(carryE (tl a b)).getD i 0∧(carryE (tl a b)).getD i 0<1152921504606846976∧(1≤i→(carryE (tl a b)).getD i 0<2251799813685248):=fun i=>by
  unfold carryE;have s:=sst_bd (tl a b) i;have s0:=sst_bd (tl a b) 0;rw[getD_set_eq _ _ _ _ (by rw[sst_len];decide)];split<;>omega
 refine⟨fun i=>by have:=hb1 i;omega,carryE_ok ?_ ?_,?_⟩
 ·exact gcy_nonneg (fun i=>(hb1 i).1) 5
 ·have c1:=(hb1 0);have c2:=(hb1 1);have c3:=hb1 2;have c4:=hb1 3;have c5:=hb1 4;simp only[gcy];unfold B51;omega
 ·rw[ev_carryE _ (carryE_len _),ev_carryE _ (tl_len _ _),ev_tl _ _ ha.1 hb.1]
end Go.Proofs.YtncomnkdlpoelaaGreatDoor
namespace Go.Proofs.YtncomnkdlpoelaaGreatDoor
open Go.ChangeShapes Go.WideShapes Go.ChangeAt Go.RowKit
set_option linter.unusedVariables false
def prodF (xs ys:List Int) (i:Nat):Int:=((tl xs ys).getD i 0+gcy B51 (tl xs ys) i)%B51
theorem prod_all (xs ys:List Int):mixE (prodF xs ys) [0,0,0,0,0] 5=sst (tl xs ys) 5:=by
 apply list5 (mixE_len _ _ _) (sst_len _ _);intro i hi;rw[mixE_get _ _ _ _ hi,if_pos hi,sst_get _ _ _ hi];unfold sdig prodF;rw[if_pos hi]
structure TmS (w:World) (zs:List Int) (G:Nat) (S:Int) (wr:World):Prop where
 pl:PlS w zs wr
 sum:wr.heap[G]?=some (.cells #[.int .u64 (S/18446744073709551616),.int .u64 (S%18446744073709551616)] 206 (0,0))
 hG:w.heap.size+1<G
theorem TmS.drew {w:World} {zs:List Int} {G:Nat} {S:Int} {wr:World} (h:TmS w zs G S wr):TmS w zs G S wr.drew:=
 ⟨⟨h.pl.res,h.pl.row,h.pl.below.drew⟩,h.sum,h.hG⟩
theorem TmS.add {w:World} {zs:List Int} {G:Nat} {S S':Int} {wr w':World} (h:TmS w zs G S wr) (hs:WdS wr G S' w'):TmS w zs G S' w':=
 ⟨⟨hs.wr.rowW h.pl.res (by have:=h.hG;omega),hs.wr.rowW h.pl.row (by have:=h.hG;omega),h.pl.below.trans (hs.wr.below (by have:=h.hG;omega))⟩,hs.row,h.hG⟩
set_option maxHeartbeats 2000000 in
set_option maxRecDepth 100000 in
theorem times_any (g1 o1 g2 o2:Nat) (xs ys:List Int) (w:World) (h1:EAt w g1 o1 xs) (h2:EAt w g2 o2 ys) :
  Calls Tryz.prog 127 #[.pointer (some ⟨g1,o1,none⟩),.pointer (some ⟨g2,o2,none⟩)] w (EP w (ev xs*ev ys%fp)):=by
 obtain⟨q1,q2,q3⟩:=times_ok h1.2.1 h2.2.1;obtain⟨t1,t2,t3,t4⟩:=tl_bd h1.2.1 h2.2.1;have HQ:Hid (U62' (carryE (tl xs ys))∧EOk (carryE (carryE (tl xs ys)))∧ev (carryE (carryE (tl xs ys)))=ev xs*ev ys%fp):=⟨q1,q2,q3⟩
 have HT1:=hdI <| t1
 have HT3:=hdI <| t3
 have HT4:=hdI <| t4
 have HS:Hid (PlS w (mixE (prodF xs ys) [0,0,0,0,0] 0) ((w.alloc (.cells #[.int .u64 0,.int .u64 0,.int .u64 0,.int .u64 0,.int .u64 0] 141)).alloc (.cells #[.int .u64 0,.int .u64 0,.int .u64 0,.int .u64 0,.int .u64 0] 141))):=by
  rw[mixE_zero _ _ rfl];exact⟨heap_alloc2_old _ _ _,heap_alloc2_new _ _ _,((Below.refl _ _).alloc (Nat.le_refl _) _).alloc (by simp) _⟩
 have HL:Hid (w.heap.size+1<((w.alloc (.cells #[.int .u64 0,.int .u64 0,.int .u64 0,.int .u64 0,.int .u64 0] 141)).alloc (.cells #[.int .u64 0,.int .u64 0,.int .u64 0,.int .u64 0,.int .u64 0] 141)).heap.size):=by show _<_;simp
 have H1:=hdI <| h1
 have H2:=hdI <| h2
 have hy5:=h2.2.1.1;have HY5:=hdI <| hy5
 go_enter Tryz.func127,Tryz.ntmps127;go_wp2
 go_loopw [6,11] (fun v i wr=>∃ k:Nat,k≤5∧i=.int .i64 k∧v=.int .u64 (gcy B51 (tl xs ys) k)∧PlS w (mixE (prodF xs ys) [0,0,0,0,0] k) wr∧w.heap.size+1<wr.heap.size) (fun _ i _=>5-(intOf i).toNat)
 case atStart=>exact⟨0,by decide,rfl,rfl,HS.out,HL.out⟩
 case round=>
  obtain⟨k,hk,rfl,rfl,hst,hlz⟩:=hrel;by_cases hlt:k<5
  ·have hlt':(k:Int)<5:=by omega
   obtain⟨hc0,hc1⟩:=HT3.out k;have hst2:TmS w (mixE (prodF xs ys) [0,0,0,0,0] k) wr.heap.size (gcy B51 (tl xs ys) k) (wr.alloc (.cells #[.int .u64 0,.int .u64 (gcy B51 (tl xs ys) k)] 206)):=by
    have b0:Below wr.heap.size wr (wr.alloc (.cells #[.int .u64 0,.int .u64 (gcy B51 (tl xs ys) k)] 206)):=below_new2 _ _;refine⟨⟨hst.res.below b0 (by omega),hst.row.below b0 (by omega),hst.below.trans (b0.mono hst.below.size)⟩,?_,hlz⟩;rw[heap_alloc_new];have e1:gcy B51 (tl xs ys) k/18446744073709551616=0:=by omega
    have e2:gcy B51 (tl xs ys) k%18446744073709551616=gcy B51 (tl xs ys) k:=by omega
    rw[e1,e2]
   have HST:Hid (TmS w (mixE (prodF xs ys) [0,0,0,0,0] k) wr.heap.size (gcy B51 (tl xs ys) k+cs xs ys k 0) (wr.alloc (.cells #[.int .u64 0,.int .u64 (gcy B51 (tl xs ys) k)] 206))):=by
    rw[show cs xs ys k 0=0 from rfl,Int.add_zero];exact hst2
   generalize hgk:gcy B51 (tl xs ys) k=ov at *;have HGK:=hdI <| hgk
   go_wp2;generalize hG:wr.heap.size=G at *;generalize wr.alloc (.cells #[.int .u64 0,.int .u64 ov] 206)=w3 at *
   go_loopw [18] (fun i wq=>∃ n:Nat,n≤k+1∧i=.int .i64 n∧TmS w (mixE (prodF xs ys) [0,0,0,0,0] k) G (ov+cs xs ys k n) wq) (fun i _=>k+1-(intOf i).toNat)
   case atStart=>exact⟨0,Nat.zero_le _,rfl,HST.out⟩
   case round=>
    obtain⟨n,hn,rfl,hts⟩:=hrel;by_cases hnk:n<k+1
    ·have hnk':(n:Int)<(k:Int)+1:=by omega
     have HCX:Hid (∀ w',Below w.heap.size w w'→w'.cell? ⟨g1,o1+n,none⟩=some (.int .u64 (xs.getD n 0))):=fun w' hb=>(H1.out.below hb).2.2 n (by omega)
     have HCY:Hid (∀ w',Below w.heap.size w w'→w'.cell? ⟨g2,o2+(k-n),none⟩=some (.int .u64 (ys.getD (k-n) 0))):=fun w' hb=>(H2.out.below hb).2.2 (k-n) (by omega)
     have bx:=H1.out.2.1.bd;have by_:=H2.out.2.1.bd;have hx0:=bx.2 n;have hx1:=(bx.1 n).2;have hy0:=by_.2 (k-n);have hy1:=(by_.1 (k-n)).2;have hcs:cs xs ys k (n+1)=cs xs ys k n+xs.getD n 0*ys.getD (k-n) 0:=rfl;have hsn:=HT1.out k n (by omega);have hsn1:=HT1.out k (n+1) (by omega);rw[hcs] at hsn1;have HTS:=hdI <| hts.drew
     have HCS:=hdI <| hcs
     have hsub:((k:Int)-(n:Int))=((k-n:Nat):Int):=by omega
     have hwsub:IntKind.i64.wrap ((k:Int)-(n:Int))=((k-n:Nat):Int):=by rw[IntKind.wrap_i64];omega
     have hwsub2:IntKind.i64.wrap ((k-n:Nat):Int)=((k-n:Nat):Int):=by rw[IntKind.wrap_i64];omega
     have hn5:(n:Int)<5:=by omega
     have hkn5:((k-n:Nat):Int)<5:=by omega
     generalize xs.getD n 0=x at *;generalize ys.getD (k-n) 0=y at *;generalize cs xs ys k n=C at *;obtain⟨s0,s1⟩:=hsn;obtain⟨s2,s3⟩:=hsn1;obtain⟨C',hC'⟩:∃ C',C'=C+x*y:=⟨_,rfl⟩
     have HEQ:Hid (ov+C+x*y=ov+C'):=by show _=_;omega
     have HCE:Hid (cs xs ys k (n+1)=C'):=by show _=_;rw[HCS.out,hC']
     have hSz:0≤ov+C:=by omega
     have hTT:(ov+C)+x*y<340282366920938463463374607431768211456:=by omega
     go_wp2_with fail;refine wp_region_any (by kernel_rfl) ?_;refine wpAny_slotsE (fun _ _ _=>True) (frame:=(fun (a b c d e f g h i j k l m n o p q r s u v w x y z A B C D E F G H I J K L M N O P Q R S T U V W X Y Z a0 a1 a2 a3 a4 a5 a6 a7 a8 a9 b0 b1 b2:Value)=>fun (t:Nat→Value)=>({ tmps:=List.toArray [a,b,c,d,e,f,g,h,i,j,k,l,m,n,o,p,q,r,s,u,v,t 0,t 1,t 2,t 3,t 4,t 5,t 6,t 7,t 8,t 9,t 10,t 11,t 12,w,x,y,z,A,B,C,D,E,F,G,H,I,J,K,L,M,N,O,P,Q,R,S,T,U,V,W,X,Y,Z,a0,a1,a2,a3,a4,a5,a6,a7,a8,a9,b0,b1,b2],defers:=[] }:Act)) _ _ _ _ _ _ _ _ _ _ _ _ _ _ _ _ _ _ _ _ _ _ _ _ _ _ _ _ _ _ _ _ _ _ _ _ _ _ _ _ _ _ _ _ _ _ _ _ _ _ _ _ _ _ _ _ _ _ _ _ _ _ _ _)
      (Ext:=fun L w'=>TmS w (mixE (prodF xs ys) [0,0,0,0,0] k) G (if L 12=true then(ov+C') else(ov+C)) w') (Good:=fun i L _ v=>if i=0 then v=(.pointer (some ⟨g1,o1,none⟩)) else if i=1 then v=(.int .i64 (n:Int)) else if i=2 then v=(.pointer (some ⟨g1,o1,none⟩)) else if i=3 then v=(.pointer (some ⟨g1,o1+n,none⟩)) else if i=4 then v=(.int .u64 x) else if i=5 then v=(.pointer (some ⟨g2,o2,none⟩)) else if i=6 then v=(.int .i64 (k:Int)) else if i=7 then v=(.int .i64 (n:Int)) else if i=8 then v=(.int .i64 ((k-n:Nat):Int)) else if i=9 then v=(.pointer (some ⟨g2,o2,none⟩)) else if i=10 then v=(.pointer (some ⟨g2,o2+(k-n),none⟩)) else if i=11 then v=(.int .u64 y) else(v=.tuple #[]∧L 12=true)) ?hstab (by kernel_rfl) (by kernel_rfl) ?hop ?hdone _ _ ((fun (x0 x1 x2 x3 x4 x5 x6 x7 x8 x9 x10 x11 x12:Value)=>fun (i:Nat)=>if i=0 then x0 else if i=1 then x1 else if i=2 then x2 else if i=3 then x3 else if i=4 then x4 else if i=5 then x5 else if i=6 then x6 else if i=7 then x7 else if i=8 then x8 else if i=9 then x9 else if i=10 then x10 else if i=11 then x11 else if i=12 then x12 else undef) _ _ _ _ _ _ _ _ _ _ _ _ _) _ (by simp) ?ext ?start (by simp)
     case start=>intro i hi h;exact absurd h (by rw[Array.getD_eq_getD_getElem?,Array.getElem?_replicate];split<;>simp)
     case hstab=>
      intro j L w w' i v _ hij hL h;by_cases hj:j<12
      ·obtain rfl|rfl|rfl|rfl|rfl|rfl|rfl|rfl|rfl|rfl|rfl|rfl:j=0∨j=1∨j=2∨j=3∨j=4∨j=5∨j=6∨j=7∨j=8∨j=9∨j=10∨j=11:=by omega
       all_goals exact h
      ·have hj':=hj;have e:(updK L i 12)=true∨L 12=false:=by unfold updK;by_cases h9:12=i<;>simp[h9]
       revert h;simp only[if_neg (show ¬ j=0 by omega),if_neg (show ¬ j=1 by omega),if_neg (show ¬ j=2 by omega),if_neg (show ¬ j=3 by omega),if_neg (show ¬ j=4 by omega),if_neg (show ¬ j=5 by omega),if_neg (show ¬ j=6 by omega),if_neg (show ¬ j=7 by omega),if_neg (show ¬ j=8 by omega),if_neg (show ¬ j=9 by omega),if_neg (show ¬ j=10 by omega),if_neg (show ¬ j=11 by omega)];rintro⟨h1,h2⟩;exact⟨h1,by rcases e with e|e;exact e;rw[h2] at e;cases e⟩
     case ext=>exact HTS.out
     case hop=>
      intro i o L t w' ho hLi hx hdep K hK;have hi:i<13:=(Array.getElem?_eq_some_iff.1 ho).1;have cA:w'.cell? ⟨g1,o1+n,none⟩=some (.int .u64 x):=HCX.out _ hx.pl.below;have cB:w'.cell? ⟨g2,o2+(k-n),none⟩=some (.int .u64 y):=HCY.out _ hx.pl.below;have REF:Hid (∀ j,j≠12→TmS w (mixE (prodF xs ys) [0,0,0,0,0] k) G (if updK L j 12=true then(ov+C') else(ov+C)) w'):=fun j hj=>by
       have:updK L j 12=L 12:=by unfold updK;rw[if_neg (Ne.symm hj)]
       rw[this];exact hx
      have HX:Hid (TmS w (mixE (prodF xs ys) [0,0,0,0,0] k) G (if L 12=true then(ov+C') else(ov+C)) w'):=hx;obtain rfl|rfl|rfl|rfl|rfl|rfl|rfl|rfl|rfl|rfl|rfl|rfl|rfl:i=0∨i=1∨i=2∨i=3∨i=4∨i=5∨i=6∨i=7∨i=8∨i=9∨i=10∨i=11∨i=12:=by omega
      all_goals(simp at ho;subst ho)
      ·clear hdep;have hK':=hK w' (.pointer (some ⟨g1,o1,none⟩)) (by simp) (REF.out 0 (by decide)) trivial;go_simp;simpa[upd,hsub,hwsub,hwsub2] using hK'
      ·clear hdep;have hK':=hK w' (.int .i64 (n:Int)) (by simp) (REF.out 1 (by decide)) trivial;go_simp;simpa[upd,hsub,hwsub,hwsub2] using hK'
      ·have d0:t 0=(.pointer (some ⟨g1,o1,none⟩)):=by simpa using hdep ⟨0,.data⟩ (by simp) rfl
       have hK':=hK w' (.pointer (some ⟨g1,o1,none⟩)) (by simp) (REF.out 2 (by decide)) trivial;go_simp;simpa[upd,d0,hsub,hwsub,hwsub2] using hK'
      ·have d2:t 2=(.pointer (some ⟨g1,o1,none⟩)):=by simpa using hdep ⟨2,.data⟩ (by simp) rfl
       have d1:t 1=(.int .i64 (n:Int)):=by simpa using hdep ⟨1,.data⟩ (by simp) rfl
       have hK':=hK w' (.pointer (some ⟨g1,o1+n,none⟩)) (by simp) (REF.out 3 (by decide)) trivial;go_simp;simpa[upd,d2,d1,hsub,hwsub,hwsub2] using hK'
      ·have d3:t 3=(.pointer (some ⟨g1,o1+n,none⟩)):=by simpa using hdep ⟨3,.data⟩ (by simp) rfl
       have hK':=hK w' (.int .u64 x) (by simp) (REF.out 4 (by decide)) trivial;go_simp;simpa[upd,d3,hsub,hwsub,hwsub2] using hK'
      ·clear hdep;have hK':=hK w' (.pointer (some ⟨g2,o2,none⟩)) (by simp) (REF.out 5 (by decide)) trivial;go_simp;simpa[upd,hsub,hwsub,hwsub2] using hK'
      ·clear hdep;have hK':=hK w' (.int .i64 (k:Int)) (by simp) (REF.out 6 (by decide)) trivial;go_simp;simpa[upd,hsub,hwsub,hwsub2] using hK'
      ·clear hdep;have hK':=hK w' (.int .i64 (n:Int)) (by simp) (REF.out 7 (by decide)) trivial;go_simp;simpa[upd,hsub,hwsub,hwsub2] using hK'
      ·have d6:t 6=(.int .i64 (k:Int)):=by simpa using hdep ⟨6,.data⟩ (by simp) rfl
       have d7:t 7=(.int .i64 (n:Int)):=by simpa using hdep ⟨7,.data⟩ (by simp) rfl
       have hK':=hK w' (.int .i64 ((k-n:Nat):Int)) (by simp) (REF.out 8 (by decide)) trivial;go_simp;simpa[upd,d6,d7,hsub,hwsub,hwsub2] using hK'
      ·have d5:t 5=(.pointer (some ⟨g2,o2,none⟩)):=by simpa using hdep ⟨5,.data⟩ (by simp) rfl
       have hK':=hK w' (.pointer (some ⟨g2,o2,none⟩)) (by simp) (REF.out 9 (by decide)) trivial;go_simp;simpa[upd,d5,hsub,hwsub,hwsub2] using hK'
      ·have d9:t 9=(.pointer (some ⟨g2,o2,none⟩)):=by simpa using hdep ⟨9,.data⟩ (by simp) rfl
       have d8:t 8=(.int .i64 ((k-n:Nat):Int)):=by simpa using hdep ⟨8,.data⟩ (by simp) rfl
       have hK':=hK w' (.pointer (some ⟨g2,o2+(k-n),none⟩)) (by simp) (REF.out 10 (by decide)) trivial;go_simp;simpa[upd,d9,d8,hsub,hwsub,hwsub2] using hK'
      ·have d10:t 10=(.pointer (some ⟨g2,o2+(k-n),none⟩)):=by simpa using hdep ⟨10,.data⟩ (by simp) rfl
       have hK':=hK w' (.int .u64 y) (by simp) (REF.out 11 (by decide)) trivial;go_simp;simpa[upd,d10,hsub,hwsub,hwsub2] using hK'
      ·have d4:t 4=(.int .u64 x):=by simpa using hdep ⟨4,.data⟩ (by simp) rfl
       have d11:t 11=(.int .u64 y):=by simpa using hdep ⟨11,.data⟩ (by simp) rfl
       have hts:=HX.out;rw[if_neg (by rw[hLi];decide)] at hts;have A:=addP_any G ((ov+C)) x y w' hSz hts.sum hx0 (by omega) (by omega) (by omega) hTT;have hK':∀ ww,WdS w' G ((ov+C)+x*y) ww→K _ ww:=fun ww hs=>hK ww (.tuple #[]) (by simp[updK]) (by rw[if_pos (by simp[updK])];have:=hts.add hs;rw[HEQ.out] at this;exact this) trivial
       go_simp;refine A.mono ?_;rintro e w9 ⟨rfl,hs⟩;have hK2:=hK' w9 hs;go_simp;simpa[upd,d4,d11] using hK2
     case hdone=>
      intro L t w' hx hg;have d0:t 0=(.pointer (some ⟨g1,o1,none⟩)):=by simpa using hg 0 (by decide)
      have d1:t 1=(.int .i64 (n:Int)):=by simpa using hg 1 (by decide)
      have d2:t 2=(.pointer (some ⟨g1,o1,none⟩)):=by simpa using hg 2 (by decide)
      have d3:t 3=(.pointer (some ⟨g1,o1+n,none⟩)):=by simpa using hg 3 (by decide)
      have d4:t 4=(.int .u64 x):=by simpa using hg 4 (by decide)
      have d5:t 5=(.pointer (some ⟨g2,o2,none⟩)):=by simpa using hg 5 (by decide)
      have d6:t 6=(.int .i64 (k:Int)):=by simpa using hg 6 (by decide)
      have d7:t 7=(.int .i64 (n:Int)):=by simpa using hg 7 (by decide)
      have d8:t 8=(.int .i64 ((k-n:Nat):Int)):=by simpa using hg 8 (by decide)
      have d9:t 9=(.pointer (some ⟨g2,o2,none⟩)):=by simpa using hg 9 (by decide)
      have d10:t 10=(.pointer (some ⟨g2,o2+(k-n),none⟩)):=by simpa using hg 10 (by decide)
      have d11:t 11=(.int .u64 y):=by simpa using hg 11 (by decide)
      have d12:t 12=.tuple #[]∧L 12=true:=by simpa using hg 12 (by decide)
      rw[if_pos d12.2] at hx;have HP:Hid (TmS w (mixE (prodF xs ys) [0,0,0,0,0] k) G (ov+cs xs ys k (n+1)) w'):=by rw[HCE.out];exact hx
      dsimp only;rw[d0,d1,d2,d3,d4,d5,d6,d7,d8,d9,d10,d11,d12.1];go_wp2;go_roundw
      case rel=>exact⟨n+1,by omega,by go_num,HP.out⟩
      case measure=>simp[intOf];omega
    ·obtain rfl:n=k+1:=by omega
     have HLO:Hid (cs xs ys k (k+1)=loE xs ys k):=rfl;have hlo:=HT1.out k (k+1) (by omega);rw[HLO.out] at hts hlo;have HTL:Hid ((tl xs ys).getD k 0=loE xs ys k+19*hiE xs ys k):=tl_get _ _ _ hlt;generalize loE xs ys k=lo at *;have HTS0:Hid (TmS w (mixE (prodF xs ys) [0,0,0,0,0] k) G (ov+lo+19*cs xs ys (5+k) (k+1)) wr):=by
      show TmS w _ G _ wr
      rw[cs_zero5 xs HY5.out k (k+1) (Nat.le_refl _)];simpa using hts
     obtain⟨l0,l1⟩:=hlo;obtain⟨L0,hL0⟩:∃ L0,L0=ov+lo:=⟨_,rfl⟩
     rw[←hL0] at HTS0;have hLz:0≤L0:=by omega
     have hLm:L0≤40564819207304493769399109419008:=by omega
     have HL0:=hdI <| hL0
     have hk1:((k+1:Nat):Int)=(k:Int)+1:=by omega
     rw[hk1];go_wp2
     go_loopw [10] (fun i wq=>∃ n:Nat,k+1≤n∧n≤5∧i=.int .i64 n∧TmS w (mixE (prodF xs ys) [0,0,0,0,0] k) G (L0+19*cs xs ys (5+k) n) wq) (fun i _=>5-(intOf i).toNat)
     case atStart=>exact⟨k+1,Nat.le_refl _,by omega,by go_num,HTS0.out⟩
     case round=>
      obtain⟨n,hnl,hnh,rfl,hts⟩:=hrel;by_cases hn5:n<5
      ·have hn5':(n:Int)<5:=by omega
       have HCX:Hid (∀ w',Below w.heap.size w w'→w'.cell? ⟨g1,o1+n,none⟩=some (.int .u64 (xs.getD n 0))):=fun w' hb=>(H1.out.below hb).2.2 n (by omega)
       have HCY:Hid (∀ w',Below w.heap.size w w'→w'.cell? ⟨g2,o2+(k+5-n),none⟩=some (.int .u64 (ys.getD (k+5-n) 0))):=fun w' hb=>(H2.out.below hb).2.2 (k+5-n) (by omega)
       have bx:=H1.out.2.1.bd;have by_:=H2.out.2.1.bd;have hx0:=bx.2 n;have hx1:=(bx.1 n).2;have hy0:=by_.2 (k+5-n);have hy1:=(by_.1 (k+5-n)).2;have hcs:cs xs ys (5+k) (n+1)=cs xs ys (5+k) n+xs.getD n 0*ys.getD (k+5-n) 0:=by rw[cs,show 5+k-n=k+5-n by omega]
       have hsn:=HT1.out (5+k) n (by omega);have hsn1:=HT1.out (5+k) (n+1) (by omega);rw[hcs] at hsn1;have HTS:=hdI <| hts.drew
       have HCS:=hdI <| hcs
       have hsub:((k:Int)+5-(n:Int))=((k+5-n:Nat):Int):=by omega
       have hwsub:IntKind.i64.wrap ((k:Int)+5-(n:Int))=((k+5-n:Nat):Int):=by rw[IntKind.wrap_i64];omega
       have hwsub2:IntKind.i64.wrap ((k+5-n:Nat):Int)=((k+5-n:Nat):Int):=by rw[IntKind.wrap_i64];omega
       have hw5:IntKind.i64.wrap ((k:Int)+5)=(k:Int)+5:=by rw[IntKind.wrap_i64];omega
       have hkn5:((k+5-n:Nat):Int)<5:=by omega
       generalize xs.getD n 0=x at *;generalize ys.getD (k+5-n) 0=y at *;generalize cs xs ys (5+k) n=C at *;obtain⟨s0,s1⟩:=hsn;obtain⟨s2,s3⟩:=hsn1;have hm19:IntKind.u64.wrap (19*y)=19*y:=by rw[IntKind.wrap_u64];omega
       have e19:x*(19*y)=19*(x*y):=by grind
       obtain⟨C',hC'⟩:∃ C',C'=C+x*y:=⟨_,rfl⟩
       have HEQ:Hid (L0+19*C+x*(19*y)=L0+19*C'):=by show _=_;rw[e19];omega
       have HCE:Hid (cs xs ys (5+k) (n+1)=C'):=by show _=_;rw[HCS.out,hC']
       have hSz:0≤L0+19*C:=by omega
       have hTT:(L0+19*C)+x*(19*y)<340282366920938463463374607431768211456:=by rw[e19];omega
       go_wp2_with fail;refine wp_region_any (by kernel_rfl) ?_;refine wpAny_slotsE (fun _ _ _=>True) (frame:=(fun (a b c d e f g h i j k l m n o p q r s u v w x y z A B C D E F G H I J K L M N O P Q R S T U V W X Y Z a0 a1 a2 a3 a4 a5 a6 a7 a8 a9 b0:Value)=>fun (t:Nat→Value)=>({ tmps:=List.toArray [a,b,c,d,e,f,g,h,i,j,k,l,m,n,o,p,q,r,s,u,v,w,x,y,z,A,B,C,D,E,F,G,H,I,J,K,L,M,N,O,P,t 0,t 1,t 2,t 3,t 4,t 5,t 6,t 7,t 8,t 9,t 10,t 11,t 12,t 13,t 14,Q,R,S,T,U,V,W,X,Y,Z,a0,a1,a2,a3,a4,a5,a6,a7,a8,a9,b0],defers:=[] }:Act)) _ _ _ _ _ _ _ _ _ _ _ _ _ _ _ _ _ _ _ _ _ _ _ _ _ _ _ _ _ _ _ _ _ _ _ _ _ _ _ _ _ _ _ _ _ _ _ _ _ _ _ _ _ _ _ _ _ _ _ _ _ _)
        (Ext:=fun L w'=>TmS w (mixE (prodF xs ys) [0,0,0,0,0] k) G (if L 14=true then(L0+19*C') else(L0+19*C)) w') (Good:=fun i L _ v=>if i=0 then v=(.pointer (some ⟨g1,o1,none⟩)) else if i=1 then v=(.int .i64 (n:Int)) else if i=2 then v=(.pointer (some ⟨g1,o1,none⟩)) else if i=3 then v=(.pointer (some ⟨g1,o1+n,none⟩)) else if i=4 then v=(.int .u64 x) else if i=5 then v=(.pointer (some ⟨g2,o2,none⟩)) else if i=6 then v=(.int .i64 (k:Int)) else if i=7 then v=(.int .i64 ((k:Int)+5)) else if i=8 then v=(.int .i64 (n:Int)) else if i=9 then v=(.int .i64 ((k+5-n:Nat):Int)) else if i=10 then v=(.pointer (some ⟨g2,o2,none⟩)) else if i=11 then v=(.pointer (some ⟨g2,o2+(k+5-n),none⟩)) else if i=12 then v=(.int .u64 y) else if i=13 then v=(.int .u64 (19*y)) else(v=.tuple #[]∧L 14=true)) ?hstab (by kernel_rfl) (by kernel_rfl) ?hop ?hdone _ _ ((fun (x0 x1 x2 x3 x4 x5 x6 x7 x8 x9 x10 x11 x12 x13 x14:Value)=>fun (i:Nat)=>if i=0 then x0 else if i=1 then x1 else if i=2 then x2 else if i=3 then x3 else if i=4 then x4 else if i=5 then x5 else if i=6 then x6 else if i=7 then x7 else if i=8 then x8 else if i=9 then x9 else if i=10 then x10 else if i=11 then x11 else if i=12 then x12 else if i=13 then x13 else if i=14 then x14 else undef) _ _ _ _ _ _ _ _ _ _ _ _ _ _ _) _ (by simp) ?ext ?start (by simp)
       case start=>intro i hi h;exact absurd h (by rw[Array.getD_eq_getD_getElem?,Array.getElem?_replicate];split<;>simp)
       case hstab=>
        intro j L w w' i v _ hij hL h;by_cases hj:j<14
        ·obtain rfl|rfl|rfl|rfl|rfl|rfl|rfl|rfl|rfl|rfl|rfl|rfl|rfl|rfl:j=0∨j=1∨j=2∨j=3∨j=4∨j=5∨j=6∨j=7∨j=8∨j=9∨j=10∨j=11∨j=12∨j=13:=by omega
         all_goals exact h
        ·have hj':=hj;have e:(updK L i 14)=true∨L 14=false:=by unfold updK;by_cases h9:14=i<;>simp[h9]
         revert h;simp only[if_neg (show ¬ j=0 by omega),if_neg (show ¬ j=1 by omega),if_neg (show ¬ j=2 by omega),if_neg (show ¬ j=3 by omega),if_neg (show ¬ j=4 by omega),if_neg (show ¬ j=5 by omega),if_neg (show ¬ j=6 by omega),if_neg (show ¬ j=7 by omega),if_neg (show ¬ j=8 by omega),if_neg (show ¬ j=9 by omega),if_neg (show ¬ j=10 by omega),if_neg (show ¬ j=11 by omega),if_neg (show ¬ j=12 by omega),if_neg (show ¬ j=13 by omega)];rintro⟨h1,h2⟩;exact⟨h1,by rcases e with e|e;exact e;rw[h2] at e;cases e⟩
       case ext=>exact HTS.out
       case hop=>
        intro i o L t w' ho hLi hx hdep K hK;have hi:i<15:=(Array.getElem?_eq_some_iff.1 ho).1;have cA:w'.cell? ⟨g1,o1+n,none⟩=some (.int .u64 x):=HCX.out _ hx.pl.below;have cB:w'.cell? ⟨g2,o2+(k+5-n),none⟩=some (.int .u64 y):=HCY.out _ hx.pl.below;have REF:Hid (∀ j,j≠14→TmS w (mixE (prodF xs ys) [0,0,0,0,0] k) G (if updK L j 14=true then(L0+19*C') else(L0+19*C)) w'):=fun j hj=>by
         have:updK L j 14=L 14:=by unfold updK;rw[if_neg (Ne.symm hj)]
         rw[this];exact hx
        have HX:Hid (TmS w (mixE (prodF xs ys) [0,0,0,0,0] k) G (if L 14=true then(L0+19*C') else(L0+19*C)) w'):=hx;obtain rfl|rfl|rfl|rfl|rfl|rfl|rfl|rfl|rfl|rfl|rfl|rfl|rfl|rfl|rfl:i=0∨i=1∨i=2∨i=3∨i=4∨i=5∨i=6∨i=7∨i=8∨i=9∨i=10∨i=11∨i=12∨i=13∨i=14:=by omega
        all_goals(simp at ho;subst ho)
        ·clear hdep;have hK':=hK w' (.pointer (some ⟨g1,o1,none⟩)) (by simp) (REF.out 0 (by decide)) trivial;go_simp;simpa[upd,hsub,hwsub,hwsub2,hm19,hw5] using hK'
        ·clear hdep;have hK':=hK w' (.int .i64 (n:Int)) (by simp) (REF.out 1 (by decide)) trivial;go_simp;simpa[upd,hsub,hwsub,hwsub2,hm19,hw5] using hK'
        ·have d0:t 0=(.pointer (some ⟨g1,o1,none⟩)):=by simpa using hdep ⟨0,.data⟩ (by simp) rfl
         have hK':=hK w' (.pointer (some ⟨g1,o1,none⟩)) (by simp) (REF.out 2 (by decide)) trivial;go_simp;simpa[upd,d0,hsub,hwsub,hwsub2,hm19,hw5] using hK'
        ·have d2:t 2=(.pointer (some ⟨g1,o1,none⟩)):=by simpa using hdep ⟨2,.data⟩ (by simp) rfl
         have d1:t 1=(.int .i64 (n:Int)):=by simpa using hdep ⟨1,.data⟩ (by simp) rfl
         have hK':=hK w' (.pointer (some ⟨g1,o1+n,none⟩)) (by simp) (REF.out 3 (by decide)) trivial;go_simp;simpa[upd,d2,d1,hsub,hwsub,hwsub2,hm19,hw5] using hK'
        ·have d3:t 3=(.pointer (some ⟨g1,o1+n,none⟩)):=by simpa using hdep ⟨3,.data⟩ (by simp) rfl
         have hK':=hK w' (.int .u64 x) (by simp) (REF.out 4 (by decide)) trivial;go_simp;simpa[upd,d3,hsub,hwsub,hwsub2,hm19,hw5] using hK'
        ·clear hdep;have hK':=hK w' (.pointer (some ⟨g2,o2,none⟩)) (by simp) (REF.out 5 (by decide)) trivial;go_simp;simpa[upd,hsub,hwsub,hwsub2,hm19,hw5] using hK'
        ·clear hdep;have hK':=hK w' (.int .i64 (k:Int)) (by simp) (REF.out 6 (by decide)) trivial;go_simp;simpa[upd,hsub,hwsub,hwsub2,hm19,hw5] using hK'
        ·have d6:t 6=(.int .i64 (k:Int)):=by simpa using hdep ⟨6,.data⟩ (by simp) rfl
         have hK':=hK w' (.int .i64 ((k:Int)+5)) (by simp) (REF.out 7 (by decide)) trivial;go_simp;simpa[upd,d6,hsub,hwsub,hwsub2,hm19,hw5] using hK'
        ·clear hdep;have hK':=hK w' (.int .i64 (n:Int)) (by simp) (REF.out 8 (by decide)) trivial;go_simp;simpa[upd,hsub,hwsub,hwsub2,hm19,hw5] using hK'
        ·have d7:t 7=(.int .i64 ((k:Int)+5)):=by simpa using hdep ⟨7,.data⟩ (by simp) rfl
         have d8:t 8=(.int .i64 (n:Int)):=by simpa using hdep ⟨8,.data⟩ (by simp) rfl
         have hK':=hK w' (.int .i64 ((k+5-n:Nat):Int)) (by simp) (REF.out 9 (by decide)) trivial;go_simp;simpa[upd,d7,d8,hsub,hwsub,hwsub2,hm19,hw5] using hK'
        ·have d5:t 5=(.pointer (some ⟨g2,o2,none⟩)):=by simpa using hdep ⟨5,.data⟩ (by simp) rfl
         have hK':=hK w' (.pointer (some ⟨g2,o2,none⟩)) (by simp) (REF.out 10 (by decide)) trivial;go_simp;simpa[upd,d5,hsub,hwsub,hwsub2,hm19,hw5] using hK'
        ·have d10:t 10=(.pointer (some ⟨g2,o2,none⟩)):=by simpa using hdep ⟨10,.data⟩ (by simp) rfl
         have d9:t 9=(.int .i64 ((k+5-n:Nat):Int)):=by simpa using hdep ⟨9,.data⟩ (by simp) rfl
         have hK':=hK w' (.pointer (some ⟨g2,o2+(k+5-n),none⟩)) (by simp) (REF.out 11 (by decide)) trivial;go_simp;simpa[upd,d10,d9,hsub,hwsub,hwsub2,hm19,hw5] using hK'
        ·have d11:t 11=(.pointer (some ⟨g2,o2+(k+5-n),none⟩)):=by simpa using hdep ⟨11,.data⟩ (by simp) rfl
         have hK':=hK w' (.int .u64 y) (by simp) (REF.out 12 (by decide)) trivial;go_simp;simpa[upd,d11,hsub,hwsub,hwsub2,hm19,hw5] using hK'
        ·have d12:t 12=(.int .u64 y):=by simpa using hdep ⟨12,.data⟩ (by simp) rfl
         have hK':=hK w' (.int .u64 (19*y)) (by simp) (REF.out 13 (by decide)) trivial;go_simp;simpa[upd,d12,hsub,hwsub,hwsub2,hm19,hw5] using hK'
        ·have d4:t 4=(.int .u64 x):=by simpa using hdep ⟨4,.data⟩ (by simp) rfl
         have d13:t 13=(.int .u64 (19*y)):=by simpa using hdep ⟨13,.data⟩ (by simp) rfl
         have hts:=HX.out;rw[if_neg (by rw[hLi];decide)] at hts;have A:=addP_any G ((L0+19*C)) x (19*y) w' hSz hts.sum hx0 (by omega) (by omega) (by omega) hTT;have hK':∀ ww,WdS w' G ((L0+19*C)+x*(19*y)) ww→K _ ww:=fun ww hs=>hK ww (.tuple #[]) (by simp[updK]) (by rw[if_pos (by simp[updK])];have:=hts.add hs;rw[HEQ.out] at this;exact this) trivial
         go_simp;refine A.mono ?_;rintro e w9 ⟨rfl,hs⟩;have hK2:=hK' w9 hs;go_simp;simpa[upd,d4,d13] using hK2
       case hdone=>
        intro L t w' hx hg;have d0:t 0=(.pointer (some ⟨g1,o1,none⟩)):=by simpa using hg 0 (by decide)
        have d1:t 1=(.int .i64 (n:Int)):=by simpa using hg 1 (by decide)
        have d2:t 2=(.pointer (some ⟨g1,o1,none⟩)):=by simpa using hg 2 (by decide)
        have d3:t 3=(.pointer (some ⟨g1,o1+n,none⟩)):=by simpa using hg 3 (by decide)
        have d4:t 4=(.int .u64 x):=by simpa using hg 4 (by decide)
        have d5:t 5=(.pointer (some ⟨g2,o2,none⟩)):=by simpa using hg 5 (by decide)
        have d6:t 6=(.int .i64 (k:Int)):=by simpa using hg 6 (by decide)
        have d7:t 7=(.int .i64 ((k:Int)+5)):=by simpa using hg 7 (by decide)
        have d8:t 8=(.int .i64 (n:Int)):=by simpa using hg 8 (by decide)
        have d9:t 9=(.int .i64 ((k+5-n:Nat):Int)):=by simpa using hg 9 (by decide)
        have d10:t 10=(.pointer (some ⟨g2,o2,none⟩)):=by simpa using hg 10 (by decide)
        have d11:t 11=(.pointer (some ⟨g2,o2+(k+5-n),none⟩)):=by simpa using hg 11 (by decide)
        have d12:t 12=(.int .u64 y):=by simpa using hg 12 (by decide)
        have d13:t 13=(.int .u64 (19*y)):=by simpa using hg 13 (by decide)
        have d14:t 14=.tuple #[]∧L 14=true:=by simpa using hg 14 (by decide)
        rw[if_pos d14.2] at hx;have HP:Hid (TmS w (mixE (prodF xs ys) [0,0,0,0,0] k) G (L0+19*cs xs ys (5+k) (n+1)) w'):=by rw[HCE.out];exact hx
        dsimp only;rw[d0,d1,d2,d3,d4,d5,d6,d7,d8,d9,d10,d11,d12,d13,d14.1];go_wp2;go_roundw
        case rel=>exact⟨n+1,by omega,by omega,by go_num,HP.out⟩
        case measure=>simp[intOf];omega
      ·obtain rfl:n=5:=by omega
       rw[show((5:Nat):Int)=5 from rfl];have hhi:=HT1.out (5+k) 5 (by omega);have HHI:Hid (cs xs ys (5+k) 5=hiE xs ys k):=rfl;rw[HHI.out] at hts hhi;obtain⟨S,hS⟩:∃ S,S=L0+19*hiE xs ys k:=⟨_,rfl⟩
       rw[←hS] at hts;have hSt:S=(tl xs ys).getD k 0+ov:=by rw[hS,HL0.out,HTL.out];omega
       have hS0:0≤S:=by omega
       have hS1:S<41538374868278621028243970633760768:=by omega
       have hov:=HT3.out (k+1);have hgk1:gcy B51 (tl xs ys) (k+1)=S/2251799813685248:=by
        show((tl xs ys).getD k 0+gcy B51 (tl xs ys) k)/B51=_
        rw[HGK.out,←hSt];rfl
       have hpr:prodF xs ys k=S%2251799813685248:=by unfold prodF;rw[HGK.out,←hSt];rfl
       have c0:wr.cell? ⟨G,0,none⟩=some (.int .u64 (S/18446744073709551616)):=cell_of_row _ _ _ _ _ _ hts.sum;have c1:wr.cell? ⟨G,1,none⟩=some (.int .u64 (S%18446744073709551616)):=cell_of_row _ _ _ _ _ _ hts.sum;have c3:=hts.pl.row.cell k (by rw[mixE_len];exact hlt);have f3:=hts.pl.row.frozen k;have s1:PlS w (mixE (prodF xs ys) [0,0,0,0,0] (k+1)) (wr.setCell ⟨w.heap.size+1,k,none⟩ (.int .u64 (S%2251799813685248))):=by
        rw[←mixE_step _ _ _ hlt,hpr];exact⟨((Wr.refl _ _).setCell k _).rowW hts.pl.res (by omega),hts.pl.row.set k _,hts.pl.below.setCell (by simp) _⟩
       have hGne:G≠w.heap.size+1:=by have:=hts.hG;omega
       have hsz:w.heap.size+1<(wr.setCell ⟨w.heap.size+1,k,none⟩ (.int .u64 (S%2251799813685248))).heap.size:=by
        have:=(Array.getElem?_eq_some_iff.1 hts.sum).1;have:=hts.hG;simp[World.setCell];omega
       have c0':(wr.setCell ⟨w.heap.size+1,k,none⟩ (.int .u64 (S%2251799813685248))).cell? ⟨G,0,none⟩=some (.int .u64 (S/18446744073709551616)):=by
        rw[World.cell?_setCell_other _ _ _ _ (by first|(simp;done)|(simp;omega))];exact c0
       have c1':(wr.setCell ⟨w.heap.size+1,k,none⟩ (.int .u64 (S%2251799813685248))).cell? ⟨G,1,none⟩=some (.int .u64 (S%18446744073709551616)):=by
        rw[World.cell?_setCell_other _ _ _ _ (by first|(simp;done)|(simp;omega))];exact c1
       have HS1:Hid (PlS w (mixE (prodF xs ys) [0,0,0,0,0] (k+1)) (wr.setCell ⟨w.heap.size+1,k,none⟩ (.int .u64 (S%2251799813685248)))∧w.heap.size+1<(wr.setCell ⟨w.heap.size+1,k,none⟩ (.int .u64 (S%2251799813685248))).heap.size):=⟨s1,hsz⟩
       have hand:bits .and .u64 (S%18446744073709551616) 2251799813685247=S%2251799813685248:=by
        rw[u64_and_mask _ 51 (by omega) (by omega) _ (by decide) (by decide)];show S%18446744073709551616%2251799813685248=_
        omega
       have hor:bits .or .u64 (S/18446744073709551616*8192) (S%18446744073709551616/2251799813685248)=S/2251799813685248:=by
        rw[u64_or_add _ _ 13 (by omega) (by omega) (by omega) (by show _<(8192:Int);omega) (by omega) (S/18446744073709551616) (by rfl)];omega
       have HAND:=hdI <| hand
       have HOR:=hdI <| hor
       have HGK1:=hdI <| hgk1
       have b0:0≤S/18446744073709551616:=by omega
       have b1:0≤S%18446744073709551616:=by omega
       have b2:S%18446744073709551616<18446744073709551616:=by omega
       have b3:S/18446744073709551616<2251799813685248:=by omega
       clear hts hS hSt hgk1 hpr s1 hsz hand hor hhi hov HL0 HTL HGK;generalize (mixE (prodF xs ys) [0,0,0,0,0] k).getD k 0=z at *;generalize S/18446744073709551616=sh at *;generalize S%18446744073709551616=sl at *;generalize S%2251799813685248=sr at *;generalize S/2251799813685248=sq at *;go_wp2;rw[HOR.out,HAND.out];exact⟨⟨k+1,by omega,by go_num,by rw[HGK1.out],HS1.out.1,HS1.out.2⟩,by simp[intOf];omega⟩
  ·obtain rfl:k=5:=by omega
   rw[prod_all] at hst;rw[show((5:Nat):Int)=5 from rfl];have hc:=HT3.out 5;have hc4:=HT4.out;have hb:=sst_bd (tl xs ys) 0;have c0:=hst.row.cell 0 (by rw[sst_len];decide);have f0:=hst.row.frozen 0;have s1:PlS w (carryE (tl xs ys)) (wr.setCell ⟨w.heap.size+1,0,none⟩ (.int .u64 ((sst (tl xs ys) 5).getD 0 0+19*gcy B51 (tl xs ys) 5))):=
    ⟨((Wr.refl _ _).setCell 0 _).rowW hst.res (by omega),hst.row.set 0 _,hst.below.setCell (by simp) _⟩
   have HS1:=hdI <| s1
   generalize (sst (tl xs ys) 5).getD 0 0=y0 at *;generalize gcy B51 (tl xs ys) 5=cc at *;obtain⟨hc0,hc1⟩:=hc;obtain⟨hb0,hb1⟩:=hb;go_wp2_with fail;have hst:=HS1.out;generalize wr.setCell ⟨w.heap.size+1,0,none⟩ (.int .u64 (y0+19*cc))=w4 at *;refine(carryE_any _ (carryE (tl xs ys)) _ (carryE_len _) hst.row HQ.out.1).mono ?_;rintro e w1 ⟨rfl,hs⟩;have s1:=hst.carry hs;have hl:=HQ.out.2.1.1;have HSZ:=hdI <| sizeEl hl
   have HZ4:Hid (([0,0,0,0,0].map (Value.int .u64)).toArray.size=(((carryE (carryE (tl xs ys))).map (Value.int .u64)).toArray).size):=by show _=_;simp[hl]
   have HRS:=hdI <| s1.res
   have HRO:=hdI <| s1.row
   have HBE:=hdI <| s1.below
   generalize carryE (carryE (tl xs ys))=es at *;go_wp2_with (first
    |(refine wpList_load_row rfl 141 (.tmp 5) rfl (w.heap.size+1) rfl 141 _ (0,0) _ HRO.out Tryz.underlying141 rfl HSZ.out ?_)
    |(refine wpList_store_row rfl 141 (.tmp 4) (.tmp 76) rfl w.heap.size ((es.map (Value.int .u64)).toArray) rfl rfl 141 _ HRS.out HSZ.out HZ4.out (all_oneCell_toArray (ints_oneCell _ _)) ?_))
   refine bodyPost_ret (v:=.agg (es.map (Value.int .u64)).toArray) (results_cell_row rfl _ _ w.heap.size 141 _ (0,0) _ rfl (setRow_heap _ _ _ _ _ _ HRS.out) Tryz.underlying141 rfl HSZ.out) rfl ⟨es,HQ.out.2.1,HQ.out.2.2,rfl,?_⟩;exact HBE.out.trans ((Wr.setRow _ _ _).below (Nat.le_refl _))
theorem wpList_loadE {w:World} {ops:Array Oper} {rest:List Oper} {o:Oper} {a:Act} {Q:Exit→Act→World→Prop} (hgd:o.guard=none) (x:Operand) (ho:o.op=.load 141 x)
  (g p:Nat) (es:List Int) (hx:a.eval x=.pointer (some ⟨g,p,none⟩)) (h:EAt w g p es) (hK:wpList Tryz.prog ops Q rest (a.put o.dst (.agg (es.map (Value.int .u64)).toArray)) w) :
  wpList Tryz.prog ops Q (o::rest) a w:=by
 have hr:w.rangeAt g p (es.map (Value.int .u64)):=fun j v hv=>by
  have hj:j<es.length:=by have:=(List.getElem?_eq_some_iff.1 hv).1;simpa using this
  rw[h.2.2 j (by have:=h.2.1.1;omega)];simp[hj] at hv;simp[hj,hv]
 have hl:=h.2.1.1;exact wpList_load_mid hgd 141 x ho g p hx (es.map (Value.int .u64)) _ hr Tryz.underlying141 rfl (by rw[Tryz.sizeEl];simp[hl]) hK
theorem wpList_storeE {w:World} {ops:Array Oper} {rest:List Oper} {o:Oper} {a:Act} {Q:Exit→Act→World→Prop} (hgd:o.guard=none) (x y:Operand) (ho:o.op=.store 141 x y)
  (G:Nat) (es zs:List Int) (hx:a.eval x=.pointer (some ⟨G,0,none⟩)) (hy:a.eval y=.agg (es.map (Value.int .u64)).toArray) (hl:es.length=5) (hz:zs.length=5) (hr:RowW w G 141 zs)
  (hK:∀ w',RowW w' G 141 es→Wr G w w'→wpList Tryz.prog ops Q rest (a.put o.dst undef) w') :
  wpList Tryz.prog ops Q (o::rest) a w:=
 wpList_store_row hgd 141 x y ho G ((es.map (Value.int .u64)).toArray) hx hy 141 _ hr (sizeEl hl) (by simp[hl,hz]) (all_oneCell_toArray (ints_oneCell _ _)) (hK _ (hr.setRow es) (Wr.setRow _ _ _))
theorem EAt.of_row {w:World} {g:Nat} {es:List Int} (h:RowW w g 141 es) (hk:EOk es):EAt w g 0 es:=
 ⟨h.lt,hk,fun i hi=>by rw[Nat.zero_add];exact h.cell i (by have:=hk.1;omega)⟩
theorem row0 (w:World):RowW (w.alloc (.cells #[.int .u64 0,.int .u64 0,.int .u64 0,.int .u64 0,.int .u64 0] 141)) w.heap.size 141 [0,0,0,0,0]:=heap_alloc_new w _
theorem resE {fn:Func} {p:Tmp} (h:fn.results=#[.cell p 141]) (tmps:Array Value) (w:World) (g:Nat) (es:List Int) (hl:es.length=5) (hp:tmps.getD p undef=.pointer (some ⟨g,0,none⟩)) (hr:RowW w g 141 es) :
  (results fn tmps).run Tryz.prog w=.ok (.agg (es.map (Value.int .u64)).toArray) w:=
 results_cell_row h tmps w g 141 _ (0,0) _ hp hr Tryz.underlying141 rfl (sizeEl hl)
def sqN (x:Int):Nat→Int
 |0=>x
 |n+1=>sqN x n*sqN x n%fp
structure SqS (w:World) (x:Int) (wr:World):Prop where
 res:RowW wr w.heap.size 141 [0,0,0,0,0]
 row:∃ es,RowW wr (w.heap.size+1) 141 es∧EOk es∧ev es=x
 below:Below w.heap.size w wr
set_option maxHeartbeats 1000000 in
theorem squared_any (g o:Nat) (xs:List Int) (n:Nat) (w:World) (hn:n≤1048576) (h:EAt w g o xs) :
  Calls Tryz.prog 150 #[.pointer (some ⟨g,o,none⟩),.int .i64 n] w (EP w (sqN (ev xs) n)):=by
 have HX:Hid (EAt (w.alloc (.cells #[.int .u64 0,.int .u64 0,.int .u64 0,.int .u64 0,.int .u64 0] 141)) g o xs):=h.below (below_new2 _ _);have HK:=hdI <| h.2.1
 clear h;go_enter Tryz.func150,Tryz.ntmps150;go_wp2_with (first
  |(refine wpList_loadE rfl (.tmp 7) rfl g o xs rfl HX.out ?_)
  |(refine wpList_storeE rfl (.tmp 5) (.tmp 8) rfl (w.heap.size+1) xs [0,0,0,0,0] rfl rfl HK.out.1 rfl (heap_alloc2_new _ _ _) ?_)
  |fail)
 intro w1 hr1 hw1;have HS:Hid (SqS w (sqN (ev xs) 0) w1):=by
  refine⟨hw1.rowW (heap_alloc2_old _ _ _) (by omega),⟨xs,hr1,HK.out,rfl⟩,?_⟩;exact(((Below.refl _ _).alloc (Nat.le_refl _) _).alloc (by simp) _).trans (hw1.below (by omega))
 clear hr1 hw1 HX;go_wp2
 go_loopw [10] (fun i wr=>∃ k:Nat,k≤n∧i=.int .i64 k∧SqS w (sqN (ev xs) k) wr) (fun i _=>n-(intOf i).toNat)
 case atStart=>exact⟨0,Nat.zero_le _,rfl,HS.out⟩
 case round=>
  clear HS;obtain⟨k,hk,rfl,hst⟩:=hrel;obtain⟨hres,⟨es,hrow,hok,hev⟩,hbel⟩:=hst;by_cases hlt:k<n
  ·have hlt':(k:Int)<(n:Int):=by omega
   have E:=EAt.of_row hrow hok;go_wp2_with fail;refine(times_any _ _ _ _ es es _ E E).mono ?_;rintro e w2 ⟨fs,hfk,hfv,rfl,b2⟩;have s2:=hbel.size;have hl1:=hrow.lt;have HR2:=hdI <| hrow.below b2 hl1
   have HRS:=hdI <| hres.below b2 hres.lt
   have HB2:=hdI <| hbel.trans (b2.mono s2)
   have HF:Hid (EOk fs∧ev fs=sqN (ev xs) (k+1)):=⟨hfk,by rw[hfv,hev];rfl⟩
   have HL:=hdI <| hok.1
   clear E hrow hok hev hres hbel b2 hfk hfv;go_wp2_with (first
    |(refine wpList_storeE rfl (.tmp 5) (.tmp 12) rfl (w.heap.size+1) fs es rfl rfl HF.out.1.1 HL.out HR2.out ?_)
    |fail)
   intro w3 hr3 hw3;have HS3:Hid (SqS w (sqN (ev xs) (k+1)) w3):=⟨hw3.rowW HRS.out (by omega),⟨fs,hr3,HF.out.1,HF.out.2⟩,HB2.out.trans (hw3.below (by omega))⟩
   clear hr3 hw3 HR2 HRS HB2;go_wp2;go_roundw
   case rel=>exact⟨k+1,by omega,by go_num,HS3.out⟩
   case measure=>simp[intOf];omega
  ·obtain rfl:k=n:=by omega
   have HR2:=hdI <| EAt.of_row hrow hok
   have HRS:=hdI <| hres
   have HB2:=hdI <| hbel
   have HF:Hid (EOk es∧ev es=sqN (ev xs) k):=⟨hok,hev⟩
   clear hrow hok hev hres hbel;go_wp2_with (first
    |(refine wpList_loadE rfl (.tmp 5) rfl (w.heap.size+1) 0 es rfl HR2.out ?_)
    |(refine wpList_storeE rfl (.tmp 4) (.tmp 14) rfl w.heap.size es [0,0,0,0,0] rfl rfl HF.out.1.1 rfl HRS.out ?_)
    |fail)
   intro w3 hr3 hw3;have HB3:=hdI <| HB2.out.trans (hw3.below (Nat.le_refl _))
   have HR3:Hid (RowW w3 w.heap.size 141 es):=hr3;clear hr3 hw3 HR2 HRS HB2;go_wp2;exact bodyPost_ret (v:=.agg (es.map (Value.int .u64)).toArray) (resE rfl _ _ w.heap.size es HF.out.1.1 rfl HR3.out) rfl ⟨es,HF.out.1,HF.out.2,rfl,HB3.out⟩
theorem mod_mul_mod (a b:Int):(a%fp)*(b%fp)%fp=a*b%fp:=(Int.mul_emod a b fp).symm
theorem sqN_eq (x:Int) (h0:0≤x) (h1:x<fp) (n:Nat):sqN x n=x^(2^n)%fp:=by
 induction n with
 |zero=>simp only[sqN,Nat.pow_zero,Int.pow_succ,Int.pow_zero,Int.one_mul];exact(Int.emod_eq_of_lt h0 h1).symm
 |succ n ih=>rw[sqN,ih,mod_mul_mod,←Int.pow_add,Nat.pow_succ];congr 2;omega
theorem pow_mod_pow (x:Int) (a b:Nat):(x^a%fp)^b%fp=x^(a*b)%fp:=by
 induction b with
 |zero=>simp
 |succ b ih=>rw[Int.pow_succ,Int.mul_emod,ih,Int.emod_emod_of_dvd _ (Int.dvd_refl fp),mod_mul_mod,←Int.pow_add,Nat.mul_succ]
theorem ev_bd (es:List Int):0≤ev es∧ev es<fp:=by unfold ev fp;omega
theorem ones_even (x:Int) (h:Nat):sqN (x^(2^h-1)%fp) h*(x^(2^h-1)%fp)%fp=x^(2^(h+h)-1)%fp:=by
 have b:0≤x^(2^h-1)%fp∧x^(2^h-1)%fp<fp:=by unfold fp;omega
 rw[sqN_eq _ b.1 b.2,pow_mod_pow,mod_mul_mod,←Int.pow_add]
 congr 2
 have hp:1≤2^h:=Nat.pow_pos (by decide);rw[Nat.pow_add,Nat.sub_mul,Nat.one_mul];have:2^h≤2^h*2^h:=Nat.le_mul_of_pos_left _ hp;omega
theorem ones_odd (x:Int) (m:Nat) (h0:0≤x) (h1:x<fp):sqN (x^(2^m-1)%fp) 1*x%fp=x^(2^(m+1)-1)%fp:=by
 have b:0≤x^(2^m-1)%fp∧x^(2^m-1)%fp<fp:=by unfold fp;omega
 have hx:x=x^1%fp:=by rw[Int.pow_succ,Int.pow_zero,Int.one_mul];exact(Int.emod_eq_of_lt h0 h1).symm
 rw[sqN_eq _ b.1 b.2,pow_mod_pow]
 conv=>lhs;rw[show x^((2^m-1)*2^1)%fp*x=x^((2^m-1)*2^1)%fp*(x^1%fp) from by rw[←hx]]
 rw[mod_mul_mod,←Int.pow_add]
 congr 2
 have hp:1≤2^m:=Nat.pow_pos (by decide);rw[Nat.pow_succ];omega
theorem EAt.wr {w w':World} {g o V:Nat} {es:List Int} (h:EAt w g o es) (hw:Wr V w w') (hne:g≠V):EAt w' g o es:=
 ⟨by rw[hw.size];exact h.1,h.2.1,fun i hi=>by rw[World.cell?_of_block (a:=⟨g,o+i,none⟩) (w:=w) (hw.block g hne)];exact h.2.2 i hi⟩
set_option maxHeartbeats 2000000 in
theorem ones_any (n:Nat):∀(g o:Nat) (xs:List Int) (w:World),1≤n→n≤1024→EAt w g o xs→
  Calls Tryz.prog 159 #[.pointer (some ⟨g,o,none⟩),.int .i64 n] w (EP w (ev xs^(2^n-1)%fp)):=by
 induction n using Nat.strongRecOn with
 |ind n ih=>
  intro g o xs w hn1 hn2 h;have HX:Hid (EAt (w.alloc (.cells #[.int .u64 0,.int .u64 0,.int .u64 0,.int .u64 0,.int .u64 0] 141)) g o xs):=h.below (below_new2 _ _);have HK:=hdI <| h.2.1
  have hev:=ev_bd xs;have hgw:=h.1;by_cases h1:n=1
  ·have h1':((n:Int) == 1)=true:=by rw[h1];rfl
   have HV:Hid (ev xs=ev xs^(2^n-1)%fp):=by
    show _=_
    rw[h1];simp only[Nat.pow_one,Nat.reduceSub,Int.pow_succ,Int.pow_zero,Int.one_mul];exact(Int.emod_eq_of_lt hev.1 hev.2).symm
   have HR0:=hdI <| row0 w
   go_enter Tryz.func159,Tryz.ntmps159;go_wp2_with (first
    |(refine wpList_loadE rfl (.tmp 10) rfl g o xs rfl HX.out ?_)
    |(refine wpList_storeE rfl (.tmp 4) (.tmp 11) rfl w.heap.size xs [0,0,0,0,0] rfl rfl HK.out.1 rfl HR0.out ?_)
    |fail)
   intro w3 hr3 hw3;have HB3:=hdI <| (below_new2 _ _).trans (hw3.below (Nat.le_refl _))
   have HR3:=hdI <| hr3
   go_wp2;exact bodyPost_ret (v:=.agg (xs.map (Value.int .u64)).toArray) (resE rfl _ _ w.heap.size xs HK.out.1 rfl HR3.out) rfl ⟨xs,HK.out,HV.out,rfl,HB3.out⟩
  ·have h1':((n:Int) == 1)=false:=by simp;omega
   have IH:=hdI <| ih (n/2) (by omega) g o xs
   have HD:Hid ((n:Int)/2=((n/2:Nat):Int)):=by show _=_;omega
   have hb0:Below w.heap.size w (w.alloc (.cells #[.int .u64 0,.int .u64 0,.int .u64 0,.int .u64 0,.int .u64 0] 141)):=below_new2 _ _;have HR0:=row0 w;go_enter Tryz.func159,Tryz.ntmps159;go_wp2_with fail;generalize w.alloc (.cells #[.int .u64 0,.int .u64 0,.int .u64 0,.int .u64 0,.int .u64 0] 141)=w0 at *;rw[HD.out];refine(IH.out _ (by omega) (by omega) HX.out).mono ?_;rintro e w1 ⟨es,hok,hes,rfl,b1⟩;have HE1:Hid (EOk es∧ev es=ev xs^(2^(n/2)-1)%fp):=⟨hok,hes⟩
   have s0:=hb0.size;have hl0:=HR0.lt;have HR1:=HR0.below b1 hl0;have B1:=hb0.trans (b1.mono s0);have X1:=HX.out.below b1;have s1:=B1.size;have hl1:=HR1.lt;have HRN:=hdI <| row0 w1
   go_wp2_with (first
    |(refine wpList_storeE rfl (.tmp 5) (.tmp 15) rfl w1.heap.size es [0,0,0,0,0] rfl rfl HE1.out.1.1 rfl HRN.out ?_)
    |fail)
   intro w2 hr2 hw2;have b2:=(below_new2 _ _).trans (hw2.below (Nat.le_refl _));have HR2:=HR1.below b2 hl1;have B2:=B1.trans (b2.mono s1);have X2:=X1.below b2;have E2:=EAt.of_row hr2 HE1.out.1;have hG:=hl1;generalize hGd:w1.heap.size=G at *;go_wp2_with fail;rw[HD.out];refine(squared_any G 0 es (n/2) _ (by omega) E2).mono ?_;rintro e w3 ⟨fs,hfk,hfv,rfl,b3⟩;have s2:=B2.size;have hl2:=HR2.lt;have HR3:=HR2.below b3 hl2;have B3:=B2.trans (b3.mono s2);have X3:=X2.below b3;have E3:=E2.below b3;have HF:Hid (EOk fs∧ev fs=sqN (ev xs^(2^(n/2)-1)%fp) (n/2)):=⟨hfk,by rw[hfv,HE1.out.2]⟩
   have s3:=B3.size;have hl3:=HR3.lt;have hG3:=E3.1;have HRN:=hdI <| row0 w3
   go_wp2_with (first
    |(refine wpList_storeE rfl (.tmp 6) (.tmp 18) rfl w3.heap.size fs [0,0,0,0,0] rfl rfl HF.out.1.1 rfl HRN.out ?_)
    |fail)
   intro w4 hr4 hw4;have b4:=(below_new2 _ _).trans (hw4.below (Nat.le_refl _));have HR4:=HR3.below b4 hl3;have B4:=B3.trans (b4.mono s3);have X4:=X3.below b4;have E4:=E3.below b4;have F4:=EAt.of_row hr4 HF.out.1;have hV:w.heap.size<w3.heap.size:=by omega
   generalize hVd:w3.heap.size=V at *;go_wp2_with fail;refine(times_any V 0 G 0 fs es _ F4 E4).mono ?_;rintro e w5 ⟨us,huk,huv,rfl,b5⟩;have s4:=B4.size;have HU:Hid (EOk us∧ev us=ev xs^(2^(n/2+n/2)-1)%fp):=⟨huk,by rw[huv,HF.out.2,HE1.out.2,ones_even]⟩
   have HR5:=HR4.below b5 HR4.lt;have hrV:=hr4.below b5 hr4.lt;have B5:=B4.trans (b5.mono s4);have X5:=X4.below b5;have HFL:=hdI <| HF.out.1.1
   have HRV:=hdI <| hrV
   go_wp2_with (first
    |(refine wpList_storeE rfl (.tmp 6) (.tmp 19) rfl V us fs rfl rfl HU.out.1.1 HFL.out HRV.out ?_)
    |fail)
   intro w6 hr6 hw6;have HR6:=hw6.rowW HR5 (by omega);have B6:=B5.trans (hw6.below (by omega));have X6:=X5.wr hw6 (by omega);have hr6':=hr6;have hmod:(n:Int)%2=((n%2:Nat):Int):=by omega
   by_cases hodd:n%2=1
   ·have ho1:(n:Int)%2=1:=by omega
    have ho2:(n:Int).tmod 2=1:=by rw[Int.tmod_eq_emod_of_nonneg (by omega)];exact ho1
    have HNE:Hid (n/2+n/2+1=n):=by show _=_;omega
    have U6:=EAt.of_row hr6' HU.out.1;go_wp2_with fail;refine(squared_any V 0 us 1 _ (by decide) U6).mono ?_;rintro e w7 ⟨vs,hvk,hvv,rfl,b7⟩;have s6:=B6.size;have HV7:Hid (EOk vs∧ev vs=sqN (ev xs^(2^(n/2+n/2)-1)%fp) 1):=⟨hvk,by rw[hvv,HU.out.2]⟩
    have HR7:=HR6.below b7 HR6.lt;have HRV7:=hdI <| hr6'.below b7 hr6'.lt
    have B7:=B6.trans (b7.mono s6);have X7:=X6.below b7;have HUL:=hdI <| HU.out.1.1
    go_wp2_with (first
     |(refine wpList_storeE rfl (.tmp 6) (.tmp 23) rfl V vs us rfl rfl HV7.out.1.1 HUL.out HRV7.out ?_)
     |fail)
    intro w8 hr8 hw8;have HR8:=hw8.rowW HR7 (by omega);have B8:=B7.trans (hw8.below (by omega));have X8:=X7.wr hw8 (by omega);have V8:=EAt.of_row hr8 HV7.out.1;go_wp2_with fail;refine(times_any V 0 g o vs xs _ V8 X8).mono ?_;rintro e wa ⟨ts,htk,htv,rfl,ba⟩;have s8:=B8.size;have HT:Hid (EOk ts∧ev ts=ev xs^(2^n-1)%fp):=⟨htk,by rw[htv,HV7.out.2,ones_odd _ _ hev.1 hev.2,HNE.out]⟩
    have HRa:=HR8.below ba HR8.lt;have HRVa:=hdI <| hr8.below ba hr8.lt
    have Ba:=B8.trans (ba.mono s8);have HVL8:=hdI <| HV7.out.1.1
    go_wp2_with (first
     |(refine wpList_storeE rfl (.tmp 6) (.tmp 25) rfl V ts vs rfl rfl HT.out.1.1 HVL8.out HRVa.out ?_)
     |fail)
    intro wb hrb hwb;have HRb:=hwb.rowW HRa (by omega);have Bb:=Ba.trans (hwb.below (by omega));have HRES:=hdI <| HRb
    have HBE:=hdI <| Bb
    have HVL:=hdI <| EAt.of_row hrb HT.out.1
    go_wp2_with (first
     |(refine wpList_loadE rfl (.tmp 6) rfl V 0 ts rfl HVL.out ?_)
     |(refine wpList_storeE rfl (.tmp 4) (.tmp 26) rfl w.heap.size ts [0,0,0,0,0] rfl rfl HT.out.1.1 rfl HRES.out ?_)
     |fail)
    intro w9 hr9 hw9;have HB9:=hdI <| HBE.out.trans (hw9.below (Nat.le_refl _))
    have HR9:=hdI <| hr9
    go_wp2;exact bodyPost_ret (v:=.agg (ts.map (Value.int .u64)).toArray) (resE rfl _ _ w.heap.size ts HT.out.1.1 rfl HR9.out) rfl ⟨ts,HT.out.1,HT.out.2,rfl,HB9.out⟩
   ·have ho1:(n:Int)%2=0:=by omega
    have ho2:(n:Int).tmod 2=0:=by rw[Int.tmod_eq_emod_of_nonneg (by omega)];exact ho1
    have HT:Hid (EOk us∧ev us=ev xs^(2^n-1)%fp):=⟨HU.out.1,by rw[HU.out.2,show n/2+n/2=n by omega]⟩
    have HRES:=hdI <| HR6
    have HBE:=hdI <| B6
    have HVL:=hdI <| EAt.of_row hr6' HT.out.1
    go_wp2_with (first
     |(refine wpList_loadE rfl (.tmp 6) rfl V 0 us rfl HVL.out ?_)
     |(refine wpList_storeE rfl (.tmp 4) (.tmp 26) rfl w.heap.size us [0,0,0,0,0] rfl rfl HT.out.1.1 rfl HRES.out ?_)
     |fail)
    intro w9 hr9 hw9;have HB9:=hdI <| HBE.out.trans (hw9.below (Nat.le_refl _))
    have HR9:=hdI <| hr9
    go_wp2;exact bodyPost_ret (v:=.agg (us.map (Value.int .u64)).toArray) (resE rfl _ _ w.heap.size us HT.out.1.1 rfl HR9.out) rfl ⟨us,HT.out.1,HT.out.2,rfl,HB9.out⟩
section
variable {P:Program} {ops:Array Oper} {Q:Exit→Act→World→Prop} {md:Region.Mode}
theorem wpAny_slotsV (M:Nat→World→World→Prop) (frame:(Nat→Value)→Act) (Ext:(Nat→Bool)→(Nat→Value)→World→Prop) (Good:Nat→(Nat→Bool)→World→Value→Prop)
  (hstab:∀ j L w w' i v,M i w w'→i≠j→L i=false→Good j L w v→Good j (updK L i) w' v)
  (hback:(List.range ops.size).all (fun i=>((ops[i]?).map (fun o=>o.after.all (fun e=>!Region.binds md e || decide (e.on<i)))).getD false)=true)
  (hop:∀(i:Nat) (o:Oper) (L:Nat→Bool) (u:Nat→Value) (w:World),ops[i]?=some o→L i=false→Ext L u w→(∀ e∈o.after,Region.binds md e=true→L e.on=true∧Good e.on L w (u e.on))→
   ∀ K:Act→World→Prop,(∀ w' v,Good i (updK L i) w' v→Ext (updK L i) (upd u i v) w'→M i w w'→K (frame (upd u i v)) w')→(if Region.wanted o (yielded ops (frame u).tmps)=true then Oper.wp P o (frame u) w K Q else K ((frame u).put o.dst undef) w))
  (hdone:∀ L u w,Ext L u w→(∀ i,i<ops.size→Good i L w (u i))→Q .normal (frame u) w) :
  ∀(fuel:Nat) (listed:Array Bool) (u:Nat→Value) (w:World),listed.size=ops.size→Ext (fun n=>listed.getD n false) u w→(∀ i,i<ops.size→listed.getD i false=true→Good i (fun n=>listed.getD n false) w (u i))→
   (listed.toList.filter (!·)).length≤fuel→wpAny P md ops Q fuel listed (frame u) w:=by
 have hb:∀(i:Nat) (o:Oper),ops[i]?=some o→∀ e∈o.after,Region.binds md e=true→e.on<i:=fun i o ho e he hbe=>by
  have hi:=(Array.getElem?_eq_some_iff.1 ho).1;have:=List.all_eq_true.1 hback i (List.mem_range.2 hi);rw[ho] at this;simp at this;obtain⟨k,hk,rfl⟩:=Array.mem_iff_getElem.1 he;rcases this k hk with h|h
  ·rw[hbe] at h;cases h
  ·exact h
 have hfin:∀(listed:Array Bool) (u:Nat→Value) (w:World),listed.size=ops.size→Ext (fun n=>listed.getD n false) u w→(∀ i,i<ops.size→listed.getD i false=true→Good i (fun n=>listed.getD n false) w (u i))→Region.ready md ops listed=[]→Q .normal (frame u) w:=by
  intro listed u w hs he hgd hr;refine hdone _ u w he fun i hi=>hgd i hi ?_
  have hall:∀ n i,i<n→i<ops.size→listed.getD i false=true:=by
   intro n
   induction n with
   |zero=>intro i h;omega
   |succ n ih=>
    intro i hin hi;by_cases hlt:i<n
    ·exact ih i hlt hi
    ·cases hl:listed.getD i false with
     |true=>rfl
     |false=>
      exfalso
      have hl':listed.getD i true=false:=by
       have hil:i<listed.size:=by omega
       simp[hil] at hl ⊢;exact hl
      have:i∈Region.ready md ops listed:=mem_ready.2 ⟨hi,hl',ops[i],by simp[hi],fun e hee hbe=>ih e.on (by have:=hb i ops[i] (by simp[hi]) e hee hbe;omega) (by have:=hb i ops[i] (by simp[hi]) e hee hbe;omega)⟩;rw[hr] at this;cases this
  exact hall (i+1) i (by omega) hi
 intro fuel
 induction fuel with
 |zero=>
  intro listed u w hs he hgd hc;have hr:Region.ready md ops listed=[]:=by
   apply List.eq_nil_iff_forall_not_mem.2;intro i hi;obtain⟨h1,h2,_⟩:=mem_ready.1 hi;have hil:i<listed.size:=by omega
   have h3:listed[i]=false:=by simpa[hil] using h2
   have:listed[i]∈listed.toList.filter (!·):=by
    rw[List.mem_filter];exact⟨by simp,by rw[h3];rfl⟩
   have:=List.length_pos_of_mem this;omega
  exact⟨hr,hfin listed u w hs he hgd hr⟩
 |succ fuel ih=>
  intro listed u w hs he hgd hc;refine⟨fun hr=>hfin listed u w hs he hgd hr,fun i hi=>?_⟩;obtain⟨h1,h2,o,ho,h3⟩:=mem_ready.1 hi;refine wpOp_step ho fun K hK=>?_
  have hil:i<listed.size:=by omega
  have hnl:listed.getD i false=false:=by simp[hil] at h2 ⊢;exact h2
  have hupd:(fun n=>(listed.setIfInBounds i true).getD n false)=updK (fun n=>listed.getD n false) i:=by
   funext n;rw[getD_set listed i n hil];rfl
  refine hop i o (fun n=>listed.getD n false) u w ho hnl he (fun e hee hbd=>⟨h3 e hee hbd,hgd e.on (by have:=hb i o ho e hee hbd;omega) (h3 e hee hbd)⟩) K fun w' v hgv hext hm=>hK _ _ ?_
  refine ih _ _ w' (by simpa using hs) (by rw[hupd];exact hext) (fun j hj hlj=>?_) ?_
  ·rw[getD_set listed i j hil] at hlj;unfold upd;by_cases hji:j=i
   ·subst hji;rw[hupd];simpa using hgv
   ·rw[if_neg hji] at hlj;rw[if_neg hji,hupd];exact hstab j _ w w' i _ hm (Ne.symm hji) hnl (hgd j hj hlj)
  ·have:listed.toList[i]?=some false:=by simp[hil] at h2;simp[hil,h2]
   have:=count_set listed.toList i this;rw[Array.toList_setIfInBounds];omega
end
end Go.Proofs.YtncomnkdlpoelaaGreatDoor
