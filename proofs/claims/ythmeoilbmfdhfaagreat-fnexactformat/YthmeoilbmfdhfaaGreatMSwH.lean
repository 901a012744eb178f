import Derived.Test.YthmeoilbmfdhfaaGreatMSvEa
import Derived.Test.YthmeoilbmfdhfaaGreatSwI
import Derived.Deep.Cut
import Derived.Test.YthmeoilbmfdhfaaGreatSvK
namespace Go.Proofs.YthmeoilbmfdhfaaGreat
open Go.ChangeShapes Go.WideShapes Go.ChangeAt Go.RowKit
set_option linter.unusedVariables false
def SAt (w:World) (a:Option Addr) (zs:List Int):Prop:=
 zs=[]∨∃ b off,a=some ⟨b,off,none⟩∧b<w.heap.size∧∀ i,i<zs.length→w.cell? ⟨b,off+i,none⟩=some (.int .i64 (zs.getD i 0))∧w.frozen? ⟨b,off+i,none⟩=false
theorem SAt.at_ {w:World} {a:Option Addr} {zs:List Int} (h:SAt w a zs):At .i64 w a zs:=by
 rcases h with h|⟨b,off,e,hl,hc⟩
 ·exact .inl h
 ·exact .inr ⟨b,off,e,hl,fun i hi=>(hc i hi).1⟩
theorem SAt.open_ {w:World} {a:Option Addr} {zs:List Int} (h:SAt w a zs) {n:Nat} (hn:zs.length=n):Open w a n:=by
 rcases h with h|⟨b,off,e,hl,hc⟩
 ·subst h;exact .inl (by simpa using hn.symm)
 ·exact .inr ⟨b,off,e,hl,fun i hi=>⟨by rw[(hc i (by omega)).1];rfl,(hc i (by omega)).2⟩⟩
def Lies (lo:Nat) (w:World) (a:Option Addr):Prop:=∀ ad,a=some ad→lo≤ad.block∧ad.block<w.heap.size
def Aprt (a b:Option Addr):Prop:=∀ x y,a=some x→b=some y→x.block≠y.block
theorem Lies.mono {lo lo':Nat} {w w':World} {a:Option Addr} (h:Lies lo w a) (hl:lo'≤lo) (hs:w.heap.size≤w'.heap.size):Lies lo' w' a:=fun ad e=>by have:=h ad e;omega
theorem SAt.keep {w w':World} {a:Option Addr} {zs:List Int} (h:SAt w a zs) (hs:w.heap.size≤w'.heap.size) (hb:∀ ad,a=some ad→ad.block<w.heap.size→w'.heap[ad.block]?=w.heap[ad.block]?):SAt w' a zs:=by
 rcases h with h|⟨b,off,e,hl,hc⟩
 ·exact .inl h
 ·have hk:=hb _ e hl;refine .inr ⟨b,off,e,by omega,fun i hi=>?_⟩;rw[World.cell?_of_block (a:=⟨b,off+i,none⟩) (w:=w) hk,World.frozen?_of_block (a:=⟨b,off+i,none⟩) (w:=w) hk];exact hc i hi
theorem At.keepT {w w':World} {a:Option Addr} {zs:List Int} (h:At .i64 w a zs) (hs:w.heap.size≤w'.heap.size) (hb:∀ ad,a=some ad→ad.block<w.heap.size→w'.heap[ad.block]?=w.heap[ad.block]?):At .i64 w' a zs:=by
 rcases h with h|⟨b,off,e,hl,hc⟩
 ·exact .inl h
 ·have hk:=hb _ e hl;refine .inr ⟨b,off,e,by omega,fun i hi=>?_⟩;rw[World.cell?_of_block (a:=⟨b,off+i,none⟩) (w:=w) hk];exact hc i hi
theorem Open.keepT {w w':World} {a:Option Addr} {n:Nat} (h:Open w a n) (hs:w.heap.size≤w'.heap.size) (hb:∀ ad,a=some ad→ad.block<w.heap.size→w'.heap[ad.block]?=w.heap[ad.block]?):Open w' a n:=by
 rcases h with h|⟨b,off,e,hl,hc⟩
 ·exact .inl h
 ·have hk:=hb _ e hl;refine .inr ⟨b,off,e,by omega,fun i hi=>?_⟩;rw[World.cell?_of_block (a:=⟨b,off+i,none⟩) (w:=w) hk,World.frozen?_of_block (a:=⟨b,off+i,none⟩) (w:=w) hk];exact hc i hi
theorem SAt.below {w w':World} {a:Option Addr} {zs:List Int} (h:SAt w a zs) (b:Below w.heap.size w w'):SAt w' a zs:=h.keep b.size (fun ad _ hl=>b.block _ hl)
theorem WrO.kept {a c:Option Addr} {w w':World} (h:WrO a w w') (hap:Aprt a c):∀ ad,c=some ad→ad.block<w.heap.size→w'.heap[ad.block]?=w.heap[ad.block]?:=
 fun ad e _=>h.block _ (fun x hx=>(hap x ad hx e).symm)
structure S3 (lo:Nat) (w:World) (aD aU aT:Option Addr) (nD nU nT:Nat) (D U T:List Int):Prop where
 d:SAt w aD D
 u:SAt w aU U
 t:SAt w aT T
 nd:D.length=nD
 nu:U.length=nU
 nt:T.length=nT*2
 ld:Lies lo w aD
 lu:Lies lo w aU
 lt:Lies lo w aT
 du:Aprt aD aU
 dt:Aprt aD aT
 ut:Aprt aU aT
theorem S3.keep {lo:Nat} {w w':World} {aD aU aT:Option Addr} {nD nU nT:Nat} {D U T:List Int} (h:S3 lo w aD aU aT nD nU nT D U T) (hs:w.heap.size≤w'.heap.size) (hb:∀ k,lo≤k→k<w.heap.size→w'.heap[k]?=w.heap[k]?):S3 lo w' aD aU aT nD nU nT D U T:=
 ⟨h.d.keep hs (fun ad e hl=>hb _ (h.ld ad e).1 hl),h.u.keep hs (fun ad e hl=>hb _ (h.lu ad e).1 hl),h.t.keep hs (fun ad e hl=>hb _ (h.lt ad e).1 hl),h.nd,h.nu,h.nt,h.ld.mono (Nat.le_refl _) hs,h.lu.mono (Nat.le_refl _) hs,h.lt.mono (Nat.le_refl _) hs,h.du,h.dt,h.ut⟩
theorem S3.below {lo:Nat} {w w':World} {aD aU aT:Option Addr} {nD nU nT:Nat} {D U T:List Int} (h:S3 lo w aD aU aT nD nU nT D U T) (b:Below w.heap.size w w'):S3 lo w' aD aU aT nD nU nT D U T:=h.keep b.size (fun k _ hk=>b.block k hk)
set_option maxHeartbeats 1000000 in
theorem heldT_any (a:Option Addr) (n cap:Nat) (k:Int) (w:World) (ha:At .i64 w a (mks k (n*2))) (hk:0≤k) (hk':k+n*2≤1099511627776) :
  Calls Tryz.prog 95 #[.slice a n cap,.int .i64 k] w fun e w'=>e=.returned (.int .i64 (k+n*2))∧w'=w:=by
 go_enter Tryz.func95,Tryz.ntmps95
 go_wp2
 go_loop [1,5] (fun q i=>∃ j:Nat,j≤n∧i=.int .i64 j∧q=.int .i64 (k+j*2)) (fun _ i=>n-(intOf i).toNat)
 case atStart=>exact⟨0,Nat.zero_le _,rfl,by simp⟩
 case round=>
  obtain⟨j,hj,rfl,rfl⟩:=hrel;by_cases hlt:j<n
  ·obtain⟨b,off,rfl,hb,hc⟩:=ha.get (by rw[mks_len];omega);have hc0:=hc (j*2) (by rw[mks_len];omega);have hc1:=hc (j*2+1) (by rw[mks_len];omega);rw[mks_get k _ _ (by omega)] at hc0 hc1;rw[show k+((j*2:Nat):Int)=k+j*2 by omega] at hc0;rw[show k+((j*2+1:Nat):Int)=k+j*2+1 by omega,←Nat.add_assoc] at hc1;have hlt':(j:Int)<n:=by omega
   have hne:((k+(j:Int)*2) != (k+(j:Int)*2))=false:=by simp
   have hne1:((k+(j:Int)*2+1) != (k+(j:Int)*2+1))=false:=by simp
   clear hc ha;go_wp2
   go_round
   case rel=>exact⟨j+1,by omega,by go_num,by go_num⟩
   case measure=>simp[intOf];omega
  ·have hjn:j=n:=by omega
   subst hjn;go_wp2
   go_ret
   exact⟨rfl,rfl⟩
def NotIn (k:Nat) (a:Option Addr):Prop:=∀ ad,a=some ad→k≠ad.block
structure MB (lo:Nat) (w:World) (sc:Array Value) (wr:World):Prop where
 below:Below lo w wr
 box:wr.heap[w.heap.size]?=some (.cells sc 34 (0,0))
theorem MB.wro {lo:Nat} {w wr w':World} {sc:Array Value} (h:MB lo w sc wr) {a:Option Addr} (hl:Lies lo w a) (hw:WrO a wr w'):MB lo w sc w':=
 ⟨h.below.trans (hw.below lo (fun ad e=>(hl ad e).1)),by rw[hw.block _ (fun ad e=>by have:=hl ad e;omega)];exact h.box⟩
set_option maxRecDepth 100000 in
set_option maxHeartbeats 1000000 in
theorem markS_any (aD aU aT:Option Addr) (nD cD nU cU nT cT:Nat) (k0 k:Int) (w:World) (lo:Nat) (hlo:lo≤w.heap.size)
  (oD:Open w aD nD) (oU:Open w aU nU) (oT:Open w aT (nT*2)) (lD:Lies lo w aD) (lU:Lies lo w aU) (lT:Lies lo w aT) (dU:Aprt aD aU) (dT:Aprt aD aT) (uT:Aprt aU aT) (hk:0≤k) (hk':k+nD+nU+nT*2≤1099511627776) :
  Calls Tryz.prog 48 #[.agg #[.slice aD nD cD,.slice aU nU cU,.int .i64 k0,.slice aT nT cT],.int .i64 k] w fun e w'=>e=.returned (.int .i64 (k+nD+nU+nT*2))∧At .i64 w' aD (mks k nD)∧At .i64 w' aU (mks (k+nD) nU)∧At .i64 w' aT (mks (k+nD+nU) (nT*2))∧Below lo w w'∧∀ j,j<w.heap.size→NotIn j aD→NotIn j aU→NotIn j aT→w'.heap[j]?=w.heap[j]?:=by
 have b1:Below w.heap.size w (w.alloc (.cells #[.slice aD nD cD,.slice aU nU cU,.int .i64 k0,.slice aT nT cT] 34)):=(Below.refl _ _).alloc (Nat.le_refl _) _
 have HM1:Hid (MB lo w #[.slice aD nD cD,.slice aU nU cU,.int .i64 k0,.slice aT nT cT] (w.alloc (.cells #[.slice aD nD cD,.slice aU nU cU,.int .i64 k0,.slice aT nT cT] 34))):=⟨b1.mono hlo,heap_alloc_new w _⟩
 have HO:Hid (Open (w.alloc (.cells #[.slice aD nD cD,.slice aU nU cU,.int .i64 k0,.slice aT nT cT] 34)) aD nD∧Open (w.alloc (.cells #[.slice aD nD cD,.slice aU nU cU,.int .i64 k0,.slice aT nT cT] 34)) aU nU∧Open (w.alloc (.cells #[.slice aD nD cD,.slice aU nU cU,.int .i64 k0,.slice aT nT cT] 34)) aT (nT*2)):=⟨oD.below b1,oU.below b1,oT.below b1⟩
 have HL:Hid (Lies lo w aD∧Lies lo w aU∧Lies lo w aT):=⟨lD,lU,lT⟩
 have HP:Hid (Aprt aD aU∧Aprt aD aT∧Aprt aU aT):=⟨dU,dT,uT⟩
 have HN1:Hid (∀ j,j<w.heap.size→(w.alloc (.cells #[.slice aD nD cD,.slice aU nU cU,.int .i64 k0,.slice aT nT cT] 34)).heap[j]?=w.heap[j]?):=fun j hj=>b1.block j hj
 clear oD oU oT lD lU lT dU dT uT b1
 go_enter Tryz.func48,Tryz.ntmps48
 go_wp2_with fail
 refine(markI_any aD nD cD k _ HO.out.1 hk (by omega)).mono ?_
 rintro e w2 ⟨rfl,hA,hw⟩
 generalize w.alloc (.cells #[.slice aD nD cD,.slice aU nU cU,.int .i64 k0,.slice aT nT cT] 34)=w1 at *
 have HM2:Hid (MB lo w #[.slice aD nD cD,.slice aU nU cU,.int .i64 k0,.slice aT nT cT] w2):=HM1.out.wro HL.out.1 hw
 have HO2:Hid (Open w2 aU nU∧Open w2 aT (nT*2)):=⟨HO.out.2.1.keepT (by rw[hw.size];exact Nat.le_refl _) (hw.kept HP.out.1),HO.out.2.2.keepT (by rw[hw.size];exact Nat.le_refl _) (hw.kept HP.out.2.1)⟩
 have HA2:Hid (At .i64 w2 aD (mks k nD)):=hA
 have HN2:Hid (∀ j,j<w.heap.size→NotIn j aD→w2.heap[j]?=w.heap[j]?):=fun j hj h1=>(hw.block j (fun ad e=>h1 ad e)).trans (HN1.out j hj)
 have x1:w2.cell? ⟨w.heap.size,1,none⟩=some (.slice aU nU cU):=by rw[cell_of_row w2 w.heap.size 1 _ _ _ HM2.out.box];rfl
 clear hA hw HM1 HO
 go_wp2_with fail
 refine(markI_any aU nU cU (k+nD) _ HO2.out.1 (by omega) (by omega)).mono ?_
 rintro e w3 ⟨rfl,hA,hw⟩
 have HM3:Hid (MB lo w #[.slice aD nD cD,.slice aU nU cU,.int .i64 k0,.slice aT nT cT] w3):=HM2.out.wro HL.out.2.1 hw
 have HO3:Hid (Open w3 aT (nT*2)):=HO2.out.2.keepT (by rw[hw.size];exact Nat.le_refl _) (hw.kept HP.out.2.2)
 have HA3:Hid (At .i64 w3 aD (mks k nD)∧At .i64 w3 aU (mks (k+nD) nU)):=⟨HA2.out.keepT (by rw[hw.size];exact Nat.le_refl _) (hw.kept (fun x y hx hy=>(HP.out.1 y x hy hx).symm)),hA⟩
 have HN3:Hid (∀ j,j<w.heap.size→NotIn j aD→NotIn j aU→w3.heap[j]?=w.heap[j]?):=fun j hj h1 h2=>(hw.block j (fun ad e=>h2 ad e)).trans (HN2.out j hj h1)
 have x3:w3.cell? ⟨w.heap.size,3,none⟩=some (.slice aT nT cT):=by rw[cell_of_row w3 w.heap.size 3 _ _ _ HM3.out.box];rfl
 clear hA hw HM2 HO2 HA2 x1
 go_wp2_with fail
 refine(markT_any aT nT cT (k+nD+nU) _ HO3.out (by omega) (by omega)).mono ?_
 rintro e w4 ⟨rfl,hA,hw⟩
 have HM4:Hid (Below lo w w4):=(HM3.out.wro HL.out.2.2 hw).below
 have HN4:Hid (∀ j,j<w.heap.size→NotIn j aD→NotIn j aU→NotIn j aT→w4.heap[j]?=w.heap[j]?):=fun j hj h1 h2 h3=>(hw.block j (fun ad e=>h3 ad e)).trans (HN3.out j hj h1 h2)
 have HA4:Hid (At .i64 w4 aD (mks k nD)∧At .i64 w4 aU (mks (k+nD) nU)∧At .i64 w4 aT (mks (k+nD+nU) (nT*2))):=⟨HA3.out.1.keepT (by rw[hw.size];exact Nat.le_refl _) (hw.kept (fun x y hx hy=>(HP.out.2.1 y x hy hx).symm)),HA3.out.2.keepT (by rw[hw.size];exact Nat.le_refl _) (hw.kept (fun x y hx hy=>(HP.out.2.2 y x hy hx).symm)),hA⟩
 clear hA hw HM3 HO3 HA3 x3
 go_wp2
 go_ret
 exact⟨rfl,HA4.out.1,HA4.out.2.1,HA4.out.2.2,HM4.out,HN4.out⟩
set_option maxRecDepth 100000 in
set_option maxHeartbeats 1000000 in
theorem heldS_any (aD aU aT:Option Addr) (nD cD nU cU nT cT:Nat) (k0 k:Int) (w:World)
  (hD:At .i64 w aD (mks k nD)) (hU:At .i64 w aU (mks (k+nD) nU)) (hT:At .i64 w aT (mks (k+nD+nU) (nT*2))) (hk:0≤k) (hk':k+nD+nU+nT*2≤1099511627776) :
  Calls Tryz.prog 51 #[.agg #[.slice aD nD cD,.slice aU nU cU,.int .i64 k0,.slice aT nT cT],.int .i64 k] w fun e w'=>e=.returned (.int .i64 (k+nD+nU+nT*2))∧Below w.heap.size w w':=by
 have b1:Below w.heap.size w (w.alloc (.cells #[.slice aD nD cD,.slice aU nU cU,.int .i64 k0,.slice aT nT cT] 34)):=(Below.refl _ _).alloc (Nat.le_refl _) _
 have HB:Hid (Below w.heap.size w (w.alloc (.cells #[.slice aD nD cD,.slice aU nU cU,.int .i64 k0,.slice aT nT cT] 34))):=b1
 have HA:Hid (At .i64 (w.alloc (.cells #[.slice aD nD cD,.slice aU nU cU,.int .i64 k0,.slice aT nT cT] 34)) aD (mks k nD)∧At .i64 (w.alloc (.cells #[.slice aD nD cD,.slice aU nU cU,.int .i64 k0,.slice aT nT cT] 34)) aU (mks (k+nD) nU)∧At .i64 (w.alloc (.cells #[.slice aD nD cD,.slice aU nU cU,.int .i64 k0,.slice aT nT cT] 34)) aT (mks (k+nD+nU) (nT*2))):=⟨hD.below b1,hU.below b1,hT.below b1⟩
 have g1:¬ (k+(nD:Int)<0):=by omega
 have g2:¬ (k+(nD:Int)+nU<0):=by omega
 have g3:¬ (k+(nD:Int)+nU+nT*2<0):=by omega
 clear hD hU hT b1
 go_enter Tryz.func51,Tryz.ntmps51
 go_wp2_with fail
 refine(heldI_any aD nD cD k _ HA.out.1 hk (by omega)).mono ?_
 rintro e w2 ⟨rfl,rfl⟩
 go_wp2_with fail
 refine(heldI_any aU nU cU (k+nD) _ HA.out.2.1 (by omega) (by omega)).mono ?_
 rintro e w3 ⟨rfl,rfl⟩
 go_wp2_with fail
 refine(heldT_any aT nT cT (k+nD+nU) _ HA.out.2.2 (by omega) (by omega)).mono ?_
 rintro e w4 ⟨rfl,rfl⟩
 go_wp2
 go_ret
 exact⟨rfl,HB.out⟩
theorem apR_no {D U:List Int} {k:Int} {T:List Int} {n:Nat} {kind:Int} {a b:Nat} (h:(apR D U k T n kind a b).ok=false):apR D U k T n kind a b=apNo:=by
 unfold apR at h ⊢
 split
 ·split
  ·rename_i h1 h2;rw[if_pos h1,if_pos h2] at h;cases h
  ·rfl
 ·split
  ·rename_i h1 h2
   rw[if_neg h1,if_pos h2] at h;split
   ·rename_i h3;rw[if_pos h3] at h;cases h
   ·rename_i h3
    rw[if_neg h3] at h;split
    ·rename_i h4;rw[if_pos h4] at h;cases h
    ·rfl
  ·rename_i h1 h2
   rw[if_neg h1,if_neg h2] at h;split
   ·rename_i h3
    rw[if_pos h3] at h;split
    ·rename_i h4;rw[if_pos h4] at h;cases h
    ·rfl
   ·rfl
theorem withS_ser (xs:List Int) (a:Nat):SerP (withS xs a):=upTo_ser _
theorem apR_ser {D U:List Int} {k:Int} {T:List Int} {n:Nat} {kind:Int} {a b:Nat} (hD:SerP D) (hU:SerP U):SerP (apR D U k T n kind a b).D∧SerP (apR D U k T n kind a b).U:=by
 have hn:SerP ([]:List Int):=fun i hi=>by simp at hi
 unfold apR
 split
 ·split
  ·exact⟨hD,withS_ser _ _⟩
  ·exact⟨hn,hn⟩
 ·split
  ·split
   ·exact⟨withS_ser _ _,hU⟩
   ·split
    ·exact⟨without_ser hD _,hU⟩
    ·exact⟨hn,hn⟩
  ·split
   ·split
    ·exact⟨hD,hU⟩
    ·exact⟨hn,hn⟩
   ·exact⟨hn,hn⟩
open Classical in
noncomputable def apF (D U:List Int) (k:Int) (T:List Int) (n:Nat) (kind:Int) (a b:Nat):ApR:=if stB D U k T n=true then apR D U k T n kind a b else apNo
theorem stP_of {D U:List Int} {k:Int} {T:List Int} {n:Nat} (h:stB D U k T n=true):StP D U k T n:=by
 unfold stB at h;simpa using h
theorem Iow.sat {B:Nat} {w:World} {a:Option Addr} {n c:Nat} {xs:List Int} (h:Iow B w (.slice a n c) xs):SAt w a xs∧xs.length=n∧Lies B w a:=by
 rcases h.2 with⟨h',h0⟩|⟨g,cap,cur,h',hb,hh,hc,hm,hs,ht⟩
 ·cases h';have:xs=[]:=List.eq_nil_of_length_eq_zero h0;exact⟨.inl this,h0,fun _ e=>(by cases e)⟩
 ·cases h';have hlt:=(Array.getElem?_eq_some_iff.1 hh).1;refine⟨.inr ⟨g,0,rfl,hlt,fun i hi=>?_⟩,rfl,fun ad e=>(by cases e;exact⟨hb,hlt⟩)⟩;rw[Nat.zero_add];refine⟨?_,frozen_of_row _ _ _ _ _ hh⟩;have:=World.ownsRow.cellAt h i (by omega);rw[this];simp[hi]
theorem TapV.sat {B:Nat} {w:World} {a:Option Addr} {n c:Nat} {T:List Int} (h:TapV B w (.slice a n c) T n):SAt w a T∧T.length=n*2∧Lies B w a:=by
 obtain⟨hl,⟨h1,h2⟩|⟨t,o,c',h1,hB,ht,hc,hm,hx⟩⟩:=h
 ·cases h1;exact⟨.inl (List.eq_nil_of_length_eq_zero (by omega)),hl,fun _ e=>(by cases e)⟩
 ·cases h1;exact⟨.inr ⟨t,o,rfl,ht,fun i hi=>hx.1 i (by omega)⟩,hl,fun ad e=>(by cases e;exact⟨hB,ht⟩)⟩
structure IX (w:World) (fr:Array Value) (wr:World):Prop where
 below:Below w.heap.size w wr
 fb:wr.heap[w.heap.size+1]?=some (.cells fr 112 (0,0))
 rb:wr.heap[w.heap.size+2]?=some (.cells #[.bool false,.slice none 0 0,.slice none 0 0,.int .i64 0,.slice none 0 0] 68 (0,0))
theorem IX.start (w:World) (sc fr:Array Value):IX w fr (((w.alloc (.cells sc 34)).alloc (.cells fr 112)).alloc (.cells #[.bool false,.slice none 0 0,.slice none 0 0,.int .i64 0,.slice none 0 0] 68)):=by
 refine⟨(((Below.refl _ _).alloc (Nat.le_refl _) _).alloc (by simp) _).alloc (by simp;omega) _,?_,?_⟩
 ·rw[Below.heap_alloc _ _ (w.heap.size+1) (by simp)];have:=heap_alloc_new (w.alloc (.cells sc 34)) (.cells fr 112)
  rwa [show(w.alloc (.cells sc 34)).heap.size=w.heap.size+1 by simp] at this
 ·have:=heap_alloc_new ((w.alloc (.cells sc 34)).alloc (.cells fr 112)) (.cells #[.bool false,.slice none 0 0,.slice none 0 0,.int .i64 0,.slice none 0 0] 68)
  rwa [show((w.alloc (.cells sc 34)).alloc (.cells fr 112)).heap.size=w.heap.size+2 by simp] at this
set_option maxRecDepth 100000 in
set_option maxHeartbeats 2000000 in
theorem ivs_any (aD aU aT:Option Addr) (nD cD nU cU nT cT:Nat) (D U:List Int) (k:Int) (T:List Int) (w:World) (hD:D.length=nD) (hU:U.length=nU) (hT:T.length=nT*2) (mD:nD≤1048576) (mU:nU≤1048576) (mT:nT≤1048576)
  (haD:At .i64 w aD D) (haU:At .i64 w aU U) (haT:At .i64 w aT T) (hnil:aT=none→nT=0∧cT=0) (hk0:-9223372036854775808≤k) (hk1:k<9223372036854775808) :
  Calls Tryz.prog 156 #[.agg #[.slice aD nD cD,.slice aU nU cU,.int .i64 k,.slice aT nT cT]] w fun e w'=>e=.returned (.bool (stB D U k T nT))∧Below w.heap.size w w':=by
 have b0:Below w.heap.size w (w.alloc (.cells #[.slice aD nD cD,.slice aU nU cU,.int .i64 k,.slice aT nT cT] 34)):=(Below.refl _ _).alloc (Nat.le_refl _) _
 have HC:=openBook_any aD aU aT nD cD nU cU nT cT D U k T _ hD hU hT mD mU mT (haD.below b0) (haU.below b0) (haT.below b0) hnil hk0 hk1
 have HB0:Hid (Below w.heap.size w (w.alloc (.cells #[.slice aD nD cD,.slice aU nU cU,.int .i64 k,.slice aT nT cT] 34))):=b0
 clear haD haU haT hnil hk0 hk1 hD hU hT b0
 go_enter Tryz.func156,Tryz.ntmps156
 go_wp2_with fail
 refine HC.mono ?_
 rintro e w1 ⟨bk,rfl,hs,ho,hb,_⟩
 have HB1:Hid (Below w.heap.size w w1):=HB0.out.trans (hb.mono HB0.out.size)
 have HN:Hid ((w1.alloc (.cells Tryz.zeroCells77 77)).heap[w1.heap.size]?=some (.cells Tryz.zeroCells77 77 (0,0))):=heap_alloc_new w1 _
 have HSZ:Hid ((Tryz.prog.info? 77).map (·.size)=some bk.size):=by show _=_;rw[hs];exact Tryz.sizeBook
 have HEQ:Hid ((Tryz.zeroCells77).size=bk.size):=by show _=_;rw[hs];exact zc_size
 have HOK:Hid (bk.all (fun x=>x.oneCell')=true):=ho
 have HB2:Hid (∀ cs,Below w.heap.size w ((w1.alloc (.cells Tryz.zeroCells77 77)).setRow w1.heap.size cs)):=fun cs=>HB1.out.trans ((((Below.refl _ _).alloc (Nat.le_refl _) _).trans ((Wr.setRow _ _ _).below (Nat.le_refl _))).mono HB1.out.size)
 clear hs ho hb HC HB0
 generalize hq:stB D U k T nT=q at *
 have HQ:Hid (stB D U k T nT=q):=hq
 clear hq
 go_wp2_with (first
  |(refine wpList_store_row rfl 77 (.tmp 3) (.tmp 8) rfl w1.heap.size bk rfl rfl 77 _ HN.out HSZ.out HEQ.out HOK.out ?_)
  |fail)
 go_ret
 exact⟨by rw[HQ.out];rfl,HB2.out _⟩
end Go.Proofs.YthmeoilbmfdhfaaGreat
