import Derived.Test.YtilpkdnoaldfmaaGreatDoorMSwA
import Derived.Test.YtilpkdnoaldfmaaGreatDoorMRegU
import Derived.Deep.Cut
import Derived.Test.YtilpkdnoaldfmaaGreatDoorMRows8
import Derived.Test.YtilpkdnoaldfmaaGreatDoorMSnB
import Derived.Test.YtilpkdnoaldfmaaGreatDoorMArgDev
import Derived.Test.YtilpkdnoaldfmaaGreatDoorMMkB
import Derived.Test.YtilpkdnoaldfmaaGreatDoorMCnC
namespace Go.Proofs.YtilpkdnoaldfmaaGreatDoor
open Go.ChangeShapes Go.WideShapes Go.ChangeAt Go.RowKit
set_option linter.unusedVariables false
def SAt (w:World) (a:Option Addr) (zs:List Int):Prop:=
 zs=[]∨∃ b off,a=some ⟨b,off,none⟩∧b<w.heap.size∧∀ i,i<zs.length→w.cell? ⟨b,off+i,none⟩=some (.int .i64 (zs.getD i 0))∧w.frozen? ⟨b,off+i,none⟩=false
theorem SAt.at_ {w:World} {a:Option Addr} {zs:List Int} (h:SAt w a zs):At .i64 w a zs:=by
 rcases h with h|⟨b,off,e,hl,hc⟩
 ·exact .inl h
 ·exact .inr ⟨b,off,e,hl,fun i hi=>(hc i hi).1⟩
theorem SAt.open_ {w:World} {a:Option Addr} {zs:List Int} (h:SAt w a zs) {n:Nat} (hn:zs.length=n):Open w a n:=by
 rcases h with h|⟨b,off,e,hl,hc⟩
 ·subst h;exact .inl (by simpa using hn.symm)
 ·exact .inr ⟨b,off,e,hl,fun i hi=>⟨by rw[(hc i (by omega)).1];rfl,(hc i (by omega)).2⟩⟩
def Lies (lo:Nat) (w:World) (a:Option Addr):Prop:=∀ ad,a=some ad→lo≤ad.block∧ad.block<w.heap.size
def Aprt (a b:Option Addr):Prop:=∀ x y,a=some x→b=some y→x.block≠y.block
theorem Lies.mono {lo lo':Nat} {w w':World} {a:Option Addr} (h:Lies lo w a) (hl:lo'≤lo) (hs:w.heap.size≤w'.heap.size):Lies lo' w' a:=fun ad e=>by have:=h ad e;omega
theorem SAt.keep {w w':World} {a:Option Addr} {zs:List Int} (h:SAt w a zs) (hs:w.heap.size≤w'.heap.size) (hb:∀ ad,a=some ad→ad.block<w.heap.size→w'.heap[ad.block]?=w.heap[ad.block]?):SAt w' a zs:=by
 rcases h with h|⟨b,off,e,hl,hc⟩
 ·exact .inl h
 ·have hk:=hb _ e hl;refine .inr ⟨b,off,e,by omega,fun i hi=>?_⟩;rw[World.cell?_of_block (a:=⟨b,off+i,none⟩) (w:=w) hk,World.frozen?_of_block (a:=⟨b,off+i,none⟩) (w:=w) hk];exact hc i hi
theorem At.keepT {w w':World} {a:Option Addr} {zs:List Int} (h:At .i64 w a zs) (hs:w.heap.size≤w'.heap.size) (hb:∀ ad,a=some ad→ad.block<w.heap.size→w'.heap[ad.block]?=w.heap[ad.block]?):At .i64 w' a zs:=by
 rcases h with h|⟨b,off,e,hl,hc⟩
 ·exact .inl h
 ·have hk:=hb _ e hl;refine .inr ⟨b,off,e,by omega,fun i hi=>?_⟩;rw[World.cell?_of_block (a:=⟨b,off+i,none⟩) (w:=w) hk];exact hc i hi
theorem Open.keepT {w w':World} {a:Option Addr} {n:Nat} (h:Open w a n) (hs:w.heap.size≤w'.heap.size) (hb:∀ ad,a=some ad→ad.block<w.heap.size→w'.heap[ad.block]?=w.heap[ad.block]?):Open w' a n:=by
 rcases h with h|⟨b,off,e,hl,hc⟩
 ·exact .inl h
 ·have hk:=hb _ e hl;refine .inr ⟨b,off,e,by omega,fun i hi=>?_⟩;rw[World.cell?_of_block (a:=⟨b,off+i,none⟩) (w:=w) hk,World.frozen?_of_block (a:=⟨b,off+i,none⟩) (w:=w) hk];exact hc i hi
theorem SAt.below {w w':World} {a:Option Addr} {zs:List Int} (h:SAt w a zs) (b:Below w.heap.size w w'):SAt w' a zs:=h.keep b.size (fun ad _ hl=>b.block _ hl)
structure S3 (lo:Nat) (w:World) (aD aU aT:Option Addr) (nD nU nT:Nat) (D U T:List Int):Prop where
 d:SAt w aD D
 u:SAt w aU U
 t:SAt w aT T
 nd:D.length=nD
 nu:U.length=nU
 nt:T.length=nT*2
 ld:Lies lo w aD
 lu:Lies lo w aU
 lt:Lies lo w aT
 du:Aprt aD aU
 dt:Aprt aD aT
 ut:Aprt aU aT
theorem S3.keep {lo:Nat} {w w':World} {aD aU aT:Option Addr} {nD nU nT:Nat} {D U T:List Int} (h:S3 lo w aD aU aT nD nU nT D U T) (hs:w.heap.size≤w'.heap.size) (hb:∀ k,lo≤k→k<w.heap.size→w'.heap[k]?=w.heap[k]?):S3 lo w' aD aU aT nD nU nT D U T:=
 ⟨h.d.keep hs (fun ad e hl=>hb _ (h.ld ad e).1 hl),h.u.keep hs (fun ad e hl=>hb _ (h.lu ad e).1 hl),h.t.keep hs (fun ad e hl=>hb _ (h.lt ad e).1 hl),h.nd,h.nu,h.nt,h.ld.mono (Nat.le_refl _) hs,h.lu.mono (Nat.le_refl _) hs,h.lt.mono (Nat.le_refl _) hs,h.du,h.dt,h.ut⟩
theorem S3.below {lo:Nat} {w w':World} {aD aU aT:Option Addr} {nD nU nT:Nat} {D U T:List Int} (h:S3 lo w aD aU aT nD nU nT D U T) (b:Below w.heap.size w w'):S3 lo w' aD aU aT nD nU nT D U T:=h.keep b.size (fun k _ hk=>b.block k hk)
def NotIn (k:Nat) (a:Option Addr):Prop:=∀ ad,a=some ad→k≠ad.block
theorem apR_no {D U:List Int} {k:Int} {T:List Int} {n:Nat} {kind:Int} {a b:Nat} (h:(apR D U k T n kind a b).ok=false):apR D U k T n kind a b=apNo:=by
 unfold apR at h ⊢;split
 ·split
  ·rename_i h1 h2;rw[if_pos h1,if_pos h2] at h;cases h
  ·rfl
 ·split
  ·rename_i h1 h2
   rw[if_neg h1,if_pos h2] at h;split
   ·rename_i h3;rw[if_pos h3] at h;cases h
   ·rename_i h3
    rw[if_neg h3] at h;split
    ·rename_i h4;rw[if_pos h4] at h;cases h
    ·rfl
  ·rename_i h1 h2
   rw[if_neg h1,if_neg h2] at h;split
   ·rename_i h3
    rw[if_pos h3] at h;split
    ·rename_i h4;rw[if_pos h4] at h;cases h
    ·rfl
   ·rfl
theorem withS_ser (xs:List Int) (a:Nat):SerP (withS xs a):=upTo_ser _
theorem apR_ser {D U:List Int} {k:Int} {T:List Int} {n:Nat} {kind:Int} {a b:Nat} (hD:SerP D) (hU:SerP U):SerP (apR D U k T n kind a b).D∧SerP (apR D U k T n kind a b).U:=by
 have hn:SerP ([]:List Int):=fun i hi=>by simp at hi
 unfold apR;split
 ·split
  ·exact⟨hD,withS_ser _ _⟩
  ·exact⟨hn,hn⟩
 ·split
  ·split
   ·exact⟨withS_ser _ _,hU⟩
   ·split
    ·exact⟨without_ser hD _,hU⟩
    ·exact⟨hn,hn⟩
  ·split
   ·split
    ·exact⟨hD,hU⟩
    ·exact⟨hn,hn⟩
   ·exact⟨hn,hn⟩
theorem stP_of {D U:List Int} {k:Int} {T:List Int} {n:Nat} (h:stB D U k T n=true):StP D U k T n:=by
 unfold stB at h;simpa using h
theorem Iow.sat {B:Nat} {w:World} {a:Option Addr} {n c:Nat} {xs:List Int} (h:Iow B w (.slice a n c) xs):SAt w a xs∧xs.length=n∧Lies B w a:=by
 rcases h.2 with⟨h',h0⟩|⟨g,cap,cur,h',hb,hh,hc,hm,hs,ht⟩
 ·cases h';have:xs=[]:=List.eq_nil_of_length_eq_zero h0;exact⟨.inl this,h0,fun _ e=>(by cases e)⟩
 ·cases h';have hlt:=(Array.getElem?_eq_some_iff.1 hh).1;refine⟨.inr ⟨g,0,rfl,hlt,fun i hi=>?_⟩,rfl,fun ad e=>(by cases e;exact⟨hb,hlt⟩)⟩;rw[Nat.zero_add];refine⟨?_,frozen_of_row _ _ _ _ _ hh⟩;have:=World.ownsRow.cellAt h i (by omega);rw[this];simp[hi]
theorem TapV.sat {B:Nat} {w:World} {a:Option Addr} {n c:Nat} {T:List Int} (h:TapV B w (.slice a n c) T n):SAt w a T∧T.length=n*2∧Lies B w a:=by
 obtain⟨hl,⟨h1,h2⟩|⟨t,o,c',h1,hB,ht,hc,hm,hx⟩⟩:=h
 ·cases h1;exact⟨.inl (List.eq_nil_of_length_eq_zero (by omega)),hl,fun _ e=>(by cases e)⟩
 ·cases h1;exact⟨.inr ⟨t,o,rfl,ht,fun i hi=>hx.1 i (by omega)⟩,hl,fun ad e=>(by cases e;exact⟨hB,ht⟩)⟩
def dkA (i:Nat):Nat:=if i<8 then 44+2*i else 56+2*i
def dkS (zs:List Int) (i:Nat):Int:=zs.getD (dkA i) 0+256*zs.getD (dkA i+1) 0
def dkD (zs:List Int) (k:Nat):List Int:=(List.range k).map (dkS zs)
theorem dkD_succ (zs:List Int) (k:Nat):dkD zs (k+1)=dkD zs k++[dkS zs k]:=by unfold dkD;rw[List.range_succ,List.map_append];rfl
theorem dkD_len (zs:List Int) (k:Nat):(dkD zs k).length=k:=by simp[dkD]
theorem dkA_lt {i:Nat} (h:i<16):dkA i+1<128:=by unfold dkA;split<;>omega
def dkP (zs:List Int) (v:Nat):Bool:=decide (zs.getD (12+v/8) 0/2^(v%8)%2=1)
def dkN (zs:List Int):Nat:=(zs.getD 6 0).toNat
def dkU (zs:List Int):List Int:=upTo (dkP zs) 256
def dkM (zs:List Int):List Int:=(zs.drop 12).take 32
theorem dkM_len {zs:List Int} (h:zs.length=128):(dkM zs).length=32:=by simp[dkM];omega
theorem dkM_get {zs:List Int} (h:zs.length=128) (i:Nat) (hi:i<32):(dkM zs).getD i 0=zs.getD (12+i) 0:=by
 unfold dkM;rw[List.getD_eq_getElem?_getD,List.getElem?_take_of_lt hi,List.getElem?_drop,←List.getD_eq_getElem?_getD]
theorem dkM_byte {zs:List Int} (hz:Byte zs):Byte (dkM zs):=fun z h=>hz z (List.mem_of_mem_drop (List.mem_of_mem_take h))
theorem dkM_set {zs:List Int} (h:zs.length=128) (hz:Byte zs):SetB (dkM zs) (fun v=>dkP zs v=true):=by
 refine⟨dkM_len h,dkM_byte hz,fun v hv=>?_⟩;rw[dkM_get h (v/8) (by omega)];unfold dkP;simp
structure DkR where
 ok:Bool
 g:Int
 t:Int
 D:List Int
 U:List Int
def dkNo:DkR:=⟨false,0,0,[],[]⟩
noncomputable def dkE (zs:List Int):List Int:=snE (num4 zs 0) (num4 zs 8) (dkD zs (dkN zs)) (dkU zs)
def dkYes (zs:List Int):DkR:=⟨true,num4 zs 0,num4 zs 8,dkD zs (dkN zs),dkU zs⟩
open Classical in
noncomputable def dkF (zs:List Int):DkR:=if zs.length=128∧zs.getD 6 0≤16∧dkE zs=zs then dkYes zs else dkNo
theorem dkF_yes {zs:List Int} (h1:zs.length=128) (h2:zs.getD 6 0≤16) (h3:dkE zs=zs):dkF zs=dkYes zs:=by unfold dkF;rw[if_pos ⟨h1,h2,h3⟩]
theorem dkF_cnt {zs:List Int} (h:¬ zs.getD 6 0≤16):dkF zs=dkNo:=by unfold dkF;rw[if_neg (fun q=>h q.2.1)]
theorem dkF_no {zs:List Int} (h:dkE zs≠zs):dkF zs=dkNo:=by unfold dkF;rw[if_neg (fun q=>h q.2.2)]
theorem num4_u3n (zs:List Int) (h:Byte zs) (p:Nat):U32 (num4 zs p):=by
 have h0:=h.get p;have h1:=h.get (p+1);have h2:=h.get (p+2);have h3:=h.get (p+3);unfold num4 U32;omega
def DVA (lo:Nat) (w:World) (v:Value) (r:DkR):Prop:=
 ∃ aD nD cD aU nU cU,v=.agg #[.bool r.ok,.int .u32 r.g,.int .u32 r.t,.slice aD nD cD,.slice aU nU cU]∧S3 lo w aD aU none nD nU 0 r.D r.U []
def snZ:Array Value:=#[.bool false,.int .u32 0,.int .u32 0,.slice none 0 0,.slice none 0 0]
theorem DVA.no (lo:Nat) (w:World):DVA lo w (.agg snZ) dkNo:=
 ⟨none,0,0,none,0,0,rfl,.inl rfl,.inl rfl,.inl rfl,rfl,rfl,rfl,fun _ h=>(by cases h),fun _ h=>(by cases h),fun _ h=>(by cases h),fun _ _ h=>(by cases h),fun _ _ h=>(by cases h),fun _ _ h=>(by cases h)⟩
theorem S3.of_io {lo:Nat} {w:World} {aD aU:Option Addr} {nD cD nU cU:Nat} {D U:List Int} (h1:Iow lo w (.slice aD nD cD) D) (h2:Iow lo w (.slice aU nU cU) U) (h3:Aprt aD aU):S3 lo w aD aU none nD nU 0 D U []:=by
 obtain⟨s1,n1,l1⟩:=h1.sat;obtain⟨s2,n2,l2⟩:=h2.sat;exact⟨s1,s2,.inl rfl,n1,n2,rfl,l1,l2,fun _ h=>(by cases h),h3,fun _ _ _ h=>(by cases h),fun _ _ _ h=>(by cases h)⟩
theorem Iow.ne {lo G:Nat} {w:World} {a:Option Addr} {n c:Nat} {xs:List Int} {cs:Array Value} {T:TypeId} {fr:Nat×Nat} (h:Iow lo w (.slice a n c) xs) (hG:w.heap[G]?=some (.cells cs T fr)) (hT:T≠2):∀ ad,a=some ad→ad.block≠G:=by
 rintro ad rfl e;rcases h.2 with⟨h',_⟩|⟨g,cap,cur,h',hb,hh,_⟩
 ·cases h'
 ·cases h';subst e;rw[hG] at hh;simp at hh;exact hT hh.2.1
theorem Iow.keepN {lo G:Nat} {w w':World} {v:Value} {xs:List Int} {cs:Array Value} {T:TypeId} {fr:Nat×Nat} (h:Iow lo w v xs) (hG:w.heap[G]?=some (.cells cs T fr)) (hT:T≠2) (hw:Wr G w w'):Iow lo w' v xs:=by
 obtain⟨a,n,c,rfl⟩:=h.form;refine⟨h.1,?_⟩;have hne:=h.ne hG hT;rcases h.2 with h'|⟨g,cap,cur,h1,h2,h3,h4⟩
 ·exact .inl h'
 ·refine .inr ⟨g,cap,cur,h1,h2,?_,h4⟩;cases h1;rw[hw.block g (hne _ rfl)];exact h3
end Go.Proofs.YtilpkdnoaldfmaaGreatDoor
namespace Go.Proofs.YtilpkdnoaldfmaaGreatDoor
set_option linter.unusedVariables false
theorem getD_skip (A L:List Int) (p:Nat) (h:A.length≤p):(A++L).getD p 0=L.getD (p-A.length) 0:=by
 rw[List.getD_eq_getElem?_getD,List.getElem?_append_right h,←List.getD_eq_getElem?_getD]
theorem getD_in (A L:List Int) (p:Nat) (h:p<A.length):(A++L).getD p 0=A.getD p 0:=by
 rw[List.getD_eq_getElem?_getD,List.getElem?_append_left h,←List.getD_eq_getElem?_getD]
section
variable {a m c t b d e a' m' c' d' y s e':List Int}
theorem SegL.gA (h:SegL a m c t b d e a' m' c' d' y s e') (j:Nat) (hj:j<4):(seg a m c t b d e a' m' c' d' y s e').getD (0+j) 0=a.getD j 0:=by
 obtain⟨h0,h1,h2,h3,h4,h5,h6,h7,h8,h9,h10,h11,h12,h13⟩:=h;unfold seg;rw[getD_in _ _ _ (by omega)]
 congr 1
 omega
theorem SegL.gC (h:SegL a m c t b d e a' m' c' d' y s e') (j:Nat) (hj:j<2):(seg a m c t b d e a' m' c' d' y s e').getD (6+j) 0=c.getD j 0:=by
 obtain⟨h0,h1,h2,h3,h4,h5,h6,h7,h8,h9,h10,h11,h12,h13⟩:=h;unfold seg;rw[getD_skip _ _ _ (by omega),getD_skip _ _ _ (by omega),getD_in _ _ _ (by omega)]
 congr 1
 omega
theorem SegL.gT (h:SegL a m c t b d e a' m' c' d' y s e') (j:Nat) (hj:j<4):(seg a m c t b d e a' m' c' d' y s e').getD (8+j) 0=t.getD j 0:=by
 obtain⟨h0,h1,h2,h3,h4,h5,h6,h7,h8,h9,h10,h11,h12,h13⟩:=h;unfold seg;rw[getD_skip _ _ _ (by omega),getD_skip _ _ _ (by omega),getD_skip _ _ _ (by omega),getD_in _ _ _ (by omega)]
 congr 1
 omega
theorem SegL.gB (h:SegL a m c t b d e a' m' c' d' y s e') (j:Nat) (hj:j<32):(seg a m c t b d e a' m' c' d' y s e').getD (12+j) 0=b.getD j 0:=by
 obtain⟨h0,h1,h2,h3,h4,h5,h6,h7,h8,h9,h10,h11,h12,h13⟩:=h;unfold seg;rw[getD_skip _ _ _ (by omega),getD_skip _ _ _ (by omega),getD_skip _ _ _ (by omega),getD_skip _ _ _ (by omega),getD_in _ _ _ (by omega)]
 congr 1
 omega
theorem SegL.gD (h:SegL a m c t b d e a' m' c' d' y s e') (j:Nat) (hj:j<16):(seg a m c t b d e a' m' c' d' y s e').getD (44+j) 0=d.getD j 0:=by
 obtain⟨h0,h1,h2,h3,h4,h5,h6,h7,h8,h9,h10,h11,h12,h13⟩:=h;unfold seg;rw[getD_skip _ _ _ (by omega),getD_skip _ _ _ (by omega),getD_skip _ _ _ (by omega),getD_skip _ _ _ (by omega),getD_skip _ _ _ (by omega),getD_in _ _ _ (by omega)]
 congr 1
 omega
theorem SegL.gE (h:SegL a m c t b d e a' m' c' d' y s e') (j:Nat) (hj:j<16):(seg a m c t b d e a' m' c' d' y s e').getD (72+j) 0=d'.getD j 0:=by
 obtain⟨h0,h1,h2,h3,h4,h5,h6,h7,h8,h9,h10,h11,h12,h13⟩:=h;unfold seg;rw[getD_skip _ _ _ (by omega),getD_skip _ _ _ (by omega),getD_skip _ _ _ (by omega),getD_skip _ _ _ (by omega),getD_skip _ _ _ (by omega),getD_skip _ _ _ (by omega),getD_skip _ _ _ (by omega),getD_skip _ _ _ (by omega),getD_skip _ _ _ (by omega),getD_skip _ _ _ (by omega),getD_in _ _ _ (by omega)]
 congr 1
 omega
end
theorem four_num (v:Int) (h:U32 v):(four v).getD 0 0+256*(four v).getD 1 0+65536*(four v).getD 2 0+16777216*(four v).getD 3 0=v:=by
 obtain⟨h0,h1⟩:=h;show v%256+256*(v/256%256)+65536*(v/65536%256)+16777216*(v/16777216)=v
 omega
theorem flat2 (xs:List (Int×Int)) (i:Nat) (hi:i<xs.length):((xs.map (fun p=>[p.1,p.2])).flatten).getD (2*i) 0=(xs.getD i (0,0)).1∧((xs.map (fun p=>[p.1,p.2])).flatten).getD (2*i+1) 0=(xs.getD i (0,0)).2:=by
 induction xs generalizing i with
 |nil=>simp at hi
 |cons x xs ih=>
  cases i with
  |zero=>exact⟨rfl,rfl⟩
  |succ i=>
   have:=ih i (by simpa using hi);simp only[List.map_cons,List.flatten_cons];rw[getD_skip _ _ (2*(i+1)) (by simp;omega),getD_skip _ _ (2*(i+1)+1) (by simp;omega)];rw[show 2*(i+1) - [x.1,x.2].length=2*i by simp;omega,show 2*(i+1)+1 - [x.1,x.2].length=2*i+1 by simp;omega];simpa using this
theorem denL_get (D:List Int) (f k j:Nat) (hj:j<k) (h:f+j<D.length):(denL D f k).getD (2*j) 0=D.getD (f+j) 0∧(denL D f k).getD (2*j+1) 0=0:=by
 have e:denL D f k=(((List.range k).map (fun j=>(if f+j<D.length then D.getD (f+j) 0 else 0,(0:Int)))).map (fun p=>[p.1,p.2])).flatten:=by
  unfold denL;rw[List.map_map]
  congr 1
  apply List.map_congr_left;intro i _;unfold den2;simp only[Function.comp];split<;>rfl
 have h2:=flat2 ((List.range k).map (fun j=>(if f+j<D.length then D.getD (f+j) 0 else 0,(0:Int)))) j (by simp;exact hj);rw[e,h2.1,h2.2];simp[hj,h]
theorem dk_code {gn tl:Int} {D U:List Int} (hs:SnP gn tl D U) (ug:U32 gn) (ut:U32 tl):dkF (snL gn tl D U)=⟨true,gn,tl,D,U⟩:=by
 obtain⟨s,hsg⟩:∃ s,snL gn tl D U=seg (four gn) [83,49] [(D.length:Int),0] (four tl) (bitsL U 32) (denL D 0 8) (four gn) (four gn) [83,50] [0,0] (denL D 8 8) (List.replicate 32 0) (four s) (four gn):=⟨_,(seg_end gn tl D U [0,0,0,0]).symm⟩
 have hL:SegL (four gn) [83,49] [(D.length:Int),0] (four tl) (bitsL U 32) (denL D 0 8) (four gn) (four gn) [83,50] [0,0] (denL D 8 8) (List.replicate 32 0) (four s) (four gn):=by constructor<;>simp[four,bitsL_len,denL_len]
 obtain⟨zs,hzs⟩:∃ zs,snL gn tl D U=zs:=⟨_,rfl⟩
 rw[hzs];have hl:zs.length=128:=by rw[←hzs,hsg];exact hL.len
 have gA:=fun j hj=>hsg ▸ hL.gA j hj
 have gC:=fun j hj=>hsg ▸ hL.gC j hj
 have gT:=fun j hj=>hsg ▸ hL.gT j hj
 have gB:=fun j hj=>hsg ▸ hL.gB j hj
 have gD:=fun j hj=>hsg ▸ hL.gD j hj
 have gE:=fun j hj=>hsg ▸ hL.gE j hj
 rw[hzs] at gA gC gT gB gD gE;have n0:num4 zs 0=gn:=by
  have:=four_num gn ug;unfold num4;rw[←gA 0 (by decide),←gA 1 (by decide),←gA 2 (by decide),←gA 3 (by decide)] at this;exact this
 have n8:num4 zs 8=tl:=by
  have:=four_num tl ut;unfold num4;rw[←gT 0 (by decide),←gT 1 (by decide),←gT 2 (by decide),←gT 3 (by decide)] at this;exact this
 have n6:zs.getD 6 0=D.length:=gC 0 (by decide);have hD16:=hs.2.2.2.2.1;have hn:dkN zs=D.length:=by unfold dkN;rw[n6];omega
 have hD:dkD zs (dkN zs)=D:=by
  rw[hn];apply List.ext_getElem
  ·exact dkD_len _ _
  ·intro i h1 h2;simp only[dkD,List.getElem_map,List.getElem_range];unfold dkS dkA;by_cases h8:i<8
   ·have hg:=denL_get D 0 8 i h8 (by omega);rw[if_pos h8,gD (2*i) (by omega),Nat.add_assoc,gD (2*i+1) (by omega),hg.1,hg.2,Nat.zero_add];simp[List.getD,h2]
   ·have hg:=denL_get D 8 8 (i-8) (by omega) (by omega);rw[if_neg h8,show 56+2*i=72+2*(i-8) by omega,gE (2*(i-8)) (by omega),Nat.add_assoc,gE (2*(i-8)+1) (by omega),hg.1,hg.2,show 8+(i-8)=i by omega];simp[List.getD,h2]
 have hU:dkU zs=U:=by
  refine hs.2.2.2.2.2.eq_upTo _ (fun v hv=>?_);unfold dkP;rw[gB (v/8) (by omega)];have hb:(bitsL U 32).getD (v/8) 0=bv U (v/8) 8:=by unfold bitsL;simp[List.getD,show v/8<32 by omega]
  rw[hb];have:=bv_bit U (v/8) 8 (v%8) (by omega) (by decide);rw[show(8*((v/8:Nat):Int)+(7-((8-1-v%8:Nat):Int)))=(v:Int) by omega] at this;simpa using this
 have hE:dkE zs=zs:=by
  unfold dkE;rw[n0,n8,hD,hU];unfold snE;rw[snB_yes hs];exact hzs
 rw[dkF_yes hl (by rw[n6];omega) hE];unfold dkYes;rw[n0,n8,hD,hU]
end Go.Proofs.YtilpkdnoaldfmaaGreatDoor
namespace Go.Proofs.YtilpkdnoaldfmaaGreatDoor
open Go.ChangeShapes Go.WideShapes Go.ChangeAt Go.RowKit
set_option linter.unusedVariables false
set_option maxHeartbeats 400000 in
theorem numS_any (g:Nat) (t:TypeId) (p:Int) (zs:List Int) (w:World) (hr:Row w g t zs) (hz:Byte zs) (hl:zs.length=128) (hp:0≤p) (hp':p≤60) :
  Calls Tryz.prog 87 #[.pointer (some ⟨g,0,none⟩),.int .i64 p] w fun e w'=>e=.returned (.int .u32 (num4 zs p.toNat))∧Below w.heap.size w w':=by
 obtain⟨p,rfl⟩:=Int.eq_ofNat_of_zero_le hp;have c0:=hr.cell p (by omega);have c1:=hr.cell (p+1) (by omega);have c2:=hr.cell (p+2) (by omega);have c3:=hr.cell (p+3) (by omega);have b0:=hz.get p;have b1:=hz.get (p+1);have b2:=hz.get (p+2);have b3:=hz.get (p+3);have HN:Hid (num4 zs p=zs.getD p 0+256*zs.getD (p+1) 0+65536*zs.getD (p+2) 0+16777216*zs.getD (p+3) 0):=rfl;generalize zs.getD p 0=a at *;generalize zs.getD (p+1) 0=b at *;generalize zs.getD (p+2) 0=c at *;generalize zs.getD (p+3) 0=d at *;have HB:=num_bits a b c d b0 b1 b2 b3;have HH:Hid _:=HB;clear HB;obtain⟨b01,b02⟩:=b0;obtain⟨b11,b12⟩:=b1;obtain⟨b21,b22⟩:=b2;obtain⟨b31,b32⟩:=b3;go_enter Tryz.func87,Tryz.ntmps87;go_wp2
 go_quiet (fail)
 go_wp2
 go_ret
 exact⟨ret_int (by rw[HH.out,Int.toNat_natCast,HN.out]),⟨rfl,rfl,rfl,Nat.le_refl _,fun _ _=>rfl⟩⟩
structure DNS (w:World) (zs:List Int) (k:Nat) (v:Value) (wr:World):Prop where
 own:Iow w.heap.size wr v (dkD zs k)
 below:Below w.heap.size w wr
set_option maxRecDepth 100000 in
set_option maxHeartbeats 1000000 in
theorem denied_any (g:Nat) (zs:List Int) (w:World) (hr:Row w g 73 zs) (hl:zs.length=128) (hz:Byte zs) (hn:zs.getD 6 0≤16) :
  Calls Tryz.prog 88 #[.pointer (some ⟨g,0,none⟩)] w fun e w'=>∃ v,e=.returned v∧Iow w.heap.size w' v (dkD zs (dkN zs))∧Below w.heap.size w w':=by
 have c6:=hr.cell 6 (by omega);have b6:=hz.get 6;obtain⟨n,hn6⟩:∃ n:Nat,zs.getD 6 0=n:=⟨(zs.getD 6 0).toNat,by omega⟩
 have HN:Hid (dkN zs=n):=by show _=_;unfold dkN;omega
 rw[hn6] at c6 hn;have hn':n≤16:=by omega
 have HR:Hid (Row w g 73 zs∧zs.length=128∧Byte zs):=⟨hr,hl,hz⟩
 have H0:Hid (DNS w zs 0 (.slice none 0 0) w):=⟨Iow.nil _ _,Below.refl _ _⟩
 clear hr hl hz b6 hn6 hn;go_enter Tryz.func88,Tryz.ntmps88;go_wp2_with fail;clear c6
 go_loopw [3,11] (fun l i wr=>∃(k:Nat) (v:Value),k≤n∧i=.int .i64 k∧v=l∧DNS w zs k v wr) (fun _ i _=>n-(intOf i).toNat)
 case atStart=>exact⟨0,_,Nat.zero_le _,rfl,rfl,H0.out⟩
 case round=>
  clear H0;obtain⟨k,l,hk,rfl,rfl,hst⟩:=hrel;by_cases hlt:k<n
  ·have hlt':(k:Int)<n:=by omega
   have HST:Hid (DNS w zs k l wr):=hst;clear hst;go_wp2_with fail;refine(denyP_any g k _ (by omega)).mono ?_;rintro e w2 ⟨c,rfl,hw2⟩;subst w2;have hA1:dkA k+1<128:=dkA_lt (by omega);have hrw:Row wr g 73 zs:=by
    have:=HST.out.below.block g HR.out.1.lt;unfold Row;rw[this];exact HR.out.1
   have HAt:Hid (At .u8 wr (some ⟨g,dkA k,none⟩) [zs.getD (dkA k) 0,zs.getD (dkA k+1) 0]):=.inr ⟨g,dkA k,rfl,hrw.lt,fun i hi=>by
    have:i=0∨i=1:=by simp at hi;omega
    rcases this with rfl|rfl
    ·rw[Nat.add_zero,hrw.cell _ (by rw[HR.out.2.1];omega)];rfl
    ·rw[hrw.cell _ (by rw[HR.out.2.1];omega)];rfl⟩
   have HBy:Hid (Byte [zs.getD (dkA k) 0,zs.getD (dkA k+1) 0]):=byte2 (HR.out.2.2.get _) (HR.out.2.2.get _);have HV:Hid (val 256 [zs.getD (dkA k) 0,zs.getD (dkA k+1) 0]=dkS zs k):=by show _=_;unfold dkS;simp[val]
   have e8:(if k<8 then 44+2*k else 56+2*k)=dkA k:=rfl;rw[e8];generalize dkA k=A at *;generalize zs.getD A 0=x at *;generalize zs.getD (A+1) 0=y at *;clear e8 hA1 hrw;go_wp2_with fail;refine(le_any (some ⟨g,A,none⟩) 2 c [x,y] _ rfl (by decide) HAt.out HBy.out).mono ?_;rintro e w3 ⟨rfl,hw3⟩;subst w3;generalize val 256 [x,y]=s at *;have HNX:Hid (dkD zs (k+1)=dkD zs k++[s]):=by show _=_;rw[dkD_succ,HV.out]
   have HL:Hid ((dkD zs k).length≤1048576):=by show _≤_;rw[dkD_len];omega
   have HO:Hid (Iow w.heap.size (wr.alloc (.cells #[.int .i64 s] 2)) l (dkD zs k)):=HST.out.own.alloc _;have HZ:Hid (w.heap.size≤(wr.alloc (.cells #[.int .i64 s] 2)).heap.size):=by
    show _≤_
    have:=HST.out.below.size;simp;omega
   clear HAt HBy HV;go_wp2_with (first
    |(refine wpList_app1 _ rfl (.tmp 14) (.tmp 19) rfl w.heap.size _ (dkD zs k) rfl HO.out wr s rfl rfl HL.out HZ.out ?_)
    |fail)
   intro v' w3 h1 h2;have HF:Hid (DNS w zs (k+1) v' w3):=⟨by rw[HNX.out];exact h1,(HST.out.below.alloc HST.out.below.size _).trans h2⟩
   clear h1 h2 HO HZ HL;go_wp2;go_roundw
   case rel=>exact⟨k+1,_,by omega,by go_num,rfl,HF.out⟩
   case measure=>simp[intOf];omega
  ·have hke:k=n:=by omega
   subst hke;have HF:Hid (∃ v,Ending.returned l=.returned v∧Iow w.heap.size wr v (dkD zs (dkN zs))∧Below w.heap.size w wr):=⟨l,rfl,by rw[HN.out];exact hst.own,hst.below⟩
   clear hst;go_wp2
   go_ret
   exact HF.out
set_option maxRecDepth 100000 in
set_option maxHeartbeats 2000000 in
theorem used_any (g:Nat) (zs:List Int) (w:World) (hr:Row w g 73 zs) (hl:zs.length=128) (hz:Byte zs) :
  Calls Tryz.prog 89 #[.pointer (some ⟨g,0,none⟩)] w fun e w'=>∃ v,e=.returned v∧Iow w.heap.size w' v (dkU zs)∧Below w.heap.size w w':=by
 have HR:Hid (Row w g 73 zs∧zs.length=128∧Byte zs):=⟨hr,hl,hz⟩
 have HX0:Hid (Below w.heap.size w (w.alloc (.cells #[.int .u8 0,.int .u8 0,.int .u8 0,.int .u8 0,.int .u8 0,.int .u8 0,.int .u8 0,.int .u8 0,.int .u8 0,.int .u8 0,.int .u8 0,.int .u8 0,.int .u8 0,.int .u8 0,.int .u8 0,.int .u8 0,.int .u8 0,.int .u8 0,.int .u8 0,.int .u8 0,.int .u8 0,.int .u8 0,.int .u8 0,.int .u8 0,.int .u8 0,.int .u8 0,.int .u8 0,.int .u8 0,.int .u8 0,.int .u8 0,.int .u8 0,.int .u8 0] 100))∧Row (w.alloc (.cells #[.int .u8 0,.int .u8 0,.int .u8 0,.int .u8 0,.int .u8 0,.int .u8 0,.int .u8 0,.int .u8 0,.int .u8 0,.int .u8 0,.int .u8 0,.int .u8 0,.int .u8 0,.int .u8 0,.int .u8 0,.int .u8 0,.int .u8 0,.int .u8 0,.int .u8 0,.int .u8 0,.int .u8 0,.int .u8 0,.int .u8 0,.int .u8 0,.int .u8 0,.int .u8 0,.int .u8 0,.int .u8 0,.int .u8 0,.int .u8 0,.int .u8 0,.int .u8 0] 100)) g 73 zs∧(w.alloc (.cells #[.int .u8 0,.int .u8 0,.int .u8 0,.int .u8 0,.int .u8 0,.int .u8 0,.int .u8 0,.int .u8 0,.int .u8 0,.int .u8 0,.int .u8 0,.int .u8 0,.int .u8 0,.int .u8 0,.int .u8 0,.int .u8 0,.int .u8 0,.int .u8 0,.int .u8 0,.int .u8 0,.int .u8 0,.int .u8 0,.int .u8 0,.int .u8 0,.int .u8 0,.int .u8 0,.int .u8 0,.int .u8 0,.int .u8 0,.int .u8 0,.int .u8 0,.int .u8 0] 100)).heap[w.heap.size]?=some (.cells #[.int .u8 0,.int .u8 0,.int .u8 0,.int .u8 0,.int .u8 0,.int .u8 0,.int .u8 0,.int .u8 0,.int .u8 0,.int .u8 0,.int .u8 0,.int .u8 0,.int .u8 0,.int .u8 0,.int .u8 0,.int .u8 0,.int .u8 0,.int .u8 0,.int .u8 0,.int .u8 0,.int .u8 0,.int .u8 0,.int .u8 0,.int .u8 0,.int .u8 0,.int .u8 0,.int .u8 0,.int .u8 0,.int .u8 0,.int .u8 0,.int .u8 0,.int .u8 0] 100 (0,0))):=⟨below_new w _,by unfold Row;rw[(below_new w _).block g hr.lt];exact hr,heap_alloc_new w _⟩
 clear hr hl hz;go_enter Tryz.func89,Tryz.ntmps89;go_wp2_with fail;generalize (w.alloc (.cells #[.int .u8 0,.int .u8 0,.int .u8 0,.int .u8 0,.int .u8 0,.int .u8 0,.int .u8 0,.int .u8 0,.int .u8 0,.int .u8 0,.int .u8 0,.int .u8 0,.int .u8 0,.int .u8 0,.int .u8 0,.int .u8 0,.int .u8 0,.int .u8 0,.int .u8 0,.int .u8 0,.int .u8 0,.int .u8 0,.int .u8 0,.int .u8 0,.int .u8 0,.int .u8 0,.int .u8 0,.int .u8 0,.int .u8 0,.int .u8 0,.int .u8 0,.int .u8 0] 100))=w0 at *;refine wp_region_any (by kernel_rfl) ?_;refine wpAny_slotsU (fun _ _ _=>True) (frame:=(fun (a b c d e:Value)=>fun (t:Nat→Value)=>({ tmps:=List.toArray [a,b,c,d,t 0,t 1,t 2,t 3,t 4,t 5,e],defers:=[] }:Act)) _ _ _ _ _)
  (Ext:=fun L u w'=>if L 5=true then Below w.heap.size w w'∧Row w' w.heap.size 100 (dkM zs) else Below w.heap.size w w'∧Row w' g 73 zs∧w'.heap[w.heap.size]?=some (.cells #[.int .u8 0,.int .u8 0,.int .u8 0,.int .u8 0,.int .u8 0,.int .u8 0,.int .u8 0,.int .u8 0,.int .u8 0,.int .u8 0,.int .u8 0,.int .u8 0,.int .u8 0,.int .u8 0,.int .u8 0,.int .u8 0,.int .u8 0,.int .u8 0,.int .u8 0,.int .u8 0,.int .u8 0,.int .u8 0,.int .u8 0,.int .u8 0,.int .u8 0,.int .u8 0,.int .u8 0,.int .u8 0,.int .u8 0,.int .u8 0,.int .u8 0,.int .u8 0] 100 (0,0))) (Good:=fun i L w' v=>if i=0 then v=.slice (some ⟨w.heap.size,0,none⟩) 32 32 else if i=1 then v=.pointer (some ⟨g,0,none⟩) else if i=2 then v=.pointer (some ⟨g,0,none⟩) else if i=3 then v=.pointer (some ⟨g,0,none⟩) else if i=4 then v=.slice (some ⟨g,12,none⟩) 52 52 else if i=5 then L 5=true else True) ?hstab (by kernel_rfl) ?hop ?hdone _ _ ((fun (x0 x1 x2 x3 x4 x5:Value)=>fun (i:Nat)=>if i=0 then x0 else if i=1 then x1 else if i=2 then x2 else if i=3 then x3 else if i=4 then x4 else if i=5 then x5 else undef) _ _ _ _ _ _) _ (by simp) ?ext ?start (by simp)
 case start=>intro i hi h;exact absurd h (by rw[Array.getD_eq_getD_getElem?,Array.getElem?_replicate];split<;>simp)
 case ext=>
  rw[if_neg (by show ¬ (Array.getD _ _ _=true);rw[Array.getD_eq_getD_getElem?,Array.getElem?_replicate];split<;>simp)];exact⟨HX0.out.1.drew,HX0.out.2.1,HX0.out.2.2⟩
 case hstab=>
  intro j L w9 w' i v hM hij hLi h;by_cases hl:j=5
  ·subst hl;simp at h ⊢;unfold updK;simp[h]
  ·simp only[if_neg hl] at h ⊢;exact h
 case hop=>
  intro i o L t w' ho hLi hx hdep K hK;have hi:i<6:=(Array.getElem?_eq_some_iff.1 ho).1;obtain rfl|rfl|rfl|rfl|rfl|rfl:i=0∨i=1∨i=2∨i=3∨i=4∨i=5:=by omega
  all_goals(simp at ho;subst ho)
  ·clear hdep;have hK':=hK w' (.slice (some ⟨w.heap.size,0,none⟩) 32 32) (by simp) (by simpa[updK] using hx) trivial;clear hK;rw[if_pos (by rfl)];go_simp;simpa[upd] using hK'
  ·clear hdep;have hK':=hK w' (.pointer (some ⟨g,0,none⟩)) (by simp) (by simpa[updK] using hx) trivial;clear hK;rw[if_pos (by rfl)];go_simp;simpa[upd] using hK'
  ·have d1:t 1=.pointer (some ⟨g,0,none⟩):=by simpa using(hdep ⟨1,.data⟩ (by simp) rfl).2
   clear hdep;have hK':=hK w' (.pointer (some ⟨g,0,none⟩)) (by simp) (by simpa[updK] using hx) trivial;clear hK;rw[if_pos (by rfl)];go_simp;simpa[upd,d1] using hK'
  ·have d2:t 2=.pointer (some ⟨g,0,none⟩):=by simpa using(hdep ⟨2,.data⟩ (by simp) rfl).2
   clear hdep;have hK':=hK w' (.pointer (some ⟨g,0,none⟩)) (by simp) (by simpa[updK] using hx) trivial;clear hK;rw[if_pos (by rfl)];go_simp;simpa[upd,d2] using hK'
  ·have d3:t 3=.pointer (some ⟨g,0,none⟩):=by simpa using(hdep ⟨3,.data⟩ (by simp) rfl).2
   clear hdep;have hK':=hK w' (.slice (some ⟨g,12,none⟩) 52 52) (by simp) (by simpa[updK] using hx) trivial;clear hK;rw[if_pos (by rfl)];go_simp;simpa[upd,d3] using hK'
  ·have d0:t 0=.slice (some ⟨w.heap.size,0,none⟩) 32 32:=by simpa using(hdep ⟨0,.data⟩ (by simp) rfl).2
   have d4:t 4=.slice (some ⟨g,12,none⟩) 52 52:=by simpa using(hdep ⟨4,.data⟩ (by simp) rfl).2
   clear hdep;rw[hLi,if_neg (by decide)] at hx;rw[if_pos (by rfl)];refine wp_copyG (.tmp 4) (.tmp 8) rfl (some ⟨w.heap.size,0,none⟩) (some ⟨g,12,none⟩) (w.heap.size) 0 32 32 52 52 d0 d4 _ 100 hx.2.2 (dkM zs) (by rw[dkM_len HR.out.2.1];rfl) (fun _=>⟨rfl,_,rfl,fun j hj=>?_⟩) (by rw[dkM_len HR.out.2.1];decide) ?_
   ·rw[dkM_len HR.out.2.1] at hj;rw[Addr.add_lit,Row.cell hx.2.1 (12+j) (by rw[HR.out.2.1];omega),dkM_get HR.out.2.1 j hj]
   ·intro w2 h2 hw2;have hrow:Row w2 w.heap.size 100 (dkM zs):=by
     unfold Row;rw[h2];simp[dkM_len HR.out.2.1]
    exact hK w2 _ (by simp[updK]) (by rw[if_pos (by simp[updK])];exact⟨hx.1.trans (hw2.below (Nat.le_refl _)),hrow⟩) trivial
 case hdone=>
  intro L t w2 hx hg;have hlast:L 5=true:=by simpa using hg 5 (by decide)
  rw[if_pos hlast] at hx;clear hg hlast;have HX:=hid_of hx;clear hx HX0;have hbt:∀ w',Below w2.heap.size w2 w'→BAt w' w.heap.size 0 (dkM zs):=fun w' b=>by
   have hr':Row w' w.heap.size 100 (dkM zs):=by unfold Row;rw[b.block _ (Row.lt HX.out.2)];exact HX.out.2
   refine⟨dkM_len HR.out.2.1,dkM_byte HR.out.2.2,fun i hi=>?_⟩;rw[Nat.zero_add];exact⟨hr'.cell i (by rw[dkM_len HR.out.2.1];exact hi),hr'.frozen i⟩
  have A:=hid_of (list_any w.heap.size 0 (dkM zs) (dkP zs) w2 hbt (dkM_set HR.out.2.1 HR.out.2.2));clear hbt;go_wp2_with fail;refine A.out.mono ?_;rintro e w3 ⟨v,rfl,hio,hb3⟩;have HF:Hid (Iow w.heap.size w3 v (dkU zs)∧Below w.heap.size w w3):=⟨Iow.mono hio HX.out.1.size,HX.out.1.trans (hb3.mono HX.out.1.size)⟩
  clear hio hb3 A HX;go_wp2
  go_ret
  exact⟨_,rfl,HF.out⟩
structure DvF (L c m:Nat) (f:Int) (zs:List Int) (ps:List PD):Prop where
 hl:zs.length=L
 hm:ps.length=m
 hv:validB L ps f=true
 hc:L≤c
 bz:Byte zs
 bp:∀ i,Byte (ps.getD i (0,[])).2
theorem DvF.base {L c m:Nat} {f:Int} {zs:List Int} {ps:List PD} (h:DvF L c m f zs ps):L%64=0∧8≤L/64∧L/64≤256∧m≤1000:=by
 have:=h.hv;unfold validB at this;rw[Bool.and_eq_true] at this;have h1:vBase L ps.length f:=(by simpa using this.1);unfold vBase at h1;rw[h.hm] at h1;exact⟨h1.1,h1.2.1,h1.2.2.1,h1.2.2.2.1⟩
theorem DvF.len {L c m:Nat} {f:Int} {zs:List Int} {ps:List PD} (h:DvF L c m f zs ps) (i:Nat) (hi:i<m):(ps.getD i (0,[])).2.length=64:=by
 have:=h.hv;unfold validB at this;rw[Bool.and_eq_true,List.all_eq_true] at this;have hi':i<ps.length:=by rw[h.hm];exact hi
 have h2:=this.2 ps[i] (List.getElem_mem hi');have h3:pOk (L/64) ps[i]:=(by simpa using h2);rw[show ps.getD i (0,[])=ps[i] by simp[List.getD,hi']];exact h3.2.2
theorem findL_mem {ps:List PD} {s:Int} (k:Nat):∀ z,findL ps s k=some z→∃ i,i<k∧z=(ps.getD i (0,[])).2:=by
 induction k with
 |zero=>intro z hz;simp[findL] at hz
 |succ k ih=>
  intro z hz;unfold findL at hz;split at hz
  ·exact⟨k,Nat.lt_succ_self k,(Option.some.inj hz).symm⟩
  ·obtain⟨i,hi,e⟩:=ih z hz;exact⟨i,by omega,e⟩
theorem DvF.rd {L c m:Nat} {f:Int} {zs:List Int} {ps:List PD} (h:DvF L c m f zs ps) (s:Nat) (hs:s*64+64≤L):(rdV zs ps s).length=64∧Byte (rdV zs ps s):=by
 unfold rdV;cases e:findL ps s ps.length with
 |none=>
  simp only[Option.getD_none];refine⟨?_,fun z hz=>h.bz z (List.mem_of_mem_drop (List.mem_of_mem_take hz))⟩;rw[List.length_take,List.length_drop,h.hl];simp;omega
 |some z=>
  simp only[Option.getD_some];obtain⟨i,hi,rfl⟩:=findL_mem _ z e;exact⟨h.len i (by rw[←h.hm];exact hi),h.bp i⟩
def slZ (zs:List Int) (ps:List PD) (i:Nat):List Int:=rdV zs ps (2*i:Nat)++rdV zs ps (2*i+1:Nat)
theorem DvF.sl {L c m:Nat} {f:Int} {zs:List Int} {ps:List PD} (h:DvF L c m f zs ps) (i:Nat) (hi:i<2):(slZ zs ps i).length=128∧Byte (slZ zs ps i):=by
 obtain⟨b1,b2,b3,b4⟩:=h.base;obtain⟨l1,y1⟩:=h.rd (2*i) (by omega);obtain⟨l2,y2⟩:=h.rd (2*i+1) (by omega);unfold slZ;refine⟨by rw[List.length_append,l1,l2],fun z hz=>?_⟩;rcases List.mem_append.1 hz with q|q
 ·exact y1 z q
 ·exact y2 z q
open Classical in
noncomputable def slF (zs:List Int) (ps:List PD) (i:Nat):DkR:=if(dkF (slZ zs ps i)).ok=true∧(dkF (slZ zs ps i)).g%2=(i:Int) then dkF (slZ zs ps i) else dkNo
open Classical in
noncomputable def nwK (zs:List Int) (ps:List PD):Nat→DkR
 |0=>dkNo
 |k+1=>if(slF zs ps k).ok=true∧((nwK zs ps k).ok=false∨(nwK zs ps k).g<(slF zs ps k).g) then slF zs ps k else nwK zs ps k
theorem TapO.keep {B:Nat} {w w':World} {v:Value} {T:List Int} {n:Nat} (h:TapO B w v T n) (hb:∀ k,B≤k→k<w.heap.size→w'.heap[k]?=w.heap[k]?):TapO B w' v T n:=by
 refine⟨h.1,?_⟩;rcases h.2 with h'|⟨g,c,cur,h1,h2,h3,h4⟩
 ·exact .inl h'
 ·exact .inr ⟨g,c,cur,h1,h2,by rw[hb g h2 (Array.getElem?_eq_some_iff.1 h3).1];exact h3,h4⟩
theorem TapO.below {B:Nat} {w w':World} {v:Value} {T:List Int} {n:Nat} (h:TapO B w v T n) (b:Below w.heap.size w w'):TapO B w' v T n:=h.keep (fun k _ hk=>b.block k hk)
section
variable {lo lo' R:Nat} {k:Int} {D U T:List Int} {nT:Nat} {w w':World} {cs:Array Value} {v:Value}
end
theorem apR_add {D U:List Int} {k:Int} {T:List Int} {n a:Nat} (h:a<256∧¬ (a:Int)∈D∧¬ D.length=16):apR D U k T n 2 a 1=⟨true,withS D a,U,k,T,n⟩:=by unfold apR;rw[if_neg (by decide),if_pos rfl,if_pos ⟨rfl,h⟩]
theorem apR_rem {D U:List Int} {k:Int} {T:List Int} {n a:Nat} (h:a<256∧(a:Int)∈D):apR D U k T n 2 a 0=⟨true,lessS D a,U,k,T,n⟩:=by unfold apR;rw[if_neg (by decide),if_pos rfl,if_neg (fun h=>by cases h.1),if_pos ⟨rfl,h⟩]
end Go.Proofs.YtilpkdnoaldfmaaGreatDoor
