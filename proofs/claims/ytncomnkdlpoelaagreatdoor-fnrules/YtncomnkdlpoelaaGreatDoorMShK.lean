import Derived.Test.YtncomnkdlpoelaaGreatDoorMISt
import Derived.Test.YtncomnkdlpoelaaGreatDoorMINofS
import Derived.Test.YtncomnkdlpoelaaGreatDoorMBase
import Derived.Test.YtncomnkdlpoelaaGreatDoorMMuM
import Derived.Test.YtncomnkdlpoelaaGreatDoorMReg
import Derived.Test.YtncomnkdlpoelaaGreatDoorMCatF
import Derived.Deep.Cut
import Derived.BigRegion
namespace Go.Proofs.YtncomnkdlpoelaaGreatDoor
open Go.ChangeShapes Go.WideShapes Go.ChangeAt Go.RowKit
set_option linter.unusedVariables false
def blks (zs:List Int):Nat→List Int
 |0=>ivL
 |k+1=>mixL (blks zs k) (blkOf (zs.drop (128*k)))
theorem blks_w8 (zs:List Int) (k:Nat):W8 (blks zs k):=by
 cases k with
 |zero=>exact ivL_w8
 |succ k=>exact mixL_w8 _ _
def shaL (zs:List Int):List Int:=txtW (finL (blks zs (zs.length/128)) (zs.drop (128*(zs.length/128))) zs.length)
theorem finL_w8 (hs zs:List Int) (n:Int):W8 (finL hs zs n):=by
 unfold finL;split
 ·exact mixL_w8 _ _
 ·exact mixL_w8 _ _
structure KS (w:World) (G:Nat) (hs:List Int) (y:World):Prop where
 wds:RowW y G 175 hs
 tab:TabIn y
 below:Below w.heap.size w y
 hi:w.heap.size≤G
theorem KS.frg {w:World} {G:Nat} {hs hs':List Int} {y y':World} (h:KS w G hs y) (hz:1<w.heap.size) (hf:FrG G y y') (hr:RowW y' G 175 hs'):KS w G hs' y':=by
 have:=h.hi;exact⟨hr,h.tab.frg (fun k hk e=>hf.block k hk (by omega)),h.below.trans (hf.below h.hi h.below.size),h.hi⟩
theorem KS.new {w:World} {G:Nat} {hs:List Int} {y y':World} (h:KS w G hs y) (hz:1<w.heap.size) (hb:Below y.heap.size y y'):KS w G hs y':=
 ⟨h.wds.below hb h.wds.lt,h.tab.frg (fun k hk _=>hb.block k hk),h.below.trans (hb.mono h.below.size),h.hi⟩
theorem Own.lowK {w:World} {B B':Nat} {v:Value} {zs:List Int} (h:Own w B' v zs) (hB:B≤B'):Own w B v zs:=by
 obtain⟨⟨h1,h2⟩,h3⟩:=h;refine⟨⟨h1,?_⟩,h3⟩;rcases h2 with h|⟨g,cap,cur,e,hg,r⟩
 ·exact .inl h
 ·exact .inr ⟨g,cap,cur,e,Nat.le_trans hB hg,r⟩
set_option maxRecDepth 100000 in
set_option maxHeartbeats 2000000 in
theorem shaI_any (a:Option Addr) (n cap:Nat) (zs:List Int) (w:World) (hn:zs.length=n) (ha:At .u8 w a zs) (hz:Byte zs) (hm:n≤2097152) (hcap:n≤cap) (hT:TabIn w) (h0:1<w.heap.size) :
  Calls Tryz.prog 108 #[.slice a n cap] w fun e w'=>∃ v,e=.returned v∧Own w' w.heap.size v (shaL zs)∧Below w.heap.size w w':=by
 have z1:=zvBlk;have z2:=zsBlk;have z3:=znBlk;have A:=hid_ofS (first_any w hT h0);have HT:=hid_ofS hT;have HA:=hid_ofS ha;have HZ:=hid_ofS hz;have HN:=hid_ofS hn;clear hn ha hz hT;go_enter Tryz.func108,Tryz.ntmps108;go_wp2_with fail;refine A.out.mono ?_;rintro e w1 ⟨rfl,b1⟩;have HB1:=hid_ofS b1;clear A b1;have HZN:Hid (RowW (w1.alloc (.cells #[.int .u64 0,.int .u64 0,.int .u64 0,.int .u64 0,.int .u64 0,.int .u64 0,.int .u64 0,.int .u64 0] 175)) w1.heap.size 175 [0,0,0,0,0,0,0,0]):=heap_alloc_new w1 _;have HAL:Hid (Below w1.heap.size w1 (w1.alloc (.cells #[.int .u64 0,.int .u64 0,.int .u64 0,.int .u64 0,.int .u64 0,.int .u64 0,.int .u64 0,.int .u64 0] 175))):=(Below.refl _ _).alloc (Nat.le_refl _) _;have HL:=hid_ofS ivL_w8.1;go_wp2_with (first
  |(refine wpList_storeW rfl (.tmp 3) (.tmp 6) rfl Tryz.sizeWds w1.heap.size ivL [0,0,0,0,0,0,0,0] rfl rfl HL.out rfl HZN.out ?_)
  |fail)
 intro w2 hr2 hw2;have hs1:=HB1.out.size;have HK:Hid (KS w w1.heap.size (blks zs 0) w2):=⟨hr2,((HT.out.frg (fun k hk _=>HB1.out.block k hk)).frg (fun k hk _=>HAL.out.block k hk)).frg (fun k _ e=>hw2.block k (by omega)),(HB1.out.trans (HAL.out.mono hs1)).trans (hw2.below hs1),hs1⟩
 clear hr2 hw2 HB1 HAL HZN HL HT;go_wp2
 go_loopw [4] (fun v wr=>∃(k:Nat) (a':Option Addr) (c':Nat),128*k≤n∧v=.slice a' (n-128*k) c'∧n-128*k≤c'∧At .u8 w a' (zs.drop (128*k))∧KS w w1.heap.size (blks zs k) wr) (fun v _=>lenOf v)
 case atStart=>exact⟨0,a,cap,by omega,rfl,by omega,HA.out,HK.out⟩
 case round=>
  clear HK;obtain⟨k,a',c',hk,rfl,hc',ha',hst⟩:=hrel;have HK:=hid_ofS hst;have HA':=hid_ofS ha';have hlen:(zs.drop (128*k)).length=n-128*k:=by rw[List.length_drop,HN.out]
  have HBY:Hid (Byte (zs.drop (128*k))):=fun z h=>HZ.out z (List.mem_of_mem_drop h)
  have HDL:=hid_ofS hlen;clear hst ha' hlen;by_cases hge:128≤n-128*k
  ·have hge':(128:Int)≤((n-128*k:Nat):Int):=by omega
   have HBL:Hid (blks zs (k+1)=mixL (blks zs k) (blkOf (zs.drop (128*k)))):=rfl;obtain⟨b,off,rfl,hb0,hcc⟩:=HA'.out.get (by rw[HDL.out];omega);have HN2:Hid (n-128*(k+1)=n-128*k-128):=by show _=_;omega
   have HD2:Hid (zs.drop (128*(k+1))=(zs.drop (128*k)).drop 128):=by show _=_;rw[List.drop_drop];congr 1
   have HK1:Hid (128*(k+1)≤n):=by show _≤_;omega
   have HCC:=hid_ofS hcc;clear hcc;obtain⟨m,hm'⟩:∃ m,m=n-128*k:=⟨_,rfl⟩
   rw[←hm'] at HN2 HDL hge hge' hc' ⊢;have hmm:m≤2097152:=by omega
   clear hm';have B:=hid_ofS (blk_any (some ⟨b,off,none⟩) m c' (zs.drop (128*k)) wr HDL.out (HA'.out.below HK.out.below) hmm);go_wp2_with fail;refine B.out.mono ?_;rintro e w3 ⟨rfl,b3⟩;have HK3:=hid_ofS (HK.out.new h0 b3);clear b3 B HK;have HZN:Hid (Row (w3.alloc (.cells zBlk 178)) w3.heap.size 178 (List.replicate 128 0)):=by show _=_;rw[heap_alloc_new,zcBlk]
   have HAL:Hid (Below w3.heap.size w3 (w3.alloc (.cells zBlk 178))):=(Below.refl _ _).alloc (Nat.le_refl _) _;have HLB:=hid_ofS (blkOf_len (zs.drop (128*k)));go_wp2_with (first
    |(refine wpList_storeB rfl (.tmp 5) (.tmp 12) rfl Tryz.sizeBlk w3.heap.size (blkOf (zs.drop (128*k))) (List.replicate 128 0) rfl rfl HLB.out (by simp) HZN.out ?_)
    |fail)
   intro w4 hr4 hw4;have hlt3:=HK3.out.wds.lt;have hsz3:=HK3.out.below.size;have hz3:=HK3.out.hi;have b34:=HAL.out.trans (hw4.below (Nat.le_refl _));have HK4:=hid_ofS (HK3.out.new h0 b34);have HG0:Hid (w1.heap.size≠1):=by show ¬ _;omega
   have C:=hid_ofS (mix_any w1.heap.size w3.heap.size (blks zs k) (blkOf (zs.drop (128*k))) w4 HK4.out.wds (blks_w8 _ _) hr4 HLB.out (blkOf_byte HBY.out) HK4.out.tab HG0.out);clear hr4 hw4 b34 HK3 HZN HAL;go_wp2_with fail;refine C.out.mono ?_;rintro e w5 ⟨rfl,r5,b5⟩;have HK5:Hid (KS w w1.heap.size (blks zs (k+1)) w5):=by rw[HBL.out];exact HK4.out.frg h0 b5 r5
   clear r5 b5 C HK4;go_wp2;refine⟨⟨k+1,_,c'-128,HK1.out,by rw[HN2.out],by rw[HN2.out];omega,?_,HK5.out⟩,by show m-128<m;omega⟩;rw[HD2.out];by_cases hcc:c'=128
   ·exact .inl (List.eq_nil_of_length_eq_zero (by rw[List.length_drop,HDL.out];omega))
   ·rw[if_neg hcc];refine .inr ⟨b,off+128,rfl,hb0,fun i hi=>?_⟩;rw[List.length_drop] at hi;rw[Nat.add_assoc,HCC.out (128+i) (by omega),List.getD_eq_getElem?_getD,List.getD_eq_getElem?_getD,List.getElem?_drop,List.getElem?_drop,List.getElem?_drop]
  ·have hge':¬ ((128:Int)≤((n-128*k:Nat):Int)):=by omega
   have HQ:Hid (shaL zs=txtW (finL (blks zs k) (zs.drop (128*k)) (n:Int))):=by
    show _=_
    unfold shaL;rw[HN.out,show n/128=k by omega]
   have HUN:Hid (U64 (n:Int)):=⟨by omega,by omega⟩
   have HG0:Hid (w1.heap.size≠1):=by show ¬ _;omega
   obtain⟨m,hm'⟩:∃ m,m=n-128*k:=⟨_,rfl⟩
   rw[←hm'] at HDL hge hge' hc' ⊢;have hmm:m<128:=by omega
   clear hm';have B:=hid_ofS (fin_any w1.heap.size (blks zs k) a' m c' (zs.drop (128*k)) (n:Int) wr HK.out.wds (blks_w8 _ _) HDL.out (HA'.out.below HK.out.below) HBY.out hmm HK.out.tab HG0.out HUN.out);go_wp2_with fail;refine B.out.mono ?_;rintro e w3 ⟨rfl,r3,b3⟩;have HK3:Hid (KS w w1.heap.size (finL (blks zs k) (zs.drop (128*k)) n) w3):=HK.out.frg h0 b3 r3;clear r3 b3 B HK;have C:=hid_ofS (textI_any w1.heap.size _ w3 HK3.out.wds (finL_w8 _ _ _));go_wp2_with fail;refine C.out.mono ?_;rintro e w4 ⟨v,rfl,o4,b4⟩;have HO:Hid (Own w4 w.heap.size v (shaL zs)):=by rw[HQ.out];exact o4.lowK HK3.out.below.size
   have HB:Hid (Below w.heap.size w w4):=HK3.out.below.trans (b4.mono HK3.out.below.size);clear o4 b4 C HK3;go_wp2
   go_ret
   exact⟨_,rfl,HO.out,HB.out⟩
structure LES (w:World) (xs:List Int) (a k:Nat) (v:Value) (wr:World):Prop where
 own:IO w.heap.size wr v (lessS (xs.take k) a)
 below:Below w.heap.size w wr
theorem less_yes {xs:List Int} {a k:Nat} (h:k<xs.length) (hne:¬ xs.getD k 0=(a:Int)):lessS (xs.take (k+1)) a=lessS (xs.take k) a++[xs.getD k 0]:=by
 unfold lessS;rw[take_snoc xs k h,List.filter_append];simp;simpa[List.getD] using hne
theorem less_no {xs:List Int} {a k:Nat} (h:k<xs.length) (he:xs.getD k 0=(a:Int)):lessS (xs.take (k+1)) a=lessS (xs.take k) a:=by
 unfold lessS;rw[take_snoc xs k h,List.filter_append];simp;simpa[List.getD] using he
theorem less_len (xs:List Int) (a k:Nat):(lessS (xs.take k) a).length≤k:=by
 unfold lessS;exact Nat.le_trans (List.length_filter_le _ _) (by rw[List.length_take];omega)
set_option maxRecDepth 100000 in
set_option maxHeartbeats 1000000 in
theorem less_any (ad:Option Addr) (n cap:Nat) (xs:List Int) (a:Nat) (w:World) (hn:xs.length=n) (hm:n≤1048576) (ha:At .i64 w ad xs) :
  Calls Tryz.prog 33 #[.slice ad n cap,.int .i64 a] w fun e w'=>∃ v,e=.returned v∧IO w.heap.size w' v (lessS xs a)∧Below w.heap.size w w':=by
 have HA:=hdI <| ha
 have HNX:=hdI <| hn
 have H0:Hid (LES w xs a 0 (.slice (some ⟨w.heap.size,0,none⟩) 0 0) (w.alloc (.cells #[] 2))):=
  ⟨⟨by simp[lessS],.inr ⟨w.heap.size,0,#[],rfl,Nat.le_refl _,heap_alloc_new w _,Nat.le_refl _,by simp[maxLen],rfl,rfl⟩⟩,(Below.refl _ _).alloc (Nat.le_refl _) _⟩
 clear ha hn;go_enter Tryz.func33,Tryz.ntmps33;go_wp2_with fail
 go_loopw [5,6] (fun l i wr=>∃(k:Nat) (v:Value),k≤n∧i=.int .i64 k∧v=l∧LES w xs a k v wr) (fun _ i _=>n-(intOf i).toNat)
 case atStart=>exact⟨0,_,by omega,rfl,rfl,H0.out⟩
 case round=>
  clear H0;obtain⟨k,l,hk,rfl,rfl,hst⟩:=hrel;by_cases hlt:k<n
  ·have hlt':(k:Int)<n:=by omega
   have HST:=hdI <| hst
   obtain⟨b,off,ea,hb,hc⟩:=(HA.out.below hst.below).get (by have:=HNX.out;omega);have hck:=hc k (by have:=HNX.out;omega);subst ea;clear hst hc hb;have HLT:Hid (k<xs.length):=by show _<_;have:=HNX.out;omega
   by_cases hne:xs.getD k 0=(a:Int)
   ·have HF:Hid (LES w xs a (k+1) l wr):=⟨by rw[less_no HLT.out hne];exact HST.out.own,HST.out.below⟩
    rw[hne] at hck;clear hne;go_wp2;go_roundw
    case rel=>exact⟨k+1,_,by omega,by go_num,rfl,HF.out⟩
    case measure=>simp[intOf];omega
   ·have HN:=hdI <| less_yes HLT.out hne
    have HL:Hid ((lessS (xs.take k) a).length≤1048576):=Nat.le_trans (less_len xs a k) (by omega);generalize xs.getD k 0=z at *;have HO:Hid (IO w.heap.size (wr.alloc (.cells #[.int .i64 z] 2)) l (lessS (xs.take k) a)):=HST.out.own.alloc _;have HZ:Hid (w.heap.size≤(wr.alloc (.cells #[.int .i64 z] 2)).heap.size):=by
     show _≤_
     have:=HST.out.below.size;simp;omega
    go_wp2_with (first
     |(refine wpList_app1 _ rfl (.tmp 20) (.tmp 25) rfl w.heap.size _ (lessS (xs.take k) a) rfl HO.out wr z rfl rfl HL.out HZ.out ?_)
     |fail)
    intro v' w3 h1 h2;have HF:Hid (LES w xs a (k+1) v' w3):=⟨by rw[HN.out];exact h1,(HST.out.below.alloc HST.out.below.size _).trans h2⟩
    clear h1 h2 HO HZ HL hck;go_wp2;go_roundw
    case rel=>exact⟨k+1,_,by omega,by go_num,rfl,HF.out⟩
    case measure=>simp[intOf];omega
  ·have hke:k=n:=by omega
   have hlt':¬ ((k:Int)<n):=by omega
   have HF:Hid (∃ v,Ending.returned l=.returned v∧IO w.heap.size wr v (lessS xs a)∧Below w.heap.size w wr):=⟨l,rfl,by
    have:=hst.own
    rwa [List.take_of_length_le (by have:=HNX.out;omega)] at this,hst.below⟩
   clear hst hke;go_wp2
   go_ret
   exact HF.out
def SAt (w:World) (a:Option Addr) (zs:List Int):Prop:=
 zs=[]∨∃ b off,a=some ⟨b,off,none⟩∧b<w.heap.size∧∀ i,i<zs.length→w.cell? ⟨b,off+i,none⟩=some (.int .i64 (zs.getD i 0))∧w.frozen? ⟨b,off+i,none⟩=false
theorem SAt.at_ {w:World} {a:Option Addr} {zs:List Int} (h:SAt w a zs):At .i64 w a zs:=by
 rcases h with h|⟨b,off,e,hl,hc⟩
 ·exact .inl h
 ·exact .inr ⟨b,off,e,hl,fun i hi=>(hc i hi).1⟩
def Lies (lo:Nat) (w:World) (a:Option Addr):Prop:=∀ ad,a=some ad→lo≤ad.block∧ad.block<w.heap.size
def Aprt (a b:Option Addr):Prop:=∀ x y,a=some x→b=some y→x.block≠y.block
theorem Lies.mono {lo lo':Nat} {w w':World} {a:Option Addr} (h:Lies lo w a) (hl:lo'≤lo) (hs:w.heap.size≤w'.heap.size):Lies lo' w' a:=fun ad e=>by have:=h ad e;omega
theorem SAt.keep {w w':World} {a:Option Addr} {zs:List Int} (h:SAt w a zs) (hs:w.heap.size≤w'.heap.size) (hb:∀ ad,a=some ad→ad.block<w.heap.size→w'.heap[ad.block]?=w.heap[ad.block]?):SAt w' a zs:=by
 rcases h with h|⟨b,off,e,hl,hc⟩
 ·exact .inl h
 ·have hk:=hb _ e hl;refine .inr ⟨b,off,e,by omega,fun i hi=>?_⟩;rw[World.cell?_of_block (a:=⟨b,off+i,none⟩) (w:=w) hk,World.frozen?_of_block (a:=⟨b,off+i,none⟩) (w:=w) hk];exact hc i hi
theorem At.keepT {w w':World} {a:Option Addr} {zs:List Int} (h:At .i64 w a zs) (hs:w.heap.size≤w'.heap.size) (hb:∀ ad,a=some ad→ad.block<w.heap.size→w'.heap[ad.block]?=w.heap[ad.block]?):At .i64 w' a zs:=by
 rcases h with h|⟨b,off,e,hl,hc⟩
 ·exact .inl h
 ·have hk:=hb _ e hl;refine .inr ⟨b,off,e,by omega,fun i hi=>?_⟩;rw[World.cell?_of_block (a:=⟨b,off+i,none⟩) (w:=w) hk];exact hc i hi
theorem SAt.below {w w':World} {a:Option Addr} {zs:List Int} (h:SAt w a zs) (b:Below w.heap.size w w'):SAt w' a zs:=h.keep b.size (fun ad _ hl=>b.block _ hl)
structure S3 (lo:Nat) (w:World) (aD aU aT:Option Addr) (nD nU nT:Nat) (D U T:List Int):Prop where
 d:SAt w aD D
 u:SAt w aU U
 t:SAt w aT T
 nd:D.length=nD
 nu:U.length=nU
 nt:T.length=nT*2
 ld:Lies lo w aD
 lu:Lies lo w aU
 lt:Lies lo w aT
 du:Aprt aD aU
 dt:Aprt aD aT
 ut:Aprt aU aT
theorem S3.keep {lo:Nat} {w w':World} {aD aU aT:Option Addr} {nD nU nT:Nat} {D U T:List Int} (h:S3 lo w aD aU aT nD nU nT D U T) (hs:w.heap.size≤w'.heap.size) (hb:∀ k,lo≤k→k<w.heap.size→w'.heap[k]?=w.heap[k]?):S3 lo w' aD aU aT nD nU nT D U T:=
 ⟨h.d.keep hs (fun ad e hl=>hb _ (h.ld ad e).1 hl),h.u.keep hs (fun ad e hl=>hb _ (h.lu ad e).1 hl),h.t.keep hs (fun ad e hl=>hb _ (h.lt ad e).1 hl),h.nd,h.nu,h.nt,h.ld.mono (Nat.le_refl _) hs,h.lu.mono (Nat.le_refl _) hs,h.lt.mono (Nat.le_refl _) hs,h.du,h.dt,h.ut⟩
theorem S3.below {lo:Nat} {w w':World} {aD aU aT:Option Addr} {nD nU nT:Nat} {D U T:List Int} (h:S3 lo w aD aU aT nD nU nT D U T) (b:Below w.heap.size w w'):S3 lo w' aD aU aT nD nU nT D U T:=h.keep b.size (fun k _ hk=>b.block k hk)
theorem IO.mono {B B':Nat} {w:World} {v:Value} {xs:List Int} (h:IO B' w v xs) (hB:B≤B'):IO B w v xs:=by
 refine⟨h.1,?_⟩;rcases h.2 with h'|⟨g,c,cur,h1,h2,h3⟩
 ·exact .inl h'
 ·exact .inr ⟨g,c,cur,h1,by omega,h3⟩
theorem IO.fresh {w w':World} {v:Value} {xs:List Int} (h:IO w.heap.size w' v xs):Fresh w w' v:=fun k hk=>by
 rcases h.2 with⟨h',_⟩|⟨g,c,cur,h',hb,hh,_⟩
 ·rw[h'] at hk;simp[Value.ownBlock] at hk
 ·rw[h'] at hk;simp[Value.ownBlock] at hk;have:=(Array.getElem?_eq_some_iff.1 hh).1;omega
theorem IO.form {B:Nat} {w:World} {v:Value} {xs:List Int} (h:IO B w v xs):∃ a n c,v=.slice a n c:=by
 rcases h.2 with⟨h',_⟩|⟨g,c,cur,h',_⟩
 ·exact⟨_,_,_,h'⟩
 ·exact⟨_,_,_,h'⟩
theorem IO.keep {B:Nat} {w w':World} {v:Value} {xs:List Int} (h:IO B w v xs) (hb:∀ k,B≤k→k<w.heap.size→w'.heap[k]?=w.heap[k]?):IO B w' v xs:=by
 refine⟨h.1,?_⟩;rcases h.2 with h'|⟨g,c,cur,h1,h2,h3,h4⟩
 ·exact .inl h'
 ·exact .inr ⟨g,c,cur,h1,h2,by rw[hb g h2 (Array.getElem?_eq_some_iff.1 h3).1];exact h3,h4⟩
theorem IO.below {B:Nat} {w w':World} {v:Value} {xs:List Int} (h:IO B w v xs) (b:Below w.heap.size w w'):IO B w' v xs:=h.keep (fun k _ hk=>b.block k hk)
theorem IO.wr {B R:Nat} {w w':World} {v:Value} {xs:List Int} (h:IO B w v xs) (hw:Wr R w w') (hR:R<B):IO B w' v xs:=h.keep (fun k hk _=>hw.block k (by omega))
def StFin (lo:Nat) (k:Int) (aT:Option Addr) (nT cT:Nat) (X Y:List Int) (w:World) (cs:Array Value):Prop:=
 ∃ aD nD cD aU nU cU,cs=#[.slice aD nD cD,.slice aU nU cU,.int .i64 k,.slice aT nT cT]∧IO lo w (.slice aD nD cD) X∧IO lo w (.slice aU nU cU) Y∧ApV (.slice aD nD cD) (.slice aU nU cU)
theorem StFin.below {lo:Nat} {k:Int} {aT:Option Addr} {nT cT:Nat} {X Y:List Int} {w w':World} {cs:Array Value} (h:StFin lo k aT nT cT X Y w cs) (b:Below w.heap.size w w'):StFin lo k aT nT cT X Y w' cs:=by
 obtain⟨aD,nD,cD,aU,nU,cU,e,h1,h2,h3⟩:=h;exact⟨aD,nD,cD,aU,nU,cU,e,h1.below b,h2.below b,h3⟩
def StBd (lo:Nat) (k:Int) (aT:Option Addr) (nT cT:Nat) (X Y:List Int) (w:World) (v:Value):Prop:=∃ cs,v=.agg cs∧StFin lo k aT nT cT X Y w cs
theorem StBd.below {lo:Nat} {k:Int} {aT:Option Addr} {nT cT:Nat} {X Y:List Int} {w w':World} {v:Value} (h:StBd lo k aT nT cT X Y w v) (b:Below w.heap.size w w'):StBd lo k aT nT cT X Y w' v:=by
 obtain⟨cs,e,h⟩:=h;exact⟨cs,e,h.below b⟩
theorem StBd.wr {lo R:Nat} {k:Int} {aT:Option Addr} {nT cT:Nat} {X Y:List Int} {w w':World} {v:Value} (h:StBd lo k aT nT cT X Y w v) (hw:Wr R w w') (hR:R<lo):StBd lo k aT nT cT X Y w' v:=by
 obtain⟨cs,e,aD,nD,cD,aU,nU,cU,e2,h1,h2,h3⟩:=h;exact⟨cs,e,aD,nD,cD,aU,nU,cU,e2,h1.wr hw hR,h2.wr hw hR,h3⟩
set_option maxRecDepth 100000 in
set_option maxHeartbeats 4000000 in
theorem state_any {w:World} {g:Nat} {d u:List Int} {k:Int} (aT:Option Addr) (nT cT:Nat) (P Q:Nat→Bool) (hb:Bk w g d u k (.slice aT nT cT)) (hd:SetB d (fun v=>P v=true)) (hu:SetB u (fun v=>Q v=true)) :
  Calls Tryz.prog 26 #[.pointer (some ⟨g,0,none⟩)] w fun e w'=>∃ aD nD cD aU nU cU,e=.returned (.agg #[.slice aD nD cD,.slice aU nU cU,.int .i64 k,.slice aT nT cT])∧IO w.heap.size w' (.slice aD nD cD) (upTo P 256)∧IO w.heap.size w' (.slice aU nU cU) (upTo Q 256)∧ApV (.slice aD nD cD) (.slice aU nU cU)∧Below w.heap.size w w':=by
 have HBK:=hdI <| hb
 have HGL:=hdI <| hb.lt
 have HSD:=hdI <| hd
 have HSU:=hdI <| hu
 have HSZ:Hid ((Tryz.prog.info? 26).map (·.size)=some 4):=by show _=_;kernel_rfl
 have HW0:Hid (Below w.heap.size w (w.alloc (.cells #[.slice none 0 0,.slice none 0 0,.int .i64 0,.slice none 0 0] 26)).drew):=by
  have h1:Below w.heap.size w (w.alloc (.cells #[.slice none 0 0,.slice none 0 0,.int .i64 0,.slice none 0 0] 26)):=(Below.refl _ _).alloc (Nat.le_refl _) _;exact⟨h1.os,h1.tape,h1.output,h1.size,h1.block⟩
 have HR0:Hid ((w.alloc (.cells #[.slice none 0 0,.slice none 0 0,.int .i64 0,.slice none 0 0] 26)).drew.heap[w.heap.size]?=some (.cells #[.slice none 0 0,.slice none 0 0,.int .i64 0,.slice none 0 0] 26 (0,0))):=heap_alloc_new w _;clear hb hd hu;go_enter Tryz.func26,Tryz.ntmps26;go_wp2_with fail;refine wp_region_any (by kernel_rfl) ?_;refine wpAny_slotsU (fun i a b=>if i=17 then Wr (w.heap.size) a b else Below a.heap.size a b) (frame:=(fun (a b c:Value)=>fun (t:Nat→Value)=>({ tmps:=List.toArray [a,b,c,t 0,t 1,t 2,t 3,t 4,t 5,t 6,t 7,t 8,t 9,t 10,t 11,t 12,t 13,t 14,t 15,t 16],defers:=[] }:Act)) _ _ _)
  (Ext:=fun L u w'=>ApS w (w.heap.size) 17 26 #[.slice none 0 0,.slice none 0 0,.int .i64 0,.slice none 0 0] (StFin (w.heap.size+1) k aT nT cT (upTo P 256) (upTo Q 256)) [3,7] L u w') (Good:=fun i L w' v=>if i=0 then v=.pointer (some ⟨g,0,none⟩) else if i=1 then v=.pointer (some ⟨g,0,none⟩) else if i=2 then v=.pointer (some ⟨g,0,none⟩) else if i=3 then IO (w.heap.size+1) w' v (upTo P 256) else if i=4 then v=.pointer (some ⟨g,0,none⟩) else if i=5 then v=.pointer (some ⟨g,0,none⟩) else if i=6 then v=.pointer (some ⟨g,32,none⟩) else if i=7 then IO (w.heap.size+1) w' v (upTo Q 256) else if i=8 then v=.pointer (some ⟨g,0,none⟩) else if i=9 then v=.pointer (some ⟨g,0,none⟩) else if i=10 then v=.pointer (some ⟨g,64,none⟩) else if i=11 then v=.int .i64 k else if i=12 then v=.pointer (some ⟨g,0,none⟩) else if i=13 then v=.pointer (some ⟨g,0,none⟩) else if i=14 then v=.pointer (some ⟨g,65,none⟩) else if i=15 then v=.slice aT nT cT else if i=16 then StBd (w.heap.size+1) k aT nT cT (upTo P 256) (upTo Q 256) w' v else if i=17 then L 17=true else True) ?hstab (by kernel_rfl) ?hop ?hdone _ _ ((fun (x0 x1 x2 x3 x4 x5 x6 x7 x8 x9 x10 x11 x12 x13 x14 x15 x16:Value)=>fun (i:Nat)=>if i=0 then x0 else if i=1 then x1 else if i=2 then x2 else if i=3 then x3 else if i=4 then x4 else if i=5 then x5 else if i=6 then x6 else if i=7 then x7 else if i=8 then x8 else if i=9 then x9 else if i=10 then x10 else if i=11 then x11 else if i=12 then x12 else if i=13 then x13 else if i=14 then x14 else if i=15 then x15 else if i=16 then x16 else undef) _ _ _ _ _ _ _ _ _ _ _ _ _ _ _ _ _) _ (by simp) ?ext ?start (by simp)
 case start=>intro i hi h;exact absurd h (by rw[Array.getD_eq_getD_getElem?,Array.getElem?_replicate];split<;>simp)
 case ext=>exact ApS.start ⟨HW0.out,fun p _ hp=>absurd hp (by rw[Array.getD_eq_getD_getElem?,Array.getElem?_replicate];split<;>simp),fun p _ q _ _ hp=>absurd hp (by rw[Array.getD_eq_getD_getElem?,Array.getElem?_replicate];split<;>simp)⟩ (fun i=>by rw[Array.getD_eq_getD_getElem?,Array.getElem?_replicate];split<;>rfl) HR0.out
 case hstab=>
  intro j L w9 w' i v hM hij hLi h;by_cases h3:j=3
  ·subst h3;by_cases hl:i=17
   ·subst hl;simp at h hM ⊢;exact h.wr hM (by omega)
   ·rw[if_neg hl] at hM;simp at h ⊢;exact h.below hM
  by_cases h7:j=7
  ·subst h7;by_cases hl:i=17
   ·subst hl;simp at h hM ⊢;exact h.wr hM (by omega)
   ·rw[if_neg hl] at hM;simp at h ⊢;exact h.below hM
  by_cases h16:j=16
  ·subst h16;by_cases hl:i=17
   ·subst hl;simp at h hM ⊢;exact h.wr hM (by omega)
   ·rw[if_neg hl] at hM;simp at h ⊢;exact h.below hM
  by_cases hl:j=17
  ·subst hl;simp at h ⊢;unfold updK;simp[h]
  simp only[if_neg h3,if_neg h7,if_neg h16,if_neg hl] at h ⊢;exact h
 case hop=>
  intro i o L t w' ho hLi hx hdep K hK;have hi:i<18:=(Array.getElem?_eq_some_iff.1 ho).1;obtain rfl|rfl|rfl|rfl|rfl|rfl|rfl|rfl|rfl|rfl|rfl|rfl|rfl|rfl|rfl|rfl|rfl|rfl:i=0∨i=1∨i=2∨i=3∨i=4∨i=5∨i=6∨i=7∨i=8∨i=9∨i=10∨i=11∨i=12∨i=13∨i=14∨i=15∨i=16∨i=17:=by omega
  all_goals(simp at ho;subst ho)
  all_goals try(have hK':=hK w' _ rfl (hx.step (fun _ _ _ b h=>h.below b) _ (by decide) _ (Below.refl _ _) (fun h=>absurd h (by decide))) (by rw[if_neg (by decide)];exact(Below.refl _ _));clear hK;simp[Region.binds] at hdep;rw[if_pos (by rfl)];go_simp;simpa[upd,hdep] using hK';done)
  ·have d2:t 2=.pointer (some ⟨g,0,none⟩):=by simpa using(hdep ⟨2,.data⟩ (by simp) rfl).2
   clear hdep;have hsz:=hx.lt;have bw:=hx.ax.below;have A:=list_any g 0 d P w' (fun ww hb=>(HBK.out.below (bw.trans (hb.mono bw.size)) HGL.out).batd) HSD.out;have hK':∀ ww v,IO (w.heap.size+1) ww v (upTo P 256)→Fresh w' ww v→Below w'.heap.size w' ww→K _ ww:=fun ww v hv hf hb=>hK ww v (by simpa using hv) (hx.step (fun _ _ _ b h=>h.below b) 3 (by decide) v hb (fun _=>hf)) (by rw[if_neg (by decide)];exact hb)
   clear hK;rw[if_pos (by rfl)];go_simp;try simp only[d2]
   refine A.mono ?_;rintro e w9 ⟨v9,rfl,hv9,hb9⟩;have hK2:=hK' w9 v9 (hv9.mono hsz) hv9.fresh hb9;clear hK' A hv9 bw hb9;go_simp;simpa[upd,d2] using hK2
  ·have d6:t 6=.pointer (some ⟨g,32,none⟩):=by simpa using(hdep ⟨6,.data⟩ (by simp) rfl).2
   clear hdep;have hsz:=hx.lt;have bw:=hx.ax.below;have A:=list_any g 32 u Q w' (fun ww hb=>(HBK.out.below (bw.trans (hb.mono bw.size)) HGL.out).batu) HSU.out;have hK':∀ ww v,IO (w.heap.size+1) ww v (upTo Q 256)→Fresh w' ww v→Below w'.heap.size w' ww→K _ ww:=fun ww v hv hf hb=>hK ww v (by simpa using hv) (hx.step (fun _ _ _ b h=>h.below b) 7 (by decide) v hb (fun _=>hf)) (by rw[if_neg (by decide)];exact hb)
   clear hK;rw[if_pos (by rfl)];go_simp;try simp only[d6]
   refine A.mono ?_;rintro e w9 ⟨v9,rfl,hv9,hb9⟩;have hK2:=hK' w9 v9 (hv9.mono hsz) hv9.fresh hb9;clear hK' A hv9 bw hb9;go_simp;simpa[upd,d6] using hK2
  ·have d10:t 10=.pointer (some ⟨g,64,none⟩):=by simpa using(hdep ⟨10,.data⟩ (by simp) rfl).2
   clear hdep;have cc:=(HBK.out.below hx.ax.below HGL.out).ck;have hK':=hK w' (.int .i64 k) (by simp) (hx.step (fun _ _ _ b h=>h.below b) 11 (by decide) _ (Below.refl _ _) (fun h=>absurd h (by decide))) (by rw[if_neg (by decide)];exact(Below.refl _ _));clear hK;rw[if_pos (by rfl)];go_simp;simpa[upd,d10] using hK'
  ·have d14:t 14=.pointer (some ⟨g,65,none⟩):=by simpa using(hdep ⟨14,.data⟩ (by simp) rfl).2
   clear hdep;have cc:=(HBK.out.below hx.ax.below HGL.out).cv;have hK':=hK w' (.slice aT nT cT) (by simp) (hx.step (fun _ _ _ b h=>h.below b) 15 (by decide) _ (Below.refl _ _) (fun h=>absurd h (by decide))) (by rw[if_neg (by decide)];exact(Below.refl _ _));clear hK;rw[if_pos (by rfl)];go_simp;simpa[upd,d14] using hK'
  ·have l3:=(hdep ⟨3,.data⟩ (by simp) rfl).1;have f3:IO (w.heap.size+1) w' (t 3) (upTo P 256):=by simpa using(hdep ⟨3,.data⟩ (by simp) rfl).2
   have l7:L 7=true:=(hdep ⟨7,.data⟩ (by simp) rfl).1;have f7:IO (w.heap.size+1) w' (t 7) (upTo Q 256):=by simpa using(hdep ⟨7,.data⟩ (by simp) rfl).2
   have d11:t 11=.int .i64 k:=by simpa using(hdep ⟨11,.data⟩ (by simp) rfl).2
   have d15:t 15=.slice aT nT cT:=by simpa using(hdep ⟨15,.data⟩ (by simp) rfl).2
   clear hdep;obtain⟨aD,nD,cD,d3⟩:=f3.form;obtain⟨aU,nU,cU,d7⟩:=f7.form;have hap:=hx.ax.ap 3 (by decide) 7 (by decide) (by decide) l3 l7;rw[d3] at f3 hap;rw[d7] at f7 hap;have hK':=hK w' (.agg #[.slice aD nD cD,.slice aU nU cU,.int .i64 k,.slice aT nT cT]) (by simpa using⟨_,rfl,aD,nD,cD,aU,nU,cU,rfl,f3,f7,hap⟩) (hx.step (fun _ _ _ b h=>h.below b) 16 (by decide) _ (Below.refl _ _) (fun h=>absurd h (by decide))) (by rw[if_neg (by decide)];exact(Below.refl _ _));clear hK f3 f7 hap;rw[if_pos (by rfl)];go_simp;simpa[upd,d3,d7,d11,d15] using hK'
  ·have f16:StBd (w.heap.size+1) k aT nT cT (upTo P 256) (upTo Q 256) w' (t 16):=by simpa using(hdep ⟨16,.data⟩ (by simp) rfl).2
   clear hdep;obtain⟨cs,e9,aD,nD,cD,aU,nU,cU,rfl,f3,f7,hap⟩:=f16;have hrs:=hx.pre hLi;have hK':∀ ww,Wr w.heap.size w' ww→ww.heap[w.heap.size]?=some (.cells #[.slice aD nD cD,.slice aU nU cU,.int .i64 k,.slice aT nT cT] 26 (0,0))→K _ ww:=fun ww hw hr=>hK ww undef (by simp[updK]) (hx.put (Nat.le_refl _) (by decide) _ hw hr ⟨aD,nD,cD,aU,nU,cU,rfl,f3.wr hw (by omega),f7.wr hw (by omega),hap⟩) (by rw[if_pos rfl];exact hw)
   clear hK f3 f7 hap;rw[if_pos (by rfl)];refine wp_store_row 26 (.tmp 2) (.tmp 19) rfl w.heap.size _ rfl e9 26 _ hrs HSZ.out rfl (by simp[Value.oneCell']) ?_;have hK2:=hK' _ (Wr.setRow _ _ _) (setRow_heap _ _ _ _ _ _ hrs);clear hK';simpa[upd,Act.put] using hK2
 case hdone=>
  intro L t w' hx hg;have l17:L 17=true:=by simpa using hg 17 (by decide)
  clear hg;obtain⟨cs,hr,aD,nD,cD,aU,nU,cU,rfl,h1,h2,h3⟩:=hx.fin l17;have HR9:Hid (w'.heap[w.heap.size]?=some (.cells #[.slice aD nD cD,.slice aU nU cU,.int .i64 k,.slice aT nT cT] 26 (0,0))):=hr;have HF:Hid (IO w.heap.size w' (.slice aD nD cD) (upTo P 256)∧IO w.heap.size w' (.slice aU nU cU) (upTo Q 256)∧ApV (.slice aD nD cD) (.slice aU nU cU)∧Below w.heap.size w w'):=⟨h1.mono (by omega),h2.mono (by omega),h3,hx.ax.below⟩
  clear hx hr h1 h2 h3;go_wp2_with fail;exact bodyPost_ret (v:=.agg #[.slice aD nD cD,.slice aU nU cU,.int .i64 k,.slice aT nT cT]) (results_cell_row rfl _ _ w.heap.size 26 _ (0,0) _ rfl HR9.out Tryz.underlying26 rfl HSZ.out) rfl ⟨aD,nD,cD,aU,nU,cU,rfl,HF.out.1,HF.out.2.1,HF.out.2.2.1,HF.out.2.2.2⟩
theorem apR_no {D U:List Int} {k:Int} {T:List Int} {n:Nat} {kind:Int} {a b:Nat} (h:(apR D U k T n kind a b).ok=false):apR D U k T n kind a b=apNo:=by
 unfold apR at h ⊢;split
 ·split
  ·rename_i h1 h2;rw[if_pos h1,if_pos h2] at h;cases h
  ·rfl
 ·split
  ·rename_i h1 h2
   rw[if_neg h1,if_pos h2] at h;split
   ·rename_i h3;rw[if_pos h3] at h;cases h
   ·rename_i h3
    rw[if_neg h3] at h;split
    ·rename_i h4;rw[if_pos h4] at h;cases h
    ·rfl
  ·rename_i h1 h2
   rw[if_neg h1,if_neg h2] at h;split
   ·rename_i h3
    rw[if_pos h3] at h;split
    ·rename_i h4;rw[if_pos h4] at h;cases h
    ·rfl
   ·rfl
theorem withS_ser (xs:List Int) (a:Nat):SerP (withS xs a):=upTo_ser _
theorem apR_ser {D U:List Int} {k:Int} {T:List Int} {n:Nat} {kind:Int} {a b:Nat} (hD:SerP D) (hU:SerP U):SerP (apR D U k T n kind a b).D∧SerP (apR D U k T n kind a b).U:=by
 have hn:SerP ([]:List Int):=fun i hi=>by simp at hi
 unfold apR;split
 ·split
  ·exact⟨hD,withS_ser _ _⟩
  ·exact⟨hn,hn⟩
 ·split
  ·split
   ·exact⟨withS_ser _ _,hU⟩
   ·split
    ·exact⟨without_ser hD _,hU⟩
    ·exact⟨hn,hn⟩
  ·split
   ·split
    ·exact⟨hD,hU⟩
    ·exact⟨hn,hn⟩
   ·exact⟨hn,hn⟩
open Classical in
noncomputable def apF (D U:List Int) (k:Int) (T:List Int) (n:Nat) (kind:Int) (a b:Nat):ApR:=if stB D U k T n=true then apR D U k T n kind a b else apNo
theorem stP_of {D U:List Int} {k:Int} {T:List Int} {n:Nat} (h:stB D U k T n=true):StP D U k T n:=by
 unfold stB at h;simpa using h
def APV (lo:Nat) (w:World) (v:Value) (r:ApR):Prop:=
 ∃ aD nD cD aU nU cU aT nT cT,v=.agg #[.bool r.ok,.slice aD nD cD,.slice aU nU cU,.int .i64 r.k,.slice aT nT cT]∧S3 lo w aD aU aT nD nU nT r.D r.U r.T
theorem APV.no (lo:Nat) (w:World):APV lo w (.agg #[.bool false,.slice none 0 0,.slice none 0 0,.int .i64 0,.slice none 0 0]) apNo:=
 ⟨none,0,0,none,0,0,none,0,0,rfl,.inl rfl,.inl rfl,.inl rfl,rfl,rfl,rfl,fun _ h=>(by cases h),fun _ h=>(by cases h),fun _ h=>(by cases h),fun _ _ h=>(by cases h),fun _ _ h=>(by cases h),fun _ _ h=>(by cases h)⟩
theorem IO.sat {B:Nat} {w:World} {a:Option Addr} {n c:Nat} {xs:List Int} (h:IO B w (.slice a n c) xs):SAt w a xs∧xs.length=n∧Lies B w a:=by
 rcases h.2 with⟨h',h0⟩|⟨g,cap,cur,h',hb,hh,hc,hm,hs,ht⟩
 ·cases h';have:xs=[]:=List.eq_nil_of_length_eq_zero h0;exact⟨.inl this,h0,fun _ e=>(by cases e)⟩
 ·cases h';have hlt:=(Array.getElem?_eq_some_iff.1 hh).1;refine⟨.inr ⟨g,0,rfl,hlt,fun i hi=>?_⟩,rfl,fun ad e=>(by cases e;exact⟨hb,hlt⟩)⟩;rw[Nat.zero_add];refine⟨?_,frozen_of_row _ _ _ _ _ hh⟩;have:=World.ownsRow.cellAt h i (by omega);rw[this];simp[hi]
theorem TapV.sat {B:Nat} {w:World} {a:Option Addr} {n c:Nat} {T:List Int} (h:TapV B w (.slice a n c) T n):SAt w a T∧T.length=n*2∧Lies B w a:=by
 obtain⟨hl,⟨h1,h2⟩|⟨t,o,c',h1,hB,ht,hc,hm,hx⟩⟩:=h
 ·cases h1;exact⟨.inl (List.eq_nil_of_length_eq_zero (by omega)),hl,fun _ e=>(by cases e)⟩
 ·cases h1;exact⟨.inr ⟨t,o,rfl,ht,fun i hi=>hx.1 i (by omega)⟩,hl,fun ad e=>(by cases e;exact⟨hB,ht⟩)⟩
structure IX (w:World) (fr:Array Value) (wr:World):Prop where
 below:Below w.heap.size w wr
 fb:wr.heap[w.heap.size+1]?=some (.cells fr 38 (0,0))
 rb:wr.heap[w.heap.size+2]?=some (.cells #[.bool false,.slice none 0 0,.slice none 0 0,.int .i64 0,.slice none 0 0] 42 (0,0))
theorem IX.call {w wr w':World} {fr:Array Value} {B:Nat} (h:IX w fr wr) (b:Below B wr w') (hB:w.heap.size+3≤B):IX w fr w':=
 ⟨h.below.trans (b.mono (by omega)),by rw[b.block _ (by omega)];exact h.fb,by rw[b.block _ (by omega)];exact h.rb⟩
theorem IX.start (w:World) (sc fr:Array Value):IX w fr (((w.alloc (.cells sc 26)).alloc (.cells fr 38)).alloc (.cells #[.bool false,.slice none 0 0,.slice none 0 0,.int .i64 0,.slice none 0 0] 42)):=by
 refine⟨(((Below.refl _ _).alloc (Nat.le_refl _) _).alloc (by simp) _).alloc (by simp;omega) _,?_,?_⟩
 ·rw[Below.heap_alloc _ _ (w.heap.size+1) (by simp)];have:=heap_alloc_new (w.alloc (.cells sc 26)) (.cells fr 38)
  rwa [show(w.alloc (.cells sc 26)).heap.size=w.heap.size+1 by simp] at this
 ·have:=heap_alloc_new ((w.alloc (.cells sc 26)).alloc (.cells fr 38)) (.cells #[.bool false,.slice none 0 0,.slice none 0 0,.int .i64 0,.slice none 0 0] 42)
  rwa [show((w.alloc (.cells sc 26)).alloc (.cells fr 38)).heap.size=w.heap.size+2 by simp] at this
theorem TapO.keep {B:Nat} {w w':World} {v:Value} {T:List Int} {n:Nat} (h:TapO B w v T n) (hb:∀ k,B≤k→k<w.heap.size→w'.heap[k]?=w.heap[k]?):TapO B w' v T n:=by
 refine⟨h.1,?_⟩;rcases h.2 with h'|⟨g,c,cur,h1,h2,h3,h4⟩
 ·exact .inl h'
 ·exact .inr ⟨g,c,cur,h1,h2,by rw[hb g h2 (Array.getElem?_eq_some_iff.1 h3).1];exact h3,h4⟩
theorem TapO.below {B:Nat} {w w':World} {v:Value} {T:List Int} {n:Nat} (h:TapO B w v T n) (b:Below w.heap.size w w'):TapO B w' v T n:=h.keep (fun k _ hk=>b.block k hk)
theorem TapO.wrk {B R:Nat} {w w':World} {v:Value} {T:List Int} {n:Nat} (h:TapO B w v T n) (hw:Wr R w w') (hR:R<B):TapO B w' v T n:=h.keep (fun k hk _=>hw.block k (by omega))
theorem TapO.wr {B R:Nat} {w w':World} {v:Value} {T:List Int} {n:Nat} (h:TapO B w v T n) (hw:Wr R w w') (hR:R<B):TapO B w' v T n:=h.wrk hw hR
def CpFin (lo:Nat) (k:Int) (D U T:List Int) (nT:Nat) (w:World) (cs:Array Value):Prop:=
 ∃ aD nD cD aU nU cU aT cT,cs=#[.slice aD nD cD,.slice aU nU cU,.int .i64 k,.slice aT nT cT]∧IO lo w (.slice aD nD cD) D∧IO lo w (.slice aU nU cU) U∧TapO lo w (.slice aT nT cT) T nT
section
variable {lo lo' R:Nat} {k:Int} {D U T:List Int} {nT:Nat} {w w':World} {cs:Array Value} {v:Value}
theorem CpFin.below (h:CpFin lo k D U T nT w cs) (b:Below w.heap.size w w'):CpFin lo k D U T nT w' cs:=by
 obtain⟨aD,nD,cD,aU,nU,cU,aT,cT,e,h1,h2,h3⟩:=h;exact⟨aD,nD,cD,aU,nU,cU,aT,cT,e,h1.below b,h2.below b,h3.below b⟩
theorem CpFin.mono (h:CpFin lo k D U T nT w cs) (hl:lo'≤lo):CpFin lo' k D U T nT w cs:=by
 obtain⟨aD,nD,cD,aU,nU,cU,aT,cT,e,h1,h2,h3⟩:=h;exact⟨aD,nD,cD,aU,nU,cU,aT,cT,e,h1.mono hl,h2.mono hl,TapO.mono h3 hl⟩
def CpBd (lo:Nat) (k:Int) (D U T:List Int) (nT:Nat) (w:World) (v:Value):Prop:=∃ cs,v=.agg cs∧CpFin lo k D U T nT w cs
theorem CpBd.below (h:CpBd lo k D U T nT w v) (b:Below w.heap.size w w'):CpBd lo k D U T nT w' v:=by obtain⟨cs,e,h⟩:=h;exact⟨cs,e,h.below b⟩
theorem CpBd.wr (h:CpBd lo k D U T nT w v) (hw:Wr R w w') (hR:R<lo):CpBd lo k D U T nT w' v:=by
 obtain⟨cs,e,aD,nD,cD,aU,nU,cU,aT,cT,e2,h1,h2,h3⟩:=h;exact⟨cs,e,aD,nD,cD,aU,nU,cU,aT,cT,e2,h1.wr hw hR,h2.wr hw hR,h3.wr hw hR⟩
end
structure WBF (w wb:World) (sc:Array Value):Prop where
 p1:w.heap.size<wb.heap.size
 p2:wb.heap[w.heap.size]?=some (.cells sc 26 (0,0))
 p3:w.heap.size≤wb.heap.size
 p4:wb.heap.size≤w.heap.size+1
set_option maxRecDepth 100000 in
set_option maxHeartbeats 4000000 in
theorem l5c_any (aD aU aT:Option Addr) (nD cD nU cU nT cT:Nat) (D U:List Int) (k:Int) (T:List Int) (w:World) (hD:D.length=nD) (hU:U.length=nU) (hT:T.length=nT*2) (mD:nD≤1048576) (mU:nU≤1048576) (mT:nT≤1048576)
  (haD:At .i64 w aD D) (haU:At .i64 w aU U) (haT:At .i64 w aT T) :
  Calls Tryz.prog 21 #[.agg #[.slice aD nD cD,.slice aU nU cU,.int .i64 k,.slice aT nT cT]] w fun e w'=>∃ cs,e=.returned (.agg cs)∧CpFin w.heap.size k D U T nT w' cs∧Below w.heap.size w w':=by
 obtain⟨wb,hwb⟩:∃ wb,wb=w.alloc (.cells #[.slice aD nD cD,.slice aU nU cU,.int .i64 k,.slice aT nT cT] 26):=⟨_,rfl⟩
 have HWB:Hid (WBF w wb #[.slice aD nD cD,.slice aU nU cU,.int .i64 k,.slice aT nT cT]):=⟨by rw[hwb];simp,by rw[hwb];exact heap_alloc_new w _,by rw[hwb];simp,by rw[hwb];simp⟩
 have HBW:Hid (Below w.heap.size w wb):=by show Below _ _ _;rw[hwb];exact(Below.refl _ _).alloc (Nat.le_refl _) _
 have HAD:=hdI <| haD
 have HAU:=hdI <| haU
 have HAT:=hdI <| haT
 have HLN:Hid (D.length=nD∧U.length=nU∧T.length=nT*2):=⟨hD,hU,hT⟩
 have HSZ:Hid ((Tryz.prog.info? 26).map (·.size)=some 4):=by show _=_;kernel_rfl
 have HW0:Hid (Below wb.heap.size wb ((w.alloc (.cells #[.slice aD nD cD,.slice aU nU cU,.int .i64 k,.slice aT nT cT] 26)).alloc (.cells #[.slice none 0 0,.slice none 0 0,.int .i64 0,.slice none 0 0] 26)).drew):=by
  have h1:Below wb.heap.size wb (wb.alloc (.cells #[.slice none 0 0,.slice none 0 0,.int .i64 0,.slice none 0 0] 26)):=(Below.refl _ _).alloc (Nat.le_refl _) _;rw[hwb] at h1 ⊢;exact⟨h1.os,h1.tape,h1.output,h1.size,h1.block⟩
 have HR0:Hid (((w.alloc (.cells #[.slice aD nD cD,.slice aU nU cU,.int .i64 k,.slice aT nT cT] 26)).alloc (.cells #[.slice none 0 0,.slice none 0 0,.int .i64 0,.slice none 0 0] 26)).drew.heap[w.heap.size+1]?=some (.cells #[.slice none 0 0,.slice none 0 0,.int .i64 0,.slice none 0 0] 26 (0,0))):=by
  have:=heap_alloc_new (w.alloc (.cells #[.slice aD nD cD,.slice aU nU cU,.int .i64 k,.slice aT nT cT] 26)) (.cells #[.slice none 0 0,.slice none 0 0,.int .i64 0,.slice none 0 0] 26)
  rwa [show(w.alloc (.cells #[.slice aD nD cD,.slice aU nU cU,.int .i64 k,.slice aT nT cT] 26)).heap.size=w.heap.size+1 by simp] at this
 clear haD haU haT hD hU hT hwb;go_enter Tryz.func21,Tryz.ntmps21;go_wp2_with fail;refine wp_region_any (by kernel_rfl) ?_;refine wpAny_slotsU (fun i a b=>if i=15 then Wr (w.heap.size+1) a b else Below a.heap.size a b) (frame:=(fun (a b c:Value)=>fun (t:Nat→Value)=>({ tmps:=List.toArray [a,b,c,t 0,t 1,t 2,t 3,t 4,t 5,t 6,t 7,t 8,t 9,t 10,t 11,t 12,t 13,t 14],defers:=[] }:Act)) _ _ _)
  (Ext:=fun L u w'=>ApS wb (w.heap.size+1) 15 26 #[.slice none 0 0,.slice none 0 0,.int .i64 0,.slice none 0 0] (CpFin (w.heap.size+2) k D U T nT) [] L u w') (Good:=fun i L w' v=>if i=0 then EmS (w.heap.size+2) 2 w' v else if i=1 then v=.pointer (some ⟨w.heap.size,0,none⟩) else if i=2 then v=.slice aD nD cD else if i=3 then IO (w.heap.size+2) w' v D else if i=4 then EmS (w.heap.size+2) 2 w' v else if i=5 then v=.pointer (some ⟨w.heap.size,1,none⟩) else if i=6 then v=.slice aU nU cU else if i=7 then IO (w.heap.size+2) w' v U else if i=8 then v=.pointer (some ⟨w.heap.size,2,none⟩) else if i=9 then v=.int .i64 k else if i=10 then EmS (w.heap.size+2) 70 w' v else if i=11 then v=.pointer (some ⟨w.heap.size,3,none⟩) else if i=12 then v=.slice aT nT cT else if i=13 then TapO (w.heap.size+2) w' v T nT else if i=14 then CpBd (w.heap.size+2) k D U T nT w' v else if i=15 then L 15=true else True) ?hstab (by kernel_rfl) ?hop ?hdone _ _ ((fun (x0 x1 x2 x3 x4 x5 x6 x7 x8 x9 x10 x11 x12 x13 x14:Value)=>fun (i:Nat)=>if i=0 then x0 else if i=1 then x1 else if i=2 then x2 else if i=3 then x3 else if i=4 then x4 else if i=5 then x5 else if i=6 then x6 else if i=7 then x7 else if i=8 then x8 else if i=9 then x9 else if i=10 then x10 else if i=11 then x11 else if i=12 then x12 else if i=13 then x13 else if i=14 then x14 else undef) _ _ _ _ _ _ _ _ _ _ _ _ _ _ _) _ (by simp) ?ext ?start (by simp)
 case start=>intro i hi h;exact absurd h (by rw[Array.getD_eq_getD_getElem?,Array.getElem?_replicate];split<;>simp)
 case ext=>exact ApS.start ⟨HW0.out,fun p _ hp=>absurd hp (by rw[Array.getD_eq_getD_getElem?,Array.getElem?_replicate];split<;>simp),fun p _ q _ _ hp=>absurd hp (by rw[Array.getD_eq_getD_getElem?,Array.getElem?_replicate];split<;>simp)⟩ (fun i=>by rw[Array.getD_eq_getD_getElem?,Array.getElem?_replicate];split<;>rfl) HR0.out
 case hstab=>
  intro j L w9 w' i v hM hij hLi h;by_cases h0:j=0
  ·subst h0;by_cases hl:i=15
   ·subst hl;simp at h hM ⊢;exact h.wr hM (by omega)
   ·rw[if_neg hl] at hM;simp at h ⊢;exact h.below hM
  by_cases h3:j=3
  ·subst h3;by_cases hl:i=15
   ·subst hl;simp at h hM ⊢;exact h.wr hM (by omega)
   ·rw[if_neg hl] at hM;simp at h ⊢;exact h.below hM
  by_cases h4:j=4
  ·subst h4;by_cases hl:i=15
   ·subst hl;simp at h hM ⊢;exact h.wr hM (by omega)
   ·rw[if_neg hl] at hM;simp at h ⊢;exact h.below hM
  by_cases h7:j=7
  ·subst h7;by_cases hl:i=15
   ·subst hl;simp at h hM ⊢;exact h.wr hM (by omega)
   ·rw[if_neg hl] at hM;simp at h ⊢;exact h.below hM
  by_cases h10:j=10
  ·subst h10;by_cases hl:i=15
   ·subst hl;simp at h hM ⊢;exact h.wr hM (by omega)
   ·rw[if_neg hl] at hM;simp at h ⊢;exact h.below hM
  by_cases h13:j=13
  ·subst h13;by_cases hl:i=15
   ·subst hl;simp at h hM ⊢;exact h.wr hM (by omega)
   ·rw[if_neg hl] at hM;simp at h ⊢;exact h.below hM
  by_cases h14:j=14
  ·subst h14;by_cases hl:i=15
   ·subst hl;simp at h hM ⊢;exact h.wr hM (by omega)
   ·rw[if_neg hl] at hM;simp at h ⊢;exact h.below hM
  by_cases hl:j=15
  ·subst hl;simp at h ⊢;unfold updK;simp[h]
  simp only[if_neg h0,if_neg h3,if_neg h4,if_neg h7,if_neg h10,if_neg h13,if_neg h14,if_neg hl] at h ⊢;exact h
 case hop=>
  intro i o L t w' ho hLi hx hdep K hK;have hi:i<16:=(Array.getElem?_eq_some_iff.1 ho).1;obtain rfl|rfl|rfl|rfl|rfl|rfl|rfl|rfl|rfl|rfl|rfl|rfl|rfl|rfl|rfl|rfl:i=0∨i=1∨i=2∨i=3∨i=4∨i=5∨i=6∨i=7∨i=8∨i=9∨i=10∨i=11∨i=12∨i=13∨i=14∨i=15:=by omega
  all_goals(simp at ho;subst ho)
  all_goals try(have hK':=hK w' _ rfl (hx.step (fun _ _ _ b h=>h.below b) _ (by decide) _ (Below.refl _ _) (fun h=>absurd h (by decide))) (by rw[if_neg (by decide)];exact(Below.refl _ _));clear hK;simp[Region.binds] at hdep;rw[if_pos (by rfl)];go_simp;simpa[upd,hdep] using hK';done)
  ·clear hdep;have hsz:w.heap.size+2≤w'.heap.size:=by have:=hx.lt;omega
   have bb:Below w'.heap.size w' (w'.alloc (.cells #[] 2)):=(Below.refl _ _).alloc (Nat.le_refl _) _;have hK':=hK (w'.alloc (.cells #[] 2)) (.slice (some ⟨w'.heap.size,0,none⟩) 0 0) (by simpa using EmS.new 2 w' hsz) (hx.step (fun _ _ _ b h=>h.below b) 0 (by decide) _ bb (fun h=>absurd h (by decide))) (by rw[if_neg (by decide)];exact bb);clear hK bb;rw[if_pos (by rfl)];go_simp;simpa[upd] using hK'
  ·have d1:t 1=.pointer (some ⟨w.heap.size,0,none⟩):=by simpa using(hdep ⟨1,.data⟩ (by simp) rfl).2
   clear hdep;have cc:w'.cell? ⟨w.heap.size,0,none⟩=some (.slice aD nD cD):=by rw[World.cell?_of_block (a:=⟨w.heap.size,0,none⟩) (w:=wb) (hx.ax.below.block _ HWB.out.p1),cell_of_row wb w.heap.size 0 _ _ _ HWB.out.p2];rfl
   have hK':=hK w' (.slice aD nD cD) (by simp) (hx.step (fun _ _ _ b h=>h.below b) 2 (by decide) _ (Below.refl _ _) (fun h=>absurd h (by decide))) (by rw[if_neg (by decide)];exact(Below.refl _ _));clear hK;rw[if_pos (by rfl)];go_simp;simpa[upd,d1] using hK'
  ·have f0:EmS (w.heap.size+2) 2 w' (t 0):=by simpa using(hdep ⟨0,.data⟩ (by simp) rfl).2
   have d2:t 2=.slice aD nD cD:=by simpa using(hdep ⟨2,.data⟩ (by simp) rfl).2
   clear hdep;have hsz:w.heap.size+2≤w'.heap.size:=by have:=hx.lt;omega
   have bw:=HBW.out.trans (hx.ax.below.mono HWB.out.p3);have hK':∀ ww v,IO (w.heap.size+2) ww v D→Below w'.heap.size w' ww→K _ ww:=fun ww v hv hb=>hK ww v (by simpa using hv) (hx.step (fun _ _ _ b h=>h.below b) 3 (by decide) _ hb (fun h=>absurd h (by decide))) (by rw[if_neg (by decide)];exact hb)
   clear hK;rw[if_pos (by rfl)];refine wp_appG 23 2 (.int .i64 0) 1 8 Tryz.infoI64 Tryz.underlying23 rfl (by decide) (by decide) w' (.tmp 3) (.tmp 5) rfl (w.heap.size+2) (t 0) rfl f0 aD nD cD D d2 (by rw[HLN.out.1,Nat.mul_one]) (HAD.out.below bw) mD hsz ?_;intro v' ww h1 h2;have hK2:=hK' ww v' (by unfold IO;rw[HLN.out.1];exact h1) h2;clear hK' h1 h2;simpa[upd,Act.put] using hK2
  ·clear hdep;have hsz:w.heap.size+2≤w'.heap.size:=by have:=hx.lt;omega
   have bb:Below w'.heap.size w' (w'.alloc (.cells #[] 2)):=(Below.refl _ _).alloc (Nat.le_refl _) _;have hK':=hK (w'.alloc (.cells #[] 2)) (.slice (some ⟨w'.heap.size,0,none⟩) 0 0) (by simpa using EmS.new 2 w' hsz) (hx.step (fun _ _ _ b h=>h.below b) 4 (by decide) _ bb (fun h=>absurd h (by decide))) (by rw[if_neg (by decide)];exact bb);clear hK bb;rw[if_pos (by rfl)];go_simp;simpa[upd] using hK'
  ·have d5:t 5=.pointer (some ⟨w.heap.size,1,none⟩):=by simpa using(hdep ⟨5,.data⟩ (by simp) rfl).2
   clear hdep;have cc:w'.cell? ⟨w.heap.size,1,none⟩=some (.slice aU nU cU):=by rw[World.cell?_of_block (a:=⟨w.heap.size,1,none⟩) (w:=wb) (hx.ax.below.block _ HWB.out.p1),cell_of_row wb w.heap.size 1 _ _ _ HWB.out.p2];rfl
   have hK':=hK w' (.slice aU nU cU) (by simp) (hx.step (fun _ _ _ b h=>h.below b) 6 (by decide) _ (Below.refl _ _) (fun h=>absurd h (by decide))) (by rw[if_neg (by decide)];exact(Below.refl _ _));clear hK;rw[if_pos (by rfl)];go_simp;simpa[upd,d5] using hK'
  ·have f4:EmS (w.heap.size+2) 2 w' (t 4):=by simpa using(hdep ⟨4,.data⟩ (by simp) rfl).2
   have d6:t 6=.slice aU nU cU:=by simpa using(hdep ⟨6,.data⟩ (by simp) rfl).2
   clear hdep;have hsz:w.heap.size+2≤w'.heap.size:=by have:=hx.lt;omega
   have bw:=HBW.out.trans (hx.ax.below.mono HWB.out.p3);have hK':∀ ww v,IO (w.heap.size+2) ww v U→Below w'.heap.size w' ww→K _ ww:=fun ww v hv hb=>hK ww v (by simpa using hv) (hx.step (fun _ _ _ b h=>h.below b) 7 (by decide) _ hb (fun h=>absurd h (by decide))) (by rw[if_neg (by decide)];exact hb)
   clear hK;rw[if_pos (by rfl)];refine wp_appG 23 2 (.int .i64 0) 1 8 Tryz.infoI64 Tryz.underlying23 rfl (by decide) (by decide) w' (.tmp 7) (.tmp 9) rfl (w.heap.size+2) (t 4) rfl f4 aU nU cU U d6 (by rw[HLN.out.2.1,Nat.mul_one]) (HAU.out.below bw) mU hsz ?_;intro v' ww h1 h2;have hK2:=hK' ww v' (by unfold IO;rw[HLN.out.2.1];exact h1) h2;clear hK' h1 h2;simpa[upd,Act.put] using hK2
  ·have d8:t 8=.pointer (some ⟨w.heap.size,2,none⟩):=by simpa using(hdep ⟨8,.data⟩ (by simp) rfl).2
   clear hdep;have cc:w'.cell? ⟨w.heap.size,2,none⟩=some (.int .i64 k):=by rw[World.cell?_of_block (a:=⟨w.heap.size,2,none⟩) (w:=wb) (hx.ax.below.block _ HWB.out.p1),cell_of_row wb w.heap.size 2 _ _ _ HWB.out.p2];rfl
   have hK':=hK w' (.int .i64 k) (by simp) (hx.step (fun _ _ _ b h=>h.below b) 9 (by decide) _ (Below.refl _ _) (fun h=>absurd h (by decide))) (by rw[if_neg (by decide)];exact(Below.refl _ _));clear hK;rw[if_pos (by rfl)];go_simp;simpa[upd,d8] using hK'
  ·clear hdep;have hsz:w.heap.size+2≤w'.heap.size:=by have:=hx.lt;omega
   have bb:Below w'.heap.size w' (w'.alloc (.cells #[] 70)):=(Below.refl _ _).alloc (Nat.le_refl _) _;have hK':=hK (w'.alloc (.cells #[] 70)) (.slice (some ⟨w'.heap.size,0,none⟩) 0 0) (by simpa using EmS.new 70 w' hsz) (hx.step (fun _ _ _ b h=>h.below b) 10 (by decide) _ bb (fun h=>absurd h (by decide))) (by rw[if_neg (by decide)];exact bb);clear hK bb;rw[if_pos (by rfl)];go_simp;simpa[upd] using hK'
  ·have d11:t 11=.pointer (some ⟨w.heap.size,3,none⟩):=by simpa using(hdep ⟨11,.data⟩ (by simp) rfl).2
   clear hdep;have cc:w'.cell? ⟨w.heap.size,3,none⟩=some (.slice aT nT cT):=by rw[World.cell?_of_block (a:=⟨w.heap.size,3,none⟩) (w:=wb) (hx.ax.below.block _ HWB.out.p1),cell_of_row wb w.heap.size 3 _ _ _ HWB.out.p2];rfl
   have hK':=hK w' (.slice aT nT cT) (by simp) (hx.step (fun _ _ _ b h=>h.below b) 12 (by decide) _ (Below.refl _ _) (fun h=>absurd h (by decide))) (by rw[if_neg (by decide)];exact(Below.refl _ _));clear hK;rw[if_pos (by rfl)];go_simp;simpa[upd,d11] using hK'
  ·have f10:EmS (w.heap.size+2) 70 w' (t 10):=by simpa using(hdep ⟨10,.data⟩ (by simp) rfl).2
   have d12:t 12=.slice aT nT cT:=by simpa using(hdep ⟨12,.data⟩ (by simp) rfl).2
   clear hdep;have hsz:w.heap.size+2≤w'.heap.size:=by have:=hx.lt;omega
   have bw:=HBW.out.trans (hx.ax.below.mono HWB.out.p3);have hK':∀ ww v,TapO (w.heap.size+2) ww v T nT→Below w'.heap.size w' ww→K _ ww:=fun ww v hv hb=>hK ww v (by simpa using hv) (hx.step (fun _ _ _ b h=>h.below b) 13 (by decide) _ hb (fun h=>absurd h (by decide))) (by rw[if_neg (by decide)];exact hb)
   clear hK;rw[if_pos (by rfl)];refine wp_appG 24 70 (.agg #[.int .i64 0,.int .i64 0]) 2 16 Tryz.infoTap Tryz.underlying24 rfl (by decide) (by decide) w' (.tmp 13) (.tmp 15) rfl (w.heap.size+2) (t 10) rfl f10 aT nT cT T d12 HLN.out.2.2 (HAT.out.below bw) mT hsz ?_;intro v' ww h1 h2;have hK2:=hK' ww v' h1 h2;clear hK' h1 h2;simpa[upd,Act.put] using hK2
  ·have f3:IO (w.heap.size+2) w' (t 3) D:=by simpa using(hdep ⟨3,.data⟩ (by simp) rfl).2
   have f7:IO (w.heap.size+2) w' (t 7) U:=by simpa using(hdep ⟨7,.data⟩ (by simp) rfl).2
   have d9:t 9=.int .i64 k:=by simpa using(hdep ⟨9,.data⟩ (by simp) rfl).2
   have f13:TapO (w.heap.size+2) w' (t 13) T nT:=by simpa using(hdep ⟨13,.data⟩ (by simp) rfl).2
   clear hdep;obtain⟨aD',nD',cD',d3⟩:=f3.form;obtain⟨aU',nU',cU',d7⟩:=f7.form;obtain⟨aT',cT',d13⟩:=f13.tapV.slice;rw[d3] at f3;rw[d7] at f7;rw[d13] at f13;have hK':=hK w' (.agg #[.slice aD' nD' cD',.slice aU' nU' cU',.int .i64 k,.slice aT' nT cT']) (by simpa using⟨_,rfl,aD',nD',cD',aU',nU',cU',aT',cT',rfl,f3,f7,f13⟩) (hx.step (fun _ _ _ b h=>h.below b) 14 (by decide) _ (Below.refl _ _) (fun h=>absurd h (by decide))) (by rw[if_neg (by decide)];exact(Below.refl _ _));clear hK f3 f7 f13;rw[if_pos (by rfl)];go_simp;simpa[upd,d3,d7,d9,d13] using hK'
  ·have f14:CpBd (w.heap.size+2) k D U T nT w' (t 14):=by simpa using(hdep ⟨14,.data⟩ (by simp) rfl).2
   clear hdep;obtain⟨cs,e9,aD',nD',cD',aU',nU',cU',aT',cT',rfl,f3,f7,f13⟩:=f14;have hrs:=hx.pre hLi;have hK':∀ ww,Wr (w.heap.size+1) w' ww→ww.heap[w.heap.size+1]?=some (.cells #[.slice aD' nD' cD',.slice aU' nU' cU',.int .i64 k,.slice aT' nT cT'] 26 (0,0))→K _ ww:=fun ww hw hr=>hK ww undef (by simp[updK]) (hx.put HWB.out.p4 (by decide) _ hw hr ⟨aD',nD',cD',aU',nU',cU',aT',cT',rfl,f3.wr hw (by omega),f7.wr hw (by omega),f13.wrk hw (by omega)⟩) (by rw[if_pos rfl];exact hw)
   clear hK f3 f7 f13;rw[if_pos (by rfl)];refine wp_store_row 26 (.tmp 2) (.tmp 17) rfl (w.heap.size+1) _ rfl e9 26 _ hrs HSZ.out rfl (by simp[Value.oneCell']) ?_;have hK2:=hK' _ (Wr.setRow _ _ _) (setRow_heap _ _ _ _ _ _ hrs);clear hK';simpa[upd,Act.put] using hK2
 case hdone=>
  intro L t w' hx hg;have l15:L 15=true:=by simpa using hg 15 (by decide)
  clear hg;obtain⟨cs,hr,hfin⟩:=hx.fin l15;have HR9:=hdI <| hr
  have HF:Hid (CpFin w.heap.size k D U T nT w' cs∧Below w.heap.size w w'):=⟨hfin.mono (by omega),HBW.out.trans (hx.ax.below.mono HWB.out.p3)⟩
  have HS4:Hid ((Tryz.prog.info? 26).map (·.size)=some cs.size):=by
   obtain⟨aD',nD',cD',aU',nU',cU',aT',cT',e,_⟩:=hfin;rw[e];exact HSZ.out
  clear hx hr hfin;go_wp2_with fail;exact bodyPost_ret (v:=.agg cs) (results_cell_row rfl _ _ (w.heap.size+1) 26 _ (0,0) _ rfl HR9.out Tryz.underlying26 rfl HS4.out) rfl ⟨cs,rfl,HF.out.1,HF.out.2⟩
theorem i64_or_nat (a b:Nat) (ha:a<4611686018427387904) (hb:b<4611686018427387904):bits .or .i64 (a:Int) (b:Int)=((a ||| b:Nat):Int):=by
 have hx:a ||| b<2^62:=Nat.or_lt_two_pow (by omega) (by omega);show IntKind.i64.wrap ((BitVec.ofInt 64 (a:Int) ||| BitVec.ofInt 64 (b:Int)).toNat:Int)=_
 rw[BitVec.toNat_or,ofInt_u64 a (by omega),ofInt_u64 b (by omega),IntKind.wrap_i64];omega
theorem i64_or_add (a b:Int) (k:Nat) (ha:0≤a) (ha':a<4611686018427387904) (hb:0≤b) (hb':b<2^k) (hb'':b<4611686018427387904) (q:Int) (hd:a=q*2^k):bits .or .i64 b a=b+a:=by
 have h:=u64_or_add a b k ha (by omega) hb hb' (by omega) q hd;obtain⟨a,rfl⟩:=Int.eq_ofNat_of_zero_le ha;obtain⟨b,rfl⟩:=Int.eq_ofNat_of_zero_le hb;rw[u64_or_nat a b (by omega) (by omega)] at h;rw[i64_or_nat b a (by omega) (by omega),Nat.or_comm];omega
theorem le_step (v x:Int) (j:Nat) (hj:j<7) (h0:0≤v) (h1:v<256^j) (x0:0≤x) (x1:x<256) :
  bits .or .i64 v (wrap64 (x*2^(8*j)))=v+x*256^j:=by
 have e:(2:Int)^(8*j)=256^j:=by rw[Int.pow_mul];rfl
 have hle:(256:Int)^j≤256^6:=by
  have:j=0∨j=1∨j=2∨j=3∨j=4∨j=5∨j=6:=by omega
  rcases this with h|h|h|h|h|h|h<;>rw[h]<;>decide
 have hP0:(0:Int)<256^j:=Int.pow_pos (by decide);have e7:(256:Int)^6=281474976710656:=by decide
 rw[e7] at hle;have m0:0≤x*256^j:=Int.mul_nonneg x0 (by omega);have m1:x*256^j≤255*256^j:=Int.mul_le_mul_of_nonneg_right (by omega) (by omega);rw[e];unfold wrap64;have e2:(x*256^j+9223372036854775808)%18446744073709551616-9223372036854775808=x*256^j:=by omega
 rw[e2];exact i64_or_add _ _ (8*j) m0 (by omega) h0 (by rw[e];exact h1) (by omega) x (by rw[e])
set_option maxHeartbeats 400000 in
theorem le_any (a:Option Addr) (n cap:Nat) (zs:List Int) (w:World) (hn:zs.length=n) (hm:n≤7) (ha:At .u8 w a zs) (hz:Byte zs) :
  Calls Tryz.prog 101 #[.slice a n cap] w fun e w'=>e=.returned (.int .i64 (val 256 zs))∧w'=w:=by
 go_enter Tryz.func101,Tryz.ntmps101;go_wp2
 go_loop [3,8] (fun c i=>∃ k:Nat,k≤n∧i=.int .i64 k∧c=.int .i64 (val 256 (zs.take k))) (fun _ i=>n-(intOf i).toNat)
 case atStart=>exact⟨0,Nat.zero_le _,rfl,rfl⟩
 case round=>
  obtain⟨k,hk,rfl,rfl⟩:=hrel;by_cases hlt:k<n
  ·obtain⟨b,off,rfl,hb,hc⟩:=ha.get (by omega);have hck:=hc k (by omega);have hx:=hz.get k;have ht0:0≤val 256 (zs.take k):=val_nonneg (by decide) (fun z hz'=>hz z (List.mem_of_mem_take hz'));have ht1:val 256 (zs.take k)<256^k:=by
    have:=val_lt (B:=256) (by decide) (xs:=zs.take k) (fun z hz'=>hz z (List.mem_of_mem_take hz'))
    rwa [List.length_take,Nat.min_eq_left (by omega)] at this
   have hs:=le_step _ _ k (by omega) ht0 ht1 hx.1 hx.2;rw[←val_take 256 zs k (by omega)] at hs;have HS:Hid (bits .or .i64 (val 256 (zs.take k)) (wrap64 (zs.getD k 0*2^(8*k)))=val 256 (zs.take (k+1))):=hs;clear hs hc ht0 ht1;generalize zs.getD k 0=x at *;generalize val 256 (zs.take k)=c at *;obtain⟨hx0,hx1⟩:=hx;go_wp2
   go_round
   case rel=>exact⟨k+1,by omega,by go_num,by rw[←HS.out]⟩
   case measure=>simp[intOf];omega
  ·have hk':k=n:=by omega
   subst hk';have HT:Hid (zs.take k=zs):=List.take_of_length_le (by omega);go_wp2
   go_ret
   exact⟨ret_int (by rw[HT.out]),rfl⟩
end Go.Proofs.YtncomnkdlpoelaaGreatDoor
