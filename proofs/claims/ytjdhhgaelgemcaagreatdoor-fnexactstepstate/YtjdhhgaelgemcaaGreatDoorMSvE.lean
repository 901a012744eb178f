import Derived.Test.YtjdhhgaelgemcaaGreatDoorMApx
import Derived.Test.YtjdhhgaelgemcaaGreatDoorMSvM
import Derived.Test.YtjdhhgaelgemcaaGreatDoorMOwnB
import Derived.Test.YtjdhhgaelgemcaaGreatDoorMSAf
import Derived.Test.YtjdhhgaelgemcaaGreatDoorMReg
import Derived.Test.YtjdhhgaelgemcaaGreatDoorMSvB
import Derived.Maps.AppendAt
namespace Go.Proofs.YtjdhhgaelgemcaaGreatDoor
open Go.ChangeShapes Go.WideShapes Go.ChangeAt Go.RowKit
set_option linter.unusedVariables false
set_option maxHeartbeats 400000 in
theorem toI_any (a:Option Addr) (n cap:Nat) (zs:List Int) (w:World) (hn:zs.length=n) (hm:n≤1048576) (ha:At .i64 w a zs) :
  Calls Tryz.prog 27 #[.slice a n cap] w fun e w'=>e=.returned (.slice (some ⟨w.heap.size,0,none⟩) n n)∧
   w'.ownsRow w.heap.size 2 1 (.slice (some ⟨w.heap.size,0,none⟩) n n) n (zs.map (Value.int .i64))∧Below w.heap.size w w':=by
 obtain⟨i0,hi,hz0,hz1,hz2⟩:=info_parts Tryz.infoI64;have HI:Hid (i0.bytes=8):=hz2;clear hz2;go_enter Tryz.func27,Tryz.ntmps27;go_wp2_with (first
  |(at_make;refine wpList_make_full _ rfl _ _ 22 rfl w.heap.size 2 i0 (.int .i64 0) 1 Tryz.underlying22 hi hz0 hz1 _ _ _ _ n rfl rfl rfl rfl ?c1 ?c2 ?c3 ?_)
  |fail)
 case c1=>rw[HI.out];omega
 case c2=>unfold maxLen;omega
 case c3=>exact Nat.le_refl _
 intro w1 hown hgrow;have hb1:Below w.heap.size w w1:=(Below.refl _ _).grown hgrow (Nat.le_refl _) (by simp);have hown0:w1.ownsRow w.heap.size 2 1 (.slice (some ⟨w.heap.size,0,none⟩) n n) n ((cp zs 0).map (Value.int .i64)):=by
  have e:(madeCells #[Value.int IntKind.i64 0] n).toList=(cp zs 0).map (Value.int .i64):=by
   rw[cp_zero];simp only[toList_madeCells_one,List.map_replicate,hn]
  rw[←e];exact hown
 clear hown hgrow;go_wp2
 go_loopw [4] (fun i wr=>∃ k:Nat,k≤n∧i=.int .i64 k∧wr.ownsRow w.heap.size 2 1 (.slice (some ⟨w.heap.size,0,none⟩) n n) n ((cp zs k).map (Value.int .i64))∧Below w.heap.size w wr) (fun i _=>n-(intOf i).toNat)
 case atStart=>exact⟨0,Nat.zero_le _,rfl,hown0,hb1⟩
 case round=>
  obtain⟨k,hk,rfl,hown,hbel⟩:=hrel;by_cases hlt:k<n
  ·obtain⟨b,off,rfl,hb,hc⟩:=ha.get (by omega);have hck:wr.cell? ⟨b,off+k,none⟩=some (.int .i64 (zs.getD k 0)):=by rw[hbel.cell (p:=⟨b,off+k,none⟩) hb];exact hc k (by omega)
   have hst:=hown.stored k (.int .i64 (zs.getD k 0));have hmem:wr.cell? ⟨w.heap.size,k,none⟩=some (.int .i64 ((cp zs k).getD k 0)):=by
    rw[hown.cellAt k (by omega)];have:=cp_len zs k (by omega);simp[show k<(cp zs k).length by omega]
   have hfz:=hown.frozenAt k;rw[←List.map_set,cp_succ zs k (by omega)] at hst;have HX:=hst.1;have HB:Below w.heap.size w (wr.setCell ⟨w.heap.size,k,none⟩ (.int .i64 (zs.getD k 0))):=hbel.setCell (Nat.le_refl _) _;clear hst hown hc ha hbel hown0 hb1;generalize zs.getD k 0=x at *;generalize (cp zs k).getD k 0=y at *;have HXX:Hid _:=HX;have HBB:Hid _:=HB;clear HX HB;go_wp2;go_roundw
   case rel=>exact⟨k+1,by omega,by go_num,HXX.out,HBB.out⟩
   case measure=>simp[intOf];omega
  ·have hkn:k=zs.length:=by omega
   have HO:Hid (wr.ownsRow w.heap.size 2 1 (.slice (some ⟨w.heap.size,0,none⟩) n n) n (zs.map (Value.int .i64))):=by rw[hkn,cp_all] at hown;exact hown
   clear hown;go_wp2
   go_ret
   exact⟨rfl,HO.out,hbel⟩
set_option maxHeartbeats 400000 in
theorem szI_any (a:Option Addr) (n cap:Nat) (left:Int) (w:World) (h0:0≤left) (h1:left≤1048576) (hn:n≤9223372036854775807) :
  Calls Tryz.prog 20 #[.slice a n cap,.int .i64 left] w fun e w'=>e=.returned (.int .i64 (szQ left n))∧w'=w:=by
 have HZ:Hid (szQ left n=if left<n then -1 else left-n):=rfl;by_cases h:left<n
 ·have t:left-(n:Int)<0:=by omega
  go_enter Tryz.func20,Tryz.ntmps20;go_wp2
  go_ret
  exact⟨ret_int (by rw[HZ.out,if_pos h]),rfl⟩
 ·have t:¬ (left-(n:Int)<0):=by omega
  go_enter Tryz.func20,Tryz.ntmps20;go_wp2
  go_ret
  exact⟨ret_int (by rw[HZ.out,if_neg (by omega)]),rfl⟩
set_option maxHeartbeats 400000 in
theorem szT_any (a:Option Addr) (n cap:Nat) (left:Int) (w:World) (h0:0≤left) (h1:left≤1048576) (hn:n≤9223372036854775807) :
  Calls Tryz.prog 21 #[.slice a n cap,.int .i64 left] w fun e w'=>e=.returned (.int .i64 (szQ left n))∧w'=w:=by
 have HZ:Hid (szQ left n=if left<n then -1 else left-n):=rfl;by_cases h:left<n
 ·have t:left-(n:Int)<0:=by omega
  go_enter Tryz.func21,Tryz.ntmps21;go_wp2
  go_ret
  exact⟨ret_int (by rw[HZ.out,if_pos h]),rfl⟩
 ·have t:¬ (left-(n:Int)<0):=by omega
  go_enter Tryz.func21,Tryz.ntmps21;go_wp2
  go_ret
  exact⟨ret_int (by rw[HZ.out,if_neg (by omega)]),rfl⟩
def blks (zs:List Int):Nat→List Int
 |0=>ivL
 |k+1=>mixL (blks zs k) (blkOf (zs.drop (128*k)))
theorem blks_w8 (zs:List Int) (k:Nat):W8 (blks zs k):=by
 cases k with
 |zero=>exact ivL_w8
 |succ k=>exact mixL_w8 _ _
def shaL (zs:List Int):List Int:=txtW (finL (blks zs (zs.length/128)) (zs.drop (128*(zs.length/128))) zs.length)
theorem finL_w8 (hs zs:List Int) (n:Int):W8 (finL hs zs n):=by
 unfold finL;split
 ·exact mixL_w8 _ _
 ·exact mixL_w8 _ _
structure KS (w:World) (G:Nat) (hs:List Int) (y:World):Prop where
 wds:RowW y G 173 hs
 tab:TabIn y
 below:Below w.heap.size w y
 hi:w.heap.size≤G
theorem KS.frg {w:World} {G:Nat} {hs hs':List Int} {y y':World} (h:KS w G hs y) (hz:1<w.heap.size) (hf:FrG G y y') (hr:RowW y' G 173 hs'):KS w G hs' y':=by
 have:=h.hi;exact⟨hr,h.tab.frg (fun k hk e=>hf.block k hk (by omega)),h.below.trans (hf.below h.hi h.below.size),h.hi⟩
theorem KS.new {w:World} {G:Nat} {hs:List Int} {y y':World} (h:KS w G hs y) (hz:1<w.heap.size) (hb:Below y.heap.size y y'):KS w G hs y':=
 ⟨h.wds.below hb h.wds.lt,h.tab.frg (fun k hk _=>hb.block k hk),h.below.trans (hb.mono h.below.size),h.hi⟩
theorem Own.lower {w:World} {B B':Nat} {v:Value} {zs:List Int} (h:Own w B' v zs) (hB:B≤B'):Own w B v zs:=by
 obtain⟨⟨h1,h2⟩,h3⟩:=h;refine⟨⟨h1,?_⟩,h3⟩;rcases h2 with h|⟨g,cap,cur,e,hg,r⟩
 ·exact .inl h
 ·exact .inr ⟨g,cap,cur,e,Nat.le_trans hB hg,r⟩
set_option maxRecDepth 100000 in
set_option maxHeartbeats 2000000 in
theorem shaI_any (a:Option Addr) (n cap:Nat) (zs:List Int) (w:World) (hn:zs.length=n) (ha:At .u8 w a zs) (hz:Byte zs) (hm:n≤2097152) (hcap:n≤cap) (hT:TabIn w) (h0:1<w.heap.size) :
  Calls Tryz.prog 107 #[.slice a n cap] w fun e w'=>∃ v,e=.returned v∧Own w' w.heap.size v (shaL zs)∧Below w.heap.size w w':=by
 have z1:=zvBlk;have z2:=zsBlk;have z3:=znBlk;have A:=hid_ofS (first_any w hT h0);have HT:=hid_ofS hT;have HA:=hid_ofS ha;have HZ:=hid_ofS hz;have HN:=hid_ofS hn;clear hn ha hz hT;go_enter Tryz.func107,Tryz.ntmps107;go_wp2_with fail;refine A.out.mono ?_;rintro e w1 ⟨rfl,b1⟩;have HB1:=hid_ofS b1;clear A b1;have HZN:Hid (RowW (w1.alloc (.cells #[.int .u64 0,.int .u64 0,.int .u64 0,.int .u64 0,.int .u64 0,.int .u64 0,.int .u64 0,.int .u64 0] 173)) w1.heap.size 173 [0,0,0,0,0,0,0,0]):=heap_alloc_new w1 _;have HAL:Hid (Below w1.heap.size w1 (w1.alloc (.cells #[.int .u64 0,.int .u64 0,.int .u64 0,.int .u64 0,.int .u64 0,.int .u64 0,.int .u64 0,.int .u64 0] 173))):=(Below.refl _ _).alloc (Nat.le_refl _) _;have HL:=hid_ofS ivL_w8.1;go_wp2_with (first
  |(refine wpList_storeW rfl (.tmp 3) (.tmp 6) rfl Tryz.sizeWds w1.heap.size ivL [0,0,0,0,0,0,0,0] rfl rfl HL.out rfl HZN.out ?_)
  |fail)
 intro w2 hr2 hw2;have hs1:=HB1.out.size;have HK:Hid (KS w w1.heap.size (blks zs 0) w2):=⟨hr2,((HT.out.frg (fun k hk _=>HB1.out.block k hk)).frg (fun k hk _=>HAL.out.block k hk)).frg (fun k _ e=>hw2.block k (by omega)),(HB1.out.trans (HAL.out.mono hs1)).trans (hw2.below hs1),hs1⟩
 clear hr2 hw2 HB1 HAL HZN HL HT;go_wp2
 go_loopw [4] (fun v wr=>∃(k:Nat) (a':Option Addr) (c':Nat),128*k≤n∧v=.slice a' (n-128*k) c'∧n-128*k≤c'∧At .u8 w a' (zs.drop (128*k))∧KS w w1.heap.size (blks zs k) wr) (fun v _=>lenOf v)
 case atStart=>exact⟨0,a,cap,by omega,rfl,by omega,HA.out,HK.out⟩
 case round=>
  clear HK;obtain⟨k,a',c',hk,rfl,hc',ha',hst⟩:=hrel;have HK:=hid_ofS hst;have HA':=hid_ofS ha';have hlen:(zs.drop (128*k)).length=n-128*k:=by rw[List.length_drop,HN.out]
  have HBY:Hid (Byte (zs.drop (128*k))):=fun z h=>HZ.out z (List.mem_of_mem_drop h)
  have HDL:=hid_ofS hlen;clear hst ha' hlen;by_cases hge:128≤n-128*k
  ·have hge':(128:Int)≤((n-128*k:Nat):Int):=by omega
   have HBL:Hid (blks zs (k+1)=mixL (blks zs k) (blkOf (zs.drop (128*k)))):=rfl;obtain⟨b,off,rfl,hb0,hcc⟩:=HA'.out.get (by rw[HDL.out];omega);have HN2:Hid (n-128*(k+1)=n-128*k-128):=by show _=_;omega
   have HD2:Hid (zs.drop (128*(k+1))=(zs.drop (128*k)).drop 128):=by show _=_;rw[List.drop_drop];congr 1
   have HK1:Hid (128*(k+1)≤n):=by show _≤_;omega
   have HCC:=hid_ofS hcc;clear hcc;obtain⟨m,hm'⟩:∃ m,m=n-128*k:=⟨_,rfl⟩
   rw[←hm'] at HN2 HDL hge hge' hc' ⊢;have hmm:m≤2097152:=by omega
   clear hm';have B:=hid_ofS (blk_any (some ⟨b,off,none⟩) m c' (zs.drop (128*k)) wr HDL.out (HA'.out.below HK.out.below) hmm);go_wp2_with fail;refine B.out.mono ?_;rintro e w3 ⟨rfl,b3⟩;have HK3:=hid_ofS (HK.out.new h0 b3);clear b3 B HK;have HZN:Hid (Row (w3.alloc (.cells zBlk 176)) w3.heap.size 176 (List.replicate 128 0)):=by show _=_;rw[heap_alloc_new,zcBlk]
   have HAL:Hid (Below w3.heap.size w3 (w3.alloc (.cells zBlk 176))):=(Below.refl _ _).alloc (Nat.le_refl _) _;have HLB:=hid_ofS (blkOf_len (zs.drop (128*k)));go_wp2_with (first
    |(refine wpList_storeB rfl (.tmp 5) (.tmp 12) rfl Tryz.sizeBlk w3.heap.size (blkOf (zs.drop (128*k))) (List.replicate 128 0) rfl rfl HLB.out (by simp) HZN.out ?_)
    |fail)
   intro w4 hr4 hw4;have hlt3:=HK3.out.wds.lt;have hsz3:=HK3.out.below.size;have hz3:=HK3.out.hi;have b34:Below w3.heap.size w3 w4:=HAL.out.trans (hw4.below (Nat.le_refl _));have HK4:=hid_ofS (HK3.out.new h0 b34);have HG0:Hid (w1.heap.size≠1):=by show ¬ _;omega
   have C:=hid_ofS (mix_any w1.heap.size w3.heap.size (blks zs k) (blkOf (zs.drop (128*k))) w4 HK4.out.wds (blks_w8 _ _) hr4 HLB.out (blkOf_byte HBY.out) HK4.out.tab HG0.out);clear hr4 hw4 b34 HK3 HZN HAL;go_wp2_with fail;refine C.out.mono ?_;rintro e w5 ⟨rfl,r5,b5⟩;have HK5:Hid (KS w w1.heap.size (blks zs (k+1)) w5):=by rw[HBL.out];exact HK4.out.frg h0 b5 r5
   clear r5 b5 C HK4;go_wp2;refine⟨⟨k+1,_,c'-128,HK1.out,by rw[HN2.out],by rw[HN2.out];omega,?_,HK5.out⟩,by show m-128<m;omega⟩;rw[HD2.out];by_cases hcc:c'=128
   ·exact .inl (List.eq_nil_of_length_eq_zero (by rw[List.length_drop,HDL.out];omega))
   ·rw[if_neg hcc];refine .inr ⟨b,off+128,rfl,hb0,fun i hi=>?_⟩;rw[List.length_drop] at hi;rw[Nat.add_assoc,HCC.out (128+i) (by omega),List.getD_eq_getElem?_getD,List.getD_eq_getElem?_getD,List.getElem?_drop,List.getElem?_drop,List.getElem?_drop]
  ·have hge':¬ ((128:Int)≤((n-128*k:Nat):Int)):=by omega
   have HQ:Hid (shaL zs=txtW (finL (blks zs k) (zs.drop (128*k)) (n:Int))):=by
    show _=_
    unfold shaL;rw[HN.out,show n/128=k by omega]
   have HUN:Hid (U64 (n:Int)):=⟨by omega,by omega⟩
   have HG0:Hid (w1.heap.size≠1):=by show ¬ _;omega
   obtain⟨m,hm'⟩:∃ m,m=n-128*k:=⟨_,rfl⟩
   rw[←hm'] at HDL hge hge' hc' ⊢;have hmm:m<128:=by omega
   clear hm';have B:=hid_ofS (fin_any w1.heap.size (blks zs k) a' m c' (zs.drop (128*k)) (n:Int) wr HK.out.wds (blks_w8 _ _) HDL.out (HA'.out.below HK.out.below) HBY.out hmm HK.out.tab HG0.out HUN.out);go_wp2_with fail;refine B.out.mono ?_;rintro e w3 ⟨rfl,r3,b3⟩;have HK3:Hid (KS w w1.heap.size (finL (blks zs k) (zs.drop (128*k)) n) w3):=HK.out.frg h0 b3 r3;clear r3 b3 B HK;have C:=hid_ofS (textI_any w1.heap.size _ w3 HK3.out.wds (finL_w8 _ _ _));go_wp2_with fail;refine C.out.mono ?_;rintro e w4 ⟨v,rfl,o4,b4⟩;have HO:Hid (Own w4 w.heap.size v (shaL zs)):=by rw[HQ.out];exact o4.lower HK3.out.below.size
   have HB:Hid (Below w.heap.size w w4):=HK3.out.below.trans (b4.mono HK3.out.below.size);clear o4 b4 C HK3;go_wp2
   go_ret
   exact⟨_,rfl,HO.out,HB.out⟩
def ClG (tb:List (Nat×Nat)) (L:Nat→Bool):Prop:=∀ p,p∈tb→L p.1=true→L p.2=true
theorem updK_neO (L:Nat→Bool) {i j:Nat} (h:j≠i):updK L i j=L j:=by unfold updK;rw[if_neg h]
theorem updK_self (L:Nat→Bool) (i:Nat):updK L i i=true:=by unfold updK;rw[if_pos rfl]
theorem upd_ne (u:Nat→Value) {i j:Nat} (v:Value) (h:j≠i):upd u i v j=u j:=by unfold upd;rw[if_neg h]
theorem upd_self (u:Nat→Value) (i:Nat) (v:Value):upd u i v i=v:=by unfold upd;rw[if_pos rfl]
theorem ClG.step {tb:List (Nat×Nat)} {L:Nat→Bool} (h:ClG tb L) (i:Nat) (hd:∀ p,p∈tb→p.1=i→L p.2=true):ClG tb (updK L i):=by
 intro p hp h1;have hu:∀ k,L k=true→updK L i k=true:=fun k hk=>by unfold updK;split<;>simp[hk]
 by_cases e:p.1=i
 ·exact hu _ (hd p hp e)
 ·rw[updK_neO L e] at h1;exact hu _ (h p hp h1)
theorem ClG.back {tb:List (Nat×Nat)} {L:Nat→Bool} (h:ClG tb L) {a b:Nat} (hp:(a,b)∈tb) (hb:L b=false):L a=false:=by
 cases ha:L a with
 |false=>rfl
 |true=>have:=h _ hp ha;rw[hb] at this;cases this
theorem ClG.none {tb:List (Nat×Nat)} {L:Nat→Bool} (h:∀ i,L i=false):ClG tb L:=fun p _ h1=>by rw[h] at h1;cases h1
structure AC (tb:List (Nat×Nat)) (b a s:Nat) (V0:Value) (W0 W1:World) (Fin:World→Value→Prop) (L:Nat→Bool) (u:Nat→Value) (w':World):Prop where
 cl:ClG tb L
 old:L s=false→u s=V0
 new:L s=true→u s=u a
 ph:(L a=true∧Fin w' (u a))∨(L a=false∧L b=true∧w'=W1)∨(L a=false∧L b=false∧w'=W0)
section
variable {tb:List (Nat×Nat)} {b a s:Nat} {V0:Value} {W0 W1:World} {Fin:World→Value→Prop} {L:Nat→Bool} {u:Nat→Value} {w':World}
theorem AC.start (h:∀ i,L i=false) (hu:u s=V0):AC tb b a s V0 W0 W1 Fin L u W0:=
 ⟨ClG.none h,fun _=>hu,fun h'=>(by rw[h] at h';cases h'),.inr (.inr ⟨h _,h _,rfl⟩)⟩
theorem AC.pure (h:AC tb b a s V0 W0 W1 Fin L u w') (i:Nat) (v:Value) (hb:b≠i) (ha:a≠i) (hs:s≠i) (hd:∀ p,p∈tb→p.1=i→L p.2=true):AC tb b a s V0 W0 W1 Fin (updK L i) (upd u i v) w':=
 ⟨h.cl.step i hd,by rw[updK_neO L hs,upd_ne u v hs];exact h.old,by rw[updK_neO L hs,upd_ne u v hs,upd_ne u v ha];exact h.new,by rw[updK_neO L ha,updK_neO L hb,upd_ne u v ha];exact h.ph⟩
theorem AC.world (h:AC tb b a s V0 W0 W1 Fin L u w') (hb:L b=false) (hp:(a,b)∈tb):w'=W0:=by
 have ha:=h.cl.back hp hb;rcases h.ph with⟨h1,_⟩|⟨_,h1,_⟩|⟨_,_,h1⟩
 ·rw[ha] at h1;cases h1
 ·rw[hb] at h1;cases h1
 ·exact h1
theorem AC.build (h:AC tb b a s V0 W0 W1 Fin L u w') (v:Value) (hLb:L b=false) (hp:(a,b)∈tb) (ha:a≠b) (hs:s≠b) (hd:∀ p,p∈tb→p.1=b→L p.2=true):AC tb b a s V0 W0 W1 Fin (updK L b) (upd u b v) W1:=
 ⟨h.cl.step b hd,by rw[updK_neO L hs,upd_ne u v hs];exact h.old,by rw[updK_neO L hs,upd_ne u v hs,upd_ne u v ha];exact h.new,.inr (.inl ⟨by rw[updK_neO L ha];exact h.cl.back hp hLb,updK_self L b,rfl⟩)⟩
theorem AC.mid (h:AC tb b a s V0 W0 W1 Fin L u w') (hb:L b=true) (ha:L a=false):w'=W1:=by
 rcases h.ph with⟨h1,_⟩|⟨_,_,h1⟩|⟨_,h1,_⟩
 ·rw[ha] at h1;cases h1
 ·exact h1
 ·rw[hb] at h1;cases h1
theorem AC.app (h:AC tb b a s V0 W0 W1 Fin L u w') {v:Value} {w9:World} (hF:Fin w9 v) (hLa:L a=false) (hp:(s,a)∈tb) (hs:s≠a) (hd:∀ p,p∈tb→p.1=a→L p.2=true):AC tb b a s V0 W0 W1 Fin (updK L a) (upd u a v) w9:=
 have hls:=h.cl.back hp hLa
 ⟨h.cl.step a hd,by rw[updK_neO L hs,upd_ne u v hs];exact h.old,fun h'=>(by rw[updK_neO L hs,hls] at h';cases h'),.inl ⟨updK_self L a,by rw[upd_self];exact hF⟩⟩
theorem AC.asg (h:AC tb b a s V0 W0 W1 Fin L u w') (ha:a≠s) (hb:b≠s) (hd:∀ p,p∈tb→p.1=s→L p.2=true):AC tb b a s V0 W0 W1 Fin (updK L s) (upd u s (u a)) w':=
 ⟨h.cl.step s hd,fun h'=>(by rw[updK_self] at h';cases h'),fun _=>(by rw[upd_self,upd_ne u _ ha]),by rw[updK_neO L ha,updK_neO L hb,upd_ne u _ ha];exact h.ph⟩
theorem AC.fin (h:AC tb b a s V0 W0 W1 Fin L u w') (ha:L a=true) (hs:L s=true):u s=u a∧Fin w' (u a):=by
 refine⟨h.new hs,?_⟩;rcases h.ph with⟨_,h1⟩|⟨h1,_⟩|⟨h1,_⟩
 ·exact h1
 ·rw[ha] at h1;cases h1
 ·rw[ha] at h1;cases h1
end
structure AD (tb:List (Nat×Nat)) (b s:Nat) (V0:Value) (W0 W1:World) (L:Nat→Bool) (u:Nat→Value) (w':World):Prop where
 cl:ClG tb L
 old:L s=false→u s=V0
 ph:(L b=true∧w'=W1)∨(L b=false∧w'=W0)
section
variable {tb:List (Nat×Nat)} {b s:Nat} {V0:Value} {W0 W1:World} {L:Nat→Bool} {u:Nat→Value} {w':World}
theorem AD.start (h:∀ i,L i=false) (hu:u s=V0):AD tb b s V0 W0 W1 L u W0:=⟨ClG.none h,fun _=>hu,.inr ⟨h _,rfl⟩⟩
theorem AD.pure (h:AD tb b s V0 W0 W1 L u w') (i:Nat) (v:Value) (hb:b≠i) (hs:s≠i) (hd:∀ p,p∈tb→p.1=i→L p.2=true):AD tb b s V0 W0 W1 (updK L i) (upd u i v) w':=
 ⟨h.cl.step i hd,by rw[updK_neO L hs,upd_ne u v hs];exact h.old,by rw[updK_neO L hb];exact h.ph⟩
theorem AD.world (h:AD tb b s V0 W0 W1 L u w') (hb:L b=false):w'=W0:=by
 rcases h.ph with⟨h1,_⟩|⟨_,h1⟩
 ·rw[hb] at h1;cases h1
 ·exact h1
theorem AD.build (h:AD tb b s V0 W0 W1 L u w') (v:Value) (hs:s≠b) (hd:∀ p,p∈tb→p.1=b→L p.2=true):AD tb b s V0 W0 W1 (updK L b) (upd u b v) W1:=
 ⟨h.cl.step b hd,by rw[updK_neO L hs,upd_ne u v hs];exact h.old,.inl ⟨updK_self L b,rfl⟩⟩
theorem AD.asg (h:AD tb b s V0 W0 W1 L u w') (v:Value) (hb:b≠s) (hd:∀ p,p∈tb→p.1=s→L p.2=true):AD tb b s V0 W0 W1 (updK L s) (upd u s v) w':=
 ⟨h.cl.step s hd,fun h'=>(by rw[updK_self] at h';cases h'),by rw[updK_neO L hb];exact h.ph⟩
theorem AD.fin (h:AD tb b s V0 W0 W1 L u w') (hb:L b=true):w'=W1:=by
 rcases h.ph with⟨_,h1⟩|⟨h1,_⟩
 ·exact h1
 ·rw[hb] at h1;cases h1
end
theorem wp_appU (w:World) {o:Oper} {a:Act} {K:Act→World→Prop} {Q:Exit→Act→World→Prop} (sx x:Operand)
  (hop:o.op=Op.call { callee:=Callee.builtin Builtin.append,args:=#[sx,x],argTypes:=#[131,131] }) (B:Nat) (v:Value) (xs:List Int) (hs:a.eval sx=v) (hown:OwnU w B v xs)
  (b off m c:Nat) (zs:List Int) (hx:a.eval x=.slice (some ⟨b,off,none⟩) m c) (hl:zs.length=m) (hc:∀ i,i<zs.length→w.cell? ⟨b,off+i,none⟩=some (.int .u64 (zs.getD i 0))) (hm:xs.length+m≤1048576) (hB:B≤w.heap.size)
  (hK:∀ v' w',OwnU w' B v' (xs++zs)→Below B w w'→K (a.put o.dst v') w'):o.wp Tryz.prog a w K Q:=by
 obtain⟨i0,hi,hz0,hz1,hz2⟩:=info_parts ktU.info;have hbase:=hown.base;obtain⟨v',w',hr,h2,h3,h4,h5⟩:=run_append_own_at (P:=Tryz.prog) w B 131 o.type 132 i0 (.int .u64 0) 1 8 Tryz.underlying131 hi hz0 hz1 hz2 rfl (by decide) v xs.length _ hown.1 ⟨b,off,none⟩ m c (zs.map (Value.int .u64)) (by simp[hl]) (by
  intro j u hu;have hj:j<zs.length:=by have:=(List.getElem?_eq_some_iff.1 hu).1;simpa using this
  rw[Addr.add_lit,hc j hj];simp[hj] at hu;simp[hj,hu]) (ints_oneCell _ _) (by unfold maxLen;omega) (by omega) hB
 obtain⟨g,c0,hv,hBg,_,_⟩:=hbase;have hbel:Below B w w':=(Below.refl _ _).grown h3 hB (fun k hk=>by rw[hv] at hk;simp[Value.ownBlock] at hk;omega);have hk:=hK v' w' ⟨by rw[List.map_append,List.length_append,hl];exact h2,by
  rcases h2.2 with⟨h',h''⟩|⟨g',c',cur,h',_⟩
  ·exact absurd (h4.1 h').1 (by rw[hv];simp)
  ·exact⟨g',c',by rw[h',List.length_append,hl]⟩⟩ hbel
 unfold Oper.wp execOp;simp only[hop,resolve,invoke,builtin,Sem.run_bind,Sem.run_pure,Result.andThen_ok,List.map_toArray,List.map_cons,List.map_nil,hs,hx,hr];exact hk
theorem getD_app (xs ys:List Int) (i:Nat):(xs++ys).getD i 0=if i<xs.length then xs.getD i 0 else ys.getD (i-xs.length) 0:=by
 simp only[List.getD_eq_getElem?_getD,List.getElem?_append];split<;>rfl
theorem getD_rep0 (n i:Nat):(List.replicate n (0:Int)).getD i 0=0:=by
 simp only[List.getD_eq_getElem?_getD,List.getElem?_replicate];split<;>rfl
theorem getD_out (xs:List Int) (i:Nat) (h:xs.length≤i):xs.getD i 0=0:=by
 rw[List.getD_eq_getElem?_getD,List.getElem?_eq_none h];rfl
theorem getD_dropI (xs:List Int) (m i:Nat):(xs.drop m).getD i 0=xs.getD (m+i) 0:=by
 simp only[List.getD_eq_getElem?_getD,List.getElem?_drop]
theorem getD_takeI (xs:List Int) (m i:Nat) (h:i<m):(xs.take m).getD i 0=xs.getD i 0:=by
 simp only[List.getD_eq_getElem?_getD,List.getElem?_take,if_pos h]
theorem ext_getD {xs ys:List Int} (n:Nat) (h1:xs.length=n) (h2:ys.length=n) (h:∀ i,i<n→xs.getD i 0=ys.getD i 0):xs=ys:=by
 apply List.ext_getElem (by omega);intro i hi hj;have:=h i (by omega);simpa[List.getD_eq_getElem?_getD,hi,hj] using this
theorem ov8_get (bs:List Int) (o:Nat) (v:Int) (k:Nat) (hk:o+k≤bs.length) (i:Nat) :
  (ov8 bs o v k).getD i 0=if o≤i∧i<o+k then v/2^(56-8*(i-o))%256 else bs.getD i 0:=by
 induction k with
 |zero=>rw[if_neg (by omega)];rfl
 |succ k ih=>
  have ih:=ih (by omega);unfold ov8;by_cases e:i=o+k
  ·rw[e,getD_set_same _ _ _ (by rw[ov8_len];omega),if_pos (by omega),show o+k-o=k by omega]
  ·rw[getD_set_other _ _ _ _ e,ih];by_cases c:o≤i∧i<o+k
   ·rw[if_pos c,if_pos (by omega)]
   ·rw[if_neg c,if_neg (by omega)]
theorem blkOf_get (zs:List Int) (i:Nat) (h:i<128):(blkOf zs).getD i 0=zs.getD i 0:=by
 unfold blkOf;rw[getD_app];split
 ·rw[getD_takeI _ _ _ h]
 ·next c=>rw[getD_rep0,getD_out];rw[List.length_take] at c;omega
theorem mrk_get (zs:List Int) (i:Nat) (h:i<128) (hl:zs.length<128):(mrk zs).getD i 0=if i=zs.length then 128 else zs.getD i 0:=by
 unfold mrk;by_cases e:i=zs.length
 ·rw[e,getD_set_same _ _ _ (by rw[blkOf_len];exact hl),if_pos rfl]
 ·rw[getD_set_other _ _ _ _ e,blkOf_get _ _ h,if_neg e]
theorem lenB_get (bs:List Int) (n:Nat) (hl:bs.length=128) (hn:n≤2097152) (i:Nat) :
  (lenB bs n).getD i 0=if i<112 then bs.getD i 0 else if i<120 then 0 else if i<128 then(by8 (8*(n:Int))).getD (i-120) 0 else 0:=by
 unfold lenB;rw[ov8_get _ _ _ _ (by rw[ov8_len];omega),ov8_get _ _ _ _ (by omega)];have hw:IntKind.u64.wrap ((n:Int)*8)=8*(n:Int):=by rw[IntKind.wrap_u64];omega
 have h61:(n:Int)/2^61=0:=by omega
 rw[hw,h61];by_cases a:i<112
 ·rw[if_neg (by omega),if_neg (by omega),if_pos a]
 ·rw[if_neg a];by_cases b:i<120
  ·rw[if_neg (by omega),if_pos (by omega),if_pos b,Int.zero_ediv];rfl
  ·rw[if_neg b];by_cases c:i<128
   ·rw[if_pos (by omega),if_pos c,by8_get _ _ (by omega)]
   ·rw[if_neg (by omega),if_neg (by omega),if_neg c,getD_out _ _ (by omega)]
theorem padL_len (zs:List Int):(padL zs).length=zs.length+1+padZ zs.length+16:=by
 unfold padL;simp[by8_len];omega
theorem padL_get (zs:List Int) (i:Nat):(padL zs).getD i 0=if i<zs.length then zs.getD i 0 else if i=zs.length then 128 else if i<zs.length+1+padZ zs.length+8 then 0 else(by8 (8*(zs.length:Int))).getD (i-(zs.length+1+padZ zs.length+8)) 0:=by
 unfold padL;rw[getD_app,getD_app,getD_app,getD_app];simp only[List.length_append,List.length_replicate,List.length_cons,List.length_nil,getD_rep0,Nat.zero_add];by_cases a:i<zs.length
 ·rw[if_pos (by omega),if_pos (by omega),if_pos (by omega),if_pos a,if_pos a]
 ·rw[if_neg a,if_neg a];by_cases b:i=zs.length
  ·rw[if_pos (by omega),if_pos (by omega),if_pos (by omega),if_pos b,b,Nat.sub_self];rfl
  ·rw[if_neg b];by_cases c:i<zs.length+1+padZ zs.length+8
   ·rw[if_pos c,if_pos c];split
    ·rw[if_neg (by omega)]
    ·rfl
   ·rw[if_neg c,if_neg c]
def mbl (zs:List Int):Nat→List Int
 |0=>ivL
 |k+1=>mixL (mbl zs k) (((padL zs).drop (128*k)).take 128)
theorem mbl_w8 (zs:List Int) (k:Nat):W8 (mbl zs k):=by
 cases k with
 |zero=>exact ivL_w8
 |succ k=>exact mixL_w8 _ _
def nBl (n:Nat):Nat:=(n+1+padZ n+16)/128
theorem nBl_len (zs:List Int):(padL zs).length=128*nBl zs.length:=by
 have h:=padZ_spec zs.length;rw[padL_len];unfold nBl;omega
theorem pblk_len (zs:List Int) (k:Nat) (h:k<nBl zs.length):(((padL zs).drop (128*k)).take 128).length=128:=by
 rw[List.length_take,List.length_drop,nBl_len];omega
theorem pblk_get (zs:List Int) (k i:Nat) (h:i<128):(((padL zs).drop (128*k)).take 128).getD i 0=(padL zs).getD (128*k+i) 0:=by
 rw[getD_takeI _ _ _ h,getD_dropI]
theorem mbl_lo (zs:List Int) (k:Nat) (h:128*k≤zs.length):mbl zs k=blks zs k:=by
 induction k with
 |zero=>rfl
 |succ k ih=>
  have hs:=padZ_spec zs.length;have hk:k<nBl zs.length:=by unfold nBl;omega
  show mixL (mbl zs k) _=mixL (blks zs k) _
  rw[ih (by omega)]
  congr 1
  refine ext_getD 128 (pblk_len zs k hk) (blkOf_len _) fun i hi=>?_
  rw[pblk_get _ _ _ hi,blkOf_get _ _ hi,getD_dropI,padL_get,if_pos (by omega)]
theorem mbl_fin (zs:List Int) (hn:zs.length≤2097152):mbl zs (nBl zs.length)=finL (blks zs (zs.length/128)) (zs.drop (128*(zs.length/128))) zs.length:=by
 obtain⟨n,hn'⟩:∃ n,n=zs.length:=⟨_,rfl⟩
 obtain⟨q,hq⟩:∃ q,q=n/128:=⟨_,rfl⟩
 rw[←hn',←hq];have hs:=padZ_spec n;have hdl:(zs.drop (128*q)).length=n-128*q:=by rw[List.length_drop,hn']
 have hlo:=mbl_lo zs q (by omega);unfold finL;by_cases c:n-128*q<112
 ·have e:nBl n=q+1:=by unfold nBl;omega
  have eT:n+1+padZ n=128*q+112:=by omega
  rw[if_pos (by omega),e];have e1:((padL zs).drop (128*q)).take 128=lenB (mrk (zs.drop (128*q))) n:=?_
  ·show mixL (mbl zs q) _=_
   rw[hlo,e1]
  refine ext_getD 128 (pblk_len zs q (by rw[←hn',e];omega)) (lenB_len (mrk_len _) _) fun i hi=>?_
  rw[pblk_get _ _ _ hi,lenB_get _ _ (mrk_len _) (by omega),padL_get,←hn',eT];by_cases a:i<112
  ·rw[if_pos a,mrk_get _ _ hi (by omega),hdl,getD_dropI];by_cases b:i<n-128*q
   ·rw[if_pos (by omega),if_neg (by omega)]
   ·rw[if_neg (by omega)];by_cases d:i=n-128*q
    ·rw[if_pos (by omega),if_pos d]
    ·rw[if_neg (by omega),if_pos (by omega),if_neg d,getD_out];omega
  ·rw[if_neg a,if_neg (by omega),if_neg (by omega)];by_cases b:i<120
   ·rw[if_pos b,if_pos (by omega)]
   ·rw[if_neg b,if_neg (by omega),if_pos hi];rw[show 128*q+i-(128*q+112+8)=i-120 by omega]
 ·have e:nBl n=q+2:=by unfold nBl;omega
  have eT:n+1+padZ n=128*q+240:=by omega
  rw[if_neg (by omega),e];have e1:((padL zs).drop (128*q)).take 128=mrk (zs.drop (128*q)):=by
   refine ext_getD 128 (pblk_len zs q (by rw[←hn',e];omega)) (mrk_len _) fun i hi=>?_
   rw[pblk_get _ _ _ hi,padL_get,←hn',eT,mrk_get _ _ hi (by omega),hdl,getD_dropI];by_cases b:i<n-128*q
   ·rw[if_pos (by omega),if_neg (by omega)]
   ·rw[if_neg (by omega)];by_cases d:i=n-128*q
    ·rw[if_pos (by omega),if_pos d]
    ·rw[if_neg (by omega),if_pos (by omega),if_neg d,getD_out];omega
  have e2:((padL zs).drop (128*(q+1))).take 128=lenB (List.replicate 128 0) n:=by
   refine ext_getD 128 (pblk_len zs (q+1) (by rw[←hn',e];omega)) (lenB_len (by simp) _) fun i hi=>?_
   rw[pblk_get _ _ _ hi,lenB_get _ _ (by simp) (by omega),padL_get,←hn',eT,if_neg (by omega),if_neg (by omega),getD_rep0];by_cases b:i<120
   ·rw[if_pos (by omega)];by_cases d:i<112
    ·rw[if_pos d]
    ·rw[if_neg d,if_pos b]
   ·rw[if_neg (by omega),if_neg (by omega),if_neg b,if_pos hi];rw[show 128*(q+1)+i-(128*q+240+8)=i-120 by omega]
  generalize lenB (List.replicate 128 0) (n:Int)=X at *;generalize mrk (zs.drop (128*q))=Y at *;have e3:mbl zs (q+1)=mixL (blks zs q) Y:=by rw[←hlo,←e1];rfl
  rw[←e3,←e2];rfl
theorem mbl_sha (zs:List Int) (hn:zs.length≤2097152):txtW (mbl zs (nBl zs.length))=shaL zs:=by
 rw[mbl_fin zs hn];rfl
theorem padL_byte {zs:List Int} (hz:Byte zs):Byte (padL zs):=by
 intro z h;unfold padL at h;simp only[List.mem_append,List.mem_replicate,List.mem_singleton] at h;rcases h with (((h|rfl)|⟨_,rfl⟩)|⟨_,rfl⟩)|h
 ·exact hz z h
 ·exact⟨by decide,by decide⟩
 ·exact⟨by decide,by decide⟩
 ·exact⟨by decide,by decide⟩
 ·exact by8_byte _ z h
end Go.Proofs.YtjdhhgaelgemcaaGreatDoor
