import Derived.Test.YtapejbpgdjbjjaaGreatDoorShJ
import Derived.Test.YtapejbpgdjbjjaaGreatDoorMShL
import Derived.Test.YtapejbpgdjbjjaaGreatDoorMSMul
import Derived.Test.YtapejbpgdjbjjaaGreatDoorShN
import Derived.Test.YtapejbpgdjbjjaaGreatDoorMRConS
namespace Go.Proofs.YtapejbpgdjbjjaaGreatDoor
open Go.ChangeShapes Go.WideShapes Go.ChangeAt Go.RowKit
set_option linter.unusedVariables false
def blks (zs:List Int):Nat→List Int
 |0=>ivL
 |k+1=>mixL (blks zs k) (blkOf (zs.drop (128*k)))
theorem blks_w8 (zs:List Int) (k:Nat):W8 (blks zs k):=by
 cases k with
 |zero=>exact ivL_w8
 |succ k=>exact mixL_w8 _ _
def shaL (zs:List Int):List Int:=txtW (finL (blks zs (zs.length/128)) (zs.drop (128*(zs.length/128))) zs.length)
theorem finL_w8 (hs zs:List Int) (n:Int):W8 (finL hs zs n):=by
 unfold finL
 split
 ·exact mixL_w8 _ _
 ·exact mixL_w8 _ _
structure KS (w:World) (G:Nat) (hs:List Int) (y:World):Prop where
 wds:RowW y G 66 hs
 tab:TabIn y
 below:Below w.heap.size w y
 hi:w.heap.size≤G
theorem KS.frg {w:World} {G:Nat} {hs hs':List Int} {y y':World} (h:KS w G hs y) (hz:0<w.heap.size) (hf:FrG G y y') (hr:RowW y' G 66 hs'):KS w G hs' y':=by
 have:=h.hi
 exact⟨hr,h.tab.frg (fun k hk e=>hf.block k hk (by omega)),h.below.trans (hf.below h.hi h.below.size),h.hi⟩
theorem KS.new {w:World} {G:Nat} {hs:List Int} {y y':World} (h:KS w G hs y) (hz:0<w.heap.size) (hb:Below y.heap.size y y'):KS w G hs y':=
 ⟨h.wds.below hb h.wds.lt,h.tab.frg (fun k hk _=>hb.block k hk),h.below.trans (hb.mono h.below.size),h.hi⟩
theorem Own.lower {w:World} {B B':Nat} {v:Value} {zs:List Int} (h:Own w B' v zs) (hB:B≤B'):Own w B v zs:=by
 obtain⟨⟨h1,h2⟩,h3⟩:=h
 refine⟨⟨h1,?_⟩,h3⟩
 rcases h2 with h|⟨g,cap,cur,e,hg,r⟩
 ·exact .inl h
 ·exact .inr ⟨g,cap,cur,e,Nat.le_trans hB hg,r⟩
set_option maxRecDepth 100000 in
set_option maxHeartbeats 2000000 in
theorem shaI_any (a:Option Addr) (n cap:Nat) (zs:List Int) (w:World) (hn:zs.length=n) (ha:At .u8 w a zs) (hz:Byte zs) (hm:n≤2097152) (hcap:n≤cap) (hT:TabIn w) (h0:0<w.heap.size) :
  Calls Tryz.prog 10 #[.slice a n cap] w fun e w'=>∃ v,e=.returned v∧Own w' w.heap.size v (shaL zs)∧Below w.heap.size w w':=by
 have z1:=zvBlk
 have z2:=zsBlk
 have z3:=znBlk
 have A:=hid_ofS (first_any w hT h0)
 have HT:=hid_ofS hT
 have HA:=hid_ofS ha
 have HZ:=hid_ofS hz
 have HN:=hid_ofS hn
 clear hn ha hz hT
 go_enter Tryz.func10,Tryz.ntmps10
 go_wp2_with fail
 refine A.out.mono ?_
 rintro e w1 ⟨rfl,b1⟩
 have HB1:=hid_ofS b1
 clear A b1
 have HZN:Hid (RowW (w1.alloc (.cells #[.int .u64 0,.int .u64 0,.int .u64 0,.int .u64 0,.int .u64 0,.int .u64 0,.int .u64 0,.int .u64 0] 66)) w1.heap.size 66 [0,0,0,0,0,0,0,0]):=heap_alloc_new w1 _
 have HAL:Hid (Below w1.heap.size w1 (w1.alloc (.cells #[.int .u64 0,.int .u64 0,.int .u64 0,.int .u64 0,.int .u64 0,.int .u64 0,.int .u64 0,.int .u64 0] 66))):=(Below.refl _ _).alloc (Nat.le_refl _) _
 have HL:=hid_ofS ivL_w8.1
 go_wp2_with (first
  |(refine wpList_storeW rfl (.tmp 3) (.tmp 6) rfl Tryz.sizeWds w1.heap.size ivL [0,0,0,0,0,0,0,0] rfl rfl HL.out rfl HZN.out ?_)
  |fail)
 intro w2 hr2 hw2
 have hs1:=HB1.out.size
 have HK:Hid (KS w w1.heap.size (blks zs 0) w2):=⟨hr2,((HT.out.frg (fun k hk _=>HB1.out.block k hk)).frg (fun k hk _=>HAL.out.block k hk)).frg (fun k _ e=>hw2.block k (by omega)),(HB1.out.trans (HAL.out.mono hs1)).trans (hw2.below hs1),hs1⟩
 clear hr2 hw2 HB1 HAL HZN HL HT
 go_wp2
 go_loopw [4] (fun v wr=>∃(k:Nat) (a':Option Addr) (c':Nat),128*k≤n∧v=.slice a' (n-128*k) c'∧n-128*k≤c'∧At .u8 w a' (zs.drop (128*k))∧KS w w1.heap.size (blks zs k) wr) (fun v _=>lenOf v)
 case atStart=>exact⟨0,a,cap,by omega,rfl,by omega,HA.out,HK.out⟩
 case round=>
  clear HK;obtain⟨k,a',c',hk,rfl,hc',ha',hst⟩:=hrel;have HK:=hid_ofS hst;have HA':=hid_ofS ha';have hlen:(zs.drop (128*k)).length=n-128*k:=by rw[List.length_drop,HN.out]
  have HBY:Hid (Byte (zs.drop (128*k))):=fun z h=>HZ.out z (List.mem_of_mem_drop h)
  have HDL:=hid_ofS hlen;clear hst ha' hlen;by_cases hge:128≤n-128*k
  ·have hge':(128:Int)≤((n-128*k:Nat):Int):=by omega
   have HBL:Hid (blks zs (k+1)=mixL (blks zs k) (blkOf (zs.drop (128*k)))):=rfl;obtain⟨b,off,rfl,hb0,hcc⟩:=HA'.out.get (by rw[HDL.out];omega);have HN2:Hid (n-128*(k+1)=n-128*k-128):=by show _=_;omega
   have HD2:Hid (zs.drop (128*(k+1))=(zs.drop (128*k)).drop 128):=by show _=_;rw[List.drop_drop];congr 1
   have HK1:Hid (128*(k+1)≤n):=by show _≤_;omega
   have HCC:=hid_ofS hcc;clear hcc;obtain⟨m,hm'⟩:∃ m,m=n-128*k:=⟨_,rfl⟩
   rw[←hm'] at HN2 HDL hge hge' hc' ⊢;have hmm:m≤2097152:=by omega
   clear hm';have B:=hid_ofS (blk_any (some ⟨b,off,none⟩) m c' (zs.drop (128*k)) wr HDL.out (HA'.out.below HK.out.below) hmm);go_wp2_with fail;refine B.out.mono ?_;rintro e w3 ⟨rfl,b3⟩;have HK3:=hid_ofS (HK.out.new h0 b3);clear b3 B HK;have HZN:Hid (Row (w3.alloc (.cells zBlk 69)) w3.heap.size 69 (List.replicate 128 0)):=by show _=_;rw[heap_alloc_new,zcBlk]
   have HAL:Hid (Below w3.heap.size w3 (w3.alloc (.cells zBlk 69))):=(Below.refl _ _).alloc (Nat.le_refl _) _;have HLB:=hid_ofS (blkOf_len (zs.drop (128*k)));go_wp2_with (first
    |(refine wpList_storeB rfl (.tmp 5) (.tmp 12) rfl Tryz.sizeBlk w3.heap.size (blkOf (zs.drop (128*k))) (List.replicate 128 0) rfl rfl HLB.out (by simp) HZN.out ?_)
    |fail)
   intro w4 hr4 hw4;have hlt3:=HK3.out.wds.lt;have hsz3:=HK3.out.below.size;have hz3:=HK3.out.hi;have b34:Below w3.heap.size w3 w4:=HAL.out.trans (hw4.below (Nat.le_refl _));have HK4:=hid_ofS (HK3.out.new h0 b34);have HG0:Hid (w1.heap.size≠0):=by show ¬ _;omega
   have C:=hid_ofS (mix_any w1.heap.size w3.heap.size (blks zs k) (blkOf (zs.drop (128*k))) w4 HK4.out.wds (blks_w8 _ _) hr4 HLB.out (blkOf_byte HBY.out) HK4.out.tab HG0.out);clear hr4 hw4 b34 HK3 HZN HAL;go_wp2_with fail;refine C.out.mono ?_;rintro e w5 ⟨rfl,r5,b5⟩;have HK5:Hid (KS w w1.heap.size (blks zs (k+1)) w5):=by rw[HBL.out];exact HK4.out.frg h0 b5 r5
   clear r5 b5 C HK4;go_wp2;refine⟨⟨k+1,_,c'-128,HK1.out,by rw[HN2.out],by rw[HN2.out];omega,?_,HK5.out⟩,by show m-128<m;omega⟩;rw[HD2.out];by_cases hcc:c'=128
   ·exact .inl (List.eq_nil_of_length_eq_zero (by rw[List.length_drop,HDL.out];omega))
   ·rw[if_neg hcc];refine .inr ⟨b,off+128,rfl,hb0,fun i hi=>?_⟩;rw[List.length_drop] at hi;rw[Nat.add_assoc,HCC.out (128+i) (by omega),List.getD_eq_getElem?_getD,List.getD_eq_getElem?_getD,List.getElem?_drop,List.getElem?_drop,List.getElem?_drop]
  ·have hge':¬ ((128:Int)≤((n-128*k:Nat):Int)):=by omega
   have HQ:Hid (shaL zs=txtW (finL (blks zs k) (zs.drop (128*k)) (n:Int))):=by
    show _=_
    unfold shaL;rw[HN.out,show n/128=k by omega]
   have HUN:Hid (U64 (n:Int)):=⟨by omega,by omega⟩
   have HG0:Hid (w1.heap.size≠0):=by show ¬ _;omega
   obtain⟨m,hm'⟩:∃ m,m=n-128*k:=⟨_,rfl⟩
   rw[←hm'] at HDL hge hge' hc' ⊢;have hmm:m<128:=by omega
   clear hm';have B:=hid_ofS (fin_any w1.heap.size (blks zs k) a' m c' (zs.drop (128*k)) (n:Int) wr HK.out.wds (blks_w8 _ _) HDL.out (HA'.out.below HK.out.below) HBY.out hmm HK.out.tab HG0.out HUN.out);go_wp2_with fail;refine B.out.mono ?_;rintro e w3 ⟨rfl,r3,b3⟩;have HK3:Hid (KS w w1.heap.size (finL (blks zs k) (zs.drop (128*k)) n) w3):=HK.out.frg h0 b3 r3;clear r3 b3 B HK;have C:=hid_ofS (textI_any w1.heap.size _ w3 HK3.out.wds (finL_w8 _ _ _));go_wp2_with fail;refine C.out.mono ?_;rintro e w4 ⟨v,rfl,o4,b4⟩;have HO:Hid (Own w4 w.heap.size v (shaL zs)):=by rw[HQ.out];exact o4.lower HK3.out.below.size
   have HB:Hid (Below w.heap.size w w4):=HK3.out.below.trans (b4.mono HK3.out.below.size);clear o4 b4 C HK3;go_wp2
   go_ret
   exact⟨_,rfl,HO.out,HB.out⟩
end Go.Proofs.YtapejbpgdjbjjaaGreatDoor
namespace Go.Proofs.YtapejbpgdjbjjaaGreatDoor
open Go.ChangeShapes Go.WideShapes Go.ChangeAt Go.RowKit
set_option linter.unusedVariables false
theorem getD_app (xs ys:List Int) (i:Nat):(xs++ys).getD i 0=if i<xs.length then xs.getD i 0 else ys.getD (i-xs.length) 0:=by
 simp only[List.getD_eq_getElem?_getD,List.getElem?_append]
 split<;>rfl
theorem getD_rep0 (n i:Nat):(List.replicate n (0:Int)).getD i 0=0:=by
 simp only[List.getD_eq_getElem?_getD,List.getElem?_replicate]
 split<;>rfl
theorem getD_out (xs:List Int) (i:Nat) (h:xs.length≤i):xs.getD i 0=0:=by
 rw[List.getD_eq_getElem?_getD,List.getElem?_eq_none h];rfl
theorem getD_dropI (xs:List Int) (m i:Nat):(xs.drop m).getD i 0=xs.getD (m+i) 0:=by
 simp only[List.getD_eq_getElem?_getD,List.getElem?_drop]
theorem getD_takeI (xs:List Int) (m i:Nat) (h:i<m):(xs.take m).getD i 0=xs.getD i 0:=by
 simp only[List.getD_eq_getElem?_getD,List.getElem?_take,if_pos h]
theorem ext_getD {xs ys:List Int} (n:Nat) (h1:xs.length=n) (h2:ys.length=n) (h:∀ i,i<n→xs.getD i 0=ys.getD i 0):xs=ys:=by
 apply List.ext_getElem (by omega)
 intro i hi hj
 have:=h i (by omega)
 simpa[List.getD_eq_getElem?_getD,hi,hj] using this
theorem ov8_get (bs:List Int) (o:Nat) (v:Int) (k:Nat) (hk:o+k≤bs.length) (i:Nat) :
  (ov8 bs o v k).getD i 0=if o≤i∧i<o+k then v/2^(56-8*(i-o))%256 else bs.getD i 0:=by
 induction k with
 |zero=>rw[if_neg (by omega)];rfl
 |succ k ih=>
  have ih:=ih (by omega);unfold ov8;by_cases e:i=o+k
  ·rw[e,getD_set_same _ _ _ (by rw[ov8_len];omega),if_pos (by omega),show o+k-o=k by omega]
  ·rw[getD_set_other _ _ _ _ e,ih];by_cases c:o≤i∧i<o+k
   ·rw[if_pos c,if_pos (by omega)]
   ·rw[if_neg c,if_neg (by omega)]
theorem blkOf_get (zs:List Int) (i:Nat) (h:i<128):(blkOf zs).getD i 0=zs.getD i 0:=by
 unfold blkOf
 rw[getD_app]
 split
 ·rw[getD_takeI _ _ _ h]
 ·next c=>rw[getD_rep0,getD_out];rw[List.length_take] at c;omega
theorem mrk_get (zs:List Int) (i:Nat) (h:i<128) (hl:zs.length<128):(mrk zs).getD i 0=if i=zs.length then 128 else zs.getD i 0:=by
 unfold mrk
 by_cases e:i=zs.length
 ·rw[e,getD_set_same _ _ _ (by rw[blkOf_len];exact hl),if_pos rfl]
 ·rw[getD_set_other _ _ _ _ e,blkOf_get _ _ h,if_neg e]
theorem lenB_get (bs:List Int) (n:Nat) (hl:bs.length=128) (hn:n≤2097152) (i:Nat) :
  (lenB bs n).getD i 0=if i<112 then bs.getD i 0 else if i<120 then 0 else if i<128 then(by8 (8*(n:Int))).getD (i-120) 0 else 0:=by
 unfold lenB
 rw[ov8_get _ _ _ _ (by rw[ov8_len];omega),ov8_get _ _ _ _ (by omega)]
 have hw:IntKind.u64.wrap ((n:Int)*8)=8*(n:Int):=by rw[IntKind.wrap_u64];omega
 have h61:(n:Int)/2^61=0:=by omega
 rw[hw,h61]
 by_cases a:i<112
 ·rw[if_neg (by omega),if_neg (by omega),if_pos a]
 ·rw[if_neg a];by_cases b:i<120
  ·rw[if_neg (by omega),if_pos (by omega),if_pos b,Int.zero_ediv];rfl
  ·rw[if_neg b];by_cases c:i<128
   ·rw[if_pos (by omega),if_pos c,by8_get _ _ (by omega)]
   ·rw[if_neg (by omega),if_neg (by omega),if_neg c,getD_out _ _ (by omega)]
theorem padL_len (zs:List Int):(padL zs).length=zs.length+1+padZ zs.length+16:=by
 unfold padL;simp[by8_len];omega
theorem padL_get (zs:List Int) (i:Nat):(padL zs).getD i 0=if i<zs.length then zs.getD i 0 else if i=zs.length then 128 else if i<zs.length+1+padZ zs.length+8 then 0 else(by8 (8*(zs.length:Int))).getD (i-(zs.length+1+padZ zs.length+8)) 0:=by
 unfold padL
 rw[getD_app,getD_app,getD_app,getD_app]
 simp only[List.length_append,List.length_replicate,List.length_cons,List.length_nil,getD_rep0,Nat.zero_add]
 by_cases a:i<zs.length
 ·rw[if_pos (by omega),if_pos (by omega),if_pos (by omega),if_pos a,if_pos a]
 ·rw[if_neg a,if_neg a];by_cases b:i=zs.length
  ·rw[if_pos (by omega),if_pos (by omega),if_pos (by omega),if_pos b,b,Nat.sub_self];rfl
  ·rw[if_neg b];by_cases c:i<zs.length+1+padZ zs.length+8
   ·rw[if_pos c,if_pos c];split
    ·rw[if_neg (by omega)]
    ·rfl
   ·rw[if_neg c,if_neg c]
def mbl (zs:List Int):Nat→List Int
 |0=>ivL
 |k+1=>mixL (mbl zs k) (((padL zs).drop (128*k)).take 128)
theorem mbl_w8 (zs:List Int) (k:Nat):W8 (mbl zs k):=by
 cases k with
 |zero=>exact ivL_w8
 |succ k=>exact mixL_w8 _ _
def nBl (n:Nat):Nat:=(n+1+padZ n+16)/128
theorem nBl_len (zs:List Int):(padL zs).length=128*nBl zs.length:=by
 have h:=padZ_spec zs.length
 rw[padL_len];unfold nBl;omega
theorem pblk_len (zs:List Int) (k:Nat) (h:k<nBl zs.length):(((padL zs).drop (128*k)).take 128).length=128:=by
 rw[List.length_take,List.length_drop,nBl_len];omega
theorem pblk_get (zs:List Int) (k i:Nat) (h:i<128):(((padL zs).drop (128*k)).take 128).getD i 0=(padL zs).getD (128*k+i) 0:=by
 rw[getD_takeI _ _ _ h,getD_dropI]
theorem mbl_lo (zs:List Int) (k:Nat) (h:128*k≤zs.length):mbl zs k=blks zs k:=by
 induction k with
 |zero=>rfl
 |succ k ih=>
  have hs:=padZ_spec zs.length;have hk:k<nBl zs.length:=by unfold nBl;omega
  show mixL (mbl zs k) _=mixL (blks zs k) _
  rw[ih (by omega)]
  congr 1
  refine ext_getD 128 (pblk_len zs k hk) (blkOf_len _) fun i hi=>?_
  rw[pblk_get _ _ _ hi,blkOf_get _ _ hi,getD_dropI,padL_get,if_pos (by omega)]
theorem mbl_fin (zs:List Int) (hn:zs.length≤2097152):mbl zs (nBl zs.length)=finL (blks zs (zs.length/128)) (zs.drop (128*(zs.length/128))) zs.length:=by
 obtain⟨n,hn'⟩:∃ n,n=zs.length:=⟨_,rfl⟩
 obtain⟨q,hq⟩:∃ q,q=n/128:=⟨_,rfl⟩
 rw[←hn',←hq]
 have hs:=padZ_spec n
 have hdl:(zs.drop (128*q)).length=n-128*q:=by rw[List.length_drop,hn']
 have hlo:=mbl_lo zs q (by omega)
 unfold finL
 by_cases c:n-128*q<112
 ·have e:nBl n=q+1:=by unfold nBl;omega
  have eT:n+1+padZ n=128*q+112:=by omega
  rw[if_pos (by omega),e];have e1:((padL zs).drop (128*q)).take 128=lenB (mrk (zs.drop (128*q))) n:=?_
  ·show mixL (mbl zs q) _=_
   rw[hlo,e1]
  refine ext_getD 128 (pblk_len zs q (by rw[←hn',e];omega)) (lenB_len (mrk_len _) _) fun i hi=>?_
  rw[pblk_get _ _ _ hi,lenB_get _ _ (mrk_len _) (by omega),padL_get,←hn',eT];by_cases a:i<112
  ·rw[if_pos a,mrk_get _ _ hi (by omega),hdl,getD_dropI];by_cases b:i<n-128*q
   ·rw[if_pos (by omega),if_neg (by omega)]
   ·rw[if_neg (by omega)];by_cases d:i=n-128*q
    ·rw[if_pos (by omega),if_pos d]
    ·rw[if_neg (by omega),if_pos (by omega),if_neg d,getD_out];omega
  ·rw[if_neg a,if_neg (by omega),if_neg (by omega)];by_cases b:i<120
   ·rw[if_pos b,if_pos (by omega)]
   ·rw[if_neg b,if_neg (by omega),if_pos hi];rw[show 128*q+i-(128*q+112+8)=i-120 by omega]
 ·have e:nBl n=q+2:=by unfold nBl;omega
  have eT:n+1+padZ n=128*q+240:=by omega
  rw[if_neg (by omega),e];have e1:((padL zs).drop (128*q)).take 128=mrk (zs.drop (128*q)):=by
   refine ext_getD 128 (pblk_len zs q (by rw[←hn',e];omega)) (mrk_len _) fun i hi=>?_
   rw[pblk_get _ _ _ hi,padL_get,←hn',eT,mrk_get _ _ hi (by omega),hdl,getD_dropI];by_cases b:i<n-128*q
   ·rw[if_pos (by omega),if_neg (by omega)]
   ·rw[if_neg (by omega)];by_cases d:i=n-128*q
    ·rw[if_pos (by omega),if_pos d]
    ·rw[if_neg (by omega),if_pos (by omega),if_neg d,getD_out];omega
  have e2:((padL zs).drop (128*(q+1))).take 128=lenB (List.replicate 128 0) n:=by
   refine ext_getD 128 (pblk_len zs (q+1) (by rw[←hn',e];omega)) (lenB_len (by simp) _) fun i hi=>?_
   rw[pblk_get _ _ _ hi,lenB_get _ _ (by simp) (by omega),padL_get,←hn',eT,if_neg (by omega),if_neg (by omega),getD_rep0];by_cases b:i<120
   ·rw[if_pos (by omega)];by_cases d:i<112
    ·rw[if_pos d]
    ·rw[if_neg d,if_pos b]
   ·rw[if_neg (by omega),if_neg (by omega),if_neg b,if_pos hi];rw[show 128*(q+1)+i-(128*q+240+8)=i-120 by omega]
  generalize lenB (List.replicate 128 0) (n:Int)=X at *;generalize mrk (zs.drop (128*q))=Y at *;have e3:mbl zs (q+1)=mixL (blks zs q) Y:=by rw[←hlo,←e1];rfl
  rw[←e3,←e2];rfl
theorem mbl_sha (zs:List Int) (hn:zs.length≤2097152):txtW (mbl zs (nBl zs.length))=shaL zs:=by
 rw[mbl_fin zs hn];rfl
theorem padL_byte {zs:List Int} (hz:Byte zs):Byte (padL zs):=by
 intro z h
 unfold padL at h
 simp only[List.mem_append,List.mem_replicate,List.mem_singleton] at h
 rcases h with (((h|rfl)|⟨_,rfl⟩)|⟨_,rfl⟩)|h
 ·exact hz z h
 ·exact⟨by decide,by decide⟩
 ·exact⟨by decide,by decide⟩
 ·exact⟨by decide,by decide⟩
 ·exact by8_byte _ z h
end Go.Proofs.YtapejbpgdjbjjaaGreatDoor
namespace Go.Proofs.YtapejbpgdjbjjaaGreatDoor
open Go.ChangeShapes Go.WideShapes Go.ChangeAt Go.RowKit
set_option linter.unusedVariables false
def ktL (q:Nat):List Int:=(List.range q).map kt
theorem ktL_len (q:Nat):(ktL q).length=q:=by simp[ktL]
theorem ktL_snoc (q:Nat):ktL (q+1)=ktL q++[kt q]:=by unfold ktL;rw[List.range_succ,List.map_append];rfl
theorem ktL_get (q i:Nat) (h:i<q):(ktL q).getD i 0=kt i:=by unfold ktL;simp[List.getD,h]
theorem rcT_kt (q:Nat) (h:q<88):rcT (q:Int)=kt q:=by
 unfold rcT kt
 rw[if_pos (by omega),Int.toNat_natCast]
theorem run_sliceH (w:World) (g c:Nat) (hc:88≤c):(Instr.sliceAt 80 (.slice (some ⟨g,0,none⟩) 88 c) (some (.int .i64 80)) none none).run Tryz.prog w=.ok (.slice (some ⟨g,80,none⟩) 8 (c-80)) w:=by
 have h4:¬ (c=80):=by omega
 unfold Instr.sliceAt
 simp[run_underlying Tryz.underlying80,go_sem,Instr.sliceBounds,h4,Addr.add]
 try omega
theorem run_sliceM (w:World) (g L c I:Nat) (hI:I+128≤L) (hc:L≤c):(Instr.sliceAt 22 (.slice (some ⟨g,0,none⟩) L c) (some (.int .i64 (I:Int))) (some (.int .i64 ((I:Int)+128))) none).run Tryz.prog w=.ok (.slice (some ⟨g,I,none⟩) 128 (c-I)) w:=by
 have h2:((I:Int)+128)≤(c:Int):=by omega
 have h3:((I:Int)+128).toNat=I+128:=by omega
 have h4:¬ (c=I):=by omega
 have h6:(0:Int)≤(I:Int):=by omega
 have h7:(0:Int)≤(I:Int)+128:=by omega
 unfold Instr.sliceAt
 simp[run_underlying Tryz.underlying22,go_sem,Instr.sliceBounds,h2,h3,h4,h6,h7,Addr.add]
 omega
structure HW (w:World) (v:Value) (hs:List Int):Prop where
 ex:∃ b o c,v=.slice (some ⟨b,o,none⟩) 8 c∧b<w.heap.size∧∀ i,i<8→w.cell? ⟨b,o+i,none⟩=some (.int .u64 (hs.getD i 0))
theorem HW.of_own {w:World} {B:Nat} {v:Value} {hs:List Int} (h:OwnU w B v hs) (h8:hs.length=8):HW w v hs:=by
 obtain⟨g,c,rfl,hB,hg,hc⟩:=h.base
 refine⟨g,0,c,by rw[h8],hg,fun i hi=>?_⟩
 rw[Nat.zero_add]
 exact h.cellAt rfl i (by omega)
structure MS (W:World) (gk gm:Nat) (ms:List Int) (y:World):Prop where
 k:gk<y.heap.size∧∀ i,i<88→y.cell? ⟨gk,i,none⟩=some (.int .u64 (kt i))
 m:gm<y.heap.size∧∀ i,i<ms.length→y.cell? ⟨gm,i,none⟩=some (.int .u8 (ms.getD i 0))
 below:Below W.heap.size W y
theorem MS.new {W:World} {gk gm:Nat} {ms:List Int} {y y':World} (h:MS W gk gm ms y) (hb:Below y.heap.size y y'):MS W gk gm ms y':=
 ⟨⟨Nat.lt_of_lt_of_le h.k.1 hb.size,fun i hi=>by rw[World.cell?_of_block (w:=y) (hb.block gk h.k.1)];exact h.k.2 i hi⟩,⟨Nat.lt_of_lt_of_le h.m.1 hb.size,fun i hi=>by rw[World.cell?_of_block (w:=y) (hb.block gm h.m.1)];exact h.m.2 i hi⟩,h.below.trans (hb.mono h.below.size)⟩
set_option maxRecDepth 100000 in
set_option maxHeartbeats 2000000 in
theorem shaS_any (b off cap n:Nat) (zs:List Int) (w:World) (hn:zs.length=n) (hb:b<w.heap.size) (hc:∀ i,i<zs.length→w.cell? ⟨b,off+i,none⟩=some (.int .u8 (zs.getD i 0))) (hz:Byte zs) (hm:n≤2097152) :
  Calls Tryz.prog 25 #[.slice (some ⟨b,off,none⟩) n cap] w fun e w'=>∃ v,e=.returned v∧Own w' w.heap.size v (shaL zs)∧Below w.heap.size w w':=by
 have HC:=hid_ofS hc
 have HN:=hid_ofS hn
 have HZ:=hid_ofS hz
 have HE0:=hid_ofS (OwnK.empty (k:=.u64) (t:=50) w w.heap.size (Nat.le_refl _))
 have HAL:Hid (Below w.heap.size w (w.alloc (.cells #[] 50))):=(Below.refl _ _).alloc (Nat.le_refl _) _
 clear hc hn hz
 go_enter Tryz.func25,Tryz.ntmps25
 go_wp2
 go_loopw [3,4] (fun v i wr=>∃ q:Nat,q≤88∧i=.int .i64 q∧OwnU wr w.heap.size v (ktL q)∧Below w.heap.size w wr) (fun _ i _=>88-(intOf i).toNat)
 case atStart=>exact⟨0,by omega,rfl,HE0.out,HAL.out⟩
 case round=>
  clear HE0 HAL;obtain⟨q,hq,rfl,hown,hbel⟩:=hrel;by_cases hlt:q<88
  ·have hlt':(q:Int)<88:=by omega
   have hsz:=hbel.size;have HO:=hid_ofS hown;have HB:=hid_ofS hbel;have A:=hid_ofS (rcS_any (q:Int) wr (by omega) (by omega));rw[rcT_kt q hlt] at A;have HSN:=hid_ofS (ktL_snoc q);have HLS:=hid_ofS (ktL_len q);clear hown hbel;generalize kt q=x at *;go_wp2_with fail;refine A.out.mono ?_;rintro e w1 ⟨rfl,b1⟩;have HO1:=hid_ofS (HO.out.grow b1);have HB1:=hid_ofS (HB.out.trans (b1.mono hsz));have hsz1:w.heap.size≤w1.heap.size:=HB1.out.size;clear A HO HB b1;have HLJ:Hid ((ktL q).length+1≤1099511627776):=by show _≤_;rw[HLS.out];omega
   go_wp2_with (at_builtin;refine wpList_appK _ ktU rfl _ _ rfl w.heap.size _ _ rfl (HO1.out.alloc _) ⟨w1.heap.size,0,none⟩ 1 1 [x] rfl rfl ?c1 ?c2 ?c3 ?_);all_goals first|(intro j hj;obtain rfl:j=0:=by omega
                                                                                                                                                                             simp[Addr.add];done)|skip
   case c2=>have:=HLJ.out;simpa using by omega
   case c3=>rw[World.size_alloc];omega
   intro v' w2 hown' hbel' _;have HO2:Hid (OwnU w2 w.heap.size v' (ktL (q+1))):=by rw[HSN.out];exact hown'
   have HB2:Hid (Below w.heap.size w w2):=(HB1.out.alloc hsz1 _).trans hbel';clear hown' hbel' HO1 HB1;go_wp2;go_roundw
   case rel=>exact⟨q+1,by omega,by go_num,HO2.out,HB2.out⟩
   case measure=>simp[intOf];omega
  ·obtain rfl:q=88:=by omega
   obtain⟨gk,ck,rfl,hk1,hk2,hk3⟩:=hown.base;have HKC:Hid (∀ i,i<88→wr.cell? ⟨gk,i,none⟩=some (.int .u64 (kt i))):=fun i hi=>by
    rw[hown.cellAt rfl i (by rw[ktL_len];exact hi),ktL_get _ _ hi]
   rw[ktL_len] at hk3 ⊢;have hsl:=fun w=>run_sliceH w gk ck hk3
   have HB:=hid_ofS hbel;have hsz:=hbel.size;have hbr:b<wr.heap.size:=by omega
   have A:=hid_ofS (padS_any b off cap n zs wr HN.out hbr (fun i hi=>by rw[World.cell?_of_block (w:=w) (hbel.block b hb)];exact HC.out i hi) hm);clear hown hbel;go_wp2_with fail;refine A.out.mono ?_;rintro e W ⟨vm,rfl,om,bm⟩;obtain⟨gm,cm,rfl,hm1,hm2,hm3⟩:=om.base;have HMC:Hid (∀ i,i<(padL zs).length→W.cell? ⟨gm,i,none⟩=some (.int .u8 ((padL zs).getD i 0))):=fun i hi=>by
    obtain⟨b',o',c',e',_,hcc⟩:=om.part;cases e';have:=hcc i hi
    rwa [Nat.zero_add] at this
   have HMS:Hid (MS W gk gm (padL zs) W):=⟨⟨Nat.lt_of_lt_of_le hk2 bm.size,fun i hi=>by rw[World.cell?_of_block (w:=wr) (bm.block gk hk2)];exact HKC.out i hi⟩,⟨hm2,HMC.out⟩,Below.refl _ _⟩
   have HHW:Hid (HW W (.slice (some ⟨gk,80,none⟩) 8 (ck-80)) (mbl zs 0)):=⟨gk,80,ck-80,rfl,HMS.out.k.1,fun i hi=>by
    rw[HMS.out.k.2 (80+i) (by omega)];show _=some (Value.int .u64 (ivL.getD i 0))
    rw[ivL_get i hi]⟩
   have HBW:Hid (Below w.heap.size w W):=HB.out.trans (bm.mono hsz);have HLP:Hid ((padL zs).length=128*nBl n):=by show _=_;rw[nBl_len,HN.out]
   rw[HLP.out] at hm3 ⊢;have hK:128*nBl n≤2097152+256:=by rw[←HLP.out,padL_len,HN.out];have:=(padZ_spec n).2;omega
   have HSH:Hid (txtW (mbl zs (nBl n))=shaL zs):=by show _=_;rw[←HN.out];exact mbl_sha zs (by rw[HN.out];exact hm)
   have HPB:=hid_ofS (padL_byte HZ.out);clear A hsl om bm HMC HKC HC HZ HB hk1 hm1 hk2 hm2;generalize nBl n=K at *;obtain⟨L,hL⟩:∃ L,L=128*K:=⟨_,rfl⟩
   rw[←hL] at hm3 HLP hK ⊢;have HL:=hid_ofS hL;clear hL;go_wp2
   go_loopw [5,7] (fun v i y=>∃ j I:Nat,j≤K∧I=128*j∧i=.int .i64 (I:Int)∧HW y v (mbl zs j)∧MS W gk gm (padL zs) y) (fun _ i _=>(L+128-(intOf i).toNat))
   case atStart=>exact⟨0,0,by omega,rfl,rfl,HHW.out,HMS.out⟩
   case round=>
    clear HHW HMS;obtain⟨j,I,hj,hI,rfl,⟨bh,oh,ch,rfl,hh1,hh2⟩,hms⟩:=hrel;have hL:=HL.out;have HI:=hid_ofS hI;by_cases hlt:j<K
    ·have hlt':(I:Int)<(L:Int):=by omega
     have hIL:I+128≤L:=by omega
     have hsl:=fun w=>run_sliceM w gm L cm I hIL hm3
     have HMS:=hid_ofS hms;have HBS:Hid (mbl zs (j+1)=mixL (mbl zs j) (((padL zs).drop (128*j)).take 128)):=rfl;have hbl:(((padL zs).drop (128*j)).take 128).length=128:=by rw[List.length_take,List.length_drop,HLP.out];omega
     have hbb:Byte (((padL zs).drop (128*j)).take 128):=fun z h=>HPB.out z (List.mem_of_mem_drop (List.mem_of_mem_take h))
     have hBK:BK wr bh oh gm I gk (mbl zs j) (((padL zs).drop (128*j)).take 128):=
      ⟨⟨hh1,hh2⟩,⟨hms.m.1,fun i hi=>by rw[hms.m.2 (I+i) (by rw[HLP.out];omega),pblk_get _ _ _ hi,hI]⟩,hms.k⟩
     have A:=hid_ofS (blockS_any bh oh ch gm I (cm-I) gk ck _ _ wr hBK (mbl_w8 zs j) hbl hbb (by omega));rw[←HBS.out] at A;have HJ:Hid (j+1≤K∧I+128=128*(j+1)):=by constructor<;>omega
     clear hms hh2 hbl hbb hBK HBS hI hL hj hlt;go_wp2_with fail;refine A.out.mono ?_;rintro e w3 ⟨v3,rfl,o3,b3⟩;have HMS3:=hid_ofS (HMS.out.new b3);have HHW3:=hid_ofS (HW.of_own o3 (mbl_w8 zs (j+1)).1);clear A hsl o3 b3 HMS;go_wp2;go_roundw
     case rel=>exact⟨j+1,I+128,HJ.out.1,HJ.out.2,by go_num,HHW3.out,HMS3.out⟩
     case measure=>simp[intOf];omega
    ·obtain rfl:j=K:=by omega
     have hlt':¬ ((I:Int)<(L:Int)):=by omega
     have HBR:Hid (Below w.heap.size w wr):=HBW.out.trans (hms.below.mono HBW.out.size);have HHH:=hid_ofS hh2;have H8:=hid_ofS (mbl_w8 zs j);have hIb:I≤2097700:=by omega
     clear hms hh2 HBW HPB hI hL HI HL;generalize mbl zs j=hs at *;obtain⟨wy,rfl⟩:∃ y,y=wr:=⟨_,rfl⟩
     go_wp2
     go_loopw [8,9] (fun v i y=>∃ q:Nat,q≤8∧i=.int .i64 q∧Own y wy.heap.size v (txtW (hs.take q))∧Below wy.heap.size wy y) (fun _ i _=>8-(intOf i).toNat)
     case atStart=>exact⟨0,by omega,rfl,Own.empty _ _ (Nat.le_refl _),(Below.refl _ _).alloc (Nat.le_refl _) _⟩
     case round=>
      obtain⟨q,hq,rfl,hown,hbel⟩:=hrel;by_cases hlq:q<8
      ·have hlq':(q:Int)<8:=by omega
       have hsz:=hbel.size;have hcl:=HHH.out q hlq;rw[←World.cell?_of_block (w':=wr) (hbel.block bh hh1)] at hcl;have HSN:=hid_ofS (txtW_snoc hs q (by rw[H8.out.1];exact hlq));have HPL:=hid_ofS (txtW_len (hs.take q));rw[List.length_take,H8.out.1] at HPL;have hu:=H8.out.2 q;have HO:=hid_ofS hown;have HB:=hid_ofS hbel;clear hown hbel;obtain⟨x,hx⟩:∃ x,x=hs.getD q 0:=⟨_,rfl⟩
       rw[←hx] at hcl hu HSN;clear hx;have A:=hid_ofS (bytesS_any x wr hu);obtain⟨hu0,hu1⟩:=hu;go_wp2_with fail;refine A.out.mono ?_;rintro e w5 ⟨v5,rfl,o5,b5⟩;obtain⟨g5,c5,rfl,h51,h52,h53⟩:=o5.base;have HC5:Hid (∀ i,i<8→w5.cell? ((⟨g5,0,none⟩:Addr).add i)=some (.int .u8 ((by8 x).getD i 0))):=fun i hi=>by
        obtain⟨b',o',c',e',_,hcc⟩:=o5.part;cases e';rw[Addr.add_lit];exact hcc i (by rw[by8_len];exact hi)
       have HO5:=hid_ofS (own_grow HO.out b5);have HB5:=hid_ofS (HB.out.trans (b5.mono hsz));have hsz5:wy.heap.size≤w5.heap.size:=HB5.out.size;rw[by8_len];clear A HO HB o5 b5;have HLY:Hid ((txtW (hs.take q)).length+8≤1099511627776):=by show _≤_;rw[HPL.out];omega
       go_wp2_with (at_builtin;refine wpList_app _ rfl _ _ rfl wy.heap.size _ _ rfl HO5.out ⟨g5,0,none⟩ 8 c5 (by8 x) rfl (by8_len _) HC5.out HLY.out hsz5 ?_);intro v6 w6 o6 b6 _;have HO6:Hid (Own w6 wy.heap.size v6 (txtW (hs.take (q+1)))):=by rw[HSN.out];exact o6
       have HB6:=hid_ofS (HB5.out.trans b6);clear o6 b6 HO5 HB5;go_wp2;go_roundw
       case rel=>exact⟨q+1,by omega,by go_num,HO6.out,HB6.out⟩
       case measure=>simp[intOf];omega
      ·obtain rfl:q=8:=by omega
       rw[List.take_of_length_le (by rw[H8.out.1];exact Nat.le_refl _),HSH.out] at hown;have HOF:Hid (Own _ w.heap.size _ (shaL zs)):=hown.lower HBR.out.size;have HBF:=hid_ofS (HBR.out.trans (hbel.mono HBR.out.size));clear hown hbel;go_wp2
       go_ret
       exact⟨_,rfl,HOF.out,HBF.out⟩
end Go.Proofs.YtapejbpgdjbjjaaGreatDoor
