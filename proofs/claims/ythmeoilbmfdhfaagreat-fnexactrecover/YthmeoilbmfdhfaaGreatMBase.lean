import Derived.Test.YthmeoilbmfdhfaaGreatRows
import Derived.WalkKit
import Derived.ProofKit
import Derived.OpenShut
import Derived.ShutString
import Derived.ChangeOld
import Derived.Below
import Derived.WalkSpells
import Derived.Deep.QuietTactic
import Derived.BigQuiet
namespace Go.Proofs.YthmeoilbmfdhfaaGreat
open Go.ChangeShapes Go.WideShapes Go.ChangeAt Go.RowKit
set_option linter.unusedVariables false
def At (k:IntKind) (w:World) (a:Option Addr) (zs:List Int):Prop:=
 zs=[]∨∃ b off,a=some ⟨b,off,none⟩∧b<w.heap.size∧∀ i,i<zs.length→w.cell? ⟨b,off+i,none⟩=some (.int k (zs.getD i 0))
def Byte (zs:List Int):Prop:=∀ z∈zs,0≤z∧z<256
theorem Byte.get {zs:List Int} (h:Byte zs) (i:Nat):0≤zs.getD i 0∧zs.getD i 0<256:=by
 by_cases hi:i<zs.length
 ·rw[List.getD_eq_getElem?_getD,List.getElem?_eq_getElem hi];exact h _ (List.getElem_mem hi)
 ·rw[List.getD_eq_getElem?_getD,List.getElem?_eq_none (by omega)];exact⟨by decide,by decide⟩
theorem At.get {k:IntKind} {w:World} {a:Option Addr} {zs:List Int} (h:At k w a zs) (hz:0<zs.length) :
  ∃ b off,a=some ⟨b,off,none⟩∧b<w.heap.size∧∀ i,i<zs.length→w.cell? ⟨b,off+i,none⟩=some (.int k (zs.getD i 0)):=by
 rcases h with h|h
 ·simp[h] at hz
 ·exact h
theorem At.below {k:IntKind} {w w':World} {a:Option Addr} {zs:List Int} (h:At k w a zs) (hb:Below w.heap.size w w'):At k w' a zs:=by
 rcases h with h|⟨b,off,rfl,hl,hc⟩
 ·exact .inl h
 ·exact .inr ⟨b,off,rfl,by have:=hb.size;omega,fun i hi=>by rw[hb.cell (p:=⟨b,off+i,none⟩) hl];exact hc i hi⟩
theorem ret_int {k:IntKind} {a b:Int} (h:a=b):Ending.returned (.int k a)=.returned (.int k b):=by rw[h]
theorem take_snoc (l:List Int) (k:Nat) (h:k<l.length):l.take (k+1)=l.take k++[l.getD k 0]:=by
 rw[List.take_succ_eq_append_getElem h,List.getD_eq_getElem?_getD,List.getElem?_eq_getElem h];rfl
/-! CRC-32 -/
theorem bits_u32_bd (o:BinOp) (a b:Int):0≤bits o .u32 a b∧bits o .u32 a b<4294967296:=by
 have h:∀ n:Int,0≤IntKind.u32.wrap n∧IntKind.u32.wrap n<4294967296:=fun n=>by rw[IntKind.wrap_u32];omega
 unfold bits;cases o<;>exact h _
def bit1 (c:Int):Int:=if c%2=1 then bits .xor .u32 (c/2) 3988292384 else c/2
def bitN (c:Int):Nat→Int
 |0=>c
 |k+1=>bit1 (bitN c k)
def crcS (c x:Int):Int:=bitN (bits .xor .u32 c x) 8
def crcF (l:List Int):Int:=l.foldl crcS 4294967295
def crc (l:List Int):Int:=bits .xor .u32 (crcF l) 4294967295
def U32 (c:Int):Prop:=0≤c∧c<4294967296
theorem bit1_bd {c:Int} (h:U32 c):U32 (bit1 c):=by
 unfold bit1;split
 ·exact bits_u32_bd _ _ _
 ·obtain⟨_,_⟩:=h;constructor<;>omega
theorem bitN_bd {c:Int} (h:U32 c) (k:Nat):U32 (bitN c k):=by
 induction k with
 |zero=>exact h
 |succ k ih=>exact bit1_bd ih
theorem crcS_bd (c x:Int):U32 (crcS c x):=bitN_bd (bits_u32_bd _ _ _) 8
theorem crcF_snoc (l:List Int) (x:Int):crcF (l++[x])=crcS (crcF l) x:=by simp[crcF]
theorem crcF_bd (l:List Int):U32 (crcF l):=by
 unfold crcF
 suffices h:∀(l:List Int) (c:Int),U32 c→U32 (l.foldl crcS c) from h l _ ⟨by decide,by decide⟩
 intro l
 induction l with
 |nil=>intro c h;exact h
 |cons x l ih=>intro c h;exact ih _ (crcS_bd c x)
theorem crc_bd (l:List Int):U32 (crc l):=bits_u32_bd _ _ _
theorem and1 {c:Int} (h:U32 c):bits .and .u32 c 1=c%2:=by
 obtain⟨h0,h1⟩:=h;obtain⟨n,rfl⟩:=Int.eq_ofNat_of_zero_le h0;have:=u32_and_nat n 1 (by omega) (by decide);rw[show((1:Int))=((1:Nat):Int) from rfl,this,nat_mask1];simp
theorem Tryz.infoU8:(Tryz.prog.info? 5).map (fun i=>(i.zero,i.size,i.bytes))=some (some (.int .u8 0),1,1):=by kernel_rfl
def cp (zs:List Int) (k:Nat):List Int:=zs.take k++List.replicate (zs.length-k) 0
theorem cp_zero (zs:List Int):cp zs 0=List.replicate zs.length 0:=by simp[cp]
theorem cp_all (zs:List Int):cp zs zs.length=zs:=by simp[cp]
theorem cp_len (zs:List Int) (k:Nat) (h:k≤zs.length):(cp zs k).length=zs.length:=by simp[cp];omega
theorem cp_succ (zs:List Int) (k:Nat) (h:k<zs.length):(cp zs k).set k (zs.getD k 0)=cp zs (k+1):=by
 unfold cp;have hl:(zs.take k).length=k:=by simp;omega
 rw[take_snoc zs k h,List.set_append_right _ _ (by omega),hl,Nat.sub_self];have:zs.length-k=(zs.length-(k+1))+1:=by omega
 rw[this,List.replicate_succ,List.set_cons_zero];simp
set_option maxHeartbeats 400000 in
theorem toB_any (a:Option Addr) (n cap:Nat) (zs:List Int) (w:World) (hn:zs.length=n) (hm:n≤1048576) (ha:At .u8 w a zs) :
  Calls Tryz.prog 16 #[.slice a n cap] w fun e w'=>e=.returned (.slice (some ⟨w.heap.size,0,none⟩) n n)∧
   w'.ownsRow w.heap.size 5 1 (.slice (some ⟨w.heap.size,0,none⟩) n n) n (zs.map (Value.int .u8))∧Below w.heap.size w w':=by
 obtain⟨i0,hi,hz0,hz1,hz2⟩:=info_parts Tryz.infoU8;have HI:Hid (i0.bytes=1):=hz2;clear hz2;go_enter Tryz.func16,Tryz.ntmps16;go_wp2_with (first
  |(at_make;refine wpList_make_full _ rfl _ _ 22 rfl w.heap.size 5 i0 (.int .u8 0) 1 Tryz.underlying22 hi hz0 hz1 _ _ _ _ n rfl rfl rfl rfl ?c1 ?c2 ?c3 ?_)
  |fail)
 case c1=>rw[HI.out];omega
 case c2=>unfold maxLen;omega
 case c3=>exact Nat.le_refl _
 intro w1 hown hgrow;have hb1:Below w.heap.size w w1:=(Below.refl _ _).grown hgrow (Nat.le_refl _) (by simp);have hown0:w1.ownsRow w.heap.size 5 1 (.slice (some ⟨w.heap.size,0,none⟩) n n) n ((cp zs 0).map (Value.int .u8)):=by
  have e:(madeCells #[Value.int IntKind.u8 0] n).toList=(cp zs 0).map (Value.int .u8):=by
   rw[cp_zero];simp only[toList_madeCells_one,List.map_replicate,hn]
  rw[←e];exact hown
 clear hown hgrow;go_wp2
 go_loopw [4] (fun i wr=>∃ k:Nat,k≤n∧i=.int .i64 k∧wr.ownsRow w.heap.size 5 1 (.slice (some ⟨w.heap.size,0,none⟩) n n) n ((cp zs k).map (Value.int .u8))∧Below w.heap.size w wr) (fun i _=>n-(intOf i).toNat)
 case atStart=>exact⟨0,Nat.zero_le _,rfl,hown0,hb1⟩
 case round=>
  obtain⟨k,hk,rfl,hown,hbel⟩:=hrel;by_cases hlt:k<n
  ·obtain⟨b,off,rfl,hb,hc⟩:=ha.get (by omega);have hck:wr.cell? ⟨b,off+k,none⟩=some (.int .u8 (zs.getD k 0)):=by rw[hbel.cell (p:=⟨b,off+k,none⟩) hb];exact hc k (by omega)
   have hst:=hown.stored k (.int .u8 (zs.getD k 0));have hmem:wr.cell? ⟨w.heap.size,k,none⟩=some (.int .u8 ((cp zs k).getD k 0)):=by
    rw[hown.cellAt k (by omega)];have:=cp_len zs k (by omega);simp[show k<(cp zs k).length by omega]
   have hfz:=hown.frozenAt k;rw[←List.map_set,cp_succ zs k (by omega)] at hst;have HX:=hst.1;have HB:Below w.heap.size w (wr.setCell ⟨w.heap.size,k,none⟩ (.int .u8 (zs.getD k 0))):=hbel.setCell (Nat.le_refl _) _;clear hst hown hc ha hbel hown0 hb1;generalize zs.getD k 0=x at *;generalize (cp zs k).getD k 0=y at *;have HXX:Hid _:=HX;have HBB:Hid _:=HB;clear HX HB;go_wp2;go_roundw
   case rel=>exact⟨k+1,by omega,by go_num,HXX.out,HBB.out⟩
   case measure=>simp[intOf];omega
  ·have hkn:k=zs.length:=by omega
   have HO:Hid (wr.ownsRow w.heap.size 5 1 (.slice (some ⟨w.heap.size,0,none⟩) n n) n (zs.map (Value.int .u8))):=by rw[hkn,cp_all] at hown;exact hown
   clear hown;go_wp2
   go_ret
   exact⟨rfl,HO.out,hbel⟩
set_option maxHeartbeats 400000 in
theorem eqB_any (a a':Option Addr) (n cap cap':Nat) (zs:List Int) (w:World) (hn:zs.length=n) (hm:n≤1048576) (ha:At .u8 w a zs) (ha':At .u8 w a' zs) :
  Calls Tryz.prog 19 #[.slice a n cap,.slice a' n cap'] w fun e w'=>e=.returned (.bool true)∧∃ q,w'=w.drewN q:=by
 have h0:((n:Int) != (n:Int))=false:=by simp
 go_enter Tryz.func19,Tryz.ntmps19;go_wp2
 go_loopw [5] (fun i wr=>∃ k q:Nat,k≤n∧i=.int .i64 k∧wr=w.drewN q) (fun i _=>n-(intOf i).toNat)
 case atStart=>exact⟨0,0,Nat.zero_le _,rfl,rfl⟩
 case round=>
  obtain⟨k,q,hk,rfl,rfl⟩:=hrel;by_cases hlt:k<n
  ·obtain⟨b,off,rfl,hb,hc⟩:=ha.get (by omega);obtain⟨b',off',rfl,hb',hc'⟩:=ha'.get (by omega);have g1:=hc k (by omega);have g2:=hc' k (by omega);generalize zs.getD k 0=x at *;have hx:(x != x)=false:=by simp
   have hlt':(k:Int)<(n:Int):=by omega
   clear hc hc' ha ha';go_wp2
   go_quiet (fail)
   go_wp2;go_roundw
   case rel=>exact⟨k+1,_,by omega,by go_num,rfl⟩
   case measure=>simp[intOf];omega
  ·go_wp2
   go_ret
   exact⟨rfl,q,rfl⟩
abbrev PD:=Int×List Int
def PAt (w:World) (a:Option Addr) (ps:List PD):Prop:=
 ps=[]∨∃ b off,a=some ⟨b,off,none⟩∧b<w.heap.size∧∀ i,i<ps.length→∃ x c,w.cell? ⟨b,off+i*2,none⟩=some (.int .i64 (ps.getD i (0,[])).1)∧
  w.cell? ⟨b,off+i*2+1,none⟩=some (.slice x (ps.getD i (0,[])).2.length c)∧At .u8 w x (ps.getD i (0,[])).2
theorem PAt.get {w:World} {a:Option Addr} {ps:List PD} (h:PAt w a ps) (hz:0<ps.length) :
  ∃ b off,a=some ⟨b,off,none⟩∧b<w.heap.size∧∀ i,i<ps.length→∃ x c,w.cell? ⟨b,off+i*2,none⟩=some (.int .i64 (ps.getD i (0,[])).1)∧
  w.cell? ⟨b,off+i*2+1,none⟩=some (.slice x (ps.getD i (0,[])).2.length c)∧At .u8 w x (ps.getD i (0,[])).2:=by
 rcases h with h|h
 ·simp[h] at hz
 ·exact h
theorem PAt.below {w w':World} {a:Option Addr} {ps:List PD} (h:PAt w a ps) (hb:Below w.heap.size w w'):PAt w' a ps:=by
 rcases h with h|⟨b,off,rfl,hl,hc⟩
 ·exact .inl h
 ·exact .inr ⟨b,off,rfl,by have:=hb.size;omega,fun i hi=>by
   obtain⟨x,c,h1,h2,h3⟩:=hc i hi;exact⟨x,c,by rw[hb.cell (p:=⟨b,off+i*2,none⟩) hl];exact h1,by rw[hb.cell (p:=⟨b,off+i*2+1,none⟩) hl];exact h2,h3.below hb⟩⟩
def pSum (ps:List PD):Nat:=(ps.map (fun p=>p.2.length)).sum
theorem pSum_snoc (ps:List PD) (k:Nat) (h:k<ps.length):pSum (ps.take (k+1))=pSum (ps.take k)+(ps.getD k (0,[])).2.length:=by
 rw[List.take_succ_eq_append_getElem h];unfold pSum;rw[List.map_append,List.sum_append];simp[h]
theorem pSum_take (ps:List PD) (k:Nat):pSum (ps.take k)≤pSum ps:=by
 conv=>rhs;rw[←List.take_append_drop k ps]
 unfold pSum;rw[List.map_append,List.sum_append];omega
def szR (left:Int) (n:Nat):Int:=if left<n then -1 else left-n
set_option maxHeartbeats 400000 in
theorem szB_any (a:Option Addr) (n cap:Nat) (left:Int) (w:World) (h0:0≤left) (h1:left≤1048576) (hn:n≤9223372036854775807) :
  Calls Tryz.prog 25 #[.slice a n cap,.int .i64 left] w fun e w'=>e=.returned (.int .i64 (szR left n))∧w'=w:=by
 have HZ:Hid (szR left n=if left<n then -1 else left-n):=rfl;by_cases h:left<n
 ·have t:left-(n:Int)<0:=by omega
  go_enter Tryz.func25,Tryz.ntmps25;go_wp2
  go_ret
  exact⟨ret_int (by rw[HZ.out,if_pos h]),rfl⟩
 ·have t:¬ (left-(n:Int)<0):=by omega
  go_enter Tryz.func25,Tryz.ntmps25;go_wp2
  go_ret
  exact⟨ret_int (by rw[HZ.out,if_neg (by omega)]),rfl⟩
set_option maxHeartbeats 400000 in
theorem szP_any (s:Int) (x:Option Addr) (n c:Nat) (left:Int) (w:World) (h0:0≤left) (h1:left≤1048576) (hn:n≤9223372036854775807) :
  Calls Tryz.prog 67 #[.agg #[.int .i64 s,.slice x n c],.int .i64 left] w fun e w'=>e=.returned (.int .i64 (szR left n))∧Below w.heap.size w w':=by
 have HZ:Hid (szR left n=if left<n then -1 else left-n):=rfl;have hb:=(Below.refl w.heap.size w).alloc (Nat.le_refl _) (.cells #[.int .i64 s,.slice x n c] 105);go_enter Tryz.func67,Tryz.ntmps67;go_wp2_with (go_at_call 25;refine(szB_any _ _ _ _ _ h0 h1 hn).mono ?_;rintro e w1 ⟨rfl,rfl⟩)
 ·go_ret
  refine⟨ret_int ?_,hb⟩
  rename_i h
  rw[HZ.out] at h ⊢;split<;>simp_all<;>omega
 ·go_ret
  exact⟨rfl,hb⟩
set_option maxHeartbeats 400000 in
theorem szPS_any (a:Option Addr) (n cap:Nat) (ps:List PD) (left:Int) (w:World) (hl:ps.length=n) (h0:0≤left) (h1:left≤1048576) (hn:n≤9223372036854775807) (ha:PAt w a ps) (hps:∀ i,(ps.getD i (0,[])).2.length≤9223372036854775807) :
  Calls Tryz.prog 26 #[.slice a n cap,.int .i64 left] w fun e w'=>e=.returned (.int .i64 (szR left (n+pSum ps)))∧Below w.heap.size w w':=by
 have HZ:Hid (∀ left n,szR left n=if left<n then -1 else left-n):=fun _ _=>rfl
 by_cases h:left<n
 ·have t:left-(n:Int)<0:=by omega
  go_enter Tryz.func26,Tryz.ntmps26;go_wp2
  go_ret
  exact⟨ret_int (by rw[HZ.out,if_pos (by omega)]),Below.refl _ _⟩
 have t:¬ (left-(n:Int)<0):=by omega
 go_enter Tryz.func26,Tryz.ntmps26;go_wp2
 go_loopw [1,5] (fun q i wr=>∃ k:Nat,k≤n∧i=.int .i64 k∧q=.int .i64 (left-n-pSum (ps.take k))∧0≤left-n-pSum (ps.take k)∧Below w.heap.size w wr) (fun _ i _=>n-(intOf i).toNat)
 case atStart=>exact⟨0,Nat.zero_le _,rfl,by simp[pSum],by simp[pSum];omega,Below.refl _ _⟩
 case round=>
  obtain⟨k,hk,rfl,rfl,hpos,hbel⟩:=hrel;by_cases hlt:k<n
  ·have hps':=hps k;have hsn:=pSum_snoc ps k (by omega);have hst:=pSum_take ps (k+1);obtain⟨b,off,rfl,hb,hc⟩:=(ha.below hbel).get (by omega);obtain⟨x,c,h1,h2,h3⟩:=hc k (by omega);generalize (ps.getD k (0,[])).1=s at *;generalize (ps.getD k (0,[])).2.length=m at *;clear hc ha;by_cases hneg:left-n-pSum (ps.take k)<m
   ·have hr:szR (left-n-pSum (ps.take k)) m=-1:=by rw[HZ.out,if_pos hneg]
    have e:=HZ.out left (n+pSum ps);rw[if_pos (by omega)] at e;go_wp2_with (go_at_call 67;refine(szP_any _ _ _ _ _ _ hpos (by omega) hps').mono ?_;rintro e w1 ⟨rfl,hb1⟩;rw[hr])
    go_ret
    exact⟨ret_int e.symm,hbel.trans (hb1.mono hbel.size)⟩
   ·have hr:szR (left-n-pSum (ps.take k)) m=left-n-pSum (ps.take (k+1)):=by rw[HZ.out,if_neg hneg,hsn];omega
    have hp':0≤left-n-pSum (ps.take (k+1)):=by omega
    go_wp2_with (go_at_call 67;refine(szP_any _ _ _ _ _ _ hpos (by omega) hps').mono ?_;rintro e w1 ⟨rfl,hb1⟩;rw[hr];have HB1:Hid _:=hb1;clear hb1);go_roundw
    case rel=>exact⟨k+1,by omega,by go_num,by rw[hsn,Int.natCast_add],hp',hbel.trans (HB1.out.mono hbel.size)⟩
    case measure=>simp[intOf];omega
  ·have hkn:ps.take k=ps:=List.take_of_length_le (by omega);rw[hkn] at hpos ⊢;have e:=HZ.out left (n+pSum ps);go_wp2
   go_ret
   exact⟨ret_int (by rw[e,if_neg (by omega)];omega),hbel⟩
set_option maxHeartbeats 400000 in
theorem szD_any (a:Option Addr) (n cap:Nat) (a':Option Addr) (n' cap':Nat) (ps:List PD) (f:Int) (d:Bool) (left:Int) (w:World) (hl:ps.length=n') (h0:0≤left) (h1:left≤1048576) (hn:n≤9223372036854775807) (hn':n'≤9223372036854775807) (ha:PAt w a' ps) (hps:∀ i,(ps.getD i (0,[])).2.length≤9223372036854775807) :
  Calls Tryz.prog 6 #[.agg #[.slice a n cap,.slice a' n' cap',.int .i64 f,.bool d],.int .i64 left] w fun e w'=>e=.returned (.int .i64 (szR left (n+(n'+pSum ps))))∧Below w.heap.size w w':=by
 have HZ:Hid (∀ left n,szR left n=if left<n then -1 else left-n):=fun _ _=>rfl
 have hb:=(Below.refl w.heap.size w).alloc (Nat.le_refl _) (.cells #[.slice a n cap,.slice a' n' cap',.int .i64 f,.bool d] 25);have ha1:=ha.below hb;by_cases hc:left<n
 ·have hr:szR left n=-1:=by rw[HZ.out,if_pos hc]
  have e0:=HZ.out left (n+(n'+pSum ps));rw[if_pos (by omega)] at e0;go_enter Tryz.func6,Tryz.ntmps6;go_wp2_with (go_at_call 25;refine(szB_any _ _ _ _ _ h0 h1 hn).mono ?_;rintro e w1 ⟨rfl,rfl⟩;rw[hr])
  go_ret
  exact⟨ret_int e0.symm,hb⟩
 ·have hr:szR left n=left-n:=by rw[HZ.out,if_neg hc]
  have hpos:0≤left-(n:Int):=by omega
  have hd:szR left (n+(n'+pSum ps))=szR (left-n) (n'+pSum ps):=by
   rw[HZ.out,HZ.out];by_cases h:left<((n+(n'+pSum ps):Nat):Int)
   ·rw[if_pos h,if_pos (by omega)]
   ·rw[if_neg h,if_neg (by omega)];omega
  have hd':szR (left-n) (n'+pSum ps)<0→szR (left-n) (n'+pSum ps)=-1:=by
   rw[HZ.out];split<;>omega
  have HD:Hid _:=hd;have HD':Hid _:=hd';clear hd hd';go_enter Tryz.func6,Tryz.ntmps6;go_wp2_with (first
   |(go_at_call 25;refine(szB_any _ _ _ _ _ h0 h1 hn).mono ?_;rintro e w1 ⟨rfl,rfl⟩;rw[hr])
   |(go_at_call 26;refine(szPS_any _ _ _ ps _ _ hl hpos (by omega) hn' ha1 hps).mono ?_;rintro e w2 ⟨rfl,hb2⟩;have HB2:Hid _:=hb2;clear hb2))
  ·go_ret
   rename_i hneg
   exact⟨ret_int (by rw[HD.out,HD'.out hneg]),hb.trans (HB2.out.mono hb.size)⟩
  ·go_ret
   exact⟨ret_int HD.out.symm,hb.trans (HB2.out.mono hb.size)⟩
theorem owns_row {w:World} {B g n:Nat} {zs:List Int} {e:TypeId} (h:w.ownsRow B e 1 (.slice (some ⟨g,0,none⟩) n n) n (zs.map (Value.int .u8))):w.heap[g]?=some (.cells (zs.map (Value.int .u8)).toArray e (0,0)):=by
 obtain⟨h1,⟨h2,_⟩|⟨g',cap,cur,hv,hb,hh,hc,hm,hs,ht⟩⟩:=h
 ·cases h2
 ·cases hv;rw[List.take_of_length_le (by simp;omega)] at ht;rw[hh,←ht]
set_option maxHeartbeats 400000 in
theorem toP_any (s:Int) (x:Option Addr) (n c:Nat) (zs:List Int) (w:World) (hn:zs.length=n) (hm:n≤1048576) (ha:At .u8 w x zs) :
  Calls Tryz.prog 75 #[.agg #[.int .i64 s,.slice x n c]] w fun e w'=>∃ g,e=.returned (.agg #[.int .i64 s,.slice (some ⟨g,0,none⟩) n n])∧w.heap.size≤g∧w'.heap[g]?=some (.cells (zs.map (Value.int .u8)).toArray 5 (0,0))∧Below w.heap.size w w':=by
 go_enter Tryz.func75,Tryz.ntmps75;go_wp2_with fail;have hb:=(((Below.refl w.heap.size w).alloc (Nat.le_refl _) (.cells #[.int .i64 s,.slice x n c] 105)).alloc (by simp) (.cells #[.int .i64 0,.slice none 0 0] 106)).alloc (by simp;omega) (.cells #[.int .i64 s,.slice none 0 0] 106);have h2:(((w.alloc (.cells #[.int .i64 s,.slice x n c] 105)).alloc (.cells #[.int .i64 0,.slice none 0 0] 106)).alloc (.cells #[.int .i64 s,.slice none 0 0] 106)).heap[w.heap.size+1+1]?=some (.cells #[.int .i64 s,.slice none 0 0] 106 (0,0)):=by
  have:=heap_alloc_new ((w.alloc (.cells #[.int .i64 s,.slice x n c] 105)).alloc (.cells #[.int .i64 0,.slice none 0 0] 106)) (.cells #[.int .i64 s,.slice none 0 0] 106);simpa using this
 have h1:(((w.alloc (.cells #[.int .i64 s,.slice x n c] 105)).alloc (.cells #[.int .i64 0,.slice none 0 0] 106)).alloc (.cells #[.int .i64 s,.slice none 0 0] 106)).heap[w.heap.size+1]?=some (.cells #[.int .i64 0,.slice none 0 0] 106 (0,0)):=by
  rw[((Below.refl _ ((w.alloc (.cells #[.int .i64 s,.slice x n c] 105)).alloc (.cells #[.int .i64 0,.slice none 0 0] 106))).alloc (Nat.le_refl _) _).block _ (by simp)];have:=heap_alloc_new (w.alloc (.cells #[.int .i64 s,.slice x n c] 105)) (.cells #[.int .i64 0,.slice none 0 0] 106);simpa using this
 have hz3:(((w.alloc (.cells #[.int .i64 s,.slice x n c] 105)).alloc (.cells #[.int .i64 0,.slice none 0 0] 106)).alloc (.cells #[.int .i64 s,.slice none 0 0] 106)).heap.size=w.heap.size+3:=by simp
 generalize (((w.alloc (.cells #[.int .i64 s,.slice x n c] 105)).alloc (.cells #[.int .i64 0,.slice none 0 0] 106)).alloc (.cells #[.int .i64 s,.slice none 0 0] 106))=w3 at *;have ha3:=ha.below hb;have HZ3:Hid _:=hz3;clear hz3;refine(toB_any x n c zs w3 hn hm ha3).mono ?_;rintro e w4 ⟨rfl,ho4,hb4⟩;have k2:w4.heap[w.heap.size+1+1]?=some (.cells #[.int .i64 s,.slice none 0 0] 106 (0,0)):=by rw[hb4.block _ (by have:=HZ3.out;omega)];exact h2
 have k1:w4.heap[w.heap.size+1]?=some (.cells #[.int .i64 0,.slice none 0 0] 106 (0,0)):=by rw[hb4.block _ (by have:=HZ3.out;omega)];exact h1
 have c20:=cell_of_row w4 (w.heap.size+1+1) 0 _ _ _ k2;have c21:=cell_of_row w4 (w.heap.size+1+1) 1 _ _ _ k2;have c10:=cell_of_row w4 (w.heap.size+1) 0 _ _ _ k1;have c11:=cell_of_row w4 (w.heap.size+1) 1 _ _ _ k1;have f2:=frozen_of_row w4 (w.heap.size+1+1) 1 _ _ k2;have f10:=frozen_of_row w4 (w.heap.size+1) 0 _ _ k1;have f11:=frozen_of_row w4 (w.heap.size+1) 1 _ _ k1;simp at c20 c21 c10 c11;have hv:w4.heap[w3.heap.size]?=some (.cells (zs.map (Value.int .u8)).toArray 5 (0,0)):=owns_row ho4;have HV:Hid _:=hv;have HB4:Hid _:=hb4;have HB3:Hid _:=hb;have K1:Hid _:=k1;clear ho4 hb4 hb k1 k2 h1 h2 ha ha3 hv;go_wp2;have K2:=heap_setCell_same _ (w.heap.size+1) 0 _ _ (.int .i64 s) ((heap_setCell_other w4 ⟨w.heap.size+1+1,1,none⟩ (w.heap.size+1) (.slice (some ⟨w3.heap.size,0,none⟩) n n) (by simp)).trans K1.out);have K3:=heap_setCell_same _ (w.heap.size+1) 1 _ _ (.slice (some ⟨w3.heap.size,0,none⟩) n n) K2;have hz3:=HZ3.out;refine bodyPost_ret (v:=.agg #[.int .i64 s,.slice (some ⟨w3.heap.size,0,none⟩) n n]) (results_cell_row rfl _ _ (w.heap.size+1) 106 _ (0,0) _ rfl K3 Tryz.underlying106 rfl (by kernel_rfl)) rfl ⟨w3.heap.size,rfl,by omega,?_,?_⟩
 ·rw[heap_setCell_other _ _ _ _ (by simp;omega),heap_setCell_other _ _ _ _ (by simp;omega),heap_setCell_other _ _ _ _ (by simp;omega)];exact HV.out
 ·exact(((HB3.out.trans (HB4.out.mono (by omega))).setCell (by simp;omega) _).setCell (by simp) _).setCell (by simp) _
end Go.Proofs.YthmeoilbmfdhfaaGreat
