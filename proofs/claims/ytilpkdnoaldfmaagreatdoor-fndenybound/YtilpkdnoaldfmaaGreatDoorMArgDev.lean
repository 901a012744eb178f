import Derived.Test.YtilpkdnoaldfmaaGreatDoorMMkB
import Derived.Lib.SmallJoins
import Derived.Deep.SlicePairs
import Derived.Test.YtilpkdnoaldfmaaGreatDoorMBase
import Derived.BigRegion
import Derived.Test.YtilpkdnoaldfmaaGreatDoorMRegU
import Derived.Deep.Cut
import Derived.Test.YtilpkdnoaldfmaaGreatDoorMSvO
namespace Go.Proofs.YtilpkdnoaldfmaaGreatDoor
open Go.ChangeShapes Go.WideShapes Go.ChangeAt Go.RowKit
set_option linter.unusedVariables false
section
variable {H:Type} {enc:TypeId×Value→H} {W:World}
set_option maxRecDepth 100000 in
theorem bytes_of {fuel:Nat} {v:Value} {y:DataW H×List MemPlace} (h:DataW.trod enc Tryz.prog W 0 (fun _=>true) true fuel 22 [v]=some y) :
  ∃ a n cap zs,v=.slice a n cap∧zs.length=n∧n≤9223372036854775807∧Byte zs∧At .u8 W a zs:=by
 rcases open_ints Tryz.underlying22 Tryz.underlying5 (by kernel_rfl) h with⟨hcs,_⟩|⟨x,l,c,zs,hcs,_,hl,hm,hz,_,hcell,hwz⟩
 ·simp at hcs;exact⟨none,0,0,[],hcs,rfl,by omega,by simp[Byte],.inl rfl⟩
 ·simp at hcs;have hz':zs.length=c:=by simpa using hz
  refine⟨some x,l,c,zs.take l,hcs,by simp;omega,by unfold maxLen at hm;omega,fun n hn=>?_,?_⟩
  ·have:=hwz n (List.mem_of_mem_take hn);simp[Lit.wf,IntKind.min,IntKind.max,IntKind.signed,IntKind.bits] at this;omega
  ·by_cases h0:l=0
   ·left;simp[h0]
   ·right;obtain⟨b,off,spot⟩:=x;have hc0:=hcell 0 (by omega);have hs:spot=none:=by simpa[Addr.add] using World.cell?_spot hc0
    subst hs;refine⟨b,off,rfl,block_lt_of_cell (a:=(⟨b,off,none⟩:Addr).add 0) hc0,fun i hi=>?_⟩;have hi':i<l:=by simp at hi;omega
    have:=hcell i (by omega);rw[Addr.add_lit] at this;rw[this];simp[List.getD,hi']
end
theorem i64_or_nat (a b:Nat) (ha:a<4611686018427387904) (hb:b<4611686018427387904):bits .or .i64 (a:Int) (b:Int)=((a ||| b:Nat):Int):=by
 have hx:a ||| b<2^62:=Nat.or_lt_two_pow (by omega) (by omega);show IntKind.i64.wrap ((BitVec.ofInt 64 (a:Int) ||| BitVec.ofInt 64 (b:Int)).toNat:Int)=_
 rw[BitVec.toNat_or,ofInt_u64 a (by omega),ofInt_u64 b (by omega),IntKind.wrap_i64];omega
theorem i64_or_add (a b:Int) (k:Nat) (ha:0≤a) (ha':a<4611686018427387904) (hb:0≤b) (hb':b<2^k) (hb'':b<4611686018427387904) (q:Int) (hd:a=q*2^k):bits .or .i64 b a=b+a:=by
 have h:=u64_or_add a b k ha (by omega) hb hb' (by omega) q hd;obtain⟨a,rfl⟩:=Int.eq_ofNat_of_zero_le ha;obtain⟨b,rfl⟩:=Int.eq_ofNat_of_zero_le hb;rw[u64_or_nat a b (by omega) (by omega)] at h;rw[i64_or_nat b a (by omega) (by omega),Nat.or_comm];omega
theorem le_step (v x:Int) (j:Nat) (hj:j<7) (h0:0≤v) (h1:v<256^j) (x0:0≤x) (x1:x<256) :
  bits .or .i64 v (wrap64 (x*2^(8*j)))=v+x*256^j:=by
 have e:(2:Int)^(8*j)=256^j:=by rw[Int.pow_mul];rfl
 have hle:(256:Int)^j≤256^6:=by
  have:j=0∨j=1∨j=2∨j=3∨j=4∨j=5∨j=6:=by omega
  rcases this with h|h|h|h|h|h|h<;>rw[h]<;>decide
 have hP0:(0:Int)<256^j:=Int.pow_pos (by decide);have e7:(256:Int)^6=281474976710656:=by decide
 rw[e7] at hle;have m0:0≤x*256^j:=Int.mul_nonneg x0 (by omega);have m1:x*256^j≤255*256^j:=Int.mul_le_mul_of_nonneg_right (by omega) (by omega);rw[e];unfold wrap64;have e2:(x*256^j+9223372036854775808)%18446744073709551616-9223372036854775808=x*256^j:=by omega
 rw[e2];exact i64_or_add _ _ (8*j) m0 (by omega) h0 (by rw[e];exact h1) (by omega) x (by rw[e])
set_option maxHeartbeats 400000 in
theorem le_any (a:Option Addr) (n cap:Nat) (zs:List Int) (w:World) (hn:zs.length=n) (hm:n≤7) (ha:At .u8 w a zs) (hz:Byte zs) :
  Calls Tryz.prog 85 #[.slice a n cap] w fun e w'=>e=.returned (.int .i64 (val 256 zs))∧w'=w:=by
 go_enter Tryz.func85,Tryz.ntmps85;go_wp2
 go_loop [3,8] (fun c i=>∃ k:Nat,k≤n∧i=.int .i64 k∧c=.int .i64 (val 256 (zs.take k))) (fun _ i=>n-(intOf i).toNat)
 case atStart=>exact⟨0,Nat.zero_le _,rfl,rfl⟩
 case round=>
  obtain⟨k,hk,rfl,rfl⟩:=hrel;by_cases hlt:k<n
  ·obtain⟨b,off,rfl,hb,hc⟩:=ha.get (by omega);have hck:=hc k (by omega);have hx:=hz.get k;have ht0:0≤val 256 (zs.take k):=val_nonneg (by decide) (fun z hz'=>hz z (List.mem_of_mem_take hz'));have ht1:val 256 (zs.take k)<256^k:=by
    have:=val_lt (B:=256) (by decide) (xs:=zs.take k) (fun z hz'=>hz z (List.mem_of_mem_take hz'))
    rwa [List.length_take,Nat.min_eq_left (by omega)] at this
   have hs:=le_step _ _ k (by omega) ht0 ht1 hx.1 hx.2;rw[←val_take 256 zs k (by omega)] at hs;have HS:Hid (bits .or .i64 (val 256 (zs.take k)) (wrap64 (zs.getD k 0*2^(8*k)))=val 256 (zs.take (k+1))):=hs;clear hs hc ht0 ht1;generalize zs.getD k 0=x at *;generalize val 256 (zs.take k)=c at *;obtain⟨hx0,hx1⟩:=hx;go_wp2
   go_round
   case rel=>exact⟨k+1,by omega,by go_num,by rw[←HS.out]⟩
   case measure=>simp[intOf];omega
  ·have hk':k=n:=by omega
   subst hk';have HT:Hid (zs.take k=zs):=List.take_of_length_le (by omega);go_wp2
   go_ret
   exact⟨ret_int (by rw[HT.out]),rfl⟩
theorem hid_ofV {p:Prop} (h:p):Hid p:=h
theorem belD {B:Nat} {a w:World} (h:Below B a w) (n:Nat):Below B a (w.drewN n):=h.trans ⟨rfl,rfl,rfl,Nat.le_refl _,fun _ _=>rfl⟩
structure BE (w:World) (t:TypeId) (sa sb:Array Value) (wr:World):Prop where
 below:Below w.heap.size w wr
 b0:wr.heap[w.heap.size]?=some (.cells sa t (0,0))
 b1:wr.heap[w.heap.size+1]?=some (.cells sb t (0,0))
theorem BE.start (w:World) (t:TypeId) (sa sb:Array Value):BE w t sa sb ((w.alloc (.cells sa t)).alloc (.cells sb t)):=by
 refine⟨((Below.refl _ _).alloc (Nat.le_refl _) _).alloc (by simp) _,?_,?_⟩
 ·rw[Below.heap_alloc _ _ w.heap.size (by simp)];exact heap_alloc_new w _
 ·have:=heap_alloc_new (w.alloc (.cells sa t)) (.cells sb t)
  rwa [show(w.alloc (.cells sa t)).heap.size=w.heap.size+1 by simp] at this
structure OE (w:World) (t:TypeId) (sa:Array Value) (wr:World):Prop where
 below:Below w.heap.size w wr
 b0:wr.heap[w.heap.size]?=some (.cells sa t (0,0))
theorem OE.start (w:World) (t:TypeId) (sa:Array Value):OE w t sa (w.alloc (.cells sa t)):=⟨(Below.refl _ _).alloc (Nat.le_refl _) _,heap_alloc_new w _⟩
theorem OE.lt {w wr:World} {t:TypeId} {sa:Array Value} (h:OE w t sa wr):w.heap.size<wr.heap.size:=(Array.getElem?_eq_some_iff.1 h.b0).1
theorem OE.call {w wr w':World} {t:TypeId} {sa:Array Value} (h:OE w t sa wr) (b:Below wr.heap.size wr w'):OE w t sa w':=by
 have:=(Array.getElem?_eq_some_iff.1 h.b0).1;exact⟨h.below.trans (b.mono h.below.size),by rw[b.block _ (by omega)];exact h.b0⟩
theorem run_appG0 (tS tE:TypeId) (z:Value) (size bytes:Nat) (hinfo:(Tryz.prog.info? tE).map (fun i=>(i.zero,i.size,i.bytes))=some (some z,size,bytes)) (hu:Tryz.prog.underlying tS=some (.slice tE))
  (w:World) (ty:TypeId) (v:Addr) (x:Option Addr) (c:Nat):(Builtin.append_ #[tS,tS] ty #[.slice (some v) 0 0,.slice x 0 c]).run Tryz.prog w=.ok (.slice (some v) 0 0) w:=by
 obtain⟨i0,hi,hz0,hz1,hz2⟩:=info_parts hinfo;have hf:=fun ad=>run_firstCells_some (P:=Tryz.prog) w i0.size 0 ad 0 c [] (by simp) (fun j v hv=>by simp at hv)
 have hs:∀ p,(storeCells p []).run Tryz.prog w=.ok () w:=fun _=>rfl
 cases x with
 |none=>simp[Builtin.append_,run_underlying hu,sizeOf,typeInfo,zeroValue,hi,hz0,Builtin.lenOf,run_firstCells_none,hs]
 |some ad=>simp[Builtin.append_,run_underlying hu,sizeOf,typeInfo,zeroValue,hi,hz0,Builtin.lenOf,hf,hs]
def EmS (lo:Nat) (tE:TypeId) (w:World) (v:Value):Prop:=∃ g,v=.slice (some ⟨g,0,none⟩) 0 0∧lo≤g∧w.heap[g]?=some (.cells #[] tE (0,0))
theorem EmS.new {lo:Nat} (tE:TypeId) (w:World) (h:lo≤w.heap.size):EmS lo tE (w.alloc (.cells #[] tE)) (.slice (some ⟨w.heap.size,0,none⟩) 0 0):=⟨_,rfl,h,heap_alloc_new w _⟩
theorem EmS.owns {lo:Nat} {tE:TypeId} {w:World} {g:Nat} (size:Nat) (h1:lo≤g) (h2:w.heap[g]?=some (.cells #[] tE (0,0))):w.ownsRow lo tE size (.slice (some ⟨g,0,none⟩) 0 0) 0 []:=
 ⟨by simp,.inr ⟨g,0,#[],rfl,h1,h2,Nat.le_refl _,by simp[maxLen],by simp,by simp⟩⟩
theorem wp_appG (tS tE:TypeId) (z:Value) (size bytes:Nat) (hinfo:(Tryz.prog.info? tE).map (fun i=>(i.zero,i.size,i.bytes))=some (some z,size,bytes)) (hu:Tryz.prog.underlying tS=some (.slice tE)) (hzs:z.cells.size=size) (hsz:0<size) (hby:bytes≤64)
  (w:World) {o:Oper} {a:Act} {K:Act→World→Prop} {Q:Exit→Act→World→Prop} (s x:Operand) (hop:o.op=Op.call { callee:=Callee.builtin Builtin.append,args:=#[s,x],argTypes:=#[tS,tS] })
  (S:Nat) (v:Value) (hs:a.eval s=v) (hem:EmS S tE w v) (xa:Option Addr) (n c:Nat) (zs:List Int) (hx:a.eval x=.slice xa n c) (hl:zs.length=n*size) (hA:At .i64 w xa zs) (hb:n≤1048576) (hSw:S≤w.heap.size)
  (h:∀ v' w',w'.ownsRow S tE size v' n (zs.map (Value.int .i64))→Below w.heap.size w w'→K (a.put o.dst v') w'):o.wp Tryz.prog a w K Q:=by
 obtain⟨B,rfl,hB,hrow⟩:=hem;have hown:=EmS.owns size hB hrow;by_cases h0:n=0
 ·subst h0;have hz:zs=[]:=List.eq_nil_of_length_eq_zero (by omega);have hk:=h (.slice (some ⟨B,0,none⟩) 0 0) w (by rw[hz];exact hown) (Below.refl _ _);have hr:=run_appG0 tS tE z size bytes hinfo hu w o.type ⟨B,0,none⟩ xa c;unfold Oper.wp execOp;simp only[hop,resolve,invoke,builtin,Sem.run_bind,Sem.run_pure,Result.andThen_ok,List.map_toArray,List.map_cons,List.map_nil,hs,hx,hr];exact hk
 ·have hz0':0<zs.length:=by rw[hl];exact Nat.mul_pos (by omega) hsz
  obtain⟨b,off,rfl,hbl,hc⟩:=hA.get hz0';obtain⟨i0,hi,hz0,hz1,hz2⟩:=info_parts hinfo;have hnews:∀ j u,(zs.map (Value.int .i64))[j]?=some u→w.cell? ((⟨b,off,none⟩:Addr).add j)=some u:=by
   intro j u hu;have hj:j<zs.length:=by have:=(List.getElem?_eq_some_iff.1 hu).1;simpa using this
   rw[Addr.add_lit,hc j hj];simp[hj] at hu;simp[hj,hu]
  have hle:n*bytes≤1048576*64:=Nat.mul_le_mul hb hby;have hfit:Builtin.nextslicecap (0+n) 0*i0.bytes≤281474976710656:=by rw[Nat.zero_add,nextslicecap_zero (by omega),hz2];omega
  have hg:=run_append_grow (P:=Tryz.prog) w tS o.type tE i0 z hu hi hz0 ⟨B,0,none⟩ 0 0 [] (by simp) (fun j v hv=>by simp at hv) ⟨b,off,none⟩ n c (zs.map (Value.int .i64)) (by simp[hz1,hl]) hnews (by omega) (by omega) hfit;obtain⟨v',w',hr,h2,h3,h4⟩:=run_append_own (P:=Tryz.prog) w S tS o.type tE i0 z size bytes hu hi hz0 hz1 hz2 hzs hsz _ 0 [] hown ⟨b,off,none⟩ n c (zs.map (Value.int .i64)) (by simp[hl]) hnews (ints_oneCell _ _) (by unfold maxLen;omega) (by rw[Nat.zero_add];omega) hSw;have he:=hr.symm.trans hg;injection he with e1 e2
  have hBl:Below w.heap.size w w':=by rw[e2];exact(Below.refl _ _).drew.alloc (Nat.le_refl _) _
  have hk:=h v' w' (by simpa using h2) hBl;unfold Oper.wp execOp;simp only[hop,resolve,invoke,builtin,Sem.run_bind,Sem.run_pure,Result.andThen_ok,List.map_toArray,List.map_cons,List.map_nil,hs,hx,hr];exact hk
theorem run_nilS (t tE:TypeId) (hu:Tryz.prog.underlying t=some (.slice tE)) (w:World) (a:Option Addr) (n c:Nat):(binOp .eql t (.slice a n c) (.slice none 0 0)).run Tryz.prog w=.ok (.bool a.isNone) w:=by
 have h:∀ d,(Op.equalIn (d+1) t (.slice a n c) (.slice none 0 0)).run Tryz.prog w=.ok a.isNone w:=fun d=>by
  cases a<;>simp[Op.equalIn,run_underlying hu]
 have h':(Op.equal t (.slice a n c) (.slice none 0 0)).run Tryz.prog w=.ok a.isNone w:=h 9999;simp only[binOp];simp[h']
set_option maxRecDepth 100000 in
set_option maxHeartbeats 1000000 in
theorem clnT0_any (a:Option Addr) (n cap:Nat) (xs:List Int) (w:World) (hn:xs.length=n*2) (hm:n≤1048576) (ha:At .i64 w a xs) :
  Calls Tryz.prog 76 #[.slice a n cap] w fun e w'=>∃ v,e=.returned v∧TapO w.heap.size w' v xs n∧Below w.heap.size w w':=by
 have E:=run_nilS 32 123 Tryz.underlying32 w a n cap;cases a with
 |none=>
  have hx:xs=[]:=by rcases ha with h|⟨b,o,e,_⟩;exact h;cases e
  have HP:Hid (TapO w.heap.size w (.slice none 0 0) xs n):=by
   subst hx;obtain rfl:n=0:=by simp at hn;omega
   exact⟨rfl,.inl ⟨rfl,rfl⟩⟩
  clear hn ha hm hx;go_enter Tryz.func76,Tryz.ntmps76;go_wp2
  go_ret
  exact⟨_,rfl,HP.out,Below.refl _ _⟩
 |some ad=>
  have bb:Below w.heap.size w (w.alloc (.cells #[] 123)):=(Below.refl _ _).alloc (Nat.le_refl _) _;have HA:Hid (At .i64 (w.alloc (.cells #[] 123)) (some ad) xs∧EmS w.heap.size 123 (w.alloc (.cells #[] 123)) (.slice (some ⟨w.heap.size,0,none⟩) 0 0)):=⟨ha.below bb,EmS.new _ w (Nat.le_refl _)⟩
  have HB:=hid_ofV bb;have HN:=hid_ofV (And.intro hn hm);clear hn ha hm bb;go_enter Tryz.func76,Tryz.ntmps76;go_wp2_with (first
   |(refine wpList_plain rfl fun K hK=>wp_appG 32 123 (.agg #[.int .i64 0,.int .i64 0]) 2 16 Tryz.infoTap Tryz.underlying32 rfl (by decide) (by decide) _ (.tmp 5) (.tmp 6) rfl w.heap.size _ rfl HA.out.2 (some ad) n cap xs rfl HN.out.1 HA.out.1 HN.out.2 (by simp) fun v' w3 ho hb=>hK _ _ ?_)
   |fail)
  have HF:Hid (TapO w.heap.size w3 v' xs n∧Below w.heap.size w w3):=⟨by first|exact ho|(unfold TapO;rw[HN.out.1];exact ho),HB.out.trans (hb.mono HB.out.size)⟩
  clear ho hb HA HB HN;go_wp2
  go_ret
  exact⟨_,rfl,HF.out.1,HF.out.2⟩
def secV (z:List Int):Value:=.agg (z.map (Value.int .u8)).toArray
theorem At.drop {w:World} {b off:Nat} {zs:List Int} (h:At .u8 w (some ⟨b,off,none⟩) zs) (k:Nat):At .u8 w (some ⟨b,off+k,none⟩) (zs.drop k):=by
 rcases h with h|⟨b',off',e,hl,hc⟩
 ·left;simp[h]
 ·cases e;exact .inr ⟨b,off+k,rfl,hl,fun i hi=>by
   rw[Nat.add_assoc,hc (k+i) (by simp at hi;omega)];simp[List.getD]⟩
set_option maxHeartbeats 400000 in
theorem dur_any (g:Nat) (a x:Option Addr) (L c m cx:Nat) (f:Int) (s:Nat) (d:Bool) (zs:List Int) (w:World) (h:w.heap[g]?=some (.cells #[.slice a L c,.slice x m cx,.int .i64 f,.bool d] 27 (0,0))) (hL:L≤1048576) (hc:L≤c) (hl:zs.length=L) (hs:s*64+64≤L) (hA:At .u8 w a zs) :
  Calls Tryz.prog 20 #[.pointer (some ⟨g,0,none⟩),.int .i64 s] w fun e w'=>e=.returned (secV ((zs.drop (s*64)).take 64))∧Below w.heap.size w w':=by
 have c0:=cell_of_row w g 0 _ _ _ h;simp at c0;have hg:g<w.heap.size:=(Array.getElem?_eq_some_iff.1 h).1;clear h;obtain⟨b,off,rfl,hbl,_⟩:=hA.get (by omega);have HA:Hid _:=hA.drop (s*64);clear hA;have t1:(s:Int)*64≤L:=by omega
 have t2:¬ (c=s*64):=by omega
 go_enter Tryz.func20,Tryz.ntmps20;go_wp2_with fail;have hb1:=(Below.refl w.heap.size w).alloc (Nat.le_refl _) (.cells (List.replicate 64 (Value.int .u8 0)).toArray 65);have hz:((zs.drop (s*64)).take 64).length=64:=by simp;omega
 have HZ:Hid _:=hz;have HN:Hid (Row (w.alloc (.cells (List.replicate 64 (Value.int .u8 0)).toArray 65)) w.heap.size 65 (List.replicate 64 0)):=heap_alloc_new w _;refine(sectorOf_any _ (L-s*64) _ (zs.drop (s*64)) _ (by simp;omega) (by omega) (At.below HA.out hb1)).mono ?_;rintro e w2 ⟨rfl,hb2⟩;have hr:Row w2 w.heap.size 65 (List.replicate 64 0):=by unfold Row;rw[hb2.block _ (by simp)];exact HN.out
 have HR:Hid _:=hr;have HB:Hid (Below w.heap.size w w2):=hb1.trans (hb2.mono (by simp));clear hb1 hb2 hr HN hz HA;generalize hzz:(zs.drop (s*64)).take 64=z at *;have HZZ:Hid _:=hzz;clear hzz;have hs1:(Tryz.prog.info? 65).map (·.size)=some ((z.map (Value.int .u8)).toArray).size:=by rw[Tryz.sizeSec];simp[HZ.out]
 have HS1:Hid _:=hs1;clear hs1;go_wp2_with (refine wpList_store_row rfl 65 (.tmp 4) (.tmp 12) rfl w.heap.size ((z.map (Value.int .u8)).toArray) rfl rfl 65 _ HR.out HS1.out (by simp[HZ.out]) (all_oneCell_toArray (ints_oneCell _ _)) ?_);refine bodyPost_ret (v:=.agg (z.map (Value.int .u8)).toArray) (results_cell_row rfl _ _ w.heap.size 65 _ (0,0) _ rfl (setRow_heap _ _ _ _ _ _ HR.out) Tryz.underlying65 rfl HS1.out) rfl ⟨by rw[HZZ.out];rfl,?_⟩;exact HB.out.trans ((Wr.setRow _ _ _).below (Nat.le_refl _))
theorem wp_world {P:Program} {c:Code} {Q:Exit→Act→World→Prop} {a:Act} {w w':World} (h:w'=w) (k:Code.wp P c Q a w'):Code.wp P c Q a w:=h ▸ k
def kF (i:Nat):IntKind:=if i%4=1 then .i64 else .u32
theorem kF0 (k:Nat):kF (k*4)=.u32:=by unfold kF;rw[if_neg (by omega)]
theorem kF1 (k:Nat):kF (k*4+1)=.i64:=by unfold kF;rw[if_pos (by omega)]
theorem kF2 (k:Nat):kF (k*4+2)=.u32:=by unfold kF;rw[if_neg (by omega)]
theorem kF3 (k:Nat):kF (k*4+3)=.u32:=by unfold kF;rw[if_neg (by omega)]
def FAt (w:World) (a:Option Addr) (F:List Int):Prop:=
 F=[]∨∃ b off,a=some ⟨b,off,none⟩∧b<w.heap.size∧∀ i,i<F.length→w.cell? ⟨b,off+i,none⟩=some (.int (kF i) (F.getD i 0))
theorem FAt.get {w:World} {a:Option Addr} {F:List Int} (h:FAt w a F) (hz:0<F.length) :
  ∃ b off,a=some ⟨b,off,none⟩∧b<w.heap.size∧∀ i,i<F.length→w.cell? ⟨b,off+i,none⟩=some (.int (kF i) (F.getD i 0)):=by
 rcases h with h|h
 ·simp[h] at hz
 ·exact h
theorem FAt.below {w w':World} {a:Option Addr} {F:List Int} (h:FAt w a F) (hb:Below w.heap.size w w'):FAt w' a F:=by
 rcases h with h|⟨b,off,rfl,hl,hc⟩
 ·exact .inl h
 ·exact .inr ⟨b,off,rfl,by have:=hb.size;omega,fun i hi=>by rw[hb.cell (p:=⟨b,off+i,none⟩) hl];exact hc i hi⟩
theorem FAt.four {w:World} {b o:Nat} {F:List Int} (hc:∀ i,i<F.length→w.cell? ⟨b,o+i,none⟩=some (.int (kF i) (F.getD i 0))) (k:Nat) (hk:k*4+3<F.length) :
  w.cell? ⟨b,o+k*4,none⟩=some (.int .u32 (F.getD (k*4) 0))∧w.cell? ⟨b,o+k*4+1,none⟩=some (.int .i64 (F.getD (k*4+1) 0))∧w.cell? ⟨b,o+k*4+2,none⟩=some (.int .u32 (F.getD (k*4+2) 0))∧w.cell? ⟨b,o+k*4+3,none⟩=some (.int .u32 (F.getD (k*4+3) 0)):=by
 have h0:=hc (k*4) (by omega);have h1:=hc (k*4+1) (by omega);have h2:=hc (k*4+2) (by omega);have h3:=hc (k*4+3) (by omega);rw[kF0] at h0;rw[kF1,←Nat.add_assoc] at h1;rw[kF2,←Nat.add_assoc] at h2;rw[kF3,←Nat.add_assoc] at h3;exact⟨h0,h1,h2,h3⟩
def fC (F:List Int):Array Value:=((List.range F.length).map (fun i=>Value.int (kF i) (F.getD i 0))).toArray
theorem Tryz.infoFr:(Tryz.prog.info? 92).map (fun i=>(i.zero,i.size,i.bytes))=some (some (.agg #[.int .u32 0,.int .i64 0,.int .u32 0,.int .u32 0]),4,24):=by kernel_rfl
theorem eq_of_getD {xs ys:List Int} (hl:xs.length=ys.length) (h:∀ j,j<xs.length→xs.getD j 0=ys.getD j 0):xs=ys:=by
 apply List.ext_getElem hl;intro j h1 h2;have:=h j h1;simpa[List.getD,h1,h2] using this
theorem ne_of_len {xs ys:List Int} (h:xs.length≠ys.length):xs≠ys:=fun e=>h (by rw[e])
set_option maxHeartbeats 800000 in
theorem slEq_any (a b:Option Addr) (n c m c':Nat) (xs ys:List Int) (w:World) (hn:xs.length=n) (hm:ys.length=m) (hN:n≤9223372036854775807) (hM:m≤9223372036854775807) (ha:At .i64 w a xs) (hb:At .i64 w b ys) :
  Calls Tryz.prog 62 #[.slice a n c,.slice b m c'] w fun e w'=>e=.returned (.bool (decide (xs=ys)))∧∃ q,w'=w.drewN q:=by
 by_cases hnm:n=m
 ·subst hnm;have h0:((n:Int) != (n:Int))=false:=by simp
  have HL:Hid (xs.length=n∧ys.length=n):=⟨hn,hm⟩
  clear hn hm;go_enter Tryz.func62,Tryz.ntmps62;go_wp2
  go_loopw [13] (fun i wr=>∃ k q:Nat,k≤n∧i=.int .i64 k∧wr=w.drewN q∧∀ j,j<k→xs.getD j 0=ys.getD j 0) (fun i _=>n-(intOf i).toNat)
  case atStart=>exact⟨0,0,Nat.zero_le _,rfl,rfl,fun j h=>absurd h (by omega)⟩
  case round=>
   obtain⟨k,q,hk,rfl,rfl,hj⟩:=hrel;have HJ:=hid_ofV hj;clear hj;by_cases hlt:k<n
   ·obtain⟨b1,o1,rfl,hb1,hc⟩:=ha.get (by have:=HL.out;omega);obtain⟨b2,o2,rfl,hb2,hc'⟩:=hb.get (by have:=HL.out;omega);have g1:=hc k (by have:=HL.out;omega);have g2:=hc' k (by have:=HL.out;omega);have HX:Hid (xs.getD k 0=ys.getD k 0→∀ j,j<k+1→xs.getD j 0=ys.getD j 0):=fun e j h=>by
     by_cases hjk:j<k
     ·exact HJ.out j hjk
     ·obtain rfl:j=k:=by omega
      exact e
    have HY:Hid (xs.getD k 0≠ys.getD k 0→decide (xs=ys)=false):=fun e=>decide_eq_false (fun h=>e (by rw[h]))
    generalize xs.getD k 0=x at *;generalize ys.getD k 0=y at *;have hlt':(k:Int)<(n:Int):=by omega
    clear hc hc' ha hb HJ;by_cases hxy:x=y
    ·have HX2:=hid_ofV (HX.out hxy);clear HX HY;subst hxy;have hx:(x != x)=false:=by simp
     go_wp2
     go_quiet (fail)
     go_wp2;go_roundw
     case rel=>exact⟨k+1,_,by omega,by go_num,rfl,HX2.out⟩
     case measure=>simp[intOf];omega
    ·have hx:(x != y)=true:=by simpa using hxy
     have HF:=hid_ofV (HY.out hxy);clear HX HY hxy;go_wp2
     go_quiet (fail)
     go_wp2
     go_ret
     exact⟨by rw[HF.out];rfl,_,World.drewN_drewN _ _ _⟩
   ·have HF:Hid (decide (xs=ys)=true):=decide_eq_true (eq_of_getD (by have:=HL.out;omega) (fun j h=>HJ.out j (by have:=HL.out;omega)));clear HJ;go_wp2
    go_ret
    exact⟨by rw[HF.out];rfl,q,rfl⟩
 ·have h0:((n:Int) != (m:Int))=true:=by simp;omega
  have HF:Hid (decide (xs=ys)=false):=decide_eq_false (ne_of_len (by omega));clear hn hm;have h1:¬ ((n:Int)=(m:Int)):=by omega
  go_enter Tryz.func62,Tryz.ntmps62;go_wp2
  go_ret
  exact⟨by rw[HF.out];rfl,0,rfl⟩
end Go.Proofs.YtilpkdnoaldfmaaGreatDoor
