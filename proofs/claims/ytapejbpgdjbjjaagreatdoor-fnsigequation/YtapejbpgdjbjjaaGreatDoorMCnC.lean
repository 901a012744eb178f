import Derived.Test.YtapejbpgdjbjjaaGreatDoorMVal
import Derived.Test.YtapejbpgdjbjjaaGreatDoorMErp
import Derived.Lib.AppendZerosOnto
import Derived.Test.YtapejbpgdjbjjaaGreatDoorMEpt
import Derived.Laws.Externs
namespace Go.Proofs.YtapejbpgdjbjjaaGreatDoor
open Go.ChangeShapes Go.WideShapes Go.ChangeAt Go.RowKit
set_option linter.unusedVariables false
def RowC (w:World) (g C:Nat):Prop:=∃ cur:Array Value,w.heap[g]?=some (.cells cur 5 (0,0))∧cur.size=C
theorem wpList_appZ (w:World) {ops:Array Oper} {rest:List Oper} {o:Oper} {a:Act} {Q:Exit→Act→World→Prop} (hg:o.guard=none) (s x:Operand)
  (hop:o.op=Op.call { callee:=Callee.builtin Builtin.append,args:=#[s,x],argTypes:=#[22,3] }) (hs:a.eval s=.slice none 0 0) (n:Nat) (hx:a.eval x=.int .i64 n) (hn:0<n) (hb:n≤2097152)
  (hK:∀ C w',n≤C→C≤maxLen→RowC w' w.heap.size C→Below w.heap.size w w'→wpList Tryz.prog ops Q rest (a.put o.dst (.slice (some ⟨w.heap.size,0,none⟩) n C)) w') :
  wpList Tryz.prog ops Q (o::rest) a w:=by
 obtain⟨i0,hi,hz0,hz1,hz2⟩:=info_parts Tryz.infoU8'
 have hfit:Builtin.nextslicecap (0+n) 0*i0.bytes≤281474976710656:=by rw[Nat.zero_add,nextslicecap_zero (by omega),hz2];omega
 have hr:=Go.Lib.run_append_grow_zeros (P:=Tryz.prog) w 22 3 o.type 5 i0 (.int .u8 0) .i64 .i64 Tryz.underlying22 Tryz.underlying3 hi hz0 none 0 0 [] (by rfl) n hn (by omega) (by omega) (by omega) (by rw[hz2];omega) hfit
 have hge:=grownCap_ge w (0+n) 0 5
 have hle:=grownCap_le_maxLen w (0+n) 0 5 (by unfold maxLen;omega)
 rw[Nat.zero_add] at hr hge hle
 generalize grownCap w n 0 5=C at hr hge hle
 refine wpList_plain hg fun K hK'=>?_
 have hk:=hK' _ _ (hK C _ hge hle ⟨_,heap_alloc_new w.drew (.cells ((([]:List Value).toArray++Builtin.zeroCells (Value.int .u8 0).cells n)++Builtin.zeroCells (Value.int .u8 0).cells (C-n)) 5),by simp[Builtin.zeroCells,Value.cells];omega⟩ ((Below.refl _ _).drew.alloc (Nat.le_refl _) _))
 unfold Oper.wp execOp
 simp only[hop,resolve,invoke,builtin,Sem.run_bind,Sem.run_pure,Result.andThen_ok,List.map_toArray,List.map_cons,List.map_nil,hs,hx,hr]
 exact hk
set_option maxRecDepth 100000 in
set_option maxHeartbeats 1000000 in
theorem grow_any (n:Nat) (w:World) (hn:0<n) (hb:n≤2097152) :
  Calls Tryz.prog 76 #[.slice none 0 0,.int .i64 n] w fun e w'=>∃ v,e=.returned v∧Own w' w.heap.size v []∧Below w.heap.size w w':=by
 have h0:¬ ((n:Int)<0):=by omega
 have h1:(n:Int)>0:=by omega
 go_enter Tryz.func76,Tryz.ntmps76
 go_wp2_with (first
  |(refine wpList_appZ _ rfl (.tmp 20) (.tmp 21) rfl rfl n rfl hn hb ?_)
  |fail)
 intro C w1 hC hm hrow hb1
 have HF:Hid (Own w1 w.heap.size (.slice (some ⟨w.heap.size,0,none⟩) 0 C) []):=by
  obtain⟨cur,h1,h2⟩:=hrow;exact⟨⟨by simp,.inr ⟨w.heap.size,C,cur,rfl,Nat.le_refl _,h1,by simp,hm,by rw[h2,Nat.mul_one],by simp⟩⟩,_,_,rfl⟩
 have HB:Hid (Below w.heap.size w w1):=hb1
 have hC':(0:Int)≤C:=by omega
 have hm':C≤9223372036854775807:=by unfold maxLen at hm;omega
 clear hrow hb1 hm
 go_wp2
 go_ret
 exact⟨_,rfl,HF.out,HB.out⟩
def tot (zss:List (List Int)) (k:Nat):Nat:=(zss.take k).flatten.length
theorem tot_succ (zss:List (List Int)) (k:Nat) (h:k<zss.length):tot zss (k+1)=tot zss k+(zss.getD k []).length:=by
 unfold tot;rw[flat_snoc zss k h,List.length_append]
set_option maxRecDepth 100000 in
set_option maxHeartbeats 2000000 in
theorem conc_any (p m cap:Nat) (vs:List Value) (zss:List (List Int)) (w:World) (hm:zss.length=m) (hp:p<w.heap.size) (hc:∀ i,i<m→w.cell? ⟨p,i,none⟩=some (vs.getD i undef))
  (hz:∀ i,i<m→Part w (vs.getD i undef) (zss.getD i [])) (ht:zss.flatten.length≤2097152) (h0:0<zss.flatten.length) (hm':m≤2097152) :
  Calls Tryz.prog 39 #[.slice (some ⟨p,0,none⟩) m cap] w fun e w'=>∃ v,e=.returned v∧Own w' w.heap.size v zss.flatten∧Below w.heap.size w w':=by
 have HM:Hid (zss.length=m):=hm
 have HC:Hid (∀ i,i<m→w.cell? ⟨p,i,none⟩=some (vs.getD i undef)):=hc
 have HZ:Hid (∀ i,i<m→Part w (vs.getD i undef) (zss.getD i [])):=hz
 have HT:Hid (zss.flatten.length≤2097152∧0<zss.flatten.length):=⟨ht,h0⟩
 have HTA:Hid (tot zss m=zss.flatten.length):=by show _=_;unfold tot;rw[List.take_of_length_le (by omega)]
 clear hc hz ht h0 hm
 go_enter Tryz.func39,Tryz.ntmps39
 go_wp2_with fail
 go_loop [3,11] (fun q i=>∃ k:Nat,k≤m∧i=.int .i64 k∧q=.int .i64 (tot zss k)) (fun _ i=>m-(intOf i).toNat)
 case atStart=>exact⟨0,Nat.zero_le _,rfl,rfl⟩
 case round=>
  obtain⟨k,hk,rfl,rfl⟩:=hrel;by_cases hlt:k<m
  ·have hlt':(k:Int)<m:=by omega
   obtain⟨b,o,c,hv,hb,hcell⟩:=HZ.out k hlt;have hck:w.cell? ⟨p,k,none⟩=some (.slice (some ⟨b,o,none⟩) (zss.getD k []).length c):=by rw[HC.out k hlt,hv]
   have HS:Hid (tot zss (k+1)=tot zss k+(zss.getD k []).length):=tot_succ zss k (by have:=HM.out;omega);have hle:tot zss (k+1)≤2097152:=Nat.le_trans (flat_le zss (k+1)) HT.out.1;rw[HS.out] at hle;clear hcell hv hb;generalize (zss.getD k []).length=z at *;generalize tot zss k=y at *;have hn0:¬ ((y:Int)+z<0):=by omega
   go_wp2
   go_round
   case rel=>exact⟨k+1,by omega,by go_num,by rw[HS.out];go_num⟩
   case measure=>simp[intOf];omega
  ·have hke:k=m:=by omega
   subst hke;obtain⟨N,hN⟩:∃ N,tot zss k=N:=⟨_,rfl⟩
   have CG:=grow_any N w (by rw[←hN,HTA.out];exact HT.out.2) (by rw[←hN,HTA.out];exact HT.out.1);have hNb:N≤2097152:=by rw[←hN,HTA.out];exact HT.out.1
   rw[hN];clear hN HTA;have hlt':¬ ((k:Int)<k):=by omega
   go_wp2_with fail;refine CG.mono ?_;rintro e w1 ⟨v1,rfl,ho1,hb1⟩;have HO1:Hid (Own w1 w.heap.size v1 []):=ho1;have HB1:Hid (Below w.heap.size w w1):=hb1;clear ho1 hb1 hlt' CG;go_wp2_with fail
   go_loopw [6,27] (fun v i wr=>∃(j:Nat) (l:Value),j≤k∧i=.int .i64 j∧l=v∧Own wr w.heap.size l (zss.take j).flatten∧Below w.heap.size w wr) (fun _ i _=>k-(intOf i).toNat)
   case atStart=>exact⟨0,_,Nat.zero_le _,rfl,rfl,HO1.out,HB1.out⟩
   case round=>
    clear HO1 HB1;obtain⟨j,l,hj,rfl,rfl,hown,hbel⟩:=hrel;by_cases hlt:j<k
    ·have hsz:=hbel.size;obtain⟨b,o,c,hv,hb,hcell⟩:=HZ.out j hlt;have hck:wr.cell? ⟨p,j,none⟩=some (.slice (some ⟨b,o,none⟩) (zss.getD j []).length c):=by rw[hbel.cell (p:=⟨p,j,none⟩) hp,HC.out j hlt,hv]
     have HNW:Hid (∀ i,i<(zss.getD j []).length→wr.cell? ((⟨b,o,none⟩:Addr).add i)=some (.int .u8 ((zss.getD j []).getD i 0))):=by
      intro i hi;rw[Addr.add_lit,hbel.cell (p:=⟨b,o+i,none⟩) hb];exact hcell i hi
     have hfl:=flat_snoc zss j (by have:=HM.out;omega);have hle:=flat_le zss (j+1);have HL:Hid ((zss.take j).flatten.length+(zss.getD j []).length≤1099511627776):=by show _≤_;rw[hfl,List.length_append] at hle;have:=HT.out.1;omega
     have HFL:Hid ((zss.take (j+1)).flatten=(zss.take j).flatten++zss.getD j []):=hfl;have HOW:Hid (Own wr w.heap.size l (zss.take j).flatten):=hown;have HBE:Hid (Below w.heap.size w wr):=hbel;clear hcell hv hb hfl hle hown hbel;go_wp2_with (first
      |(at_builtin;refine wpList_app _ rfl (.tmp 31) (.tmp 32) rfl w.heap.size _ _ rfl HOW.out ⟨b,o,none⟩ _ c (zss.getD j []) rfl rfl HNW.out HL.out hsz ?_)
      |fail)
     intro v' w2 hown' hbel' _;have HO2:Hid (Own w2 w.heap.size v' (zss.take (j+1)).flatten):=by show Own _ _ _ _;rw[HFL.out];exact hown'
     have HB2:Hid (Below w.heap.size w w2):=HBE.out.trans hbel';clear hown' hbel' HOW HBE HNW;go_wp2;go_roundw
     case rel=>exact⟨j+1,_,by omega,by go_num,rfl,HO2.out,HB2.out⟩
     case measure=>simp[intOf];omega
    ·have hje:j=k:=by omega
     have hlt':¬ ((j:Int)<k):=by omega
     have HO2:Hid (Own wr w.heap.size l zss.flatten):=by
      have:zss.take j=zss:=List.take_of_length_le (by have:=HM.out;omega);rw[this] at hown;exact hown
     clear hown;go_wp2
     go_ret
     exact⟨_,rfl,HO2.out,hbel⟩
end Go.Proofs.YtapejbpgdjbjjaaGreatDoor
namespace Go.Proofs.YtapejbpgdjbjjaaGreatDoor
open Go.ChangeShapes Go.WideShapes Go.ChangeAt Go.RowKit
set_option linter.unusedVariables false
def sub64E:Array Value→Sem Value:=fun args=>do
 let (x, y, b) ← Extern.MathBitsCarry.three "Sub64" args
 pure (Extern.MathBitsCarry.pair ((x+Extern.MathBitsCarry.m64-y-b)%Extern.MathBitsCarry.m64) (if x<y+b then 1 else 0))
theorem run_sub64E (x y b:Nat) (hb:b≤1) (w:World) :
  (sub64E #[.int .u64 x,.int .u64 y,.int .u64 b]).run Tryz.prog w=
   .ok (.tuple #[.int .u64 (((x+18446744073709551616-y-b)%18446744073709551616:Nat):Int),.int .u64 ((if x<y+b then 1 else 0:Nat):Int)]) w:=by
 have:b=0∨b=1:=by omega
 rcases this with rfl|rfl<;>rfl
theorem sub64 (x y b:Int) (hx:0≤x) (hy:0≤y) (hy':y<18446744073709551616) (hb0:0≤b) (hb:b≤1) (w:World):(callFunc 98 #[.int .u64 x,.int .u64 y,.int .u64 b]).run Tryz.prog w=
  .ok (.value (.tuple #[.int .u64 ((x-y-b)%18446744073709551616),.int .u64 (bor x y b)])) w:=by
 obtain⟨x,rfl⟩:=Int.eq_ofNat_of_zero_le hx
 obtain⟨y,rfl⟩:=Int.eq_ofNat_of_zero_le hy
 obtain⟨b,rfl⟩:=Int.eq_ofNat_of_zero_le hb0
 have e1:(((x+18446744073709551616-y-b)%18446744073709551616:Nat):Int)=((x:Int)-y-b)%18446744073709551616:=by omega
 have e2:((if x<y+b then 1 else 0:Nat):Int)=bor x y b:=by unfold bor;split<;>split<;>omega
 rw[run_callFunc_extern Tryz.func98 (by kernel_rfl) (by kernel_rfl) (by kernel_rfl) (e:=sub64E) (by kernel_rfl),run_sub64E x y b (by omega),e1,e2]
 rfl
set_option maxHeartbeats 400000 in
theorem push_any (g:Nat) (ns:List Int) (bit:Int) (w:World) (hl:ns.length=4) (hr:RowW w g 57 ns) (hw:Wrd ns) (hb:bit=0∨bit=1) :
  Calls Tryz.prog 74 #[.pointer (some ⟨g,0,none⟩),.int .u64 bit] w fun e w'=>e=.returned (.tuple #[])∧∃ ms,ms.length=4∧RowW w' g 57 ms∧Wrd ms∧(∃ c,0≤c∧val 18446744073709551616 ms+c*18446744073709551616^4=2*val 18446744073709551616 ns+bit)∧Wr g w w':=by
 go_enter Tryz.func74,Tryz.ntmps74
 go_wp2
 go_loopw [1,7] (fun c i wr=>∃(k:Nat) (ms:List Int) (b:Int),k≤4∧i=.int .i64 k∧c=.int .u64 b∧(b=0∨b=1)∧ms.length=4∧RowW wr g 57 ms∧Wrd ms∧ms.drop k=ns.drop k∧val 18446744073709551616 (ms.take k)+b*18446744073709551616^k=2*val 18446744073709551616 (ns.take k)+bit∧Wr g w wr) (fun _ i _=>4-(intOf i).toNat)
 case atStart=>exact⟨0,ns,bit,Nat.zero_le _,rfl,rfl,hb,hl,hr,hw,rfl,by simp[val],Wr.refl _ _⟩
 case round=>
  obtain⟨k,ms,b,hk,rfl,rfl,hb',hml,hmr,hmw,hmd,hv,hwr⟩:=hrel;by_cases hlt:k<4
  ·have ck:=hmr.cell k (by omega);have fk:=hmr.frozen k;have hx:=hmw.get k;have hgd:=getD_of_drop hmd;have hx2:∀ c,0≤c→c<2→0≤2*ms.getD k 0%18446744073709551616+c∧2*ms.getD k 0%18446744073709551616+c<18446744073709551616:=fun c h0 h1=>by omega
   have S1:RowW (wr.setCell ⟨g,k,none⟩ (.int .u64 (2*ms.getD k 0%18446744073709551616+b))) g 57 (ms.set k (2*ms.getD k 0%18446744073709551616+b)):=hmr.set k _;have S2:Wrd (ms.set k (2*ms.getD k 0%18446744073709551616+b)):=hmw.set k _ (hx2 b (by omega) (by omega)).1 (hx2 b (by omega) (by omega)).2;have S3:=(drop_set_succ ms k (2*ms.getD k 0%18446744073709551616+b)).trans (drop_succ_of hmd);have S4:val 18446744073709551616 ((ms.set k (2*ms.getD k 0%18446744073709551616+b)).take (k+1))+ms.getD k 0/9223372036854775808*18446744073709551616^(k+1)=2*val 18446744073709551616 (ns.take (k+1))+bit:=by
    rw[val_set_succ _ _ _ _ (by omega),val_take _ ns k (by omega),←hgd,Int.pow_succ];have e:(2*ms.getD k 0%18446744073709551616)+ms.getD k 0/9223372036854775808*18446744073709551616=2*ms.getD k 0:=by omega
    generalize ms.getD k 0=x at *;generalize (18446744073709551616:Int)^k=P at *;have e':((2*x%18446744073709551616)+x/9223372036854775808*18446744073709551616)*P=2*x*P:=by rw[e]
    grind
   have HW:Hid (Wr g w (wr.setCell ⟨g,k,none⟩ (.int .u64 (2*ms.getD k 0%18446744073709551616+b)))):=hwr.setCell k _;have HL:Hid ((ms.set k (2*ms.getD k 0%18446744073709551616+b)).length=4):=by rw[List.length_set];exact hml
   have HC:Hid (bits .or .u64 (IntKind.u64.wrap (ms.getD k 0*2)) b=2*ms.getD k 0%18446744073709551616+b):=by
    show bits .or .u64 (IntKind.u64.wrap (ms.getD k 0*2)) b=_
    rw[IntKind.wrap_u64,Int.mul_comm];exact u64_or_add _ _ 1 (by omega) (by omega) (by omega) (by omega) (by omega) (2*ms.getD k 0%18446744073709551616/2) (by omega)
   have hbb:ms.getD k 0/9223372036854775808=0∨ms.getD k 0/9223372036854775808=1:=by omega
   have HBB:Hid _:=hbb;have H1:Hid _:=S1;have H2:Hid _:=S2;have H3:Hid _:=S3;have H4:Hid _:=S4;clear hgd hx2 S1 S2 S3 S4 hmr hmw hmd hv hwr hbb hr hw;generalize ms.getD k 0=x at *;obtain⟨hx0,hx1⟩:=hx;have hlt':(k:Int)<4:=by omega
   go_wp2
   go_quiet (fail)
   go_wp2;rw[HC.out];refine⟨⟨k+1,ms.set k (2*x%18446744073709551616+b),x/9223372036854775808,by omega,by go_num,rfl,HBB.out,HL.out,H1.out,H2.out,H3.out,H4.out,?_⟩,by simp[intOf];omega⟩;exact⟨HW.out.os,HW.out.tape,HW.out.output,HW.out.size,HW.out.block⟩
  ·have hk4:k=4:=by omega
   subst hk4;rw[List.take_of_length_le (by omega),List.take_of_length_le (by omega)] at hv;have H:Hid (∃ ms,ms.length=4∧RowW wr g 57 ms∧Wrd ms∧(∃ c,0≤c∧val 18446744073709551616 ms+c*18446744073709551616^4=2*val 18446744073709551616 ns+bit)∧Wr g w wr):=
    ⟨ms,hml,hmr,hmw,⟨b,by omega,hv⟩,hwr⟩
   clear hml hmr hmw hv hwr hmd hr hw hb hb';go_wp2
   go_end0
   exact⟨rfl,H.out⟩
end Go.Proofs.YtapejbpgdjbjjaaGreatDoor
