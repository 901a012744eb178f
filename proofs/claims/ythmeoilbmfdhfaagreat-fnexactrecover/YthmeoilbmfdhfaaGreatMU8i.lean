import Derived.Test.YthmeoilbmfdhfaaGreatMBase
open Go.Value renaming slice->UD,int->UE
open Go.IntKind renaming u32->UG,u8->UH
namespace Go.Proofs.YthmeoilbmfdhfaaGreat
set_option maxHeartbeats 400000
open Go.ChangeShapes Go.WideShapes Go.ChangeAt Go.RowKit
set_option linter.unusedVariables false
theorem Tryz.infoU8:(Tryz.prog.info? 5).map (λi=>(i.zero,i.size,i.bytes))=some (some (UE UH 0),1,1):=AN
def cp (zs:List Int) (k:Nat):List Int:=zs.take k++List.replicate (zs.length-k) 0
theorem QI (zs:List Int):cp zs 0=List.replicate zs.length 0:=by simp[cp]
theorem Rz (zs:List Int):cp zs zs.length=zs:=by simp[cp]
theorem R0 (zs:List Int) (k:Nat) (h:k<=zs.length):(cp zs k).length=zs.length:=by simp[cp];omega
theorem QJ (zs:List Int) (k:Nat) (h:k<zs.length):(cp zs k).set k (zs.getD k 0)=cp zs (k+1):=by
 unfold cp;have hl:(zs.take k).length=k:=by simp;omega
 rw[FQ zs k h,B6 _ _ AK,hl,Nat.sub_self];have:zs.length-k=(zs.length-(k+1))+1:=AK
 rw[this,List.replicate_succ,List.set_cons_zero];simp
theorem Jl (a:Option Addr) (n cap:Nat) (zs:List Int) (w:World) (hn:zs.length=n) (hm:n<=1048576) (ha:At UH w a zs) :
  Calls Tryz.prog 16 #[UD a n cap] w λe w'=>e=.returned (UD (some ⟨w.heap.size,0,none⟩) n n)/\
   w'.ownsRow w.heap.size 5 1 (UD (some ⟨w.heap.size,0,none⟩) n n) n (zs.map (Value.int UH))/\Below w.heap.size w w':=by
 obtain⟨i0,hi,hz0,hz1,hz2⟩:=Be Tryz.infoU8;have HI:AP (i0.bytes=1):=hz2;clear hz2;go_enter Tryz.func16,Tryz.ntmps16;go_wp2_with (first
  |(at_make;refine wpList_make_full _ rfl _ _ 22 rfl w.heap.size 5 i0 (UE UH 0) 1 Tryz.underlying22 hi hz0 hz1 _ _ _ _ n rfl rfl rfl rfl ?c1 ?c2 ?c3 ?_)
  |fail)
 case c1=>rw[HI.o];omega
 case c2=>unfold maxLen;omega
 case c3=>exact AY _
 intro w1 hown hgrow;have hb1:Below w.heap.size w w1:=Cs.grown hgrow Cw AM;have hown0:w1.ownsRow w.heap.size 5 1 (UD (some ⟨w.heap.size,0,none⟩) n n) n ((cp zs 0).map (Value.int UH)):=by
  have e:(madeCells #[UE UH 0] n).toList=(cp zs 0).map (Value.int UH):=by
   rw[QI];simp only[toList_madeCells_one,List.map_replicate,hn]
  rw[<-e];exact hown
 clear hown hgrow;go_wp2
 go_loopw [4] (λi wr=>∃ k:Nat,k<=n/\i=UE .i64 k/\wr.ownsRow w.heap.size 5 1 (UD (some ⟨w.heap.size,0,none⟩) n n) n ((cp zs k).map (Value.int UH))/\Below w.heap.size w wr) (λi _=>n-(intOf i).toNat)
 case atStart=>exact⟨0,Aj _,rfl,hown0,hb1⟩
 case round=>
  obtain⟨k,hk,rfl,hown,hbel⟩:=hrel;by_cases hlt:k<n
  ·obtain⟨b,off,rfl,hb,hc⟩:=ha.get AK;have hck:wr.cell? ⟨b,off+k,none⟩=some (UE UH (zs.getD k 0)):=by rw[hbel.cell (p:=⟨b,off+k,none⟩) hb];exact hc k AK
   have hst:=hown.stored k (UE UH (zs.getD k 0));have hmem:wr.cell? ⟨w.heap.size,k,none⟩=some (UE UH ((cp zs k).getD k 0)):=by
    rw[hown.cellAt k AK];have:=R0 zs k AK;simp[show k<(cp zs k).length by omega]
   have hfz:=hown.frozenAt k;rw[<-List.map_set,QJ zs k AK] at hst;have HX:=hst.1;have HB:Below w.heap.size w (wr.setCell ⟨w.heap.size,k,none⟩ (UE UH (zs.getD k 0))):=hbel.setCell Cw _;clear hst hown hc ha hbel hown0 hb1;generalize zs.getD k 0=x at *;generalize (cp zs k).getD k 0=y at *;have HXX:AP _:=HX;have HBB:AP _:=HB;clear HX HB;go_wp2;go_roundw
   case rel=>exact⟨k+1,AK,by go_num,HXX.o,HBB.o⟩
   case measure=>simp[intOf];omega
  ·have hkn:k=zs.length:=AK
   have HO:AP (wr.ownsRow w.heap.size 5 1 (UD (some ⟨w.heap.size,0,none⟩) n n) n (zs.map (Value.int UH))):=by rw[hkn,Rz] at hown;exact hown
   clear hown;go_wp2
   go_ret
   exact⟨rfl,HO.o,hbel⟩
theorem Ic (a a':Option Addr) (n cap cap':Nat) (zs:List Int) (w:World) (hn:zs.length=n) (hm:n<=1048576) (ha:At UH w a zs) (ha':At UH w a' zs) :
  Calls Tryz.prog 19 #[UD a n cap,UD a' n cap'] w λe w'=>e=.returned (.bool true)/\∃ q,w'=w.drewN q:=by
 have h0:((n:Int) != (n:Int))=false:=AM
 go_enter Tryz.func19,Tryz.ntmps19;go_wp2
 go_loopw [5] (λi wr=>∃ k q:Nat,k<=n/\i=UE .i64 k/\wr=w.drewN q) (λi _=>n-(intOf i).toNat)
 case atStart=>exact⟨0,0,Aj _,rfl,rfl⟩
 case round=>
  obtain⟨k,q,hk,rfl,rfl⟩:=hrel;by_cases hlt:k<n
  ·obtain⟨b,off,rfl,hb,hc⟩:=ha.get AK;obtain⟨b',off',rfl,hb',hc'⟩:=ha'.get AK;have g1:=hc k AK;have g2:=hc' k AK;generalize zs.getD k 0=x at *;have hx:(x != x)=false:=AM
   have hlt':(k:Int)<(n:Int):=AK
   clear hc hc' ha ha';go_wp2
   go_quiet (fail)
   go_wp2;go_roundw
   case rel=>exact⟨k+1,_,AK,by go_num,rfl⟩
   case measure=>simp[intOf];omega
  ·go_wp2
   go_ret
   exact⟨rfl,q,rfl⟩
theorem IF (zss:List (List Int)) (k:Nat) (h:k<zss.length):(zss.take (k+1)).flatten=(zss.take k).flatten++zss.getD k []:=by
 rw[BO h,List.flatten_append];simp[h]
theorem Jm (zss:List (List Int)) (k:Nat):(zss.take k).flatten.length<=zss.flatten.length:=by
 conv=>rhs;rw[<-List.take_append_drop k zss]
 rw[List.flatten_append,Al];omega
theorem JO (n:Int) (w:World) (h0:0<=n) (h1:n<=1048576) :
  Calls Tryz.prog 100 #[UE .i64 n] w λe w'=>∃ v,e=.returned v/\DT w' w.heap.size v (List.replicate n.toNat 0)/\Below w.heap.size w w':=by
 obtain⟨n,rfl⟩:=Ai h0;go_enter Tryz.func100,Tryz.ntmps100;go_wp2
 go_loopw [3,4] (λv i wr=>∃ k:Nat,k<=n/\i=UE .i64 k/\DT wr w.heap.size v (List.replicate k 0)/\Below w.heap.size w wr) (λ_ i _=>n-(intOf i).toNat)
 case atStart=>exact⟨0,Aj _,rfl,DT.empty _ _ Cw,Cs.alloc Cw _⟩
 case round=>
  obtain⟨k,hk,rfl,hown,hbel⟩:=hrel;by_cases hlt:k<n
  ·have hsz:=hbel.size;go_wp2_with (at_builtin;refine Dh _ rfl _ _ rfl w.heap.size _ _ rfl (hown.alloc _) ⟨wr.heap.size,0,none⟩ 1 1 [0] rfl rfl ?c1 ?c2 ?c3 ?_)
   case c1=>intro j hj;obtain rfl:j=0:=AK
            simp[Addr.add]
   case c2=>simp;omega
   case c3=>simp;omega
   intro v' w1 hown' hbel' _;have HO:AP (DT w1 w.heap.size v' (List.replicate (k+1) 0)):=by rw[List.replicate_succ'];exact hown'
   have HB:AP (Below w.heap.size w w1):=(hbel.alloc AK _).trans hbel';clear hown hown' hbel hbel';go_wp2;go_roundw
   case rel=>exact⟨k+1,AK,by go_num,HO.o,HB.o⟩
   case measure=>simp[intOf];omega
  ·have hkn:k=n:=AK
   subst hkn;have HO:AP _:=hown;clear hown;go_wp2
   go_ret
   exact⟨_,rfl,HO.o,hbel⟩
theorem OC {c:Int} (h:D8 c) (o:(bits .and UG c 1 == 1)=true):bits .xor UG (c/2) 3988292384=GT c:=by
 rw[St h] at o;unfold GT;rw[AR (by simpa using o)]
theorem M3 {c:Int} (h:D8 c) (o:(bits .and UG c 1 == 1)=false):c/2=GT c:=by
 rw[St h] at o;unfold GT;rw[AS (by simpa using o)]
theorem KQ (a:Option Addr) (n cap:Nat) (zs:List Int) (w:World) (hn:zs.length=n) (hm:n<=1048576) (ha:At UH w a zs) (hz:Cu zs) :
  Calls Tryz.prog 157 #[UD a n cap] w λe w'=>e=.returned (UE UG (Gl zs))/\w'=w:=by
 go_enter Tryz.func157,Tryz.ntmps157;go_wp2
 go_loop [3,8] (λc i=>∃ k:Nat,k<=n/\i=UE .i64 k/\c=UE UG (GK (zs.take k))) (λ_ i=>n-(intOf i).toNat)
 case atStart=>exact⟨0,Aj _,rfl,rfl⟩
 case round=>
  obtain⟨k,hk,rfl,rfl⟩:=hrel;have hbd:=ML (zs.take k);by_cases hlt:k<n
  ·obtain⟨b,off,rfl,hb,hc⟩:=ha.get AK;have hck:=hc k AK;have hx:=hz.get k;have HS:AP (GK (zs.take (k+1))=M2 (GK (zs.take k)) (zs.getD k 0)):=by rw[FQ zs k AK,JN];exact rfl
   generalize zs.getD k 0=x at *;generalize GK (zs.take k)=c at *;clear hc;obtain⟨hx0,hx1⟩:=hx;go_wp2
   go_loop [3,16] (λd i=>∃ j:Nat,j<=8/\i=UE .i64 j/\d=UE UG (G5 (bits .xor UG c x) j)) (λ_ i=>8-(intOf i).toNat)
   case atStart=>exact⟨0,Aj _,rfl,rfl⟩
   case round=>
    obtain⟨j,hj,rfl,rfl⟩:=hrel;have hbn:D8 (G5 (bits .xor UG c x) j):=Jk (E5 _ _ _) j;have HB:AP (G5 (bits .xor UG c x) (j+1)=GT (G5 (bits .xor UG c x) j)):=rfl;have HE:AP (∀ o:j=8,G5 (bits .xor UG c x) j=GK (zs.take (k+1))):=λo=>by rw[HS.o,o];rfl
    generalize G5 (bits .xor UG c x) j=d at *;by_cases hj8:j<8
    ·cases ho:(bits .and UG d 1 == 1)
     ·have HV:AP (d/2=GT d):=M3 hbn ho;go_wp2
      go_round
      case rel=>exact⟨j+1,AK,by go_num,by rw[HB.o,<-HV.o]⟩
      case measure=>simp[intOf];omega
     ·have HV:AP (bits .xor UG (d/2) 3988292384=GT d):=OC hbn ho;go_wp2
      go_round
      case rel=>exact⟨j+1,AK,by go_num,by rw[HB.o,<-HV.o]⟩
      case measure=>simp[intOf];omega
    ·have HZ:=HE.o AK;have HH:AP (d=GK (zs.take (k+1))):=HZ;clear HE HZ HS HB;go_wp2
     go_round
     case rel=>exact⟨k+1,AK,by go_num,by rw[HH.o]⟩
     case measure=>simp[intOf];omega
  ·go_wp2
   go_ret
   exact⟨DW (by rw[An AK];rfl),rfl⟩
theorem M4 {c:Int} (o:(c%2 == 1)=true):bits .xor UG (c/2) 3988292384=GT c:=by
 unfold GT;rw[AR (by simpa using o)]
theorem Lf {c:Int} (o:(c%2 == 1)=false):c/2=GT c:=by
 unfold GT;rw[AS (by simpa using o)]
theorem KR (a:Option Addr) (n cap:Nat) (zs:List Int) (w:World) (hn:zs.length=n) (hm:n<=1048576) (ha:At UH w a zs) (hz:Cu zs) :
  Calls Tryz.prog 101 #[UD a n cap] w λe w'=>e=.returned (UE UG (Gl zs))/\w'=w:=by
 go_enter Tryz.func101,Tryz.ntmps101;go_wp2
 go_loop [3,4] (λc i=>∃ k:Nat,k<=n/\i=UE .i64 k/\c=UE UG (GK (zs.take k))) (λ_ i=>n-(intOf i).toNat)
 case atStart=>exact⟨0,Aj _,rfl,rfl⟩
 case round=>
  obtain⟨k,hk,rfl,rfl⟩:=hrel;have hbd:=ML (zs.take k);by_cases hlt:k<n
  ·obtain⟨b,off,rfl,hb,hc⟩:=ha.get AK;have hck:=hc k AK;have hx:=hz.get k;have HS:AP (GK (zs.take (k+1))=M2 (GK (zs.take k)) (zs.getD k 0)):=by rw[FQ zs k AK,JN];exact rfl
   generalize zs.getD k 0=x at *;generalize GK (zs.take k)=c at *;clear hc;obtain⟨hx0,hx1⟩:=hx;go_wp2
   go_loop [3,5] (λd i=>∃ j:Nat,j<=8/\i=UE .i64 j/\d=UE UG (G5 (bits .xor UG c x) j)) (λ_ i=>8-(intOf i).toNat)
   case atStart=>exact⟨0,Aj _,rfl,rfl⟩
   case round=>
    obtain⟨j,hj,rfl,rfl⟩:=hrel;have hbn:D8 (G5 (bits .xor UG c x) j):=Jk (E5 _ _ _) j;have HB:AP (G5 (bits .xor UG c x) (j+1)=GT (G5 (bits .xor UG c x) j)):=rfl;have HE:AP (∀ o:j=8,G5 (bits .xor UG c x) j=GK (zs.take (k+1))):=λo=>by rw[HS.o,o];rfl
    generalize G5 (bits .xor UG c x) j=d at *;obtain⟨hd0,hd1⟩:=hbn;by_cases hj8:j<8
    ·cases ho:(d%2 == 1)
     ·have HV:AP (d/2=GT d):=Lf ho;go_wp2
      go_round
      case rel=>exact⟨j+1,AK,by go_num,by rw[HB.o,<-HV.o]⟩
      case measure=>simp[intOf];omega
     ·have HV:AP (bits .xor UG (d/2) 3988292384=GT d):=M4 ho;go_wp2
      go_round
      case rel=>exact⟨j+1,AK,by go_num,by rw[HB.o,<-HV.o]⟩
      case measure=>simp[intOf];omega
    ·have HZ:=HE.o AK;have HH:AP (d=GK (zs.take (k+1))):=HZ;clear HE HZ HS HB;go_wp2
     go_round
     case rel=>exact⟨k+1,AK,by go_num,by rw[HH.o]⟩
     case measure=>simp[intOf];omega
  ·go_wp2
   go_ret
   exact⟨DW (by rw[An AK];rfl),rfl⟩
end Go.Proofs.YthmeoilbmfdhfaaGreat
