import Derived.Test.YthmeoilbmfdhfaaGreatSnA
import Derived.Test.YthmeoilbmfdhfaaGreatMSwI
open Go.Value renaming slice->UD,int->UE,pointer->UM,bool->UF,agg->UN
open Go.IntKind renaming i64->UO,u32->UG,u8->UH
open Go.Obj renaming cells->UP
open Go.Ground renaming data->UR
open Option renaming some->UI,none->UJ
open Go renaming World->UK,Value->UL
namespace Go.Proofs.YthmeoilbmfdhfaaGreat
set_option maxHeartbeats 1000000
set_option maxRecDepth 100000
open Go.ChangeShapes Go.WideShapes Go.ChangeAt Go.RowKit
set_option linter.unusedVariables false
theorem Mc (w:UK) (xs:List Int) (i:Nat) (hi:i<xs.length):(part 5 (xs.map (Value.int UH)).toArray i).run Tryz.prog w=.ok (UE UH (xs.getD i 0)) w:=by
 have hagg:(isAgg 5).run Tryz.prog w=.ok false w:=by
  unfold isAgg;rw[BN,BA Tryz.underlying5 w];rfl
 simp[part,hagg,hi]
theorem sizeU8 (w:UK):(sizeOf 5).run Tryz.prog w=.ok 1 w:=by
 have h:(Tryz.prog.info? 5).map (·.size)=UI 1:=AN
 cases hq:Tryz.prog.info? 5 with
 |none=>simp[hq] at h
 |some i=>
  have hs:i.size=1:=by simpa[hq] using h
  simp[sizeOf,typeInfo,hq,hs]
theorem IQ (w:UK) (d:Nat) (xs ys:List Int) (hx:xs.length=64) (hy:ys.length=64) :
  (Op.equalIn (d+2) 122 (UN (xs.map (Value.int UH)).toArray) (UN (ys.map (Value.int UH)).toArray)).run Tryz.prog w=.ok (decide (xs=ys)) w:=by
 have key:decide (xs=ys)=(List.range' 0 64).all (λi=>xs.getD i 0 == ys.getD i 0):=by
  rw[Bool.eq_iff_iff];simp only[decide_eq_true_eq,List.all_eq_true,List.mem_range',beq_iff_eq];constructor
  ·rintro rfl _ _;rfl
  ·intro h;apply List.ext_getElem AK;intro i h1 h2;have:=h i ⟨i,AK,AK⟩;simpa[h1,h2] using this
 rw[key];unfold Op.equalIn;simp only[Sem.run_bind,run_underlying Tryz.underlying122,Result.andThen_ok,sizeU8,Nat.mul_one,Std.Legacy.Range.forIn_eq_forIn_range',Std.Legacy.Range.size,Nat.sub_zero,Nat.add_sub_cancel,Nat.div_one];have hl:∀ i∈List.range' 0 64,i<64:=λi hi=>by rw[List.mem_range'] at hi;obtain⟨j,_,rfl⟩:=hi;omega
 revert hl;generalize List.range' 0 64=l;intro hl
 induction l with
 |nil=>simp
 |cons i l ih=>
  have hi:=hl i (List.mem_cons_self ..);have ih':=ih (λj hj=>hl j (List.mem_cons_of_mem _ hj));simp only[List.forIn_cons,Sem.run_bind,Mc w xs i AK,Mc w ys i AK,Result.andThen_ok,run_equalIn_int w d 5 UH UH _ _ Tryz.underlying5,List.all_cons];cases hb:(xs.getD i 0 == ys.getD i 0)
  ·simp
  ·simp only[Bool.not_true,Bool.false_eq_true,if_false,Sem.run_pure,Result.andThen_ok,Bool.true_and];exact ih'
theorem J6 (w:UK) (x y:Operand) (xs ys:Array UL):(eqGuard .neq 122 x y (UN xs) (UN ys)).run Tryz.prog w=.ok () w:=
 run_eqGuard_agg w .neq 122 x y xs ys AN
theorem LA (w:UK):(sizeOf 122).run Tryz.prog w=.ok 64 w:=by
 have h:(Tryz.prog.info? 122).map (·.size)=UI 64:=AN
 cases hq:Tryz.prog.info? 122 with
 |none=>simp[hq] at h
 |some i=>
  have hs:i.size=64:=by simpa[hq] using h
  simp[sizeOf,typeInfo,hq,hs]
theorem Hu (w:UK) (xs:List Int) (a:Nat):(part 122 (xs.map (Value.int UH)).toArray a).run Tryz.prog w=.ok (UN (((xs.drop a).take 64).map (Value.int UH)).toArray) w:=by
 have hagg:(isAgg 122).run Tryz.prog w=.ok true w:=by
  unfold isAgg;rw[BN,BA Tryz.underlying122 w];rfl
 have he:(xs.map (Value.int UH)).toArray.extract a (a+64)=(((xs.drop a).take 64).map (Value.int UH)).toArray:=by
  rw[List.extract_toArray,List.extract_eq_take_drop,Bt,List.map_take,List.map_drop]
 simp[part,hagg]
theorem SG (w:UK) (d:Nat) (X Y:Array UL) (X0 Y0 X1 Y1:UL) (c0 c1:Bool)
  (p0:(part 122 X 0).run Tryz.prog w=.ok X0 w) (q0:(part 122 Y 0).run Tryz.prog w=.ok Y0 w) (p1:(part 122 X 64).run Tryz.prog w=.ok X1 w) (q1:(part 122 Y 64).run Tryz.prog w=.ok Y1 w)
  (e0:(Op.equalIn (d+2) 122 X0 Y0).run Tryz.prog w=.ok c0 w) (e1:(Op.equalIn (d+2) 122 X1 Y1).run Tryz.prog w=.ok c1 w) :
  (Op.equalIn (d+3) 124 (UN X) (UN Y)).run Tryz.prog w=.ok (c0 && c1) w:=by
 unfold Op.equalIn;simp only[Sem.run_bind,run_underlying Tryz.underlying124,Result.andThen_ok,LA,Std.Legacy.Range.forIn_eq_forIn_range',Std.Legacy.Range.size,Nat.sub_zero,Nat.add_sub_cancel,Nat.div_one];rw[show List.range' 0 2=[0,1] from rfl,List.forIn_cons];simp only[Sem.run_bind,Nat.zero_mul,p0,q0,Result.andThen_ok,e0];cases c0
 ·simp only[Bool.not_false,if_true,Sem.run_pure,Result.andThen_ok,Bool.false_and]
 ·simp only[Bool.not_true,Bool.false_eq_true,if_false,Sem.run_pure,Result.andThen_ok,Bool.true_and];rw[List.forIn_cons];simp only[Sem.run_bind,Nat.one_mul,p1,q1,Result.andThen_ok,e1];cases c1
  ·simp only[Bool.not_false,if_true,Sem.run_pure,Result.andThen_ok]
  ·simp only[Bool.not_true,Bool.false_eq_true,if_false,Sem.run_pure,Result.andThen_ok,List.forIn_nil]
theorem PJ (xs ys:List Int) (hx:xs.length=128) (hy:ys.length=128):decide (xs=ys)=(decide (xs.take 64=ys.take 64) && decide ((xs.drop 64).take 64=(ys.drop 64).take 64)):=by
 have hx1:(xs.drop 64).take 64=xs.drop 64:=An (by simp;omega);have hy1:(ys.drop 64).take 64=ys.drop 64:=An (by simp;omega);rw[hx1,hy1,Bool.eq_iff_iff];simp only[decide_eq_true_eq,Bool.and_eq_true];constructor
 ·rintro rfl;exact⟨rfl,rfl⟩
 ·rintro⟨h1,h2⟩;rw[<-List.take_append_drop 64 xs,<-List.take_append_drop 64 ys,h1,h2]
theorem L3 (w:UK) (d:Nat) (xs ys:List Int) (hx:xs.length=128) (hy:ys.length=128) :
  (Op.equalIn (d+3) 124 (UN (xs.map (Value.int UH)).toArray) (UN (ys.map (Value.int UH)).toArray)).run Tryz.prog w=.ok (decide (xs=ys)) w:=by
 rw[PJ xs ys hx hy];exact SG w d _ _ _ _ _ _ _ _ (Hu w xs 0) (Hu w ys 0) (Hu w xs 64) (Hu w ys 64) (IQ w d (xs.take 64) (ys.take 64) (by simp;omega) (by simp;omega)) (IQ w d ((xs.drop 64).take 64) ((ys.drop 64).take 64) (by simp;omega) (by simp;omega))
theorem Dp (zs:List Int) (hz:Cu zs) (p:Nat):D8 (DD zs p):=by
 have h0:=hz.get p;have h1:=hz.get (p+1);have h2:=hz.get (p+2);have h3:=hz.get (p+3);unfold DD D8;omega
theorem Na (s k a b:Int) (us:D8 s):DD (Hm s k a b) 60=s:=by
 obtain⟨h0,h1⟩:=us;have hl:=IN s k a b;have e:∀ i,(Hm s k a b).getD (60+i) 0=(four s).getD i 0:=λi=>by
  simp only[Hm,IM,List.flatten_cons,List.flatten_nil,List.append_nil,List.getD_eq_getElem?_getD];rw[Am AK,hl,Am (by simp[four];omega)];simp[four,show 60+i-56-4=i by omega]
 have e0:=e 0;have e1:=e 1;have e2:=e 2;have e3:=e 3;unfold DD;simp only[Nat.add_zero,Nat.reduceAdd] at e0 e1 e2 e3 |-;rw[e0,e1,e2,e3];simp[four];omega
def Qt (s k a b:Int):UL:=UN #[UF true,UE UG s,UE UO k,UE UG a,UE UG b]
def Nb:UL:=UN #[UF false,UE UG 0,UE UO 0,UE UG 0,UE UG 0]
def Gy (zs:List Int):Bool:=decide (zs.length=64) && (decide (1<=zs.getD 6 0/\zs.getD 6 0<=3) && decide (Hm (DD zs 0) (zs.getD 6 0) (DD zs 8) (DD zs 12)=zs))
def GO (zs:List Int):UL:=bif Gy zs then Qt (DD zs 0) (zs.getD 6 0) (DD zs 8) (DD zs 12) else Nb
theorem Gv {zs:List Int} (h:Gy zs=false):GO zs=Nb:=by unfold GO;rw[h];rfl
theorem Hv {zs:List Int} (h:Gy zs=true):GO zs=Qt (DD zs 0) (zs.getD 6 0) (DD zs 8) (DD zs 12):=by unfold GO;rw[h];rfl
theorem J7 (x:Bool) (s k a b:Int):(#[UF x,UE UG s,UE UO k,UE UG a,UE UG b].all (λv=>v.oneCell'))=true:=by simp[Value.oneCell']
theorem SH (s k a b:Int):(#[UE UG s,UE UO k,UE UG a,UE UG b].all (λv=>v.oneCell'))=true:=by simp[Value.oneCell']
structure Qu (w w':UK) (gc:Nat) (zs:List Int):Prop where
 below:Below w.heap.size w w'
 lt:w.heap.size<gc
 row:DP w' gc 122 zs
 res:w'.heap[w.heap.size]?=UI (UP #[UF false,UE UG 0,UE UO 0,UE UG 0,UE UG 0] 114 (0,0))
theorem Qu.drewN {w w':UK} {gc:Nat} {zs:List Int} (h:Qu w w' gc zs) (n:Nat):Qu w (w'.drewN n) gc zs:=
 ⟨⟨h.below.os,h.below.tape,h.below.output,h.below.size,h.below.block⟩,h.lt,h.row,h.res⟩
theorem Qu.grow {w w' w'':UK} {gc:Nat} {zs:List Int} (h:Qu w w' gc zs) (hb:Below w'.heap.size w' w''):Qu w w'' gc zs:=by
 have hl:=h.row.lt;have:=h.lt;exact⟨h.below.trans (hb.mono AK),h.lt,by unfold DP;rw[hb.block gc hl];exact h.row,by rw[hb.block _ AK];exact h.res⟩
def G6 (gc:Nat) (s k a b:Int) (H:Nat):Nat->UK->(Nat->UL)->Prop
 |0,_,u=>u 0=UE UG s
 |1,_,u=>u 1=UM (UI ⟨gc,6,UJ⟩)
 |2,_,u=>u 2=UE UH k
 |3,_,u=>u 3=UE UO k
 |4,_,u=>u 4=UE UG a
 |5,_,u=>u 5=UE UG b
 |6,_,u=>u 6=UN #[UE UG s,UE UO k,UE UG a,UE UG b]
 |7,w,u=>∃ g cs,u 7=UM (UI ⟨g,0,UJ⟩)/\H<=g/\w.heap[g]?=UI (UP cs 112 (0,0))/\cs.size=4
 |_,w,u=>∃ g,u 7=UM (UI ⟨g,0,UJ⟩)/\H<=g/\w.heap[g]?=UI (UP #[UE UG s,UE UO k,UE UG a,UE UG b] 112 (0,0))
def M6 (i:Nat) (w w':UK):Prop:=
 (i≠8->Below w.heap.size w w')/\w.heap.size<=w'.heap.size/\∀(b:Nat) (cs:Array UL) (t:TypeId) (fr:Nat×Nat),w.heap[b]?=UI (UP cs t fr)->∃ cs':Array UL,w'.heap[b]?=UI (UP cs' t fr)/\cs'.size=cs.size
theorem M6.of_below {i:Nat} {w w':UK} (h:Below w.heap.size w w'):M6 i w w':=
 ⟨λ_=>h,h.size,λb cs t fr hb=>⟨cs,by rw[h.block b (AQ.1 hb).1];exact hb,rfl⟩⟩
theorem M6.refl (i:Nat) (w:UK):M6 i w w:=M6.of_below Cs
theorem EQ {B:Nat} {a w:UK} (h:Below B a w) (n:Nat):Below B a (w.drewN n):=⟨h.os,h.tape,h.output,h.size,h.block⟩
theorem Fq {u:Nat->UL} {i j:Nat} {v:UL} (h:i≠j):Cr u i v j=u j:=by unfold Cr;rw[AS (Bs h)]
theorem Qv (gc:Nat) (s k a b:Int) (H j:Nat) (w w':UK) (u:Nat->UL) (i:Nat) (v:UL) (hM:M6 i w w') (hij:i≠j) (h7:j≥8->7≠i) (hj:j<=8) (h:G6 gc s k a b H j w u):G6 gc s k a b H j w' (Cr u i v):=by
 obtain rfl|rfl|rfl|rfl|rfl|rfl|rfl|rfl|rfl:j=0\/j=1\/j=2\/j=3\/j=4\/j=5\/j=6\/j=7\/j=8:=AK
 all_goals simp only[G6] at h |-
 iterate 7 (· rw[Fq hij];exact h)
 ·obtain⟨g,cs,h1,h2,h3,h4⟩:=h;obtain⟨cs',h5,h6⟩:=hM.2.2 g _ _ _ h3;exact⟨g,cs',by rw[Fq hij];exact h1,h2,h5,AK⟩
 ·obtain⟨g,h1,h2,h3⟩:=h;refine⟨g,by rw[Fq (Bs (h7 AK))];exact h1,h2,?_⟩;rw[(hM.1 hij).block g (AQ.1 h3).1];exact h3
def G7 (hk:Bool) (zs e:List Int):Nat->UK->(Nat->UL)->Prop
 |0,_,u=>u 0=UF hk
 |1,_,u=>u 1=UF (!hk)
 |2,_,u=>u 2=UF (!hk)
 |3,_,u=>hk=true->u 3=UN (e.map (Value.int UH)).toArray
 |4,_,u=>hk=true->u 4=UN (zs.map (Value.int UH)).toArray
 |5,_,u=>hk=true->u 5=UF (!decide (e=zs))
 |_,_,u=>u 6=UF (!hk || !decide (e=zs))
theorem Qw (hk:Bool) (zs e:List Int) (j:Nat) (w w':UK) (u:Nat->UL) (i:Nat) (v:UL) (hij:i≠j) (hj:j<=6) (h:G7 hk zs e j w u):G7 hk zs e j w' (Cr u i v):=by
 obtain rfl|rfl|rfl|rfl|rfl|rfl|rfl:j=0\/j=1\/j=2\/j=3\/j=4\/j=5\/j=6:=AK
 all_goals simp only[G7] at h |-
 all_goals(rw[Fq hij];exact h)
theorem Qx (a:Option Addr) (cap:Nat) (zs:List Int) (w:UK) (hn:zs.length=64) (hz:Cu zs) (ha:At UH w a zs) :
  Calls Tryz.prog 82 #[UD a 64 cap] w λe w'=>e=.returned (GO zs)/\Below w.heap.size w w':=by
 have htk:zs.take 64=zs:=An AK;have HD:AP (DD zs 0≠DD zs 60->GO zs=Nb):=λhne=>Gv (by
  unfold Gy;have:decide (Hm (DD zs 0) (zs.getD 6 0) (DD zs 8) (DD zs 12)=zs)=false:=by
   simp only[decide_eq_false_iff_not];intro h;have:=Na (DD zs 0) (zs.getD 6 0) (DD zs 8) (DD zs 12) (Dp zs hz 0);rw[h] at this;exact hne this.symm
  rw[this];simp)
 go_enter Tryz.func82,Tryz.ntmps82;go_wp2_with fail;refine(FL a 64 cap zs _ hn Cw (ha.below (Cv _ _))).mono ?_;rintro e w2 ⟨rfl,hb2⟩;rw[htk];have hs2:w.heap.size+1<=w2.heap.size:=by have:=hb2.size;simp at this;exact this
 have hr2:w2.heap[w.heap.size]?=UI (UP #[UF false,UE UG 0,UE UO 0,UE UG 0,UE UG 0] 114 (0,0)):=by
  rw[hb2.block w.heap.size AM];exact AV w _
 have hb2':Below w.heap.size w w2:=(Cv w _).trans (hb2.mono AM);have hs1:(Tryz.prog.info? 122).map (·.size)=UI ((zs.map (Value.int UH)).toArray).size:=by rw[Tryz.sizeSec];simp[hn]
 have HS1:AP _:=hs1;have HST:AP (Qu w (w2.alloc (UP ((zs.map (Value.int UH)).toArray) 122)) w2.heap.size zs):=
  ⟨hb2'.alloc AK _,AK,AV w2 _,by rw[BH w2 _ w.heap.size AK];exact hr2⟩
 clear hs1 hb2 hr2 hb2';go_wp2_with (refine AC 122 (.tmp 3) (.tmp 10) w2.heap.size ((zs.map (Value.int UH)).toArray) 122 (AV w2 _) HS1.o (by simp[hn]) (all_oneCell_toArray (Bb _ _)) ?_);rw[World.setRow_alloc_new];have st:=HST.o;clear HST;have hgl:w2.heap.size<(w2.alloc (UP ((zs.map (Value.int UH)).toArray) 122)).heap.size:=AM
 generalize w2.alloc (UP ((zs.map (Value.int UH)).toArray) 122)=w3 at *;generalize w2.heap.size=gc at *;refine(Hf gc 122 0 zs _ st.row hz hn AL AL).mono ?_;rintro e w4 ⟨rfl,q4,rfl⟩;have st4:=st.drewN q4;clear st hgl;generalize w3.drewN q4=w4 at *;go_wp2_with fail;refine(Hf gc 122 60 zs _ st4.row hz hn AL AL).mono ?_;rintro e w5 ⟨rfl,q5,rfl⟩;have st5:=st4.drewN q5;clear st4;generalize w4.drewN q5=w5 at *;have hres:=st5.res;have hsF:(Tryz.prog.info? 114).map (·.size)=UI 5:=AN
 have HSF:AP _:=hsF;clear hsF;have HST5:AP _:=st5;have HRES:AP _:=hres;clear st5 hres;simp only[show Int.toNat 60=60 from rfl];cases ht:(DD zs 0 != DD zs 60)
 ·have HDY:AP (∀ hk:Bool,hk=decide (1<=zs.getD 6 0/\zs.getD 6 0<=3)->(!hk || !decide (Fs (DD zs 0) (zs.getD 6 0) (DD zs 8) (DD zs 12)=zs))=true->GO zs=Nb):=by
   intro hk hhk h;refine Gv ?_;rw[Lo _ _ _ _ (Dp zs hz 0) (Dp zs hz 8) (Dp zs hz 12)] at h;unfold Gy;rw[<-hhk];cases hk
   ·simp
   ·simp only[Bool.not_true,Bool.false_or,Bool.not_eq_true'] at h;rw[h];simp
  have HDN:AP (∀ hk:Bool,hk=decide (1<=zs.getD 6 0/\zs.getD 6 0<=3)->(!hk || !decide (Fs (DD zs 0) (zs.getD 6 0) (DD zs 8) (DD zs 12)=zs))=false->GO zs=Qt (DD zs 0) (zs.getD 6 0) (DD zs 8) (DD zs 12)):=by
   intro hk hhk h;refine Hv ?_;rw[Lo _ _ _ _ (Dp zs hz 0) (Dp zs hz 8) (Dp zs hz 12)] at h;unfold Gy;rw[<-hhk];cases hk
   ·simp at h
   ·simp only[Bool.not_true,Bool.false_or,Bool.not_eq_false'] at h;rw[h];simp[hn]
  have us:=Dp zs hz 0;have ua:=Dp zs hz 8;have ub:=Dp zs hz 12;have hb6:=hz.get 6;have HC6:AP (∀ w',DP w' gc 122 zs->w'.cell? ⟨gc,6,UJ⟩=UI (UE UH (zs.getD 6 0))):=λw' h=>h.cell 6 AK
  clear HD;generalize hs0:DD zs 0=s0 at *;generalize ht0:DD zs 60=t0 at *;generalize ha0:DD zs 8=a0 at *;generalize hb0:DD zs 12=b0 at *;generalize zs.getD 6 0=k0 at *;have HS:AP (DD zs 0=s0):=hs0;have HA:AP (DD zs 8=a0):=ha0;have HBB:AP (DD zs 12=b0):=hb0;clear hs0 ht0 ha0 hb0;obtain⟨hb60,hb61⟩:=hb6;have hwr:IntKind.i64.wrap k0=k0:=by rw[As];omega
  have hs27:(Tryz.prog.info? 112).map (·.size)=UI 4:=AN
  have HS27:AP _:=hs27;clear hs27;have HWR:AP _:=hwr;clear hwr;go_wp2_with fail;refine Ae AN ?_
  refine EO (frame:=λu=>{ tmps:=#[UD a 64 cap,undef,UM (UI ⟨w.heap.size,0,UJ⟩),UM (UI ⟨gc,0,UJ⟩),u 7,UD a 64 cap,UE UO 64,UF false,undef,UD a 64 cap,UN (zs.map (Value.int UH)).toArray,UE UG s0,UE UG t0,UF false,undef,
    u 0,u 1,u 2,u 3,u 4,u 5,u 6,undef,undef,undef,undef,undef,undef,undef,undef,undef,undef],defers:=[] })
   (Ext:=λw'=>Qu w w' gc zs/\w5.heap.size<=w'.heap.size) (Good:=G6 gc s0 k0 a0 b0 w5.heap.size) (M:=M6) ?hstab AN ?hop ?hdone _ _ (λ_=>undef) _ AM ?ext ?start ?clo AM
  case start=>intro i hi h;exact absurd h E0
  case clo=>intro i o ho h;exact absurd h E0
  case ext=>exact⟨HST5.o.drewN 1,AY _⟩
  case hstab=>
   intro j o w1 w2 u i v ho hM hij hd hg;have hj:j<9:=(AQ.1 ho).1;refine Qv gc s0 k0 a0 b0 w5.heap.size j w1 w2 u i v hM hij (λh8=>?_) AK hg;obtain rfl:j=8:=AK
   simp at ho;subst ho;exact hd ⟨7,UR⟩ AM rfl
  case hdone=>
   intro u w6 hx hg;obtain⟨hx,hsz⟩:=hx;obtain⟨g,h7,hgl,hblk⟩:=hg 8 AL;clear hg;have hlt5:w.heap.size<w5.heap.size:=AI HST5.o.row.lt HST5.o.lt
   have hst6:AP _:=hx;have hblk6:AP _:=hblk;clear hx hblk;obtain⟨hk,hhk⟩:∃ hk:Bool,hk=decide (1<=k0/\k0<=3):=⟨_,rfl⟩
   have HHK:AP _:=hhk;clear hhk;go_wp2_with fail;rw[h7];refine Ae AN ?_
   refine EO (frame:=λt=>{ tmps:=#[UD a 64 cap,undef,UM (UI ⟨w.heap.size,0,UJ⟩),UM (UI ⟨gc,0,UJ⟩),UM (UI ⟨g,0,UJ⟩),UD a 64 cap,UE UO 64,UF false,undef,UD a 64 cap,UN (zs.map (Value.int UH)).toArray,UE UG s0,UE UG t0,UF false,undef,
     u 0,u 1,u 2,u 3,u 4,u 5,u 6,t 0,t 1,t 2,t 3,t 4,t 5,t 6,undef,undef,undef],defers:=[] })
    (Ext:=λw'=>Qu w w' gc zs/\w'.heap[g]?=UI (UP #[UE UG s0,UE UO k0,UE UG a0,UE UG b0] 112 (0,0))) (Good:=G7 hk zs (Fs s0 k0 a0 b0)) (M:=λ_ _ _=>True) ?hstab7 AN ?hop7 ?hdone7 _ _ (λ_=>undef) _ AM ?ext7 ?start7 ?clo7 AM
   case start7=>intro i hi h;exact absurd h E0
   case clo7=>intro i o ho h;exact absurd h E0
   case ext7=>exact⟨hst6.o.drewN 1,hblk6.o⟩
   case hstab7=>
    intro j o w1 w2 t i v ho hM hij hd hg;have hj:j<7:=(AQ.1 ho).1;exact Qw hk zs _ j w1 w2 t i v hij AK hg
   case hdone7=>
    intro t w7 hx hg;obtain⟨hx,hblk⟩:=hx;have h6:t 6=_:=hg 6 AL;clear hg;have HN':=HDN.o hk HHK.o;have HY':=HDY.o hk HHK.o;clear HDN HDY;have f0:w7.cell? ⟨g,0,UJ⟩=UI (UE UG s0):=AA hblk _;have f1:w7.cell? ⟨g,1,UJ⟩=UI (UE UO k0):=AA hblk _;have f2:w7.cell? ⟨g,2,UJ⟩=UI (UE UG a0):=AA hblk _;have f3:w7.cell? ⟨g,3,UJ⟩=UI (UE UG b0):=AA hblk _;have HR7:AP _:=hx.res;have HB7:AP (Below w.heap.size w w7):=hx.below;clear hx hblk;generalize hfin:(!hk || !decide (Fs s0 k0 a0 b0=zs))=fin at *;rw[h6];clear h6;cases fin
    ·have HV:AP (GO zs=Qt s0 k0 a0 b0):=HN' rfl;clear HN' HY' hfin;go_wp2_with (refine AC 114 (.tmp 2) (.tmp 31) w.heap.size #[UF true,UE UG s0,UE UO k0,UE UG a0,UE UG b0] 114 HR7.o HSF.o rfl (J7 _ _ _ _ _) ?_)
     (try simp only[Exit.inBlock,Exit.then])
     refine AZ (v:=Qt s0 k0 a0 b0) (AW rfl _ _ w.heap.size 114 _ (0,0) _ rfl (AB HR7.o) Tryz.underlying114 rfl HSF.o) rfl ⟨by rw[HV.o],?_⟩;exact HB7.o.trans ((Wr.setRow _ _ _).below Cw)
    ·have HV:AP (GO zs=Nb):=HY' rfl;clear HN' HY' hfin;go_wp2_with (refine AC 114 (.tmp 2) (.tmp 29) w.heap.size #[UF false,UE UG 0,UE UO 0,UE UG 0,UE UG 0] 114 HR7.o HSF.o rfl (J7 _ _ _ _ _) ?_)
     (try simp only[Exit.inBlock,Exit.then])
     refine AZ (v:=Nb) (AW rfl _ _ w.heap.size 114 _ (0,0) _ rfl (AB HR7.o) Tryz.underlying114 rfl HSF.o) rfl ⟨by rw[HV.o],?_⟩;exact HB7.o.trans ((Wr.setRow _ _ _).below Cw)
   case hop7=>
    intro i o t w7 ho hx hdep K hK;obtain⟨hx,hblk⟩:=hx;have hi:i<7:=(AQ.1 ho).1;have f0:w7.cell? ⟨g,0,UJ⟩=UI (UE UG s0):=AA hblk _;have f1:w7.cell? ⟨g,1,UJ⟩=UI (UE UO k0):=AA hblk _;have f2:w7.cell? ⟨g,2,UJ⟩=UI (UE UG a0):=AA hblk _;have f3:w7.cell? ⟨g,3,UJ⟩=UI (UE UG b0):=AA hblk _;have hgl7:g<w7.heap.size:=(AQ.1 hblk).1;have hel:=OK s0 k0 a0 b0;obtain rfl|rfl|rfl|rfl|rfl|rfl|rfl:i=0\/i=1\/i=2\/i=3\/i=4\/i=5\/i=6:=AK
    all_goals(simp at ho;subst ho)
    ·clear hdep;go_simp;refine(Kk g k0 _ f1).mono ?_;rintro e w8 ⟨rfl,rfl⟩;rw[<-HHK.o];go_simp;exact hK w8 (UF hk) rfl ⟨hx,hblk⟩ trivial
    ·have d:t 0=_:=hdep ⟨0,UR⟩ AM rfl;clear hdep;go_simp;simpa[Cr,d] using hK w7 (UF (!hk)) rfl ⟨hx,hblk⟩ trivial
    ·have d:t 1=_:=hdep ⟨1,UR⟩ AM rfl;clear hdep;go_simp;simpa[Cr,d] using hK w7 (UF (!hk)) rfl ⟨hx,hblk⟩ trivial
    ·have d:t 2=_:=hdep ⟨2,.guard⟩ AM rfl;clear hdep;cases hk
     ·go_simp;simpa[Cr,d] using hK w7 undef (by intro h;cases h) ⟨hx,hblk⟩ trivial
     ·go_simp;refine(Ke g s0 k0 a0 b0 _ hgl7 f0 f1 f2 f3 us ua ub).mono ?_;rintro e w8 ⟨rfl,hb8⟩;have hx8:=hx.grow hb8;have hblk8:w8.heap[g]?=UI (UP #[UE UG s0,UE UO k0,UE UG a0,UE UG b0] 112 (0,0)):=by rw[hb8.block g hgl7];exact hblk
      go_simp;simpa[Cr,d] using hK w8 (UN ((Fs s0 k0 a0 b0).map (Value.int UH)).toArray) (λ_=>rfl) ⟨hx8,hblk8⟩ trivial
    ·have d:t 2=_:=hdep ⟨2,.guard⟩ AM rfl;clear hdep;cases hk
     ·go_simp;simpa[Cr,d] using hK w7 undef (by intro h;cases h) ⟨hx,hblk⟩ trivial
     ·rw[AR (by simp[Region.wanted,yielded,d])];refine BL 122 (.tmp 3) rfl gc rfl 122 _ (0,0) _ hx.row Tryz.underlying122 rfl HS1.o ?_;exact hK w7 (UN (zs.map (Value.int UH)).toArray) (λ_=>rfl) ⟨hx,hblk⟩ trivial
    ·have d:t 2=_:=hdep ⟨2,.guard⟩ AM rfl;have d3:hk=true->t 3=_:=hdep ⟨3,UR⟩ AM rfl;have d4:hk=true->t 4=_:=hdep ⟨4,UR⟩ AM rfl;clear hdep;cases hk
     ·clear d3 d4;go_simp;simpa[Cr,d] using hK w7 undef (by intro h;cases h) ⟨hx,hblk⟩ trivial
     ·have e3:=d3 rfl;have e4:=d4 rfl;clear d3 d4;have r1:(Op.equalIn 10000 122 (UN ((Fs s0 k0 a0 b0).map (Value.int UH)).toArray) (UN (zs.map (Value.int UH)).toArray)).run Tryz.prog w7=.ok (decide (Fs s0 k0 a0 b0=zs)) w7:=IQ w7 9998 (Fs s0 k0 a0 b0) zs hel hn;have r2:=J6 w7 (.tmp 25) (.tmp 26) ((Fs s0 k0 a0 b0).map (Value.int UH)).toArray (zs.map (Value.int UH)).toArray;generalize hv:decide (Fs s0 k0 a0 b0=zs)=bv at *;go_simp;simpa[Cr,d,e3,e4] using hK w7 (UF !bv) (λ_=>by simp[Cr,hv]) ⟨hx,hblk⟩ trivial
    ·have d:t 2=_:=hdep ⟨2,UR⟩ AM rfl;have d5:hk=true->t 5=_:=hdep ⟨5,UR⟩ AM rfl;clear hdep;cases hk
     ·clear d5;go_simp;simpa[Cr,d] using hK w7 (UF true) (by simp[G7,Cr]) ⟨hx,hblk⟩ trivial
     ·have e5:=d5 rfl;clear d5;generalize hv:(!decide (Fs s0 k0 a0 b0=zs))=bv at *;go_simp;simpa[Cr,d,e5] using hK w7 (UF bv) (by simp[G7,Cr,hv]) ⟨hx,hblk⟩ trivial
  case hop=>
   intro i o u w6 ho hx hdep K hK;obtain⟨hx,hsz⟩:=hx;have hi:i<9:=(AQ.1 ho).1;have hc6:=HC6.o w6 hx.row;obtain rfl|rfl|rfl|rfl|rfl|rfl|rfl|rfl|rfl:i=0\/i=1\/i=2\/i=3\/i=4\/i=5\/i=6\/i=7\/i=8:=AK
   all_goals(simp at ho;subst ho)
   ·clear hdep;go_simp;refine(Hf gc 122 0 zs _ hx.row hz hn AL AL).mono ?_;rintro e w7 ⟨rfl,q,rfl⟩;have hv:DD zs (Int.toNat 0)=s0:=HS.o;rw[hv];go_simp;exact hK _ (UE UG s0) rfl ⟨hx.drewN q,hsz⟩ (M6.of_below (EQ Cs q))
   ·clear hdep;go_simp;exact hK w6 _ rfl ⟨hx,hsz⟩ (M6.refl _ _)
   ·have d:u 1=_:=hdep ⟨1,UR⟩ AM rfl;clear hdep;go_simp;simpa[Cr,d] using hK w6 (UE UH k0) rfl ⟨hx,hsz⟩ (M6.refl _ _)
   ·have d:u 2=_:=hdep ⟨2,UR⟩ AM rfl;clear hdep;go_simp;simpa[Cr,d,HWR.o] using hK w6 (UE UO k0) rfl ⟨hx,hsz⟩ (M6.refl _ _)
   ·clear hdep;go_simp;refine(Hf gc 122 8 zs _ hx.row hz hn AL AL).mono ?_;rintro e w7 ⟨rfl,q,rfl⟩;have hv:DD zs (Int.toNat 8)=a0:=HA.o;rw[hv];go_simp;exact hK _ (UE UG a0) rfl ⟨hx.drewN q,hsz⟩ (M6.of_below (EQ Cs q))
   ·clear hdep;go_simp;refine(Hf gc 122 12 zs _ hx.row hz hn AL AL).mono ?_;rintro e w7 ⟨rfl,q,rfl⟩;have hv:DD zs (Int.toNat 12)=b0:=HBB.o;rw[hv];go_simp;exact hK _ (UE UG b0) rfl ⟨hx.drewN q,hsz⟩ (M6.of_below (EQ Cs q))
   ·have d0:u 0=_:=hdep ⟨0,UR⟩ AM rfl;have d3:u 3=_:=hdep ⟨3,UR⟩ AM rfl;have d4:u 4=_:=hdep ⟨4,UR⟩ AM rfl;have d5:u 5=_:=hdep ⟨5,UR⟩ AM rfl;clear hdep;go_simp;simpa[Cr,d0,d3,d4,d5] using hK w6 (UN #[UE UG s0,UE UO k0,UE UG a0,UE UG b0]) rfl ⟨hx,hsz⟩ (M6.refl _ _)
   ·clear hdep;have hb:=Cv w6 (UP #[UE UG 0,UE UO 0,UE UG 0,UE UG 0] 112);go_simp;exact hK _ _ ⟨w6.heap.size,_,rfl,hsz,AV w6 _,rfl⟩ ⟨hx.grow hb,AG hb.size⟩ (M6.of_below hb)
   ·have d6:u 6=_:=hdep ⟨6,UR⟩ AM rfl;obtain⟨g,cs,d7,hg,hh,hcs⟩:=hdep ⟨7,UR⟩ AM rfl;rw[AR AO];refine A8 112 (.tmp 4) (.tmp 21) rfl g _ d7 d6 112 cs hh HS27.o hcs (SH _ _ _ _) ?_;have hne:gc≠g:=AG HST5.o.row.lt
    have hlt5:w.heap.size<w5.heap.size:=AI HST5.o.row.lt HST5.o.lt
    refine hK (w6.setRow g #[UE UG s0,UE UO k0,UE UG a0,UE UG b0]) undef ⟨g,?_,hg,AB hh⟩ ⟨⟨?_,hx.lt,?_,?_⟩,?_⟩ ⟨?_,?_,?_⟩
    ·exact d7
    ·exact hx.below.trans ((Wr.setRow g w6 _).below AK)
    ·exact(Wr.setRow g w6 _).row hx.row hne
    ·rw[setRow_other w6 g _ _ AK];exact hx.res
    ·rw[BP];exact hsz
    ·intro h;exact absurd rfl h
    ·rw[BP];exact AY _
    ·intro b2 cs2 t2 fr2 hb2;by_cases hbg:b2=g
     ·subst hbg;rw[hh] at hb2;obtain⟨rfl,rfl,rfl⟩:=(by simpa using hb2:cs=cs2/\_=t2/\_=fr2)
      exact⟨_,AB hh,by rw[hcs];rfl⟩
     ·exact⟨cs2,by rw[setRow_other w6 g b2 _ hbg];exact hb2,rfl⟩
 ·have HV:=HD.o (by simpa using ht);have HVV:AP _:=HV;clear HV HD;go_wp2_with (refine AC 114 (.tmp 2) (.tmp 14) w.heap.size #[UF false,UE UG 0,UE UO 0,UE UG 0,UE UG 0] 114 HRES.o HSF.o rfl (J7 _ _ _ _ _) ?_)
  (try simp only[Exit.inBlock,Exit.then])
  refine AZ (v:=Nb) (AW rfl _ _ w.heap.size 114 _ (0,0) _ rfl (AB HRES.o) Tryz.underlying114 rfl HSF.o) rfl ⟨by rw[HVV.o],?_⟩;exact HST5.o.below.trans ((Wr.setRow _ _ _).below Cw)
theorem Nc (h:Nat) (aD aU:Option Addr) (nD cD nU cU:Nat) (w:UK) (hh:h<w.heap.size) (c2:w.cell? ⟨h,3,UJ⟩=UI (UD aD nD cD)) (c3:w.cell? ⟨h,4,UJ⟩=UI (UD aU nU cU)) :
  Calls Tryz.prog 38 #[UM (UI ⟨h,1,UJ⟩)] w λe w'=>e=.returned (UN #[UD aD nD cD,UD aU nU cU,UE UO nU,UD UJ 0 0])/\Below w.heap.size w w':=IP h 1 aD aU nD cD nU cU w hh c2 c3
theorem IR (a:Option Addr) (n cap:Nat) (k:Int) (w:UK) (ha:At UH w a (EU k n)) (hk:0<=k) (hk':k+n<=1099511627776) :
  Calls Tryz.prog 112 #[UD a n cap,UE UO k] w λe w'=>e=.returned (UE UO (k+n))/\w'=w:=by
 go_enter Tryz.func112,Tryz.ntmps112;go_wp2
 go_loop [1,5] (λq i=>∃ j:Nat,j<=n/\i=UE UO j/\q=UE UO (k+j)) (λ_ i=>n-(intOf i).toNat)
 case atStart=>exact⟨0,Aj _,rfl,AM⟩
 case round=>
  obtain⟨j,hj,rfl,rfl⟩:=hrel;by_cases hlt:j<n
  ·obtain⟨b,off,rfl,hb,hc⟩:=ha.get (by rw[EH];omega);have hcj:=hc j (by rw[EH];omega);rw[JS k n j hlt] at hcj;have hne:((k+(j:Int))%256 != (k+(j:Int))%256)=false:=AM
   clear hc ha;go_wp2
   go_round
   case rel=>exact⟨j+1,AK,by go_num,by go_num⟩
   case measure=>simp[intOf];omega
  ·have hjn:j=n:=AK
   subst hjn;go_wp2
   go_ret
   exact⟨rfl,rfl⟩
def EF (B:Nat) (w:UK) (a:Option Addr) (zs:List Int):Prop:=At UH w a zs/\Df w a zs.length/\∀ ad,a=UI ad->B<=ad.block/\ad.block<w.heap.size
structure Q1 where
 s:Int
 a:Option Addr
 c:Nat
 z:List Int
def FF (qs:List Q1):List UL:=qs.flatMap λq=>[UE UO q.s,UD q.a q.z.length q.c]
def Fr (qs:List Q1):List PD:=qs.map λq=>(q.s,q.z)
theorem L4 (qs:List Q1):(FF qs).length=qs.length*2:=by
 induction qs with
 |nil=>rfl
 |cons q qs ih=>unfold FF at *;rw[List.flatMap_cons,Al,ih];simp;omega
theorem LB (qs:List Q1) (q:Q1):FF (qs++[q])=FF qs++[UE UO q.s,UD q.a q.z.length q.c]:=by simp[FF]
theorem L5 (qs:List Q1) (i:Nat) (q:Q1) (h:qs[i]?=UI q):(FF qs)[i*2]?=UI (UE UO q.s)/\(FF qs)[i*2+1]?=UI (UD q.a q.z.length q.c):=by
 induction qs generalizing i with
 |nil=>simp at h
 |cons p qs ih=>
  unfold FF at *;rw[List.flatMap_cons];cases i with
  |zero=>simp at h;subst h;exact⟨rfl,rfl⟩
  |succ i=>
   have h':qs[i]?=UI q:=by simpa using h
   obtain⟨h1,h2⟩:=ih i h';constructor
   ·rw[show(i+1)*2=i*2+2 by omega,Am AM];simpa using h1
   ·rw[show(i+1)*2+1=i*2+1+2 by omega,Am AM];simpa using h2
def Q1.v (q:Q1):UL:=UD q.a q.z.length q.c
theorem Dd.lt {w:UK} {B:Nat} {v:UL} {z:List Int} (h:Dd w B v z):∀ k,v.ownBlock=UI k->B<=k/\k<w.heap.size/\∃ cur,w.heap[k]?=UI (UP cur 5 (0,0)):=by
 intro k e;rcases h with⟨rfl,_⟩|h
 ·cases e
 ·obtain⟨⟨h1,⟨h2,_⟩|⟨g,cap,cur,h2,hb,hh,_⟩⟩,_⟩:=h
  ·rw[h2] at e;cases e
  ·rw[h2] at e;cases e;exact⟨hb,(AQ.1 hh).1,cur,hh⟩
theorem Ep {w w':UK} {B:Nat} {e:TypeId} {sz:Nat} {v:UL} {n:Nat} {xs:List UL} (h:w.ownsRow B e sz v n xs) (hk:∀ k,v.ownBlock=UI k->w'.heap[k]?=w.heap[k]?):w'.ownsRow B e sz v n xs:=by
 obtain⟨h1,h2|⟨g,cap,cur,h2,hb,hh,h3,h4,h5,h6⟩⟩:=h
 ·exact⟨h1,.inl h2⟩
 ·exact⟨h1,.inr ⟨g,cap,cur,h2,hb,by rw[hk g (by rw[h2];rfl)];exact hh,h3,h4,h5,h6⟩⟩
theorem DI {w:UK} {B:Nat} {e:TypeId} {sz:Nat} {v:UL} {n:Nat} {xs:List UL} (h:w.ownsRow B e sz v n xs):∀ k,v.ownBlock=UI k->B<=k/\k<w.heap.size/\∃ cur,w.heap[k]?=UI (UP cur e (0,0)):=by
 intro k hk;obtain⟨h1,⟨h2,_⟩|⟨g,cap,cur,h2,hb,hh,h3,h4,h5,h6⟩⟩:=h
 ·rw[h2] at hk;cases hk
 ·rw[h2] at hk;cases hk;exact⟨hb,(AQ.1 hh).1,cur,hh⟩
theorem J8 {w:UK} {B B':Nat} {e:TypeId} {sz:Nat} {v:UL} {n:Nat} {xs:List UL} (h:w.ownsRow B e sz v n xs) (hB:B'<=B):w.ownsRow B' e sz v n xs:=by
 obtain⟨h1,h2|⟨g,cap,cur,h2,hb,hh,h3,h4,h5,h6⟩⟩:=h
 ·exact⟨h1,.inl h2⟩
 ·exact⟨h1,.inr ⟨g,cap,cur,h2,AK,hh,h3,h4,h5,h6⟩⟩
theorem DT.keep {w w':UK} {B:Nat} {v:UL} {zs:List Int} (h:DT w B v zs) (hk:∀ k,v.ownBlock=UI k->w'.heap[k]?=w.heap[k]?):DT w' B v zs:=⟨Ep h.1 hk,h.2⟩
theorem DT.mono {w:UK} {B B':Nat} {v:UL} {zs:List Int} (h:DT w B v zs) (hB:B'<=B):DT w B' v zs:=⟨J8 h.1 hB,h.2⟩
theorem Dd.keep {w w':UK} {B:Nat} {v:UL} {zs:List Int} (h:Dd w B v zs) (hk:∀ k,v.ownBlock=UI k->w'.heap[k]?=w.heap[k]?):Dd w' B v zs:=by
 rcases h with h|h
 ·exact .inl h
 ·exact .inr (h.keep hk)
theorem Dd.mono {w:UK} {B B':Nat} {v:UL} {zs:List Int} (h:Dd w B v zs) (hB:B'<=B):Dd w B' v zs:=by
 rcases h with h|h
 ·exact .inl h
 ·exact .inr (h.mono hB)
def L7 (w:UK) (B:Nat) (q:Q1):Prop:=Dd w B q.v q.z\/∃ k,q.v=UD (UI ⟨k,0,UJ⟩) 64 64/\B<=k/\q.z.length=64/\DP w k 122 q.z
theorem L7.lt {w:UK} {B:Nat} {q:Q1} (h:L7 w B q):∀ k,q.v.ownBlock=UI k->B<=k/\k<w.heap.size/\∃ cur t,w.heap[k]?=UI (UP cur t (0,0))/\t≠106/\t≠40:=by
 intro k e;rcases h with h|⟨k',hv,hb,hl,hr⟩
 ·obtain⟨h1,h2,cur,h3⟩:=h.lt k e;exact⟨h1,h2,cur,_,h3,AL,AL⟩
 ·rw[hv] at e;cases e;exact⟨hb,hr.lt,_,_,hr,AL,AL⟩
theorem L7.keep {w w':UK} {B:Nat} {q:Q1} (h:L7 w B q) (hk:∀ k,q.v.ownBlock=UI k->w'.heap[k]?=w.heap[k]?):L7 w' B q:=by
 rcases h with h|⟨k',hv,hb,hl,hr⟩
 ·exact .inl (h.keep hk)
 ·exact .inr ⟨k',hv,hb,hl,by unfold DP;rw[hk k' (by rw[hv];rfl)];exact hr⟩
theorem L7.mono {w:UK} {B B':Nat} {q:Q1} (h:L7 w B q) (hB:B'<=B):L7 w B' q:=by
 rcases h with h|⟨k',hv,hb,hl,hr⟩
 ·exact .inl (h.mono hB)
 ·exact .inr ⟨k',hv,AK,hl,hr⟩
structure Dk (w:UK) (B:Nat) (v:UL) (qs:List Q1):Prop where
 row:w.ownsRow B 106 2 v qs.length (FF qs)
 each:∀(i:Nat) (q:Q1),qs[i]?=UI q->L7 w B q
 ord:∀(i j:Nat) (q q':Q1) (k k':Nat),qs[i]?=UI q->qs[j]?=UI q'->i<j->q.v.ownBlock=UI k->q'.v.ownBlock=UI k'->k<k'
theorem Dk.nil (w:UK) (B:Nat):Dk w B (UD UJ 0 0) []:=⟨⟨rfl,.inl ⟨rfl,rfl⟩⟩,λi q h=>by simp at h,λi j q q' ad ad' h=>by simp at h⟩
theorem Dk.below {w w':UK} {B:Nat} {v:UL} {qs:List Q1} (h:Dk w B v qs) (hb:Below w.heap.size w w'):Dk w' B v qs:=
 ⟨Ep h.row (λk hk=>hb.block k (DI h.row k hk).2.1),λi q hq=>(h.each i q hq).keep (λk hk=>hb.block k ((h.each i q hq).lt k hk).2.1),h.ord⟩
theorem Dk.keep {w w':UK} {B:Nat} {v:UL} {qs:List Q1} (h:Dk w B v qs) (hk:∀ k,B<=k->k<w.heap.size->w'.heap[k]?=w.heap[k]?):Dk w' B v qs:=
 ⟨Ep h.row (λk e=>hk k (DI h.row k e).1 (DI h.row k e).2.1),λi q hq=>(h.each i q hq).keep (λk e=>hk k ((h.each i q hq).lt k e).1 ((h.each i q hq).lt k e).2.1),h.ord⟩
theorem Dk.mine {w:UK} {B:Nat} {v:UL} {qs:List Q1} (h:Dk w B v qs):∃ a c,v=UD a qs.length c/\Dq B w.heap.size w a (Fr qs):=by
 obtain⟨h1,⟨h2,h3⟩|⟨g,cap,cur,h2,hb,hh,hc,hm,hs,ht⟩⟩:=h.row
 ·exact⟨UJ,0,by rw[h2,h3],.inl (by rw[Aq h3];rfl)⟩
 ·refine⟨_,cap,h2,?_⟩;have hlt:=(AQ.1 hh).1;refine .inr ⟨g,0,λi=>(qs.getD i ⟨0,UJ,0,[]⟩).a,λi=>(qs.getD i ⟨0,UJ,0,[]⟩).c,rfl,hb,hlt,AY _,λi hi=>?_,λi j ad ad' hi hj hij e e'=>?_⟩
  ·have hi':i<qs.length:=by simpa[Fr] using hi
   have hq:qs[i]?=UI qs[i]:=BK hi';have hd:qs.getD i ⟨0,UJ,0,[]⟩=qs[i]:=by rw[Ao,hq];rfl
   have hp:(Fr qs).getD i (0,[])=(qs[i].s,qs[i].z):=by simp[Fr,List.getD,hq]
   obtain⟨c1,c2⟩:=L5 qs i _ hq;have hcell:∀ t x,(FF qs)[t]?=UI x->w.cell? ⟨g,0+t,UJ⟩=UI x:=λt x hx=>by
    have htl:t<qs.length*2:=by have:=(Af.1 hx).1;rw[L4] at this;exact this
    rw[Bg w g (0+t) cur _ (0,0) hh,Ak];have:(cur.toList.take (qs.length*2))[t]?=(FF qs)[t]?:=by rw[ht]
    rw[BS htl,hx] at this;simpa using this
   have hE:=h.each i _ hq;dsimp only;rw[hd,hp];refine⟨hcell _ _ c1,Ag w g _ cur _ hh,by rw[Ap];exact hcell _ _ c2,?_,?_,λad e=>?_,?_⟩
   ·rcases hE with (⟨_,h0⟩|hO)|⟨k',hv,hb',hl,hr⟩
    ·exact .inl h0
    ·obtain⟨g',c',hv,_,_,_,hA,_⟩:=hO.at_;have:qs[i].a=UI ⟨g',0,UJ⟩:=by unfold Q1.v at hv;simp at hv;exact hv.1
     rw[this];exact hA
    ·have:qs[i].a=UI ⟨k',0,UJ⟩:=by unfold Q1.v at hv;simp at hv;exact hv.1
     rw[this];exact hr.at_
   ·rcases hE with (⟨_,h0⟩|hO)|⟨k',hv,hb',hl,hr⟩
    ·exact .inl (by rw[h0];rfl)
    ·obtain⟨g',c',hv,_,_,_,_,hA⟩:=hO.at_;have:qs[i].a=UI ⟨g',0,UJ⟩:=by unfold Q1.v at hv;simp at hv;exact hv.1
     rw[this];exact hA
    ·have:qs[i].a=UI ⟨k',0,UJ⟩:=by unfold Q1.v at hv;simp at hv;exact hv.1
     rw[this];exact hr.open_
   ·obtain⟨l1,l2,cur',t',l3,l4,_⟩:=hE.lt ad.block (by unfold Q1.v;rw[e];rfl);refine⟨l1,l2,λeg=>?_⟩;rw[eg,hh] at l3;simp at l3;exact l4 l3.2.symm
   ·rcases hE with (⟨hv,h0⟩|hO)|⟨k',hv,hb',hl,hr⟩
    ·rw[h0];exact Aj _
    ·obtain⟨g',c',hv,_,_,hle,_,_⟩:=hO.at_;have:qs[i].c=c':=by unfold Q1.v at hv;simp at hv;exact hv.2
     rw[this];exact hle
    ·have:qs[i].c=64:=by unfold Q1.v at hv;simp at hv;exact hv.2.2
     rw[this,hl];exact AY _
  ·have hi':i<qs.length:=by simpa[Fr] using hi
   have hj':j<qs.length:=by simpa[Fr] using hj
   have hd:∀ t (ht:t<qs.length),qs.getD t ⟨0,UJ,0,[]⟩=qs[t]:=λt ht=>by rw[Ao,BK ht];rfl
   simp only[hd i hi',hd j hj'] at e e';rcases Nat.lt_or_ge i j with hlt'|hge
   ·have:=h.ord i j _ _ ad.block ad'.block (BK hi') (BK hj') hlt' (by unfold Q1.v;rw[e];rfl) (by unfold Q1.v;rw[e'];rfl);omega
   ·have:=h.ord j i _ _ ad'.block ad.block (BK hj') (BK hi') AK (by unfold Q1.v;rw[e'];rfl) (by unfold Q1.v;rw[e];rfl);omega
end Go.Proofs.YthmeoilbmfdhfaaGreat
