import Derived.Test.YtjdhhgaelgemcaaGreatDoorStR
import Derived.LaidEql
import Derived.Stop.Asserts
import Derived.RowKitTokens
namespace Go.Proofs.YtjdhhgaelgemcaaGreatDoor
open Go.RowKit Go.Extern.Stop Go.Stop Go.Extern Go.ChangeShapes Go.WideShapes Go.ChangeAt
set_option linter.unusedVariables false
set_option maxRecDepth 100000
theorem valueOfP (t:Addr) (w:World):(ReflectliteValue.unpack (.iface 120 (.pointer (some t)))).run Tryz.prog w
  =.ok (.agg #[.pointer (some ⟨2,120,none⟩),.pointer (some ⟨w.heap.size,0,none⟩),.int .u64 150]) (w.alloc (.cells #[.pointer (some t)] 120)):=by kernel_rfl
theorem typeP (a : Addr) (w : World) : (ReflectliteValue.methodAny (ReflectliteValue.valueError "reflectlite.Value.Type" 0) (fun t _ _ _ => ReflectliteType.toType t) #[.agg #[.pointer (some ⟨2, 120, none⟩), .pointer (some a), .int .u64 150]]).run Tryz.prog w
  =.ok (.iface 183 (.agg #[.pointer (some ⟨2,120,none⟩)])) w:=by kernel_rfl
theorem methodKindQ (h : Value) (w : World) : (Go.method 347 183 (.agg #[h]) "Kind").run Tryz.prog w = .ok (189, h) w := by kernel_rfl
theorem kindP (w:World):((ReflectliteType.abiMethod fun t=>(fun a:Nat=>Value.int IntKind.u8 (a:Int)) <$> Rtype.kind t) #[.pointer (some ⟨2,120,none⟩)]).run Tryz.prog w=.ok (.int .u8 22) w:=by kernel_rfl
theorem kindT (w:World):((ReflectliteType.abiMethod fun t=>(fun a:Nat=>Value.int IntKind.u8 (a:Int)) <$> Rtype.kind t) #[.pointer (some ⟨2,118,none⟩)]).run Tryz.prog w=.ok (.int .u8 6) w:=by kernel_rfl
theorem rlmQ (z:Sem Value) (f:TypeId→Addr→Nat→Nat→Sem Value) (v:Value) :
  ReflectliteValue.method z f #[v]=(do match ←ReflectliteValue.parts v with|none=>z|some (t,a,fl)=>f t a fl (fl%32)):=rfl
theorem partsP (a:Addr) (w:World):(ReflectliteValue.parts (.agg #[.pointer (some ⟨2,120,none⟩),.pointer (some a),.int .u64 150])).run Tryz.prog w=.ok (some (120,a,150)) w:=by kernel_rfl
theorem isNilP (a p:Addr) (W:World) (ha:W.cell? a=some (.pointer (some p))) :
  (ReflectliteValue.method (ReflectliteValue.valueError "reflectlite.Value.IsNil" 0) ReflectliteValue.isNil #[.agg #[.pointer (some ⟨2, 120, none⟩), .pointer (some a), .int .u64 150]]).run Tryz.prog W = .ok (.bool false) W := by
 rw[rlmQ];simp only[Sem.run_bind,partsP,Result.andThen];simp[ReflectliteValue.isNil,loadVar,isAgg,underlying,Tryz.underlying120,ha,Result.andThen]
theorem methodElemQ (h : Value) (w : World) : (Go.method 347 183 (.agg #[h]) "Elem").run Tryz.prog w = .ok (199, .agg #[h]) w := by kernel_rfl
theorem methodImplQ (h : Value) (w : World) : (Go.method 347 183 (.agg #[h]) "Implements").run Tryz.prog w = .ok (200, .agg #[h]) w := by kernel_rfl
theorem methodAssQ (h : Value) (w : World) : (Go.method 347 183 (.agg #[h]) "AssignableTo").run Tryz.prog w = .ok (197, .agg #[h]) w := by kernel_rfl
theorem elemP (w:World):(ReflectliteType.method ReflectliteType.elem #[.agg #[.pointer (some ⟨2,120,none⟩)]]).run Tryz.prog w=.ok (.iface 183 (.agg #[.pointer (some ⟨2,118,none⟩)])) w:=by kernel_rfl
theorem implT (w : World) : (ReflectliteType.relation "Implements" ReflectliteType.implements_ #[.agg #[.pointer (some ⟨2, 118, none⟩)], .iface 183 (.agg #[.pointer (some ⟨2, 99, none⟩)])]).run Tryz.prog w = .ok (.bool true) w := by kernel_rfl
theorem typeOfT (v:Value) (w:World):(ReflectliteType.typeOf #[.iface 118 v]).run Tryz.prog w=.ok (.iface 183 (.agg #[.pointer (some ⟨2,118,none⟩)])) w:=by kernel_rfl
theorem assT (w : World) : (ReflectliteType.relation "AssignableTo" ReflectliteType.assignableTo #[.agg #[.pointer (some ⟨2, 118, none⟩)], .iface 183 (.agg #[.pointer (some ⟨2, 118, none⟩)])]).run Tryz.prog w = .ok (.bool true) w := by kernel_rfl
theorem valueOfT (c:Int) (w:World):(ReflectliteValue.unpack (.iface 118 (.int .i64 c))).run Tryz.prog w
  =.ok (.agg #[.pointer (some ⟨2,118,none⟩),.pointer (some ⟨w.heap.size,0,none⟩),.int .u64 134]) (w.alloc (.cells #[.int .i64 c] 118)):=by kernel_rfl
theorem elemOfP (w:World):(Rtype.elem? 120).run Tryz.prog w=.ok (some 118) w:=by kernel_rfl
theorem mkT (p:Addr) (w:World):(ReflectliteValue.mk 118 p ReflectliteValue.flagAddr).run Tryz.prog w=.ok (.agg #[.pointer (some ⟨2,118,none⟩),.pointer (some p),.int .u64 390]) w:=by kernel_rfl
theorem elemVP (a p:Addr) (W:World) (ha:W.cell? a=some (.pointer (some p))) :
  (ReflectliteValue.method (ReflectliteValue.valueError "reflectlite.Value.Elem" 0) ReflectliteValue.elem #[.agg #[.pointer (some ⟨2, 120, none⟩), .pointer (some a), .int .u64 150]]).run Tryz.prog W
   =.ok (.agg #[.pointer (some ⟨2,118,none⟩),.pointer (some p),.int .u64 390]) W:=by
 rw[rlmQ];simp only[Sem.run_bind,partsP,Result.andThen];simp[ReflectliteValue.elem,loadVar,isAgg,underlying,Tryz.underlying120,ha,Result.andThen,elemOfP,mkT]
theorem rlsQ (v x:Value):ReflectliteValue.set #[v,x]=(do
  let (some (dst,a,fl),some (src,b,_)):=(←ReflectliteValue.parts v,←ReflectliteValue.parts x)
   | unsupported (.noEntry "extern/(internal/reflectlite.Value).Set.zeroValue")
  if fl / ReflectliteValue.flagAddr % 2 == 0 then unsupported (.noEntry "extern/(internal/reflectlite.Value).Set.unaddressable")
  let val ←loadVar src b
  if ←Rtype.directlyAssignable dst src then storeVar dst a val
  else if ←Rtype.implements dst src then
   if(←Rtype.kind src) == 20 then
    match val with
    | .nilIface => unsupported (.noEntry "extern/reflectlite: a nil value of one interface type handed on as a value of another")
    |_=>storeVar dst a val
   else storeVar dst a (.iface src val)
  else panicString ("reflectlite.Set: value of type " ++ (← Rtype.spelt src) ++ " is not assignable to type " ++ (← Rtype.spelt dst))
  pure (.tuple #[])):=rfl
theorem partsTa (a:Addr) (w:World):(ReflectliteValue.parts (.agg #[.pointer (some ⟨2,118,none⟩),.pointer (some a),.int .u64 390])).run Tryz.prog w=.ok (some (118,a,390)) w:=by kernel_rfl
theorem partsT (a:Addr) (w:World):(ReflectliteValue.parts (.agg #[.pointer (some ⟨2,118,none⟩),.pointer (some a),.int .u64 134])).run Tryz.prog w=.ok (some (118,a,134)) w:=by kernel_rfl
theorem directT (w:World):(Rtype.directlyAssignable 118 118).run Tryz.prog w=.ok true w:=by kernel_rfl
theorem setT (ta b:Addr) (c:Int) (old:Value) (W:World) (hb:W.cell? b=some (.int .i64 c)) (ht:W.cell? ta=some old) (hf:W.frozen? ta=false) :
  (ReflectliteValue.set #[.agg #[.pointer (some ⟨2,118,none⟩),.pointer (some ta),.int .u64 390],.agg #[.pointer (some ⟨2,118,none⟩),.pointer (some b),.int .u64 134]]).run Tryz.prog W
   =.ok (.tuple #[]) (W.setCell ta (.int .i64 c)):=by
 rw[rlsQ];simp only[Sem.run_bind,partsTa,partsT,Result.andThen];simp[ReflectliteValue.flagAddr,loadVar,isAgg,underlying,Tryz.underlying118,hb,Result.andThen,directT,storeVar,Value.cells,storeCells,Addr.add];rw[run_store Tryz.prog W ta _ _ (by rfl)];simp[ht,hf]
def ErrIn (w:World):Prop:=w.cell? ⟨0,0,none⟩=some (.iface 183 (.agg #[.pointer (some ⟨2,99,none⟩)]))
set_option maxHeartbeats 4000000 in
theorem as_hit (c:Int) (t:Addr) (old:Value) (w:World) (hg:ErrIn w) (ht0:w.cell? t=some old) (hf0:w.frozen? t=false) :
  Calls Tryz.prog 82 #[.iface 118 (.int .i64 c),.iface 120 (.pointer (some t))] w fun ev w'=>ev=.returned (.bool true)∧w'=((((w.alloc (.cells #[.pointer (some t)] 120)).alloc (.cells #[.pointer (some ⟨2,120,none⟩),.pointer (some ⟨w.heap.size,0,none⟩),.int .u64 150] 152)).alloc (.cells #[.pointer (some ⟨2,120,none⟩),.pointer (some ⟨w.heap.size,0,none⟩),.int .u64 150] 152)).alloc (.cells #[.int .i64 c] 118)).setCell t (.int .i64 c):=by
 unfold ErrIn at hg;have h6:=@run_callFunc_extern Tryz.prog 111 _ (fun args=>ReflectliteValue.unpack (args.getD 0 (.tuple #[]))) Tryz.func111 (by kernel_rfl) (by kernel_rfl) (by kernel_rfl) (by kernel_rfl)
 have h7 := @run_callFunc_extern Tryz.prog 112 _ (ReflectliteValue.methodAny (ReflectliteValue.valueError "reflectlite.Value.Type" 0) (fun t _ _ _ => ReflectliteType.toType t)) Tryz.func112 (by kernel_rfl) (by kernel_rfl) (by kernel_rfl) (by kernel_rfl)
 have h8 := @run_callFunc_extern Tryz.prog 113 _ (ReflectliteValue.method (ReflectliteValue.valueError "reflectlite.Value.IsNil" 0) ReflectliteValue.isNil) Tryz.func113 (by kernel_rfl) (by kernel_rfl) (by kernel_rfl) (by kernel_rfl)
 have h27:=@run_callFunc_extern Tryz.prog 189 _ (ReflectliteType.abiMethod fun t=>do pure (.int .u8 (←Rtype.kind t))) Tryz.func189 (by kernel_rfl) (by kernel_rfl) (by kernel_rfl) (by kernel_rfl);have h37:=@run_callFunc_extern Tryz.prog 199 _ (ReflectliteType.method ReflectliteType.elem) Tryz.func199 (by kernel_rfl) (by kernel_rfl) (by kernel_rfl) (by kernel_rfl)
 have h38 := @run_callFunc_extern Tryz.prog 200 _ (ReflectliteType.relation "Implements" ReflectliteType.implements_) Tryz.func200 (by kernel_rfl) (by kernel_rfl) (by kernel_rfl) (by kernel_rfl)
 have h10:=@run_callFunc_extern Tryz.prog 143 _ ReflectliteType.typeOf Tryz.func143 (by kernel_rfl) (by kernel_rfl) (by kernel_rfl) (by kernel_rfl)
 have h35 := @run_callFunc_extern Tryz.prog 197 _ (ReflectliteType.relation "AssignableTo" ReflectliteType.assignableTo) Tryz.func197 (by kernel_rfl) (by kernel_rfl) (by kernel_rfl) (by kernel_rfl)
 have h11 := @run_callFunc_extern Tryz.prog 144 _ (ReflectliteValue.method (ReflectliteValue.valueError "reflectlite.Value.Elem" 0) ReflectliteValue.elem) Tryz.func144 (by kernel_rfl) (by kernel_rfl) (by kernel_rfl) (by kernel_rfl)
 have h12:=@run_callFunc_extern Tryz.prog 145 _ ReflectliteValue.set Tryz.func145 (by kernel_rfl) (by kernel_rfl) (by kernel_rfl) (by kernel_rfl);have tO:=typeOfT;have mA:=methodAssQ;have a25:=assT;have v25:=valueOfT;have f6:=valueOfP;have f7:=typeP;have mK:=methodKindQ;have mE:=methodElemQ;have mI:=methodImplQ;have k27:=kindP;have k25:=kindT;have e27:=elemP;have i25:=implT;have n8:=isNilP ⟨w.heap.size,0,none⟩ t ((w.alloc (.cells #[.pointer (some t)] 120)).alloc (.cells #[.pointer (some ⟨2,120,none⟩),.pointer (some ⟨w.heap.size,0,none⟩),.int .u64 150] 152)) (by simp);have hlt:0<w.heap.size:=block_lt_of_cell (a:=⟨0,0,none⟩) hg;have hg2:((w.alloc (.cells #[.pointer (some t)] 120)).alloc (.cells #[.pointer (some ⟨2,120,none⟩),.pointer (some ⟨w.heap.size,0,none⟩),.int .u64 150] 152)).cell? ⟨0,0,none⟩=some (.iface 183 (.agg #[.pointer (some ⟨2,99,none⟩)])):=by
  rw[World.cell?_alloc_lt _ _ ⟨0,0,none⟩ (by simp),World.cell?_alloc_lt _ _ ⟨0,0,none⟩ hlt];exact hg
 have htl:t.block<w.heap.size:=block_lt_of_cell ht0;have el:=elemVP ⟨w.heap.size,0,none⟩ t (((w.alloc (.cells #[.pointer (some t)] 120)).alloc (.cells #[.pointer (some ⟨2,120,none⟩),.pointer (some ⟨w.heap.size,0,none⟩),.int .u64 150] 152)).alloc (.cells #[.pointer (some ⟨2,120,none⟩),.pointer (some ⟨w.heap.size,0,none⟩),.int .u64 150] 152)) (by rw[World.cell?_alloc_lt _ _ ⟨w.heap.size,0,none⟩ (by simp;omega),World.cell?_alloc_lt _ _ ⟨w.heap.size,0,none⟩ (by simp)];simp);have st:=setT t ⟨w.heap.size+1+1+1,0,none⟩ c old ((((w.alloc (.cells #[.pointer (some t)] 120)).alloc (.cells #[.pointer (some ⟨2,120,none⟩),.pointer (some ⟨w.heap.size,0,none⟩),.int .u64 150] 152)).alloc (.cells #[.pointer (some ⟨2,120,none⟩),.pointer (some ⟨w.heap.size,0,none⟩),.int .u64 150] 152)).alloc (.cells #[.int .i64 c] 118))
  (by rw[World.cell?_alloc_at _ _ _ _ (by simp)];rfl)
  (by rw[World.cell?_alloc_lt _ _ t (by simp;omega),World.cell?_alloc_lt _ _ t (by simp;omega),World.cell?_alloc_lt _ _ t (by simp;omega),World.cell?_alloc_lt _ _ t htl];exact ht0)
  (by rw[World.frozen?_alloc_old _ _ t (by simp;omega),World.frozen?_alloc_old _ _ t (by simp;omega),World.frozen?_alloc_old _ _ t (by simp;omega),World.frozen?_alloc_old _ _ t (Nat.ne_of_lt htl)];exact hf0)
 go_enter Tryz.func82,Tryz.ntmps82;go_wp2;refine wp_loop_rounds 1 ?_;rw[rounds_succ];go_wp2
 go_ret
 exact⟨rfl,rfl⟩
set_option maxHeartbeats 4000000 in
theorem cod_any (c:Int) (w:World) (hg:ErrIn w) :
  Calls Tryz.prog 65 #[.iface 118 (.int .i64 c)] w fun e w'=>e=.returned (.int .i64 c)∧Below w.heap.size w w':=by
 have hg1:ErrIn (w.alloc (.cells #[.int .i64 0] 118)):=by
  have hlt:0<w.heap.size:=block_lt_of_cell (a:=⟨0,0,none⟩) hg;unfold ErrIn at hg ⊢;rw[World.cell?_alloc_lt _ _ ⟨0,0,none⟩ hlt];exact hg
 have HA:=as_hit c ⟨w.heap.size,0,none⟩ (.int .i64 0) (w.alloc (.cells #[.int .i64 0] 118)) hg1 (by simp) (by simp);obtain⟨t,ht⟩:∃ t:Addr,t=⟨w.heap.size,0,none⟩:=⟨_,rfl⟩
 have HB0:Hid (Below w.heap.size w (w.alloc (.cells #[.int .i64 0] 118))):=(Below.refl _ _).alloc (Nat.le_refl _) _;have HZ:Hid ((w.alloc (.cells #[.int .i64 0] 118)).heap.size=w.heap.size+1):=by show _=_;simp
 have HC0:Hid ((w.alloc (.cells #[.int .i64 0] 118)).cell? ⟨w.heap.size,0,none⟩=some (.int .i64 0)):=by show _=_;simp
 clear hg hg1 ht t;go_enter Tryz.func65,Tryz.ntmps65;go_wp2_with fail;generalize w.alloc (.cells #[.int .i64 0] 118)=w0 at *;refine HA.mono ?_;rintro e w1 ⟨rfl,hw1⟩;have HBA:Below w0.heap.size w0 ((((w0.alloc (.cells #[.pointer (some ⟨w.heap.size,0,none⟩)] 120)).alloc (.cells #[.pointer (some ⟨2,120,none⟩),.pointer (some ⟨w0.heap.size,0,none⟩),.int .u64 150] 152)).alloc (.cells #[.pointer (some ⟨2,120,none⟩),.pointer (some ⟨w0.heap.size,0,none⟩),.int .u64 150] 152)).alloc (.cells #[.int .i64 c] 118)):=((((Below.refl _ _).alloc (Nat.le_refl _) _).alloc (by simp) _).alloc (by simp;omega) _).alloc (by simp;omega) _;have HCA:((((w0.alloc (.cells #[.pointer (some ⟨w.heap.size,0,none⟩)] 120)).alloc (.cells #[.pointer (some ⟨2,120,none⟩),.pointer (some ⟨w0.heap.size,0,none⟩),.int .u64 150] 152)).alloc (.cells #[.pointer (some ⟨2,120,none⟩),.pointer (some ⟨w0.heap.size,0,none⟩),.int .u64 150] 152)).alloc (.cells #[.int .i64 c] 118)).cell? ⟨w.heap.size,0,none⟩=some (.int .i64 0):=by rw[HBA.cell (p:=⟨w.heap.size,0,none⟩) (by rw[HZ.out];exact Nat.lt_succ_self _)];exact HC0.out
 have hc1:w1.cell? ⟨w.heap.size,0,none⟩=some (.int .i64 c):=by rw[hw1];exact World.cell?_setCell_same' _ _ _ (by rw[HCA];rfl)
 have HB1:Hid (Below w.heap.size w w1):=by
  show Below _ _ _
  rw[hw1];exact(HB0.out.trans (HBA.mono (by rw[HZ.out];omega))).trans (((Wr.refl w.heap.size _).setCell 0 _).below (Nat.le_refl _))
 clear HBA HCA hw1 HA;go_wp2
 go_ret
 exact⟨rfl,HB1.out⟩
end Go.Proofs.YtjdhhgaelgemcaaGreatDoor
