import Derived.Test.YtjdhhgaelgemcaaGreatDoorStR
open Go.Proofs.Tryz renaming prog->tP
open Go.Proofs.Tryz
open Go.Value renaming int->Z8,pointer->aF,bool->aG,agg->aH
open Go.IntKind renaming i64->aI
open Go.Obj renaming cells->aJ
open Option renaming some->aE,none->aA
open Go renaming World->aC,Value->aB
set_option maxHeartbeats 4000000
namespace Go.Proofs.YtjdhhgaelgemcaaGreatDoor
open Go.RowKit Go.Extern.Stop Go.Stop Go.Extern Go.ChangeShapes Go.WideShapes Go.ChangeAt
set_option linter.unusedVariables false
set_option maxRecDepth 100000
theorem TR (t:Addr) (w:aC):(ReflectliteValue.unpack (.iface 120 (aF (aE t)))).run tP w
  =.ok (aH #[aF (aE ⟨2,120,aA⟩),aF (aE ⟨w.heap.size,0,aA⟩),Z8 .u64 150]) (w.alloc (aJ #[aF (aE t)] 120)):=AM
theorem YZ (a : Addr) (w : aC) : (ReflectliteValue.methodAny (ReflectliteValue.valueError "reflectlite.Value.Type" 0) (fun t _ _ _ => ReflectliteType.toType t) #[aH #[aF (aE ⟨2, 120, aA⟩), aF (aE a), Z8 .u64 150]]).run tP w
  =.ok (.iface 183 (aH #[aF (aE ⟨2,120,aA⟩)])) w:=AM
theorem M9 (h : aB) (w : aC) : (Go.method 347 183 (aH #[h]) "Kind").run tP w = .ok (189, h) w := by kernel_rfl
theorem Ya (w:aC):((ReflectliteType.abiMethod λt=>(λa:Nat=>Z8 IntKind.u8 (a:Int)) <$> Rtype.kind t) #[aF (aE ⟨2,120,aA⟩)]).run tP w=.ok (Z8 .u8 22) w:=AM
theorem Yb (w:aC):((ReflectliteType.abiMethod λt=>(λa:Nat=>Z8 IntKind.u8 (a:Int)) <$> Rtype.kind t) #[aF (aE ⟨2,118,aA⟩)]).run tP w=.ok (Z8 .u8 6) w:=AM
def Yc (z:Sem aB) (f:TypeId->Addr->Nat->Nat->Sem aB) (v:aB):{k//ReflectliteValue.method z f #[v]=ReflectliteValue.parts v>>=k}:=⟨_,rfl⟩
theorem TU (a:Addr) (w:aC):(ReflectliteValue.parts (aH #[aF (aE ⟨2,120,aA⟩),aF (aE a),Z8 .u64 150])).run tP w=.ok (aE (120,a,150)) w:=AM
theorem XP (a p:Addr) (W:aC) (ha:W.cell? a=aE (aF (aE p))) :
  (ReflectliteValue.method (ReflectliteValue.valueError "reflectlite.Value.IsNil" 0) ReflectliteValue.isNil #[aH #[aF (aE ⟨2, 120, aA⟩), aF (aE a), Z8 .u64 150]]).run tP W = .ok (aG false) W := by
 rw[(Yc _ _ _).2];dsimp only[Yc];simp only[Sem.run_bind,TU,Result.andThen];simp[ReflectliteValue.isNil,loadVar,isAgg,underlying,underlying120,ha,Result.andThen]
theorem NA (h : aB) (w : aC) : (Go.method 347 183 (aH #[h]) "Elem").run tP w = .ok (199, aH #[h]) w := by kernel_rfl
theorem NB (h : aB) (w : aC) : (Go.method 347 183 (aH #[h]) "Implements").run tP w = .ok (200, aH #[h]) w := by kernel_rfl
theorem OM (h : aB) (w : aC) : (Go.method 347 183 (aH #[h]) "AssignableTo").run tP w = .ok (197, aH #[h]) w := by kernel_rfl
theorem Yd (w:aC):(ReflectliteType.method ReflectliteType.elem #[aH #[aF (aE ⟨2,120,aA⟩)]]).run tP w=.ok (.iface 183 (aH #[aF (aE ⟨2,118,aA⟩)])) w:=AM
theorem Ye (w : aC) : (ReflectliteType.relation "Implements" ReflectliteType.implements_ #[aH #[aF (aE ⟨2, 118, aA⟩)], .iface 183 (aH #[aF (aE ⟨2, 99, aA⟩)])]).run tP w = .ok (aG true) w := by kernel_rfl
theorem VJ (v:aB) (w:aC):(ReflectliteType.typeOf #[.iface 118 v]).run tP w=.ok (.iface 183 (aH #[aF (aE ⟨2,118,aA⟩)])) w:=AM
theorem Za (w : aC) : (ReflectliteType.relation "AssignableTo" ReflectliteType.assignableTo #[aH #[aF (aE ⟨2, 118, aA⟩)], .iface 183 (aH #[aF (aE ⟨2, 118, aA⟩)])]).run tP w = .ok (aG true) w := by kernel_rfl
theorem TV (c:Int) (w:aC):(ReflectliteValue.unpack (.iface 118 (Z8 aI c))).run tP w
  =.ok (aH #[aF (aE ⟨2,118,aA⟩),aF (aE ⟨w.heap.size,0,aA⟩),Z8 .u64 134]) (w.alloc (aJ #[Z8 aI c] 118)):=AM
theorem VK (w:aC):(Rtype.elem? 120).run tP w=.ok (aE 118) w:=AM
theorem Z6 (p:Addr) (w:aC):(ReflectliteValue.mk 118 p ReflectliteValue.flagAddr).run tP w=.ok (aH #[aF (aE ⟨2,118,aA⟩),aF (aE p),Z8 .u64 390]) w:=AM
theorem XQ (a p:Addr) (W:aC) (ha:W.cell? a=aE (aF (aE p))) :
  (ReflectliteValue.method (ReflectliteValue.valueError "reflectlite.Value.Elem" 0) ReflectliteValue.elem #[aH #[aF (aE ⟨2, 120, aA⟩), aF (aE a), Z8 .u64 150]]).run tP W
   =.ok (aH #[aF (aE ⟨2,118,aA⟩),aF (aE p),Z8 .u64 390]) W:=by
 rw[(Yc _ _ _).2];dsimp only[Yc];simp only[Sem.run_bind,TU,Result.andThen];simp[ReflectliteValue.elem,loadVar,isAgg,underlying,underlying120,ha,Result.andThen,VK,Z6]
def Zb (v x:aB):{k:_->_->Sem aB//ReflectliteValue.set #[v,x]=ReflectliteValue.parts v>>=λp=>ReflectliteValue.parts x>>=k p}:=⟨_,rfl⟩
theorem VL (a:Addr) (w:aC):(ReflectliteValue.parts (aH #[aF (aE ⟨2,118,aA⟩),aF (aE a),Z8 .u64 390])).run tP w=.ok (aE (118,a,390)) w:=AM
theorem XR (a:Addr) (w:aC):(ReflectliteValue.parts (aH #[aF (aE ⟨2,118,aA⟩),aF (aE a),Z8 .u64 134])).run tP w=.ok (aE (118,a,134)) w:=AM
theorem VM (w:aC):(Rtype.directlyAssignable 118 118).run tP w=.ok true w:=AM
theorem Zc (ta b:Addr) (c:Int) (old:aB) (W:aC) (hb:W.cell? b=aE (Z8 aI c)) (ht:W.cell? ta=aE old) (hf:W.frozen? ta=false) :
  (ReflectliteValue.set #[aH #[aF (aE ⟨2,118,aA⟩),aF (aE ta),Z8 .u64 390],aH #[aF (aE ⟨2,118,aA⟩),aF (aE b),Z8 .u64 134]]).run tP W
   =.ok (.tuple #[]) (W.setCell ta (Z8 aI c)):=by
 rw[(Zb _ _).2];dsimp only[Zb];simp only[Sem.run_bind,VL,XR,Result.andThen];simp[ReflectliteValue.flagAddr,loadVar,isAgg,underlying,underlying118,hb,Result.andThen,VM,storeVar,Value.cells,storeCells,Addr.add];rw[run_store tP W ta _ _ AN];simp[ht,hf]
def El (w:aC):Prop:=w.cell? ⟨0,0,aA⟩=aE (.iface 183 (aH #[aF (aE ⟨2,99,aA⟩)]))
theorem XS (c:Int) (t:Addr) (old:aB) (w:aC) (hg:El w) (ht0:w.cell? t=aE old) (hf0:w.frozen? t=false) :
  Calls tP 82 #[.iface 118 (Z8 aI c),.iface 120 (aF (aE t))] w λev w'=>ev=.returned (aG true)/\w'=((((w.alloc (aJ #[aF (aE t)] 120)).alloc (aJ #[aF (aE ⟨2,120,aA⟩),aF (aE ⟨w.heap.size,0,aA⟩),Z8 .u64 150] 152)).alloc (aJ #[aF (aE ⟨2,120,aA⟩),aF (aE ⟨w.heap.size,0,aA⟩),Z8 .u64 150] 152)).alloc (aJ #[Z8 aI c] 118)).setCell t (Z8 aI c):=by
 unfold El at hg;have h6:=@run_callFunc_extern tP 111 _ (λargs=>ReflectliteValue.unpack (args.getD 0 (.tuple #[]))) func111 AM AM AM AM
 have h7 := @run_callFunc_extern tP 112 _ (ReflectliteValue.methodAny (ReflectliteValue.valueError "reflectlite.Value.Type" 0) (fun t _ _ _ => ReflectliteType.toType t)) func112 AM AM AM AM
 have h8 := @run_callFunc_extern tP 113 _ (ReflectliteValue.method (ReflectliteValue.valueError "reflectlite.Value.IsNil" 0) ReflectliteValue.isNil) func113 AM AM AM AM
 have h27:=@run_callFunc_extern tP 189 _ (ReflectliteType.abiMethod λt=>do pure (Z8 .u8 (<-Rtype.kind t))) func189 AM AM AM AM;have h37:=@run_callFunc_extern tP 199 _ (ReflectliteType.method ReflectliteType.elem) func199 AM AM AM AM
 have h38 := @run_callFunc_extern tP 200 _ (ReflectliteType.relation "Implements" ReflectliteType.implements_) func200 AM AM AM AM
 have h10:=@run_callFunc_extern tP 143 _ ReflectliteType.typeOf func143 AM AM AM AM
 have h35 := @run_callFunc_extern tP 197 _ (ReflectliteType.relation "AssignableTo" ReflectliteType.assignableTo) func197 AM AM AM AM
 have h11 := @run_callFunc_extern tP 144 _ (ReflectliteValue.method (ReflectliteValue.valueError "reflectlite.Value.Elem" 0) ReflectliteValue.elem) func144 AM AM AM AM
 have h12:=@run_callFunc_extern tP 145 _ ReflectliteValue.set func145 AM AM AM AM;have tO:=VJ;have mA:=OM;have a25:=Za;have v25:=TV;have f6:=TR;have f7:=YZ;have mK:=M9;have mE:=NA;have mI:=NB;have k27:=Ya;have k25:=Yb;have e27:=Yd;have i25:=Ye;have n8:=XP ⟨w.heap.size,0,aA⟩ t ((w.alloc (aJ #[aF (aE t)] 120)).alloc (aJ #[aF (aE ⟨2,120,aA⟩),aF (aE ⟨w.heap.size,0,aA⟩),Z8 .u64 150] 152)) AL;have hlt:0<w.heap.size:=block_lt_of_cell (a:=⟨0,0,aA⟩) hg;have hg2:((w.alloc (aJ #[aF (aE t)] 120)).alloc (aJ #[aF (aE ⟨2,120,aA⟩),aF (aE ⟨w.heap.size,0,aA⟩),Z8 .u64 150] 152)).cell? ⟨0,0,aA⟩=aE (.iface 183 (aH #[aF (aE ⟨2,99,aA⟩)])):=by
  rw[World.cell?_alloc_lt _ _ ⟨0,0,aA⟩ AL,World.cell?_alloc_lt _ _ ⟨0,0,aA⟩ hlt];exact hg
 have htl:t.block<w.heap.size:=block_lt_of_cell ht0;have el:=XQ ⟨w.heap.size,0,aA⟩ t (((w.alloc (aJ #[aF (aE t)] 120)).alloc (aJ #[aF (aE ⟨2,120,aA⟩),aF (aE ⟨w.heap.size,0,aA⟩),Z8 .u64 150] 152)).alloc (aJ #[aF (aE ⟨2,120,aA⟩),aF (aE ⟨w.heap.size,0,aA⟩),Z8 .u64 150] 152)) (by rw[World.cell?_alloc_lt _ _ ⟨w.heap.size,0,aA⟩ (by simp;omega),World.cell?_alloc_lt _ _ ⟨w.heap.size,0,aA⟩ AL];simp);have st:=Zc t ⟨w.heap.size+1+1+1,0,aA⟩ c old ((((w.alloc (aJ #[aF (aE t)] 120)).alloc (aJ #[aF (aE ⟨2,120,aA⟩),aF (aE ⟨w.heap.size,0,aA⟩),Z8 .u64 150] 152)).alloc (aJ #[aF (aE ⟨2,120,aA⟩),aF (aE ⟨w.heap.size,0,aA⟩),Z8 .u64 150] 152)).alloc (aJ #[Z8 aI c] 118))
  (by rw[World.cell?_alloc_at _ _ _ _ AL];rfl)
  (by rw[World.cell?_alloc_lt _ _ t (by simp;omega),World.cell?_alloc_lt _ _ t (by simp;omega),World.cell?_alloc_lt _ _ t (by simp;omega),World.cell?_alloc_lt _ _ t htl];exact ht0)
  (by rw[World.frozen?_alloc_old _ _ t (by simp;omega),World.frozen?_alloc_old _ _ t (by simp;omega),World.frozen?_alloc_old _ _ t (by simp;omega),World.frozen?_alloc_old _ _ t (Nat.ne_of_lt htl)];exact hf0)
 go_enter func82,ntmps82;go_wp2;refine wp_loop_rounds 1 ?_;rw[rounds_succ];go_wp2
 go_ret
 exact⟨rfl,rfl⟩
theorem VN (c:Int) (w:aC) (hg:El w) :
  Calls tP 65 #[.iface 118 (Z8 aI c)] w λe w'=>e=.returned (Z8 aI c)/\Below w.heap.size w w':=by
 have hg1:El (w.alloc (aJ #[Z8 aI 0] 118)):=by
  have hlt:0<w.heap.size:=block_lt_of_cell (a:=⟨0,0,aA⟩) hg;unfold El at hg |-;rw[World.cell?_alloc_lt _ _ ⟨0,0,aA⟩ hlt];exact hg
 have HA:=XS c ⟨w.heap.size,0,aA⟩ (Z8 aI 0) (w.alloc (aJ #[Z8 aI 0] 118)) hg1 AL AL;obtain⟨t,ht⟩:∃ t:Addr,t=⟨w.heap.size,0,aA⟩:=⟨_,rfl⟩
 have HB0:AO (Below w.heap.size w (w.alloc (aJ #[Z8 aI 0] 118))):=Cg.alloc Cl _;have HZ:AO ((w.alloc (aJ #[Z8 aI 0] 118)).heap.size=w.heap.size+1):=by show _=_;simp
 have HC0:AO ((w.alloc (aJ #[Z8 aI 0] 118)).cell? ⟨w.heap.size,0,aA⟩=aE (Z8 aI 0)):=by show _=_;simp
 clear hg hg1 ht t;go_enter func65,ntmps65;go_wp2_with fail;generalize w.alloc (aJ #[Z8 aI 0] 118)=w0 at *;refine HA.mono ?_;rintro e w1 ⟨rfl,hw1⟩;have HBA:Below w0.heap.size w0 ((((w0.alloc (aJ #[aF (aE ⟨w.heap.size,0,aA⟩)] 120)).alloc (aJ #[aF (aE ⟨2,120,aA⟩),aF (aE ⟨w0.heap.size,0,aA⟩),Z8 .u64 150] 152)).alloc (aJ #[aF (aE ⟨2,120,aA⟩),aF (aE ⟨w0.heap.size,0,aA⟩),Z8 .u64 150] 152)).alloc (aJ #[Z8 aI c] 118)):=(((Cg.alloc Cl _).alloc AL _).alloc (by simp;omega) _).alloc (by simp;omega) _;have HCA:((((w0.alloc (aJ #[aF (aE ⟨w.heap.size,0,aA⟩)] 120)).alloc (aJ #[aF (aE ⟨2,120,aA⟩),aF (aE ⟨w0.heap.size,0,aA⟩),Z8 .u64 150] 152)).alloc (aJ #[aF (aE ⟨2,120,aA⟩),aF (aE ⟨w0.heap.size,0,aA⟩),Z8 .u64 150] 152)).alloc (aJ #[Z8 aI c] 118)).cell? ⟨w.heap.size,0,aA⟩=aE (Z8 aI 0):=by rw[HBA.cell (p:=⟨w.heap.size,0,aA⟩) (by rw[HZ.o];exact Nat.lt_succ_self _)];exact HC0.o
 have hc1:w1.cell? ⟨w.heap.size,0,aA⟩=aE (Z8 aI c):=by rw[hw1];exact World.cell?_setCell_same' _ _ _ (by rw[HCA];rfl)
 have HB1:AO (Below w.heap.size w w1):=by
  show Below _ _ _
  rw[hw1];exact(HB0.o.trans (HBA.mono (by rw[HZ.o];omega))).trans (((Wr.refl w.heap.size _).setCell 0 _).below Cl)
 clear HBA HCA hw1 HA;go_wp2
 go_ret
 exact⟨rfl,HB1.o⟩
end Go.Proofs.YtjdhhgaelgemcaaGreatDoor
