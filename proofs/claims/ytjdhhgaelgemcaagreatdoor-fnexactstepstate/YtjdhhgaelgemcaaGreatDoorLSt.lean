import Derived.Test.YtjdhhgaelgemcaaGreatDoorMStT
open Go.Proofs.Tryz renaming prog->tP
open Go.Proofs.Tryz
open Option renaming some->aE
set_option maxRecDepth 100000
namespace Go.Proofs.YtjdhhgaelgemcaaGreatDoor.lst
open Go.ChangeShapes Go.WideShapes Go.ChangeAt Go.RowKit
open Go.ChangeMaps (open_string shut_string)
set_option linter.unusedVariables false
abbrev Hr : List (String × DataW Unit) := [("loop.example/s02127/impl.roundConstants", Rows.laid_loop_example_s02127_impl_roundConstants)]
abbrev Qh : List (String × DataW Unit) := [("errors.errorType", Rows.laid_errors_errorType), ("loop.example/s02127/impl.roundConstants", Rows.laid_loop_example_s02127_impl_roundConstants)]
theorem Vi:(Rows.laid_loop_example_s02127_impl_roundConstants:DataW Unit)=.agg (tab.map λn:Nat=>.lit (.int .u64 (n:Int))):=AM
theorem Vj:tab.length=88:=AM
theorem Jz {W : World} (h : laidMetH tP Qh W) : laidMet tP Hr W ∧ handlesMet tP [("errors.errorType", Rows.laid_errors_errorType)] W := h
theorem Ta {W:World} (h:laidMet tP Hr W):D4 W:=by
 intro r hr;obtain⟨ps,⟨g,t,cs,fuel,p,q,hg,ht,hv,hd,_,_⟩,_,_⟩:=h
 obtain rfl := Bv ((show tP.globalNamed "loop.example/s02127/impl.roundConstants" = aE 1 by kernel_rfl).symm.trans hg)
 obtain rfl:=Bv ((show(tP.globals[1]?).map (·.type)=aE 208 by kernel_rfl).symm.trans ht);rw[Vi] at hd;obtain⟨xs,m,_,ex,_,hl,hel⟩:=DataW.trod_array underlying208 hd;have c5:tP.cellsOf 132=1:=AM
 have hE:=hel r hr;rw[c5,Bx,Av AJ] at hE;obtain⟨z,e1,e2,_⟩:=DataW.trod_int underlying132 hE;have hlen:=Vj;have e3:(xs.map (·.1))=tab.map λn:Nat=>.lit (.int .u64 (n:Int)):=(DataW.agg.inj (Prod.mk.inj ex).1).symm
 have e4:(xs.map (·.1))[r]?=(tab.map λn:Nat=>(DataW.lit (.int .u64 (n:Int)):DataW Unit))[r]?:=by rw[e3]
 rw[CJ,CJ,Av (by omega:r<xs.length),Av (by omega:r<tab.length),e2] at e4;have hz:z=(tab.getD r 0:Nat):=by
  simp only[Option.map_some,Option.some.injEq,DataW.lit.injEq,Lit.int.injEq,true_and] at e4;rw[e4,List.getD,Av (by omega:r<tab.length)];rfl
 rw[World.var?_cell hg hv r,<-hz];have:cs.toList[r]?=aE (.int .u64 z):=by
  have h0:((cs.toList.drop r).take 1)[0]?=aE (.int .u64 z):=by rw[e1];rfl
  simpa using h0
 simpa using this
theorem et : tP.globalNamed "errors.errorType" = aE 0 := by kernel_rfl
theorem rt : (tP.cutTypes.find? (·.1 == "internal/reflectlite.rtype")).map (·.2) = aE 183 := by kernel_rfl
theorem XU:((List.range 247).filter λt=>tP.rowNamed t [101,114,114,111,114])=[99]:=AM
theorem Yi:tP.types.size=247:=AM
theorem Tb {W : World} (h : handlesMet tP [("errors.errorType", Rows.laid_errors_errorType)] W) : El W := by
 obtain⟨name,u,ty,e1,e2,e3,e4,e5⟩:=h _ (List.mem_singleton.2 rfl);have en:name=[101,114,114,111,114]:=(Bv e1).symm;subst en;obtain rfl:=Bv (rt.symm.trans e2);have hm:ty∈(List.range 247).filter λt=>tP.rowNamed t [101,114,114,111,114]:=Be.2 ⟨BF.2 (by rw[<-Yi];exact e3),e4⟩
 rw[XU] at hm;obtain rfl:=List.mem_singleton.1 hm;have hh:typeHandle tP 99=.pointer (aE ⟨2,99,none⟩):=AM
 rw[hh] at e5;unfold El;simpa using World.var?_cell et e5 0
noncomputable def Zi (os:Os):World:=
 let w0:=World.holding tP os ⟨#[],#[],[]⟩
 { w0 with heap:=w0.heap.modify 0 fun
   |.cells _ t frozen=>.cells #[.iface 183 (.agg #[.pointer (aE ⟨2,99,none⟩)])] t frozen
   |o=>o }
noncomputable def PZ (os:Os):World:=(Zi os).layVars tP Hr
theorem Tc (os:Os):(PZ os).os=os:=World.layVars_os _ _ _
theorem Qi (os:Os) (args:Array Value):laidMetH tP Qh ((PZ os).forCall (λ_ _=>0) ⟨#[],args,[]⟩).memory:=by
 refine laidMetH_of_parts (l:=Qh) ?_ AM;have e1:(Hr.filter λx=>(Hr.map (·.1)).contains x.1)=Hr:=List.filter_eq_self.2 λx hx=>List.contains_iff_mem.2 (List.mem_map.2 ⟨x,hx,rfl⟩)
 have e2:(Hr.filter λx=>!(Hr.map (·.1)).contains x.1)=[]:=List.filter_eq_nil_iff.2 λx hx=>by rw[List.contains_iff_mem.2 (List.mem_map.2 ⟨x,hx,rfl⟩)];simp
 have h:laidMet tP Hr (PZ os):=laidMet_layVars (w0:=Zi os) (Hr.map (·.1)) [] (by rw[e1];rfl) (by rw[e1];kernel_rfl) (by rw[e1];kernel_rfl) (by rw[e2];exact LaidIn.none);exact h.of_heap (by simp[World.memory,World.forCall,Input.heap])
theorem XV (os:Os) (started:os.Started) (H:Type) (enc:TypeId×Value->H) :
  ReturnsInHanded {} Tryz.checked os 3 .any (λw args=>(Rows.fnExactStepStateSpec.pre enc tP Tryz.f3 Rows.fnExactStepStateRow.domain false w args/\laidMetH tP Qh w)/\sizedMet enc tP Tryz.f3 (OpenSpec.ofChange Rows.fnExactStepStateSpec) false w args)
   (Rows.fnExactStepStateSpec.post enc tP Tryz.f3 false true false false):=by
 refine returnsInHanded_of_change_and (C:=Tryz.checked) (X:=λw _=>laidMetH tP Qh w) (λ_ _ _ hh h=>h.of_heap hh) Y8 started AM func3
  (ChangeSpec.witness_shaped (enc:=enc) (C:=Tryz.checked) (os:=os) (X:=λw _=>laidMetH tP Qh w) false (PZ os) #[.agg CU,.slice none 0 0,.agg CY] 8 (Tc _)
   (World.shaped_of_ZipB AM AM) AM AM AM
   (Qi os _)) ?_
 intro W base args ds gs before hval0 hW hcnd _ hL _;have hval:∀(j:Nat) t v,Tryz.f3.params[j]?=aE t->args[j]?=aE v->Value.okWide tP W .any base t v:=hval0
 have hW':=hW;obtain⟨p,q,hA0,hV,rfl,_,_⟩:=hW;have hA:DataW.TrodAll enc tP W 0 (λ_=>true) true Tryz.f3.params.toList args.toList ds p:=hA0;rw[params3] at hA hval;obtain⟨v0,vs0,d0,ds0,p0,q0,hargs,rfl,rfl,h0,r0⟩:=trodAll_cons hA;obtain⟨v1,vs1,d1,ds1,p1,q1,hargs1,rfl,rfl,h1,r1⟩:=trodAll_cons r0;obtain⟨v2,vs2,d2,ds2,p2,q2,hargs2,rfl,rfl,h2,r2⟩:=trodAll_cons r1;obtain⟨rfl,rfl,rfl⟩:=trodAll_nil r2;obtain rfl:args=#[v0,v1,v2]:=by cases args;simp_all
 have hV2 : DataW.TrodVars enc tP W (fun _ => true) ["loop.example/s02127/impl.roundConstants"] gs q := hV
 obtain⟨g,t,cs,fuel,d,pp,rfl,hg,ht,hv,hd,rfl⟩:=trodVars_one hV2;have k0:=h0;have k1:=h1;have k2:=h2;have lt0:∀ x∈p0,x.block<W.heap.size:=by obtain⟨m,hm⟩:=k0;exact DataW.trod_lt m _ _ _ hm
 have lt1:∀ x∈p1,x.block<W.heap.size:=by obtain⟨m,hm⟩:=k1;exact DataW.trod_lt m _ _ _ hm
 have lt2:∀ x∈p2,x.block<W.heap.size:=by obtain⟨m,hm⟩:=k2;exact DataW.trod_lt m _ _ _ hm
 obtain⟨u0,u1,u2,u3,rfl,aD,nD,cD,D,aU,nU,cU,U,aT,nT,cT,T,k,rfl,rfl,rfl,rfl,hD,hU,hT,MD,MU,MT,AD,AU,AT,Wk⟩:=R9 (hval 0 25 v0 rfl rfl) h0;obtain⟨ka,nk,ck,rfl⟩:=okWide_slice underlying26 (hval 1 26 v1 rfl rfl);obtain⟨ks,hks,mks',zks,aks⟩:∃ ks:List Int,ks.length=nk/\nk<=9223372036854775807/\Ci ks/\At .u8 W ka ks:=by
  obtain⟨fuel,hf⟩:=h1;obtain⟨a',n',c',zs,e,r1,r2,r3,r4⟩:=Mg (v:=.slice ka nk ck) hf;cases e;exact⟨zs,r1,r2,r3,r4⟩
 obtain⟨x0,x1,x2,x3,rfl,kind,ta,tn,tc,tk,now,N,rfl,rfl,rfl,rfl,htk,mtk,ztk,atk⟩:=YB (hval 2 28 v2 rfl rfl) h2;clear hA0 hval0;have hT':=Ta (Jz hL).1;have hE:=Tb (Jz hL).2;have hz:1<W.heap.size:=block_lt_of_cell (a:=⟨1,0,none⟩) (hT' 0 AK);refine(Vh ⟨D,U,T,nD,nU,nT,k,ks,nk,tk,tn,kind,now,N⟩ aD aU aT ka ta cD cU cT ck tc W hD hU hT hks htk MD MU MT mks' mtk Wk.1 (by have:=Wk.2;show k<_;omega) zks ztk AD AU AT aks atk hT' hz hE).mono λe W' ⟨he,bel⟩=>?_
 subst he;exact⟨_,rfl,_,_,_,[],_,_,hW',trodAll_mk1 (shut_bool underlying4 _),(trodAll_cons_mk (Below.trod Ib AM (CK AM) k0 bel lt0) (trodAll_cons_mk (Below.trod Ib AM (CK AM) k1 bel lt1) (trodAll_cons_mk (Below.trod Ib AM (CK AM) k2 bel lt2) trodAll_mk0))),Below.trodVars Ib bel AM hV2,bel.frame _,λh=>by cases h⟩
theorem over:Rows.FnExactStepStateSaid:=
 OpenClaim.holds_of_wide 3 Tryz.f3 rfl rfl rfl rfl rfl rfl rfl ⟨rfl,rfl,rfl,rfl,rfl⟩ rfl rfl rfl rfl rfl AM func3 AM
  (CK AM) (by unfold Func.isWrapper;first|(rw[AP (by decide +kernel)];kernel_rfl)|(rw[AQ (by decide +kernel)];exact⟨rfl,rfl⟩))
  (λos started H enc _=>XV os started H enc)
end Go.Proofs.YtjdhhgaelgemcaaGreatDoor.lst
namespace Go.Proofs.YtjdhhgaelgemcaaGreatDoor
theorem stepState_holds:Rows.FnExactStepStateCardSaid:=
 Claim7.holds_tied_plain_at .later [] [.handle, .data] true (true, "2154f4576e33fbd1799c6876cf53d2cbc1619c75ad98a1b86037a81f66bbc2ba") true
  lst.over (λ_ h=>by cases h) AM (λ_ h=>by cases h) fnExactStepState_row_tie rfl ⟨rfl,rfl⟩ AM rfl
  (λf fn hf hfn=>by
   obtain rfl : f = 3 := Bv ((show tP.funcNamed "loop.example/s02127/laws.FnExactStepState" = aE 3 by kernel_rfl).symm.trans hf) |>.symm
   obtain rfl:fn=Tryz.f3:=(Bv (func3.symm.trans hfn)).symm;exact⟨AM,λj t ht=>by
    rw[params3] at ht;have hm:t∈[25,26,28]:=by simpa using Array.mem_of_getElem? ht
    have hall:([25,26,28].all λu=>!tP.wantsStandIn u)=true:=AM
    exact(show tP.wantsStandIn t=false by simpa using BI.1 hall t hm)⟩)
  AM
#print axioms stepState_holds
end Go.Proofs.YtjdhhgaelgemcaaGreatDoor
