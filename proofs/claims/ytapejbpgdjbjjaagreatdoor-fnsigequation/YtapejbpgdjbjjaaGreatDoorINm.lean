import Derived.Test.YtapejbpgdjbjjaaGreatDoorIAd
namespace Go.Proofs.YtapejbpgdjbjjaaGreatDoor
open Go.ChangeShapes Go.WideShapes Go.ChangeAt Go.RowKit
set_option linter.unusedVariables false
theorem nm_or (x y s q:Int) (k:Nat) (hx:0≤x) (hk:x<2^k) (hx':x<18446744073709551616) (hq:0≤q) (hq':q*2^k<18446744073709551616) (hs:IntKind.u64.wrap (y*s)=q*2^k) :
  bits .or .u64 x (IntKind.u64.wrap (y*s))=x+q*2^k:=by
 rw[hs]
 have hp:(0:Int)<2^k:=Int.pow_pos (by decide)
 exact u64_or_add' (q*2^k) x k (Int.mul_nonneg hq (by omega)) hq' hx hk hx' q rfl
theorem nm_0 (a b:Int) (ha:0≤a) (ha':a<2251799813685248) (hb:0≤b) (hb':b<2251799813685248):bits .or .u64 a (IntKind.u64.wrap (b*2251799813685248))=a+b%8192*2251799813685248:=
 nm_or a b 2251799813685248 (b%8192) 51 ha (by show a<2251799813685248;omega) (by omega) (by omega) (by show b%8192*2251799813685248<_;omega) (by rw[IntKind.wrap_u64];show _=b%8192*2251799813685248;omega)
theorem nm_1 (b c:Int) (ha:0≤b) (ha':b<2251799813685248) (hb:0≤c) (hb':c<2251799813685248):bits .or .u64 (b/8192) (IntKind.u64.wrap (c*274877906944))=b/8192+c%67108864*274877906944:=
 nm_or (b/8192) c 274877906944 (c%67108864) 38 (by omega) (by show b/8192<274877906944;omega) (by omega) (by omega) (by show c%67108864*274877906944<_;omega) (by rw[IntKind.wrap_u64];show _=c%67108864*274877906944;omega)
theorem nm_2 (c d:Int) (ha:0≤c) (ha':c<2251799813685248) (hb:0≤d) (hb':d<2251799813685248):bits .or .u64 (c/67108864) (IntKind.u64.wrap (d*33554432))=c/67108864+d%549755813888*33554432:=
 nm_or (c/67108864) d 33554432 (d%549755813888) 25 (by omega) (by show c/67108864<33554432;omega) (by omega) (by omega) (by show d%549755813888*33554432<_;omega) (by rw[IntKind.wrap_u64];show _=d%549755813888*33554432;omega)
theorem nm_3 (d e:Int) (ha:0≤d) (ha':d<2251799813685248) (hb:0≤e) (hb':e<2251799813685248):bits .or .u64 (d/549755813888) (IntKind.u64.wrap (e*4096))=d/549755813888+e*4096:=
 nm_or (d/549755813888) e 4096 e 12 (by omega) (by show d/549755813888<4096;omega) (by omega) (by omega) (by show e*4096<_;omega) (by rw[IntKind.wrap_u64];show _=e*4096;omega)
theorem nm_val (a b c d e:Int) (a0:0≤a) (a1:a<2251799813685248) (b0:0≤b) (b1:b<2251799813685248) (c0:0≤c) (c1:c<2251799813685248) (d0:0≤d) (d1:d<2251799813685248) (e0:0≤e) (e1:e<2251799813685248) :
  Wrd [a+b%8192*2251799813685248,b/8192+c%67108864*274877906944,c/67108864+d%549755813888*33554432,d/549755813888+e*4096]∧
  val 18446744073709551616 [a+b%8192*2251799813685248,b/8192+c%67108864*274877906944,c/67108864+d%549755813888*33554432,d/549755813888+e*4096]=val B51 [a,b,c,d,e]:=by
 constructor
 ·intro z hz;simp only[List.mem_cons,List.not_mem_nil,or_false] at hz;rcases hz with rfl|rfl|rfl|rfl<;>omega
 ·simp only[val];unfold B51;omega
set_option maxHeartbeats 2000000 in
theorem number_any (g o:Nat) (xs:List Int) (w:World) (h:EAt w g o xs) :
  Calls Tryz.prog 81 #[.pointer (some ⟨g,o,none⟩)] w (NumPost w (ev xs)):=by
 have hk:=h.2.1
 have hv:=(lsE_all hk).2.2
 have hbd:=sst_bd (xs.set 0 (xs.getD 0 0+19*lsT xs))
 obtain⟨a,b,c,d,e,hl⟩:=len5 (lsE_len xs)
 have q0:=hbd 0
 have q1:=hbd 1
 have q2:=hbd 2
 have q3:=hbd 3
 have q4:=hbd 4
 rw[show sst (xs.set 0 (xs.getD 0 0+19*lsT xs)) 5=[a,b,c,d,e] from hl] at q0 q1 q2 q3 q4
 simp only[List.getD_cons_zero,List.getD_cons_succ] at q0 q1 q2 q3 q4
 obtain⟨a0,a1⟩:=q0
 obtain⟨b0,b1⟩:=q1
 obtain⟨c0,c1⟩:=q2
 obtain⟨d0,d1⟩:=q3
 obtain⟨e0,e1⟩:=q4
 rw[hl] at hv
 have HV:=nm_val a b c d e a0 a1 b0 b1 c0 c1 d0 d1 e0 e1
 rw[hv] at HV
 have H0:Hid (bits .or .u64 a (IntKind.u64.wrap (b*2251799813685248))=a+b%8192*2251799813685248):=nm_0 a b a0 a1 b0 b1
 have H1:Hid (bits .or .u64 (b/8192) (IntKind.u64.wrap (c*274877906944))=b/8192+c%67108864*274877906944):=nm_1 b c b0 b1 c0 c1
 have H2:Hid (bits .or .u64 (c/67108864) (IntKind.u64.wrap (d*33554432))=c/67108864+d%549755813888*33554432):=nm_2 c d c0 c1 d0 d1
 have H3:Hid (bits .or .u64 (d/549755813888) (e*4096)=d/549755813888+e*4096):=by
  have h3:=nm_3 d e d0 d1 e0 e1;rw[show IntKind.u64.wrap (e*4096)=e*4096 by rw[IntKind.wrap_u64];omega] at h3;exact h3
 have bw:Below w.heap.size w (w.alloc (.cells #[.int .u64 0,.int .u64 0,.int .u64 0,.int .u64 0] 57)):=below_new2 _ _
 have h0:=h.below bw
 have HR0:(w.alloc (.cells #[.int .u64 0,.int .u64 0,.int .u64 0,.int .u64 0] 57)).heap[w.heap.size]?=some (.cells #[.int .u64 0,.int .u64 0,.int .u64 0,.int .u64 0] 57 (0,0)):=heap_alloc_new w _
 have hs0:w.heap.size<(w.alloc (.cells #[.int .u64 0,.int .u64 0,.int .u64 0,.int .u64 0] 57)).heap.size:=by simp
 have HVV:Hid (Wrd [a+b%8192*2251799813685248,b/8192+c%67108864*274877906944,c/67108864+d%549755813888*33554432,d/549755813888+e*4096]∧val 18446744073709551616 [a+b%8192*2251799813685248,b/8192+c%67108864*274877906944,c/67108864+d%549755813888*33554432,d/549755813888+e*4096]=ev xs):=HV
 clear HV hv hbd hk h
 go_enter Tryz.func81,Tryz.ntmps81
 go_wp2_with fail
 generalize w.alloc (.cells #[.int .u64 0,.int .u64 0,.int .u64 0,.int .u64 0] 57)=w0 at *
 refine(leastE_any g o xs _ h0).mono ?_
 rintro e' w1 ⟨rfl,hb⟩
 rw[hl]
 have HR1:Hid (w1.heap[w.heap.size]?=some (.cells #[.int .u64 0,.int .u64 0,.int .u64 0,.int .u64 0] 57 (0,0))):=by show _=_;rw[hb.block _ hs0];exact HR0
 have HB1:Hid (Below w.heap.size w w1):=bw.trans (hb.mono bw.size)
 have hs1:w.heap.size<w1.heap.size:=by have:=hb.size;omega
 clear hb h0 HR0 hs0 bw hl
 have HR2:Hid ((w1.alloc (.cells #[.int .u64 a,.int .u64 b,.int .u64 c,.int .u64 d,.int .u64 e] 52)).heap[w.heap.size]?=some (.cells #[.int .u64 0,.int .u64 0,.int .u64 0,.int .u64 0] 57 (0,0))):=by show _=_;rw[Below.heap_alloc _ _ w.heap.size hs1];exact HR1.out
 have HB2:Hid (Below w.heap.size w (w1.alloc (.cells #[.int .u64 a,.int .u64 b,.int .u64 c,.int .u64 d,.int .u64 e] 52))):=HB1.out.trans ((below_new2 _ _).mono HB1.out.size)
 have HSZ:Hid ((Tryz.prog.info? 57).map (·.size)=some 4):=by show _=_;kernel_rfl
 simp only[List.map_cons,List.map_nil]
 go_wp2_with (first
  |(refine wpList_store_row rfl 57 (.tmp 2) (.tmp 33) rfl w.heap.size #[.int .u64 (bits .or .u64 a (IntKind.u64.wrap (b*2251799813685248))),.int .u64 (bits .or .u64 (b/8192) (IntKind.u64.wrap (c*274877906944))),.int .u64 (bits .or .u64 (c/67108864) (IntKind.u64.wrap (d*33554432))),.int .u64 (bits .or .u64 (d/549755813888) (e*4096))] rfl rfl 57 _ HR2.out HSZ.out rfl (by simp[Value.oneCell']) ?_)
  |fail)
 refine bodyPost_ret (v:=.agg #[.int .u64 (bits .or .u64 a (IntKind.u64.wrap (b*2251799813685248))),.int .u64 (bits .or .u64 (b/8192) (IntKind.u64.wrap (c*274877906944))),.int .u64 (bits .or .u64 (c/67108864) (IntKind.u64.wrap (d*33554432))),.int .u64 (bits .or .u64 (d/549755813888) (e*4096))]) (results_cell_row rfl _ _ w.heap.size 57 _ (0,0) _ rfl (setRow_heap _ _ _ _ _ _ HR2.out) Tryz.underlying57 rfl HSZ.out) rfl ?_
 refine⟨[a+b%8192*2251799813685248,b/8192+c%67108864*274877906944,c/67108864+d%549755813888*33554432,d/549755813888+e*4096],rfl,HVV.out.1,HVV.out.2,?_,HB2.out.trans ((Wr.setRow _ _ _).below (Nat.le_refl _))⟩
 rw[H0.out,H1.out,H2.out,H3.out];rfl
end Go.Proofs.YtapejbpgdjbjjaaGreatDoor
