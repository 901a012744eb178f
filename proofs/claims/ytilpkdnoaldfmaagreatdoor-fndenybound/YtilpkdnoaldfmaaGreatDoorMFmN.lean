import Derived.Test.YtilpkdnoaldfmaaGreatDoorMFmW
import Derived.Test.YtilpkdnoaldfmaaGreatDoorMDnA
import Derived.Deep.WholeRow
import Derived.Test.YtilpkdnoaldfmaaGreatDoorMSwA
namespace Go.Proofs.YtilpkdnoaldfmaaGreatDoor
open Go.ChangeShapes Go.WideShapes Go.ChangeAt Go.RowKit
set_option linter.unusedVariables false
set_option maxHeartbeats 1000000 in
theorem idnO (m:Nat) (w:World) (h8:8≤m) (h256:m≤256) :
  Calls Tryz.prog 10 #[.int .i64 m] w fun e w'=>∃ g c,e=.returned (.agg #[.slice (some ⟨g,0,none⟩) (m*64) c,.slice none 0 0,.int .i64 (-1),.bool false])∧Own w' w.heap.size (.slice (some ⟨g,0,none⟩) (m*64) c) (List.replicate (m*64) 0)∧Below w.heap.size w w':=by
 have HSD:Hid _:=Tryz.sizeDev;have t1:¬ (m:Int)<8:=by omega
 have t2:¬ (256:Int)<(m:Int):=by omega
 obtain⟨i0,hi,hz0,hz1,hz2⟩:=info_parts Tryz.infoU8;have HI:Hid (i0.bytes=1):=hz2;clear hz2;go_enter Tryz.func10,Tryz.ntmps10;go_wp2_with (at_make;refine wpList_make_full _ rfl _ _ 22 rfl (w.heap.size+1) 5 i0 (.int .u8 0) 1 Tryz.underlying22 hi hz0 hz1 _ _ _ _ (m*64) rfl rfl (by omega) (by omega) ?c1 ?c2 ?c3 ?_)
 case c1=>rw[HI.out];omega
 case c2=>unfold maxLen;omega
 intro w1 hown hgrow;have hres:w1.heap[w.heap.size]?=some (.cells #[.slice none 0 0,.slice none 0 0,.int .i64 0,.bool false] 27 (0,0)):=by
  rw[hgrow.block w.heap.size (by simp) (by simp)];exact heap_alloc_new w _
 have hb1:Below w.heap.size w w1:=(newB w _).trans ((Below.refl _ _).grown hgrow (by simp) (by simp));have hown0:w1.ownsRow (w.heap.size+1) 5 1 (.slice (some ⟨w.heap.size+1,0,none⟩) (m*64) (m*64)) (m*64) ((List.replicate (m*64) 0).map (Value.int .u8)):=by
  have e:(madeCells #[Value.int IntKind.u8 0] (m*64)).toList=(List.replicate (m*64) 0).map (Value.int .u8):=by
   simp only[toList_madeCells_one,List.map_replicate]
  rw[←e];simpa using hown
 have hO:Own w1 (w.heap.size+1) (.slice (some ⟨w.heap.size+1,0,none⟩) (m*64) (m*64)) (List.replicate (m*64) 0):=⟨by rw[List.length_replicate];exact hown0,_,_,by rw[List.length_replicate]⟩
 have HM:Hid (Own (w1.setRow w.heap.size #[.slice (some ⟨w.heap.size+1,0,none⟩) (m*64) (m*64),.slice none 0 0,.int .i64 (-1),.bool false]) w.heap.size (.slice (some ⟨w.heap.size+1,0,none⟩) (m*64) (m*64)) (List.replicate (m*64) 0)):=
  (Own.mono (hO.keep (fun k hk=>setRow_other w1 w.heap.size k _ (by simp[Value.ownBlock] at hk;omega))) (by omega))
 have HB:Hid _:=hb1;have HR:Hid _:=hres;clear hown hown0 hO hgrow hb1 hres;go_wp2_with (refine wpList_store_row rfl 27 (.tmp 2) (.tmp 13) rfl w.heap.size #[.slice (some ⟨w.heap.size+1,0,none⟩) (m*64) (m*64),.slice none 0 0,.int .i64 (-1),.bool false] rfl rfl 27 _ HR.out HSD.out rfl (all4d _ _ _ _ _ _ _ _) ?_)
 (try simp only[Exit.inBlock,Exit.then])
 refine bodyPost_ret (v:=.agg #[.slice (some ⟨w.heap.size+1,0,none⟩) (m*64) (m*64),.slice none 0 0,.int .i64 (-1),.bool false]) (results_cell_row rfl _ _ w.heap.size 27 _ (0,0) _ rfl (setRow_heap _ _ _ _ _ _ HR.out) Tryz.underlying27 rfl HSD.out) rfl ⟨_,_,rfl,HM.out,?_⟩;exact HB.out.trans ((Wr.setRow _ _ _).below (Nat.le_refl _))
end Go.Proofs.YtilpkdnoaldfmaaGreatDoor
