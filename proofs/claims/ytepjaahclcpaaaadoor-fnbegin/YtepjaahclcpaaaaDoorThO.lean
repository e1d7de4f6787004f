/-
  Threads (chapter 3): BeginCall.
-/
import Derived.Test.YtepjaahclcpaaaaDoorThN
import Derived.Test.YtepjaahclcpaaaaDoorThT
import Derived.Test.YtepjaahclcpaaaaDoorBoxT
namespace Go.Proofs.YtepjaahclcpaaaaDoor
open Go.RowKit

set_option maxHeartbeats 1000000 in
theorem implBegin_bad (id st op arg pc til : Int) (per can : Bool) (r0 r1 r2 r3 r4 code res : Int) (o a u : Int) (w : World) (h : thB id st op arg pc til per can r0 r1 r2 r3 r4 code res = false) :
    Calls Tryd.prog 6 #[.agg #[.int .i64 id, .int .i64 st, .int .i64 op, .int .i64 arg, .int .i64 pc, .int .i64 til, .bool per, .bool can, .int .i64 r0, .int .i64 r1, .int .i64 r2, .int .i64 r3, .int .i64 r4, .int .i64 code, .int .i64 res], .int .i64 o, .int .i64 a, .int .i64 u] w fun e w' => e = .returned (.tuple #[.agg #[.int .i64 0, .int .i64 0, .int .i64 0, .int .i64 0, .int .i64 0, .int .i64 0, .bool false, .bool false, .int .i64 0, .int .i64 0, .int .i64 0, .int .i64 0, .int .i64 0, .int .i64 0, .int .i64 0], .int .i64 1]) ∧ Below w.heap.size w w' := by
  go_enter Tryd.func6, Tryd.ntmps6
  go_wp2_with fail
  refine (implThreadOK_any _ _ _ _ _ _ _ _ _ _ _ _ _ _ _ _).mono ?_
  rintro e w1 ⟨rfl, hb⟩
  rw [h]
  have HB := Lib.hid (below_trans (below_alloc2 _ _ _) hb)
  have HX := Lib.hid ((BoxT.two w _ _).below hb)
  have HR := Lib.hid ((BoxT.two' w _ _).below hb)
  clear hb
  go_wp2_with (refine wpList_store_row rfl 25 _ _ rfl (w.heap.size + 1) _ rfl rfl 25 _ HR.out info_th rfl (one15 _ _ _ _ _ _ _ _ _ _ _ _ _ _ _) ?_)
  exact bodyPost_ret (results_th Tryd.results6 _ _ (w.heap.size + 1) _ _ rfl rfl (HR.out.row _) rfl) rfl ⟨rfl, below_row HB.out (by omega) _⟩
end Go.Proofs.YtepjaahclcpaaaaDoor
