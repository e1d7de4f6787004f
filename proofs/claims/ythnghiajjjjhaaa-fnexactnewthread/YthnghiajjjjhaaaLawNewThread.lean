/-
  The walk of the law FnExactNewThread.
-/
import Derived.Test.YthnghiajjjjhaaaThM
import Derived.Test.YthnghiajjjjhaaaThNS
import Derived.Test.YthnghiajjjjhaaaBoxU
namespace Go.Proofs.Ythnghiajjjjhaaa
open Go.RowKit

set_option maxHeartbeats 1000000 in
theorem lawNewThread_walk (n : Int) (w : World) (_hn : (Lit.int .i64 n).wf = true) :
    Calls Try.prog 3 #[.int .i64 n] w fun e w' => e = .returned (.bool true) ∧ Below w.heap.size w w' := by
  obtain ⟨⟨⟨id', st', op', arg', pc', til', per', can', s0, s1, s2, s3, s4, code', res'⟩, c⟩, hX⟩ : ∃ p, newB n = p := ⟨_, rfl⟩
  have HX := Lib.hid hX; clear hX _hn
  go_enter Try.func3, Try.ntmps3
  go_wp2_with fail
  refine (specNewThread_any n _ id' st' op' arg' pc' til' per' can' s0 s1 s2 s3 s4 code' res' c HX.out).mono ?_
  rintro e w1 ⟨rfl, hb⟩
  have HB1 := Lib.hid hb; clear hb
  go_wp2_with fail
  refine (implNewThread_any n _ id' st' op' arg' pc' til' per' can' s0 s1 s2 s3 s4 code' res' c HX.out).mono ?_
  rintro e w2 ⟨rfl, hb⟩
  have HB := Lib.hid (below_trans (below_trans HB1.out (below_alloc _ _)) hb)
  have HP := Lib.hid ((((BoxT.new w1 #[.int .i64 id', .int .i64 st', .int .i64 op', .int .i64 arg', .int .i64 pc', .int .i64 til', .bool per', .bool can', .int .i64 s0, .int .i64 s1, .int .i64 s2, .int .i64 s3, .int .i64 s4, .int .i64 code', .int .i64 res']).below hb)).below (below_alloc w2 (.cells #[.int .i64 id', .int .i64 st', .int .i64 op', .int .i64 arg', .int .i64 pc', .int .i64 til', .bool per', .bool can', .int .i64 s0, .int .i64 s1, .int .i64 s2, .int .i64 s3, .int .i64 s4, .int .i64 code', .int .i64 res'] 24)))
  clear hb HB1
  have HN := Lib.hid (BoxT.new w2 #[.int .i64 id', .int .i64 st', .int .i64 op', .int .i64 arg', .int .i64 pc', .int .i64 til', .bool per', .bool can', .int .i64 s0, .int .i64 s1, .int .i64 s2, .int .i64 s3, .int .i64 s4, .int .i64 code', .int .i64 res'])
  go_wp2_with (first | (refine wpList_load_row rfl 24 _ rfl (w2.heap.size) rfl 24 _ (0, 0) _ HN.out Try.underlying24 rfl info_th ?_) | (refine wpList_load_row rfl 24 _ rfl (w1.heap.size) rfl 24 _ (0, 0) _ HP.out Try.underlying24 rfl info_th ?_))
  refine (eqThread_same _ _ _ _ _ _ _ _ _ _ _ _ _ _ _ _).mono ?_
  rintro e wz ⟨rfl, hb⟩
  have HZ := Lib.hid (below_trans (below_trans HB.out (below_alloc _ _)) hb)
  clear hb
  go_wp2
  go_ret
  exact ⟨rfl, HZ.out⟩
end Go.Proofs.Ythnghiajjjjhaaa
