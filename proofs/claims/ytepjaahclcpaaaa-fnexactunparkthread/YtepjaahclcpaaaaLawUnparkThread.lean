/-
  The walk of the law FnExactUnparkThread.
-/
import Derived.Test.YtepjaahclcpaaaaThM
import Derived.Test.YtepjaahclcpaaaaPkE
import Derived.Test.YtepjaahclcpaaaaPkF
import Derived.Test.YtepjaahclcpaaaaBoxU
namespace Go.Proofs.Ytepjaahclcpaaaa
open Go.RowKit

set_option maxHeartbeats 1000000 in
theorem lawUnparkThread_walk (id st op arg pc til : Int) (per can : Bool) (r0 r1 r2 r3 r4 code res : Int) (w : World) :
    Calls Try.prog 7 #[.agg #[.int .i64 id, .int .i64 st, .int .i64 op, .int .i64 arg, .int .i64 pc, .int .i64 til, .bool per, .bool can, .int .i64 r0, .int .i64 r1, .int .i64 r2, .int .i64 r3, .int .i64 r4, .int .i64 code, .int .i64 res]] w fun e w' => e = .returned (.bool true) ∧ Below w.heap.size w w' := by
  obtain ⟨⟨⟨id', st', op', arg', pc', til', per', can', s0, s1, s2, s3, s4, code', res'⟩, c⟩, hX⟩ : ∃ p, unpB id st op arg pc til per can r0 r1 r2 r3 r4 code res = p := ⟨_, rfl⟩
  have HX := Lib.hid hX; clear hX
  have HL := Lib.hid (BoxL.new w #[.int .i64 id, .int .i64 st, .int .i64 op, .int .i64 arg, .int .i64 pc, .int .i64 til, .bool per, .bool can, .int .i64 r0, .int .i64 r1, .int .i64 r2, .int .i64 r3, .int .i64 r4, .int .i64 code, .int .i64 res])
  go_enter Try.func7, Try.ntmps7
  go_wp2_with (refine wpList_load_row rfl 37 _ rfl (w.heap.size) rfl 37 _ (0, 0) _ HL.out Try.underlying37 rfl info_lth ?_)
  refine (toThread_any _ _ _ _ _ _ _ _ _ _ _ _ _ _ _ _).mono ?_
  rintro e w1 ⟨rfl, hb⟩
  have HB1 := Lib.hid (below_trans (below_alloc _ _) hb)
  have HL1 := Lib.hid (HL.out.below hb)
  clear hb HL
  go_wp2_with fail
  refine (specUnpark_any id st op arg pc til per can r0 r1 r2 r3 r4 code res _ id' st' op' arg' pc' til' per' can' s0 s1 s2 s3 s4 code' res' c HX.out).mono ?_
  rintro e w2 ⟨rfl, hb⟩
  have HB2 := Lib.hid (below_trans HB1.out hb)
  have HL2 := Lib.hid ((HL1.out.below hb).below (below_alloc w2 (.cells #[.int .i64 id', .int .i64 st', .int .i64 op', .int .i64 arg', .int .i64 pc', .int .i64 til', .bool per', .bool can', .int .i64 s0, .int .i64 s1, .int .i64 s2, .int .i64 s3, .int .i64 s4, .int .i64 code', .int .i64 res'] 25)))
  clear hb HL1 HB1
  go_wp2_with (refine wpList_load_row rfl 37 _ rfl (w.heap.size) rfl 37 _ (0, 0) _ HL2.out Try.underlying37 rfl info_lth ?_)
  refine (toThread_any _ _ _ _ _ _ _ _ _ _ _ _ _ _ _ _).mono ?_
  rintro e w3 ⟨rfl, hb⟩
  have HB3 := Lib.hid (below_trans (below_trans HB2.out (below_alloc _ _)) hb)
  have HP3 := Lib.hid ((BoxT.new w2 #[.int .i64 id', .int .i64 st', .int .i64 op', .int .i64 arg', .int .i64 pc', .int .i64 til', .bool per', .bool can', .int .i64 s0, .int .i64 s1, .int .i64 s2, .int .i64 s3, .int .i64 s4, .int .i64 code', .int .i64 res']).below hb)
  clear hb HB2 HL2
  go_wp2_with fail
  refine (implUnpark_any id st op arg pc til per can r0 r1 r2 r3 r4 code res _ id' st' op' arg' pc' til' per' can' s0 s1 s2 s3 s4 code' res' c HX.out).mono ?_
  rintro e w4 ⟨rfl, hb⟩
  have HB := Lib.hid (below_trans HB3.out hb)
  have HP := Lib.hid ((HP3.out.below hb).below (below_alloc w4 (.cells #[.int .i64 id', .int .i64 st', .int .i64 op', .int .i64 arg', .int .i64 pc', .int .i64 til', .bool per', .bool can', .int .i64 s0, .int .i64 s1, .int .i64 s2, .int .i64 s3, .int .i64 s4, .int .i64 code', .int .i64 res'] 25)))
  clear hb HB3 HP3 HX
  have HN := Lib.hid (BoxT.new w4 #[.int .i64 id', .int .i64 st', .int .i64 op', .int .i64 arg', .int .i64 pc', .int .i64 til', .bool per', .bool can', .int .i64 s0, .int .i64 s1, .int .i64 s2, .int .i64 s3, .int .i64 s4, .int .i64 code', .int .i64 res'])
  go_wp2_with (first | (refine wpList_load_row rfl 25 _ rfl (w4.heap.size) rfl 25 _ (0, 0) _ HN.out Try.underlying25 rfl info_th ?_) | (refine wpList_load_row rfl 25 _ rfl (w2.heap.size) rfl 25 _ (0, 0) _ HP.out Try.underlying25 rfl info_th ?_))
  refine (eqThread_same _ _ _ _ _ _ _ _ _ _ _ _ _ _ _ _).mono ?_
  rintro e wz ⟨rfl, hb⟩
  have HZ := Lib.hid (below_trans (below_trans HB.out (below_alloc _ _)) hb)
  clear hb
  go_wp2
  go_ret
  exact ⟨rfl, HZ.out⟩
end Go.Proofs.Ytepjaahclcpaaaa
