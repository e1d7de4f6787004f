/-
  The walk of the law FnExactGivesUp.
-/
import Derived.Test.YtepjaahclcpaaaaThM
import Derived.Test.YtepjaahclcpaaaaPkE
import Derived.Test.YtepjaahclcpaaaaPkG
import Derived.Test.YtepjaahclcpaaaaBoxU
namespace Go.Proofs.Ytepjaahclcpaaaa
open Go.RowKit

set_option maxHeartbeats 1000000 in
theorem lawGivesUp_walk (id st op arg pc til : Int) (per can : Bool) (r0 r1 r2 r3 r4 code res : Int) (now : Int) (w : World) :
    Calls Try.prog 9 #[.agg #[.int .i64 id, .int .i64 st, .int .i64 op, .int .i64 arg, .int .i64 pc, .int .i64 til, .bool per, .bool can, .int .i64 r0, .int .i64 r1, .int .i64 r2, .int .i64 r3, .int .i64 r4, .int .i64 code, .int .i64 res], .int .i64 now] w fun e w' => e = .returned (.bool true) ∧ Below w.heap.size w w' := by
  obtain ⟨⟨b, c⟩, hX⟩ : ∃ p, givB id st op arg pc til per can r0 r1 r2 r3 r4 code res now = p := ⟨_, rfl⟩
  have HX := Lib.hid hX; clear hX
  have HL := Lib.hid (BoxL.new w #[.int .i64 id, .int .i64 st, .int .i64 op, .int .i64 arg, .int .i64 pc, .int .i64 til, .bool per, .bool can, .int .i64 r0, .int .i64 r1, .int .i64 r2, .int .i64 r3, .int .i64 r4, .int .i64 code, .int .i64 res])
  go_enter Try.func9, Try.ntmps9
  go_wp2_with (refine wpList_load_row rfl 37 _ rfl (w.heap.size) rfl 37 _ (0, 0) _ HL.out Try.underlying37 rfl info_lth ?_)
  refine (toThread_any _ _ _ _ _ _ _ _ _ _ _ _ _ _ _ _).mono ?_
  rintro e w1 ⟨rfl, hb⟩
  have HB1 := Lib.hid (below_trans (below_alloc _ _) hb)
  have HL1 := Lib.hid (HL.out.below hb)
  clear hb HL
  go_wp2_with fail
  refine (specGives_any id st op arg pc til per can r0 r1 r2 r3 r4 code res now _ b c HX.out).mono ?_
  rintro e w2 ⟨rfl, hb⟩
  have HB2 := Lib.hid (below_trans HB1.out hb)
  have HL2 := Lib.hid (HL1.out.below hb)
  clear hb HL1 HB1
  go_wp2_with (refine wpList_load_row rfl 37 _ rfl (w.heap.size) rfl 37 _ (0, 0) _ HL2.out Try.underlying37 rfl info_lth ?_)
  refine (toThread_any _ _ _ _ _ _ _ _ _ _ _ _ _ _ _ _).mono ?_
  rintro e w3 ⟨rfl, hb⟩
  have HB3 := Lib.hid (below_trans HB2.out hb)
  clear hb HB2 HL2
  go_wp2_with fail
  refine (implGives_any id st op arg pc til per can r0 r1 r2 r3 r4 code res now _ b c HX.out).mono ?_
  rintro e w4 ⟨rfl, hb⟩
  have HB := Lib.hid (below_trans HB3.out hb)
  clear hb HB3 HX
  cases b
  all_goals
    go_wp2
    go_ret
    exact ⟨rfl, HB.out⟩
end Go.Proofs.Ytepjaahclcpaaaa
