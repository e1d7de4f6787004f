/-
  The walk of the law FnExactThreadOK.
-/
import Derived.Test.YtankgijibenehaaThM
import Derived.Test.YtankgijibenehaaThT
import Derived.Test.YtankgijibenehaaBoxU
namespace Go.Proofs.Ytankgijibenehaa
open Go.RowKit

set_option maxHeartbeats 1000000 in
theorem lawThreadOK_walk (id st op arg pc til : Int) (per can : Bool) (r0 r1 r2 r3 r4 code res : Int) (w : World) :
    Calls Try.prog 11 #[.agg #[.int .i64 id, .int .i64 st, .int .i64 op, .int .i64 arg, .int .i64 pc, .int .i64 til, .bool per, .bool can, .int .i64 r0, .int .i64 r1, .int .i64 r2, .int .i64 r3, .int .i64 r4, .int .i64 code, .int .i64 res]] w fun e w' => e = .returned (.bool true) ∧ Below w.heap.size w w' := by
  obtain ⟨v, hv⟩ : ∃ v, thB id st op arg pc til per can r0 r1 r2 r3 r4 code res = v := ⟨_, rfl⟩
  have HV := Lib.hid hv; clear hv
  have HL := Lib.hid (BoxL.new w #[.int .i64 id, .int .i64 st, .int .i64 op, .int .i64 arg, .int .i64 pc, .int .i64 til, .bool per, .bool can, .int .i64 r0, .int .i64 r1, .int .i64 r2, .int .i64 r3, .int .i64 r4, .int .i64 code, .int .i64 res])
  go_enter Try.func11, Try.ntmps11
  go_wp2_with (refine wpList_load_row rfl 61 _ rfl (w.heap.size) rfl 61 _ (0, 0) _ HL.out Try.underlying61 rfl info_lth ?_)
  refine (toThread_any _ _ _ _ _ _ _ _ _ _ _ _ _ _ _ _).mono ?_
  rintro e w1 ⟨rfl, hb⟩
  have HB1 := Lib.hid (below_trans (below_alloc _ _) hb)
  have HL1 := Lib.hid (HL.out.below hb)
  clear hb HL
  go_wp2_with fail
  refine (specThreadOK_any _ _ _ _ _ _ _ _ _ _ _ _ _ _ _ _).mono ?_
  rintro e w2 ⟨rfl, hb⟩
  rw [HV.out]
  have HB2 := Lib.hid (below_trans HB1.out hb)
  have HL2 := Lib.hid (HL1.out.below hb)
  clear hb HL1 HB1
  go_wp2_with (refine wpList_load_row rfl 61 _ rfl (w.heap.size) rfl 61 _ (0, 0) _ HL2.out Try.underlying61 rfl info_lth ?_)
  refine (toThread_any _ _ _ _ _ _ _ _ _ _ _ _ _ _ _ _).mono ?_
  rintro e w3 ⟨rfl, hb⟩
  have HB3 := Lib.hid (below_trans HB2.out hb)
  clear hb HB2 HL2
  go_wp2_with fail
  refine (implThreadOK_any _ _ _ _ _ _ _ _ _ _ _ _ _ _ _ _).mono ?_
  rintro e w4 ⟨rfl, hb⟩
  rw [HV.out]
  have HB4 := Lib.hid (below_trans HB3.out hb)
  clear hb HB3 HV
  cases v
  all_goals
    go_wp2
    go_ret
    exact ⟨rfl, HB4.out⟩
end Go.Proofs.Ytankgijibenehaa
