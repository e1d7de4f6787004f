/-
  The walk of the law FnExactCallOK.
-/
import Derived.Test.YtjddmdhoeampcaaHCall
import Derived.Test.YtjddmdhoeampcaaBoxC
namespace Go.Proofs.Ytjddmdhoeampcaa
open Go.RowKit

theorem info_lcall : (Try.prog.info? 46).map (·.size) = some 7 := by kernel_rfl

set_option maxHeartbeats 1000000 in
theorem lawCallOK_walk (th op arg fr to code res : Int) (w : World) :
    Calls Try.prog 7 #[.agg #[.int .i64 th, .int .i64 op, .int .i64 arg, .int .i64 fr, .int .i64 to, .int .i64 code, .int .i64 res]] w fun e w' => e = .returned (.bool true) ∧ Below w.heap.size w w' := by
  obtain ⟨v, hv⟩ : ∃ v, clB th op arg fr to code res = v := ⟨_, rfl⟩
  have HV := Lib.hid hv; clear hv
  have HL := Lib.hid (BoxC.new 46 w #[.int .i64 th, .int .i64 op, .int .i64 arg, .int .i64 fr, .int .i64 to, .int .i64 code, .int .i64 res])
  go_enter Try.func7, Try.ntmps7
  go_wp2_with (refine wpList_load_row rfl 46 _ rfl (w.heap.size) rfl 46 _ (0, 0) _ HL.out Try.underlying46 rfl info_lcall ?_)
  refine (toCall_any _ _ _ _ _ _ _ _).mono ?_
  rintro e w1 ⟨rfl, hb⟩
  have HB1 := Lib.hid (below_trans (below_alloc _ _) hb)
  have HL1 := Lib.hid (HL.out.below hb)
  clear hb HL
  go_wp2_with fail
  refine (specCallOK_any _ _ _ _ _ _ _ _).mono ?_
  rintro e w2 ⟨rfl, hb⟩
  rw [HV.out]
  have HB2 := Lib.hid (below_trans HB1.out hb)
  have HL2 := Lib.hid (HL1.out.below hb)
  clear hb HL1 HB1
  go_wp2_with (refine wpList_load_row rfl 46 _ rfl (w.heap.size) rfl 46 _ (0, 0) _ HL2.out Try.underlying46 rfl info_lcall ?_)
  refine (toCall_any _ _ _ _ _ _ _ _).mono ?_
  rintro e w3 ⟨rfl, hb⟩
  have HB3 := Lib.hid (below_trans HB2.out hb)
  clear hb HB2 HL2
  go_wp2_with fail
  refine (implCallOK_any _ _ _ _ _ _ _ _).mono ?_
  rintro e w4 ⟨rfl, hb⟩
  rw [HV.out]
  have HB4 := Lib.hid (below_trans HB3.out hb)
  clear hb HB3 HV
  cases v
  all_goals
    go_wp2
    go_ret
    exact ⟨rfl, HB4.out⟩
end Go.Proofs.Ytjddmdhoeampcaa
