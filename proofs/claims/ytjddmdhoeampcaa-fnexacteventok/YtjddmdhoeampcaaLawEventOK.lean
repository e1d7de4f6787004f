/-
  The walk of the law FnExactEventOK.
-/
import Derived.Test.YtjddmdhoeampcaaEventQ
import Derived.Test.YtjddmdhoeampcaaBoxC
namespace Go.Proofs.Ytjddmdhoeampcaa
open Go.RowKit

theorem info_lev : (Try.prog.info? 60).map (·.size) = some 5 := by kernel_rfl

set_option maxHeartbeats 1000000 in
theorem toEvent_any (k th op arg n : Int) (w : World) : Calls Try.prog 35 #[.agg #[.int .i64 k, .int .i64 th, .int .i64 op, .int .i64 arg, .int .i64 n]] w fun e w' => e = .returned (.agg #[.int .i64 k, .int .i64 th, .int .i64 op, .int .i64 arg, .int .i64 n]) ∧ Below w.heap.size w w' := by
  go_enter Try.func35, Try.ntmps35
  go_wp2
  refine bodyPost_ret (v := .agg #[.int .i64 k, .int .i64 th, .int .i64 op, .int .i64 arg, .int .i64 n]) (by simp [results, Try.results35, go_sem]) rfl ⟨rfl, ?_⟩
  exact below_alloc3 _ _ _ _

set_option maxHeartbeats 1000000 in
theorem lawEventOK_walk (k th op arg n : Int) (w : World) :
    Calls Try.prog 9 #[.agg #[.int .i64 k, .int .i64 th, .int .i64 op, .int .i64 arg, .int .i64 n]] w fun e w' => e = .returned (.bool true) ∧ Below w.heap.size w w' := by
  obtain ⟨v, hv⟩ : ∃ v, evB k th op arg n = v := ⟨_, rfl⟩
  have HV := Lib.hid hv; clear hv
  have HL := Lib.hid (BoxC.new 60 w #[.int .i64 k, .int .i64 th, .int .i64 op, .int .i64 arg, .int .i64 n])
  go_enter Try.func9, Try.ntmps9
  go_wp2_with (refine wpList_load_row rfl 60 _ rfl (w.heap.size) rfl 60 _ (0, 0) _ HL.out Try.underlying60 rfl info_lev ?_)
  refine (toEvent_any _ _ _ _ _ _).mono ?_
  rintro e w1 ⟨rfl, hb⟩
  have HB1 := Lib.hid (below_trans (below_alloc _ _) hb)
  have HL1 := Lib.hid (HL.out.below hb)
  clear hb HL
  go_wp2_with fail
  refine (specEventOK_any _ _ _ _ _ _).mono ?_
  rintro e w2 ⟨rfl, hb⟩
  rw [HV.out]
  have HB2 := Lib.hid (below_trans HB1.out hb)
  have HL2 := Lib.hid (HL1.out.below hb)
  clear hb HL1 HB1
  go_wp2_with (refine wpList_load_row rfl 60 _ rfl (w.heap.size) rfl 60 _ (0, 0) _ HL2.out Try.underlying60 rfl info_lev ?_)
  refine (toEvent_any _ _ _ _ _ _).mono ?_
  rintro e w3 ⟨rfl, hb⟩
  have HB3 := Lib.hid (below_trans HB2.out hb)
  clear hb HB2 HL2
  go_wp2_with fail
  refine (implEventOK_any _ _ _ _ _ _).mono ?_
  rintro e w4 ⟨rfl, hb⟩
  rw [HV.out]
  have HB4 := Lib.hid (below_trans HB3.out hb)
  clear hb HB3 HV
  cases v
  all_goals
    go_wp2
    go_ret
    exact ⟨rfl, HB4.out⟩
end Go.Proofs.Ytjddmdhoeampcaa
