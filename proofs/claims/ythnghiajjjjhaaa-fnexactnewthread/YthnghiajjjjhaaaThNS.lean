/-
  Threads (chapter 3): NewThread of the model.
-/
import Derived.Test.YthnghiajjjjhaaaThN
namespace Go.Proofs.Ythnghiajjjjhaaa
open Go.RowKit

set_option maxHeartbeats 1000000 in
theorem specNewThread_any (n : Int) (w : World) (id' st' op' arg' pc' til' : Int) (per' can' : Bool) (s0 s1 s2 s3 s4 code' res' c : Int) (hX : newB n = (⟨id', st', op', arg', pc', til', per', can', s0, s1, s2, s3, s4, code', res'⟩, c)) :
    Calls Try.prog 8 #[.int .i64 n] w fun e w' => e = .returned (.tuple #[.agg #[.int .i64 id', .int .i64 st', .int .i64 op', .int .i64 arg', .int .i64 pc', .int .i64 til', .bool per', .bool can', .int .i64 s0, .int .i64 s1, .int .i64 s2, .int .i64 s3, .int .i64 s4, .int .i64 code', .int .i64 res'], .int .i64 c]) ∧ Below w.heap.size w w' := by
  unfold newB at hX
  cases h : inB n 0 3
  all_goals
    rw [h] at hX
    first | rw [if_pos rfl] at hX | rw [if_neg (by decide)] at hX
    cases hX
    go_enter Try.func8, Try.ntmps8
    go_wp2_with (go_at_call 20; refine (l01In_any _ _ _ _).mono ?_; rintro e w' ⟨rfl, rfl⟩)
    refine bodyPost_ret (v := .tuple #[.agg _, .int .i64 _]) (by simp [results, Try.results8, go_sem]) rfl ⟨rfl, ?_⟩
    exact below_alloc _ _
end Go.Proofs.Ythnghiajjjjhaaa
