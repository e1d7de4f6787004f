/-
  The model's l01Word.
-/
import Derived.Test.YtiogebflfnicgaaBaseI
namespace Go.Proofs.Ytiogebflfnicgaa
open Go.RowKit

set_option maxHeartbeats 400000 in
theorem l01Word_any (n : Int) (w : World) : Calls Try.prog 138 #[.int .i64 n] w fun e w' => e = .returned (.bool (wordB n)) ∧ w = w' := by
  unfold wordB
  go_enter Try.func138, Try.ntmps138
  go_wp2_with (go_at_call 39; refine (l01In_any _ _ _ _).mono ?_; rintro e w' ⟨rfl, rfl⟩)
  go_ret
  exact ⟨rfl, rfl⟩
end Go.Proofs.Ytiogebflfnicgaa
