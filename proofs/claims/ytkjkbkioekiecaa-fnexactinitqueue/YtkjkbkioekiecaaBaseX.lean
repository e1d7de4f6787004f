/-
  The model's l01Word.
-/
import Derived.Test.YtkjkbkioekiecaaBaseI
namespace Go.Proofs.Ytkjkbkioekiecaa
open Go.RowKit

set_option maxHeartbeats 400000 in
theorem l01Word_any (n : Int) (w : World) : Calls Try.prog 103 #[.int .i64 n] w fun e w' => e = .returned (.bool (wordB n)) ∧ w = w' := by
  unfold wordB
  go_enter Try.func103, Try.ntmps103
  go_wp2_with (go_at_call 55; refine (l01In_any _ _ _ _).mono ?_; rintro e w' ⟨rfl, rfl⟩)
  go_ret
  exact ⟨rfl, rfl⟩
end Go.Proofs.Ytkjkbkioekiecaa
