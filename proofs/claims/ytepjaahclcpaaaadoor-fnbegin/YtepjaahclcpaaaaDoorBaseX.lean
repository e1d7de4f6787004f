/-
  The model's l01Word.
-/
import Derived.Test.YtepjaahclcpaaaaDoorBaseI
namespace Go.Proofs.YtepjaahclcpaaaaDoor
open Go.RowKit

set_option maxHeartbeats 400000 in
theorem l01Word_any (n : Int) (w : World) : Calls Tryd.prog 34 #[.int .i64 n] w fun e w' => e = .returned (.bool (wordB n)) ∧ w = w' := by
  unfold wordB
  go_enter Tryd.func34, Tryd.ntmps34
  go_wp2_with (go_at_call 22; refine (l01In_any _ _ _ _).mono ?_; rintro e w' ⟨rfl, rfl⟩)
  go_ret
  exact ⟨rfl, rfl⟩
end Go.Proofs.YtepjaahclcpaaaaDoor
