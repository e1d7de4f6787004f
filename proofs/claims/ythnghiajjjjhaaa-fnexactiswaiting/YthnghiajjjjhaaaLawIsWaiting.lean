/-
  The walk of the law FnExactIsWaiting.
-/
import Derived.Test.YthnghiajjjjhaaaTh
namespace Go.Proofs.Ythnghiajjjjhaaa
open Go.RowKit

theorem lawIsWaiting_walk (n : Int) (w : World) (_hn : (Lit.int .i64 n).wf = true) :
    Calls Try.prog 7 #[.int .i64 n] w fun e w' => e = .returned (.bool true) ∧ Below w.heap.size w w' := by
  cases h : waitB n
  all_goals
    go_enter Try.func7, Try.ntmps7
    go_wp2_with (first | (go_at_call 18; refine (specIsWaiting_any _ _).mono ?_; rintro e w' ⟨rfl, rfl⟩) | (go_at_call 19; refine (implIsWaiting_any _ _).mono ?_; rintro e w' ⟨rfl, rfl⟩))
    go_ret
    exact ⟨rfl, Below.refl _ _⟩
end Go.Proofs.Ythnghiajjjjhaaa
