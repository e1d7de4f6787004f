/-
  The walk of the law FnExactSameArena.
-/
import Derived.Test.YtjddmdhoeampcaaSame
import Derived.Test.YtjddmdhoeampcaaLawArenaOK
namespace Go.Proofs.Ytjddmdhoeampcaa
open Go.RowKit

theorem leftB_range {l : Int} {n : Nat} (h : ¬ leftB l n < 0) : leftB l n ≤ l ∧ 0 ≤ leftB l n ∧ (n : Int) ≤ l := by
  unfold leftB at *
  by_cases h' : l - n < 0
  · rw [if_pos h'] at h; omega
  · rw [if_neg h'] at h ⊢; omega

end Go.Proofs.Ytjddmdhoeampcaa
