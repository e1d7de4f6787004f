/-
  Contracts: LoadCell, the program's and the model's (chapter 2).
-/
import Derived.Test.YtiogebflfnicgaaArenaB
namespace Go.Proofs.Ytiogebflfnicgaa
open Go.RowKit

def loadVal (zs : List Int) (p : Int) : Int := if cellCode zs p = 0 then zs.getD p.toNat 0 else 0
theorem cellCode_cases (zs : List Int) (p : Int) : cellCode zs p = 0 ∨ cellCode zs p = 1 ∨ cellCode zs p = 4 := by
  unfold cellCode
  by_cases h1 : arenaB zs = true
  · rw [if_pos h1]
    by_cases h2 : 1 ≤ p ∧ p < zs.length
    · rw [if_pos h2]; exact .inl rfl
    · rw [if_neg h2]; exact .inr (.inr rfl)
  · rw [if_neg h1]; exact .inr (.inl rfl)
theorem ret_int2 {k k' : IntKind} {a b a' b' : Int} (h : a = b) (h' : a' = b') : Ending.returned (.tuple #[.int k a, .int k' a']) = .returned (.tuple #[.int k b, .int k' b']) := by rw [h, h']

end Go.Proofs.Ytiogebflfnicgaa
