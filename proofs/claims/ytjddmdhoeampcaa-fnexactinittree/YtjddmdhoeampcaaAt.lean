/-
  How many cells are not what they were: turned.
-/
import Derived.Test.YtjddmdhoeampcaaSrcB
import Derived.Test.YtjddmdhoeampcaaAtS
namespace Go.Proofs.Ytjddmdhoeampcaa
open Go.RowKit

/-- How many of the first k places differ. -/
def diffTo (xs ys : List Int) : Nat → Nat
  | 0 => 0
  | k + 1 => diffTo xs ys k + if xs.getD k 0 = ys.getD k 0 then 0 else 1
theorem diffTo_le (xs ys : List Int) (k : Nat) : diffTo xs ys k ≤ k := by
  induction k with
  | zero => exact Nat.le_refl _
  | succ k ih => unfold diffTo; split <;> omega
theorem diffTo_set (xs : List Int) (i : Nat) (v : Int) (k : Nat) : (k ≤ i → diffTo xs (xs.set i v) k = 0) ∧ diffTo xs (xs.set i v) k ≤ 1 := by
  induction k with
  | zero => exact ⟨fun _ => rfl, Nat.zero_le _⟩
  | succ k ih =>
    have hs : diffTo xs (xs.set i v) (k + 1) = diffTo xs (xs.set i v) k + (if xs.getD k 0 = (xs.set i v).getD k 0 then 0 else 1) := rfl
    by_cases h : i = k
    · refine ⟨fun hk => by omega, ?_⟩
      rw [hs, ih.1 (by omega)]
      split <;> omega
    · have e : xs.getD k 0 = (xs.set i v).getD k 0 := by
        simp only [List.getD]
        rw [List.getElem?_set_ne h]
      rw [if_pos e] at hs
      exact ⟨fun hk => by rw [hs, ih.1 (by omega)], by rw [hs]; exact ih.2⟩

end Go.Proofs.Ytjddmdhoeampcaa
