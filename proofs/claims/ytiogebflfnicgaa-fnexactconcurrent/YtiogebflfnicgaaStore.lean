/-
  Contracts: writeFault, StoreCell of the program; l01Load, l01Store, StoreCell of the model (chapter 2).
-/
import Derived.Test.YtiogebflfnicgaaAppend
import Derived.Test.YtiogebflfnicgaaLoad
namespace Go.Proofs.Ytiogebflfnicgaa
open Go.RowKit

def writeCode (zs : List Int) (p v : Int) : Int := if cellCode zs p = 0 then (if wordB v = true then 0 else 4) else cellCode zs p
def storeZs (zs : List Int) (p v : Int) : List Int := if writeCode zs p v = 0 then zs.set p.toNat v else []
theorem writeCode_zero {zs : List Int} {p v : Int} (h : writeCode zs p v = 0) : cellCode zs p = 0 ∧ wordB v = true := by
  unfold writeCode at h
  by_cases h1 : cellCode zs p = 0
  · rw [if_pos h1] at h
    cases hw : wordB v
    · rw [hw] at h; simp at h
    · exact ⟨h1, rfl⟩
  · rw [if_neg h1] at h; exact absurd h h1

/-- What a struct result of the model's and the program's looks like: an arena and a code. -/
theorem ret_agg_int {k : IntKind} {v : Value} {a b : Int} (h : a = b) : Ending.returned (.tuple #[.agg #[v], .int k a]) = .returned (.tuple #[.agg #[v], .int k b]) := by rw [h]

end Go.Proofs.Ytiogebflfnicgaa
