/-
  Contract: AllocCells of the model (chapter 2).
-/
import Derived.Test.YtjddmdhoeampcaaAllocC
namespace Go.Proofs.Ytjddmdhoeampcaa
open Go.RowKit

theorem not_fault {zs ls : List Int} {k : Int} (h : faultCode zs ls = k) (hk : k ≠ 0) : allocZs zs ls = [] ∧ allocAt zs ls = 0 ∧ allocCode zs ls = k := by
  have h0 : faultCode zs ls ≠ 0 := by rw [h]; exact hk
  refine ⟨?_, ?_, ?_⟩
  · unfold allocZs; rw [if_neg h0]
  · unfold allocAt; rw [if_neg h0]
  · unfold allocCode; rw [if_neg h0, h]

end Go.Proofs.Ytjddmdhoeampcaa
