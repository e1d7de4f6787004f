/-
  NodeRef, NodeAt, ItemWaits: the program's and the model's.
-/
import Derived.Test.YtodniogcpeadpaaNodes
namespace Go.Proofs.Ytodniogcpeadpaa
open Go.RowKit

theorem refB_in {n : Int} {b : Bool} (h : inB n 1 399 = true) : refB n b = (2 * n + bitI b, 0) := by unfold refB; rw [if_pos h]
theorem refB_out {n : Int} {b : Bool} (h : inB n 1 399 = false) : refB n b = (0, 4) := by unfold refB; rw [h]; rfl
theorem nodeB_in {r : Int} (h : inB r 2 799 = true) : nodeB r = (halfI r, bringsR r, 0) := by unfold nodeB; rw [if_pos h]; rfl
theorem nodeB_out {r : Int} (h : inB r 2 799 = false) : nodeB r = (0, false, 4) := by unfold nodeB; rw [h]; rfl

end Go.Proofs.Ytodniogcpeadpaa
