/-
  Threads in blocks of their own: the laws' own too.
-/
import Derived.Test.YtepjaahclcpaaaaBoxS
namespace Go.Proofs.Ytepjaahclcpaaaa
open Go.RowKit

/-- The laws' own thread in a block of its own. -/
def BoxL (w : World) (k : Nat) (cs : Array Value) : Prop := w.heap[k]? = some (.cells cs 37 (0, 0))
theorem BoxL.lt {w : World} {k : Nat} {cs : Array Value} (h : BoxL w k cs) : k < w.heap.size := (Array.getElem?_eq_some_iff.1 h).1
theorem BoxL.below {w w' : World} {k : Nat} {cs : Array Value} (h : BoxL w k cs) (hb : Below w.heap.size w w') : BoxL w' k cs := (hb.block k h.lt).trans h
theorem BoxL.new (w : World) (cs : Array Value) : BoxL (w.alloc (.cells cs 37)) w.heap.size cs := heap_alloc_new w _
theorem info_lth : (Try.prog.info? 37).map (·.size) = some 15 := by kernel_rfl
end Go.Proofs.Ytepjaahclcpaaaa
