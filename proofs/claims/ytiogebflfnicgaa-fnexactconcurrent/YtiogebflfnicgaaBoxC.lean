/-
  A block by its type: what it holds, as long as it is let alone.
-/
import Derived.Test.YtiogebflfnicgaaMem
import Derived.Laws.Tables
import Derived.Laws.Rows
namespace Go.Proofs.Ytiogebflfnicgaa
open Go.RowKit

/-- A block of this type that holds this. -/
def BoxC (t : TypeId) (w : World) (k : Nat) (cs : Array Value) : Prop := w.heap[k]? = some (.cells cs t (0, 0))
theorem BoxC.lt {t : TypeId} {w : World} {k : Nat} {cs : Array Value} (h : BoxC t w k cs) : k < w.heap.size := (Array.getElem?_eq_some_iff.1 h).1
theorem BoxC.below {t : TypeId} {w w' : World} {k : Nat} {cs : Array Value} (h : BoxC t w k cs) (hb : Below w.heap.size w w') : BoxC t w' k cs := (hb.block k h.lt).trans h
theorem BoxC.new (t : TypeId) (w : World) (cs : Array Value) : BoxC t (w.alloc (.cells cs t)) w.heap.size cs := heap_alloc_new w _
theorem BoxC.cell {t : TypeId} {w : World} {k : Nat} {cs : Array Value} (h : BoxC t w k cs) (j : Nat) : w.cell? ⟨k, j, none⟩ = cs[j]? := cell_of_row w k j cs _ _ h
end Go.Proofs.Ytiogebflfnicgaa
