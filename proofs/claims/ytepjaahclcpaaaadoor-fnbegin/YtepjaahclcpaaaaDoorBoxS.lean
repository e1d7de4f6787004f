/-
  A thread in a block of its own: one cell is set.
-/
import Derived.Test.YtepjaahclcpaaaaDoorBoxT
namespace Go.Proofs.YtepjaahclcpaaaaDoor
open Go.RowKit

theorem BoxT.new (w : World) (cs : Array Value) : BoxT (w.alloc (.cells cs 25)) w.heap.size cs := heap_alloc_new w _
theorem BoxT.set {w : World} {k : Nat} {cs : Array Value} (h : BoxT w k cs) (i : Nat) (v : Value) : BoxT (w.setCell ⟨k, i, none⟩ v) k (cs.setIfInBounds i v) := heap_setCell_same w k i cs _ v h
theorem BoxT.other {w : World} {k : Nat} {cs : Array Value} (h : BoxT w k cs) (a : Addr) (v : Value) (hk : k ≠ a.block) : BoxT (w.setCell a v) k cs := (heap_setCell_other w a k v hk).trans h
theorem BoxT.froz {w : World} {k : Nat} {cs : Array Value} (h : BoxT w k cs) (j : Nat) : w.frozen? ⟨k, j, none⟩ = false := frozen_of_row w k j cs _ h
theorem below_set {w w' : World} {a : Addr} {v : Value} (h : Below w.heap.size w w') (ha : w.heap.size ≤ a.block) : Below w.heap.size w (w'.setCell a v) := h.setCell ha v
end Go.Proofs.YtepjaahclcpaaaaDoor
