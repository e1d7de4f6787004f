/-
  Blocks by their type: a whole row or one cell of them set.
-/
import Derived.Test.YtiogebflfnicgaaBoxC
import Derived.Laws.OwnMore
namespace Go.Proofs.Ytiogebflfnicgaa
open Go.RowKit

theorem BoxC.mrow {t : TypeId} {w : World} {k : Nat} {cs : Array Value} (h : BoxC t w k cs) (bs : Array Value) : BoxC t (w.setRow k bs) k bs := setRow_heap w k cs bs _ _ h
theorem BoxC.mrowO {t : TypeId} {w : World} {k b : Nat} {cs : Array Value} (h : BoxC t w k cs) (hk : k ≠ b) (bs : Array Value) : BoxC t (w.setRow b bs) k cs := (setRow_other w b k bs hk).trans h
theorem BoxC.mset {t : TypeId} {w : World} {k : Nat} {cs : Array Value} (h : BoxC t w k cs) (i : Nat) (v : Value) : BoxC t (w.setCell ⟨k, i, none⟩ v) k (cs.setIfInBounds i v) := heap_setCell_same w k i cs _ v h
theorem BoxC.msetO {t : TypeId} {w : World} {k : Nat} {cs : Array Value} (h : BoxC t w k cs) (a : Addr) (v : Value) (hk : k ≠ a.block) : BoxC t (w.setCell a v) k cs := (heap_setCell_other w a k v hk).trans h
theorem BoxC.mfroz {t : TypeId} {w : World} {k : Nat} {cs : Array Value} (h : BoxC t w k cs) (j : Nat) : w.frozen? ⟨k, j, none⟩ = false := frozen_of_row w k j cs _ h
theorem size_setc2 (w : World) (a : Addr) (v : Value) : (w.setCell a v).heap.size = w.heap.size := by simp [World.setCell]
end Go.Proofs.Ytiogebflfnicgaa
