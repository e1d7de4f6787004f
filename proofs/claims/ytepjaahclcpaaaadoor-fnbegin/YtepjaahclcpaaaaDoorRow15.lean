/-
  Fifteen stores into a thread's block are one row.
-/
import Derived.Test.YtepjaahclcpaaaaDoorBoxS
namespace Go.Proofs.YtepjaahclcpaaaaDoor
open Go.RowKit

theorem row15 {w : World} {g : Nat} {c0 c1 c2 c3 c4 c5 c6 c7 c8 c9 c10 c11 c12 c13 c14 v0 v1 v2 v3 v4 v5 v6 v7 v8 v9 v10 v11 v12 v13 v14 : Value} (h : BoxT w g #[c0, c1, c2, c3, c4, c5, c6, c7, c8, c9, c10, c11, c12, c13, c14]) :
    (((((((((((((((w.setCell ⟨g, 0, none⟩ v0).setCell ⟨g, 1, none⟩ v1).setCell ⟨g, 2, none⟩ v2).setCell ⟨g, 3, none⟩ v3).setCell ⟨g, 4, none⟩ v4).setCell ⟨g, 5, none⟩ v5).setCell ⟨g, 6, none⟩ v6).setCell ⟨g, 7, none⟩ v7).setCell ⟨g, 8, none⟩ v8).setCell ⟨g, 9, none⟩ v9).setCell ⟨g, 10, none⟩ v10).setCell ⟨g, 11, none⟩ v11).setCell ⟨g, 12, none⟩ v12).setCell ⟨g, 13, none⟩ v13).setCell ⟨g, 14, none⟩ v14) = w.setRow g #[v0, v1, v2, v3, v4, v5, v6, v7, v8, v9, v10, v11, v12, v13, v14] := by
  rw [setCell_eq_setRow w g 0 _ _ _ v0 h]
  rw [setCell_eq_setRow _ g 1 _ _ _ v1 (h.row _), setRow_setRow]
  rw [setCell_eq_setRow _ g 2 _ _ _ v2 (h.row _), setRow_setRow]
  rw [setCell_eq_setRow _ g 3 _ _ _ v3 (h.row _), setRow_setRow]
  rw [setCell_eq_setRow _ g 4 _ _ _ v4 (h.row _), setRow_setRow]
  rw [setCell_eq_setRow _ g 5 _ _ _ v5 (h.row _), setRow_setRow]
  rw [setCell_eq_setRow _ g 6 _ _ _ v6 (h.row _), setRow_setRow]
  rw [setCell_eq_setRow _ g 7 _ _ _ v7 (h.row _), setRow_setRow]
  rw [setCell_eq_setRow _ g 8 _ _ _ v8 (h.row _), setRow_setRow]
  rw [setCell_eq_setRow _ g 9 _ _ _ v9 (h.row _), setRow_setRow]
  rw [setCell_eq_setRow _ g 10 _ _ _ v10 (h.row _), setRow_setRow]
  rw [setCell_eq_setRow _ g 11 _ _ _ v11 (h.row _), setRow_setRow]
  rw [setCell_eq_setRow _ g 12 _ _ _ v12 (h.row _), setRow_setRow]
  rw [setCell_eq_setRow _ g 13 _ _ _ v13 (h.row _), setRow_setRow]
  rw [setCell_eq_setRow _ g 14 _ _ _ v14 (h.row _), setRow_setRow]
  simp only [List.setIfInBounds_toArray, List.set_cons_zero, List.set_cons_succ]
theorem BoxT.rowOther {w : World} {k b : Nat} {cs : Array Value} (h : BoxT w k cs) (hk : k ≠ b) (bs : Array Value) : BoxT (w.setRow b bs) k cs := (setRow_other w b k bs hk).trans h
end Go.Proofs.YtepjaahclcpaaaaDoor
