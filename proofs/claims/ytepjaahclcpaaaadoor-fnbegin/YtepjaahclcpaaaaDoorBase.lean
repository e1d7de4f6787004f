/-
  Words that arenas and threads share: what a word is; what stays.
-/
import Derived.Test.YtepjaahclcpaaaaDoorMem
namespace Go.Proofs.YtepjaahclcpaaaaDoor
open Go.RowKit

def inB (n lo hi : Int) : Bool := decide (lo ≤ n) && decide (n ≤ hi)
theorem inB_true {n lo hi : Int} (h : inB n lo hi = true) : lo ≤ n ∧ n ≤ hi := by simpa [inB] using h
theorem inB_false {n lo hi : Int} (h : inB n lo hi = false) : ¬ (lo ≤ n ∧ n ≤ hi) := by simp [inB] at h; omega
theorem inB_iff {n lo hi : Int} : inB n lo hi = true ↔ lo ≤ n ∧ n ≤ hi := by simp [inB]
def wordB (v : Int) : Bool := inB v (-1000000000) 1000000000
theorem wordB_iff (v : Int) : wordB v = true ↔ -1000000000 ≤ v ∧ v ≤ 1000000000 := by simp [wordB, inB]
def wordsB (zs : List Int) : Bool := zs.all wordB
theorem wordsB_iff (zs : List Int) : wordsB zs = true ↔ ∀ j, j < zs.length → wordB (zs.getD j 0) = true := by
  unfold wordsB
  rw [List.all_eq_true]
  constructor
  · intro h j hj
    simp only [List.getD, List.getElem?_eq_getElem hj, Option.getD_some]
    exact h _ (List.getElem_mem _)
  · intro h x hx
    obtain ⟨j, hj, rfl⟩ := List.getElem_of_mem hx
    have := h j hj
    simpa only [List.getD, List.getElem?_eq_getElem hj, Option.getD_some] using this
theorem wordsB_false {zs : List Int} {k : Nat} (h : k < zs.length) (hk : wordB (zs.getD k 0) = false) : wordsB zs = false := by
  cases hw : wordsB zs
  · rfl
  · rw [(wordsB_iff zs).1 hw k h] at hk; cases hk

theorem cell_keep {w w' : World} (hb : Below w.heap.size w w') {a : Addr} {v : Value} (h : w.cell? a = some v) : w'.cell? a = some v :=
  (hb.cell (p := a) (block_lt_of_cell h)).trans h

theorem below_alloc2 (w : World) (a b : Obj) : Below w.heap.size w ((w.alloc a).alloc b) := below_trans (below_alloc _ _) (below_alloc _ _)
theorem below_alloc3 (w : World) (a b c : Obj) : Below w.heap.size w (((w.alloc a).alloc b).alloc c) := below_trans (below_alloc2 _ _ _) (below_alloc _ _)

theorem below_drew_trans {w w' : World} (h : Below w.drew.heap.size w.drew w') : Below w.heap.size w w' := ⟨h.os, h.tape, h.output, h.size, h.block⟩
theorem grown_new {w a b : World} {row row' : Option Nat} (h : w.grownBy a row) (k : a.grownBy b row') (hr : ∀ q, row' = some q → w.heap.size ≤ q) : w.grownBy b row :=
  ⟨k.os.trans h.os, k.tape.trans h.tape, k.output.trans h.output, Nat.le_trans h.size k.size, fun i hi hne => (k.block i (Nat.lt_of_lt_of_le hi h.size) (fun e => by have := hr i e.symm; omega)).trans (h.block i hi hne)⟩
end Go.Proofs.YtepjaahclcpaaaaDoor
