/-
  A thread in a block of its own.
-/
import Derived.Test.YtepjaahclcpaaaaDoorMem
import Derived.Laws.Tables
import Derived.Laws.Rows
namespace Go.Proofs.YtepjaahclcpaaaaDoor
open Go.RowKit

/-- A thread in a block of its own. -/
def BoxT (w : World) (k : Nat) (cs : Array Value) : Prop := w.heap[k]? = some (.cells cs 25 (0, 0))
theorem BoxT.lt {w : World} {k : Nat} {cs : Array Value} (h : BoxT w k cs) : k < w.heap.size := (Array.getElem?_eq_some_iff.1 h).1
theorem BoxT.below {w w' : World} {k : Nat} {cs : Array Value} (h : BoxT w k cs) (hb : Below w.heap.size w w') : BoxT w' k cs := (hb.block k h.lt).trans h
theorem BoxT.two (w : World) (xs bs : Array Value) : BoxT ((w.alloc (.cells xs 25)).alloc (.cells bs 25)) w.heap.size xs := heap_alloc2_old w _ _
theorem BoxT.two' (w : World) (xs bs : Array Value) : BoxT ((w.alloc (.cells xs 25)).alloc (.cells bs 25)) (w.heap.size + 1) bs := heap_alloc2_new w _ _
theorem BoxT.row {w : World} {k : Nat} {cs : Array Value} (h : BoxT w k cs) (bs : Array Value) : BoxT (w.setRow k bs) k bs := setRow_heap w k cs bs _ _ h
theorem BoxT.cell {w : World} {k : Nat} {cs : Array Value} (h : BoxT w k cs) (j : Nat) : w.cell? ⟨k, j, none⟩ = cs[j]? := cell_of_row w k j cs _ _ h
theorem below_row {w w' : World} {k : Nat} (h : Below w.heap.size w w') (hk : w.heap.size ≤ k) (cs : Array Value) : Below w.heap.size w (w'.setRow k cs) := below_setRow h hk cs

theorem one15 (id st op arg pc til : Int) (per can : Bool) (r0 r1 r2 r3 r4 code res : Int) : (#[.int .i64 id, .int .i64 st, .int .i64 op, .int .i64 arg, .int .i64 pc, .int .i64 til, .bool per, .bool can, .int .i64 r0, .int .i64 r1, .int .i64 r2, .int .i64 r3, .int .i64 r4, .int .i64 code, .int .i64 res] : Array Value).all (·.oneCell') = true := by simp [Value.oneCell']
theorem info_th : (Tryd.prog.info? 25).map (·.size) = some 15 := by kernel_rfl

theorem results_th {fn : Func} {p q : Tmp} (h : fn.results = #[.cell p 25, .tmp q]) (tmps : Array Value) (w : World) (g : Nat) (cs : Array Value) (v : Value)
    (hp : tmps.getD p undef = .pointer (some ⟨g, 0, none⟩)) (hq : tmps.getD q undef = v) (hg : BoxT w g cs) (hs : cs.size = 15) :
    (results fn tmps).run Tryd.prog w = .ok (.tuple #[.agg cs, v]) w := by
  have hp' : tmps[p]?.getD undef = .pointer (some ⟨g, 0, none⟩) := by simpa using hp
  have hq' : tmps[q]?.getD undef = v := by simpa using hq
  have hl := run_loadVar_row w g 25 25 cs (0, 0) _ hg Tryd.underlying25 rfl (by rw [hs]; exact info_th)
  simp [results, h, hp', hq', asAddr, hl]
end Go.Proofs.YtepjaahclcpaaaaDoor
