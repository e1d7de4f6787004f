/-
  The laws' draws of threads and waiters: ThreadDrawn, WaiterDrawn.
-/
import Derived.Test.YtankgijibenehaaDraw
namespace Go.Proofs.Ytankgijibenehaa
open Go.RowKit

theorem below_of_grown {w a : World} {g : Nat} (h : w.grownBy a (some g)) (hg : w.heap.size ≤ g) : Below w.heap.size w a := (Below.refl _ _).grown h (Nat.le_refl _) (fun k hk => by simp only [Option.some.injEq] at hk; omega)
theorem SrcF.of {w : World} {g B : Nat} {A : Option Addr} {n c k : Nat} (h : Src w g B A n c 0) (hk : k ≤ 1000000) : SrcF w g B A n c k := Src.mono h (by omega)

/-- What a drawn thread is, nothing old has turned. -/
def DrawnThread (w : World) (e : Ending) (w' : World) : Prop :=
  ∃ (id st op arg pc til : Int) (per can : Bool) (r0 r1 r2 r3 r4 code res : Int), thB id st op arg pc til per can r0 r1 r2 r3 r4 code res = true ∧ e = .returned (.agg #[.int .i64 id, .int .i64 st, .int .i64 op, .int .i64 arg, .int .i64 pc, .int .i64 til, .bool per, .bool can, .int .i64 r0, .int .i64 r1, .int .i64 r2, .int .i64 r3, .int .i64 r4, .int .i64 code, .int .i64 res]) ∧ Below w.heap.size w w'

end Go.Proofs.Ytankgijibenehaa
