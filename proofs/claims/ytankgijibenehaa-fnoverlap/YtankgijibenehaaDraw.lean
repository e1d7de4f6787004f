/-
  The laws' draws of threads and waiters: ThreadDrawn, WaiterDrawn.
-/
import Derived.Test.YtankgijibenehaaSrcF
import Derived.Test.YtankgijibenehaaBoxS
import Derived.Test.YtankgijibenehaaRow15
import Derived.Test.YtankgijibenehaaThD
namespace Go.Proofs.Ytankgijibenehaa
open Go.RowKit

theorem BoxT.grown {w w' : World} {k : Nat} {cs : Array Value} {row : Option Nat} (h : BoxT w k cs) (hg : w.grownBy w' row) (hne : some k ≠ row) : BoxT w' k cs := (hg.block k h.lt hne).trans h

/-- The results of a function that hands a thread back. -/
theorem results_one {fn : Func} {p : Tmp} (h : fn.results = #[.cell p 63]) (tmps : Array Value) (w : World) (g : Nat) (cs : Array Value)
    (hp : tmps.getD p undef = .pointer (some ⟨g, 0, none⟩)) (hg : BoxT w g cs) (hs : cs.size = 15) :
    (results fn tmps).run Try.prog w = .ok (.agg cs) w :=
  results_cell_row h tmps w g 63 cs (0, 0) _ hp hg Try.underlying63 rfl (by rw [hs]; exact info_th)

theorem grown_set {w a : World} {g b i : Nat} {v : Value} (h : w.grownBy a (some g)) (hb : w.heap.size ≤ b) : w.grownBy (a.setCell ⟨b, i, none⟩ v) (some g) :=
  grown_new h (grown_setCell a b i v) (fun q hq => by simp only [Option.some.injEq] at hq; omega)
theorem grown_row {w a : World} {g b : Nat} {cs : Array Value} (h : w.grownBy a (some g)) (hb : w.heap.size ≤ b) : w.grownBy (a.setRow b cs) (some g) :=
  ⟨h.os, h.tape, h.output, by rw [size_setRow]; exact h.size, fun i hi hne => (setRow_other a b i cs (by omega)).trans (h.block i hi hne)⟩
theorem SrcF.row {w : World} {g B : Nat} {A : Option Addr} {n c k : Nat} (h : SrcF w g B A n c k) {b : Nat} (hb : g < b) (cs : Array Value) : SrcF (w.setRow b cs) g B A n c k :=
  Src.kept h (setRow_other w b g cs (by omega)) (fun j hj => setRow_other w b j cs (by have := Src.high h; omega))

theorem th_idle_ok {id x y : Int} (h0 : 0 ≤ id) (h1 : id < 4) (hx0 : 0 ≤ x) (hx1 : x < 20) (hy0 : 0 ≤ y) (hy1 : y < 90) : thB id 0 0 0 0 0 false false 0 0 0 0 0 x y = true := by
  rw [thB_idle _ _ _ _ _ _ _ _ _ _ _ _ _ _ (inB_iff.2 (by omega))]
  unfold idleB
  rw [inB_iff.2 (by omega), inB_iff.2 (by omega)]; rfl
theorem th_call_ok {id o a u p : Int} {b1 b2 : Bool} (h0 : 0 ≤ id) (h1 : id < 4) (ho : opB o = true) (ha : argB o a = true) (hu : tilB o u = true) (hp0 : 0 ≤ p) (hp1 : p < 6) : thB id 1 o a p u b1 b2 0 0 0 0 0 0 0 = true := by
  rw [thB_runs _ _ _ _ _ _ _ _ _ _ _ _ _ _ (inB_iff.2 (by omega))]
  unfold callB
  rw [ho, ha, hu, inB_iff.2 (by omega)]; rfl
theorem th_park_ok {id o a u p : Int} {b1 b2 : Bool} (h0 : 0 ≤ id) (h1 : id < 4) (ho : opB o = true) (ha : argB o a = true) (hu : tilB o u = true) (hp0 : 0 ≤ p) (hp1 : p < 6) (hw : waitB o = true) : thB id 2 o a p u b1 b2 0 0 0 0 0 0 0 = true := by
  rw [thB_parked _ _ _ _ _ _ _ _ _ _ _ _ _ _ (inB_iff.2 (by omega)), hw]
  unfold callB
  rw [ho, ha, hu, inB_iff.2 (by omega)]; rfl

/-- What a drawn thread is. -/
def ThreadPost (w : World) (g B : Nat) (A : Option Addr) (n c k : Nat) (e : Ending) (w' : World) : Prop :=
  ∃ (id st op arg pc til : Int) (per can : Bool) (r0 r1 r2 r3 r4 code res : Int), thB id st op arg pc til per can r0 r1 r2 r3 r4 code res = true ∧ e = .returned (.agg #[.int .i64 id, .int .i64 st, .int .i64 op, .int .i64 arg, .int .i64 pc, .int .i64 til, .bool per, .bool can, .int .i64 r0, .int .i64 r1, .int .i64 r2, .int .i64 r3, .int .i64 r4, .int .i64 code, .int .i64 res]) ∧ SrcF w' g B A n c k ∧ w.grownBy w' (some g)

end Go.Proofs.Ytankgijibenehaa
