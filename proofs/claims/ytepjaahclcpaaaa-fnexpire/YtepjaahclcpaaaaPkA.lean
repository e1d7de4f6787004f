/-
  Parking (chapter 4): freed and isParked.
-/
import Derived.Test.YtepjaahclcpaaaaThD
import Derived.Test.YtepjaahclcpaaaaBoxS
namespace Go.Proofs.Ytepjaahclcpaaaa
open Go.RowKit

/-- The status of a thread that is freed. -/
def frB (st : Int) : Int := if st = 2 then 1 else st
theorem frB_two : frB 2 = 1 := rfl
theorem frB_other {st : Int} (h : st ≠ 2) : frB st = st := if_neg h

set_option maxHeartbeats 1000000 in
theorem freed_any (id st op arg pc til : Int) (per can : Bool) (r0 r1 r2 r3 r4 code res : Int) (w : World) : Calls Try.prog 48 #[.agg #[.int .i64 id, .int .i64 st, .int .i64 op, .int .i64 arg, .int .i64 pc, .int .i64 til, .bool per, .bool can, .int .i64 r0, .int .i64 r1, .int .i64 r2, .int .i64 r3, .int .i64 r4, .int .i64 code, .int .i64 res]] w fun e w' => e = .returned (.agg #[.int .i64 id, .int .i64 (frB st), .int .i64 op, .int .i64 arg, .int .i64 pc, .int .i64 til, .bool per, .bool can, .int .i64 r0, .int .i64 r1, .int .i64 r2, .int .i64 r3, .int .i64 r4, .int .i64 code, .int .i64 res]) ∧ Below w.heap.size w w' := by
  by_cases h : st = 2
  all_goals
    first
    | (subst h; rw [frB_two])
    | (have g : (st == 2) = false := by simpa using h
       rw [frB_other h]
       clear h)
    go_enter Try.func48, Try.ntmps48
    go_wp2
    refine bodyPost_ret (v := .agg _) (by simp [results, Try.results48, go_sem]) rfl ⟨rfl, ?_⟩
    exact below_alloc2 _ _ _

theorem eqTh_freed (id st op arg pc til : Int) (per can : Bool) (r0 r1 r2 r3 r4 code res : Int) : (!eqTh id st op arg pc til per can r0 r1 r2 r3 r4 code res id (frB st) op arg pc til per can r0 r1 r2 r3 r4 code res) = (st == 2) := by
  by_cases h : st = 2
  · subst h; simp [eqTh, eqRegs, frB]
  · rw [frB_other h, eqTh_refl]; simp [h]

set_option maxHeartbeats 1000000 in
theorem isParked_any (id st op arg pc til : Int) (per can : Bool) (r0 r1 r2 r3 r4 code res : Int) (w : World) : Calls Try.prog 61 #[.agg #[.int .i64 id, .int .i64 st, .int .i64 op, .int .i64 arg, .int .i64 pc, .int .i64 til, .bool per, .bool can, .int .i64 r0, .int .i64 r1, .int .i64 r2, .int .i64 r3, .int .i64 r4, .int .i64 code, .int .i64 res]] w fun e w' => e = .returned (.bool (st == 2)) ∧ Below w.heap.size w w' := by
  have hq := fun wx => run_neq_thread id st op arg pc til per can r0 r1 r2 r3 r4 code res id (frB st) op arg pc til per can r0 r1 r2 r3 r4 code res wx
  rw [eqTh_freed] at hq
  go_enter Try.func61, Try.ntmps61
  have HB := Lib.hid (below_alloc w (.cells #[.int .i64 id, .int .i64 st, .int .i64 op, .int .i64 arg, .int .i64 pc, .int .i64 til, .bool per, .bool can, .int .i64 r0, .int .i64 r1, .int .i64 r2, .int .i64 r3, .int .i64 r4, .int .i64 code, .int .i64 res] 25))
  have HX : Hid (BoxT (w.alloc (.cells #[.int .i64 id, .int .i64 st, .int .i64 op, .int .i64 arg, .int .i64 pc, .int .i64 til, .bool per, .bool can, .int .i64 r0, .int .i64 r1, .int .i64 r2, .int .i64 r3, .int .i64 r4, .int .i64 code, .int .i64 res] 25)) w.heap.size #[.int .i64 id, .int .i64 st, .int .i64 op, .int .i64 arg, .int .i64 pc, .int .i64 til, .bool per, .bool can, .int .i64 r0, .int .i64 r1, .int .i64 r2, .int .i64 r3, .int .i64 r4, .int .i64 code, .int .i64 res]) := heap_alloc_new w _
  go_wp2_with fail
  generalize w.alloc (.cells #[.int .i64 id, .int .i64 st, .int .i64 op, .int .i64 arg, .int .i64 pc, .int .i64 til, .bool per, .bool can, .int .i64 r0, .int .i64 r1, .int .i64 r2, .int .i64 r3, .int .i64 r4, .int .i64 code, .int .i64 res] 25) = w1 at HB HX ⊢
  have HBd : Hid (∀ u : World, Below w1.drew.heap.size w1.drew u → Below w1.heap.size w1 u) := fun u h => below_drew_trans h
  go_region_held3 (fun w' => ∀ j : Nat, w'.cell? ⟨w.heap.size, j, none⟩ = (#[.int .i64 id, .int .i64 st, .int .i64 op, .int .i64 arg, .int .i64 pc, .int .i64 til, .bool per, .bool can, .int .i64 r0, .int .i64 r1, .int .i64 r2, .int .i64 r3, .int .i64 r4, .int .i64 code, .int .i64 res] : Array Value)[j]?)
    (first | exact HX.out.cell | exact (HX.out.below (HBd.out _ hr0)).cell)
    (first | (go_at_call 48; (with_reducible refine (freed_any id st op arg pc til per can r0 r1 r2 r3 r4 code res _).mono ?_); rintro e u0 ⟨rfl, hr0⟩))
  go_wp2
  go_ret
  exact ⟨rfl, below_trans HB.out (HBd.out _ hr0)⟩
end Go.Proofs.Ytepjaahclcpaaaa
