/-
  Threads (chapter 3): BeginCall in one contract.
-/
import Derived.Test.YtepjaahclcpaaaaDoorThP
namespace Go.Proofs.YtepjaahclcpaaaaDoor
open Go.RowKit

theorem implBegin_any (id st op arg pc til : Int) (per can : Bool) (r0 r1 r2 r3 r4 code res : Int) (o a u : Int) (w : World) (id' st' op' arg' pc' til' : Int) (per' can' : Bool) (s0 s1 s2 s3 s4 code' res' c : Int) (hX : begB id st op arg pc til per can r0 r1 r2 r3 r4 code res o a u = (⟨id', st', op', arg', pc', til', per', can', s0, s1, s2, s3, s4, code', res'⟩, c)) :
    Calls Tryd.prog 6 #[.agg #[.int .i64 id, .int .i64 st, .int .i64 op, .int .i64 arg, .int .i64 pc, .int .i64 til, .bool per, .bool can, .int .i64 r0, .int .i64 r1, .int .i64 r2, .int .i64 r3, .int .i64 r4, .int .i64 code, .int .i64 res], .int .i64 o, .int .i64 a, .int .i64 u] w fun e w' => e = .returned (.tuple #[.agg #[.int .i64 id', .int .i64 st', .int .i64 op', .int .i64 arg', .int .i64 pc', .int .i64 til', .bool per', .bool can', .int .i64 s0, .int .i64 s1, .int .i64 s2, .int .i64 s3, .int .i64 s4, .int .i64 code', .int .i64 res'], .int .i64 c]) ∧ Below w.heap.size w w' := by
  cases h : thB id st op arg pc til per can r0 r1 r2 r3 r4 code res
  · rw [begB_bad id st op arg pc til per can r0 r1 r2 r3 r4 code res o a u h] at hX; cases hX; exact implBegin_bad id st op arg pc til per can r0 r1 r2 r3 r4 code res o a u w h
  cases h1 : (opB o && argB o a && tilB o u)
  · rw [begB_range id st op arg pc til per can r0 r1 r2 r3 r4 code res o a u h h1] at hX; cases hX; exact implBegin_range id st op arg pc til per can r0 r1 r2 r3 r4 code res o a u w h h1
  have g := h1
  simp only [Bool.and_eq_true] at g
  by_cases hs : st = 0
  · subst hs; rw [begB_ok _ _ _ _ _ _ _ _ _ _ _ _ _ _ o a u h h1] at hX; cases hX; exact implBegin_ok _ 0 _ _ _ _ _ _ _ _ _ _ _ _ _ o a u w h g.1.1 g.1.2 g.2 rfl
  · rw [begB_busy id st op arg pc til per can r0 r1 r2 r3 r4 code res o a u h h1 hs] at hX; cases hX; exact implBegin_busy id st op arg pc til per can r0 r1 r2 r3 r4 code res o a u w h g.1.1 g.1.2 g.2 (by simpa using hs)

theorem specBegin_any (id st op arg pc til : Int) (per can : Bool) (r0 r1 r2 r3 r4 code res : Int) (o a u : Int) (w : World) (id' st' op' arg' pc' til' : Int) (per' can' : Bool) (s0 s1 s2 s3 s4 code' res' c : Int) (hX : begB id st op arg pc til per can r0 r1 r2 r3 r4 code res o a u = (⟨id', st', op', arg', pc', til', per', can', s0, s1, s2, s3, s4, code', res'⟩, c)) :
    Calls Tryd.prog 7 #[.agg #[.int .i64 id, .int .i64 st, .int .i64 op, .int .i64 arg, .int .i64 pc, .int .i64 til, .bool per, .bool can, .int .i64 r0, .int .i64 r1, .int .i64 r2, .int .i64 r3, .int .i64 r4, .int .i64 code, .int .i64 res], .int .i64 o, .int .i64 a, .int .i64 u] w fun e w' => e = .returned (.tuple #[.agg #[.int .i64 id', .int .i64 st', .int .i64 op', .int .i64 arg', .int .i64 pc', .int .i64 til', .bool per', .bool can', .int .i64 s0, .int .i64 s1, .int .i64 s2, .int .i64 s3, .int .i64 s4, .int .i64 code', .int .i64 res'], .int .i64 c]) ∧ Below w.heap.size w w' := by
  cases h : thB id st op arg pc til per can r0 r1 r2 r3 r4 code res
  · rw [begB_bad id st op arg pc til per can r0 r1 r2 r3 r4 code res o a u h] at hX; cases hX; exact specBegin_bad id st op arg pc til per can r0 r1 r2 r3 r4 code res o a u w h
  cases h1 : (opB o && argB o a && tilB o u)
  · rw [begB_range id st op arg pc til per can r0 r1 r2 r3 r4 code res o a u h h1] at hX; cases hX; exact specBegin_range id st op arg pc til per can r0 r1 r2 r3 r4 code res o a u w h h1
  have g := h1
  simp only [Bool.and_eq_true] at g
  by_cases hs : st = 0
  · subst hs; rw [begB_ok _ _ _ _ _ _ _ _ _ _ _ _ _ _ o a u h h1] at hX; cases hX; exact specBegin_ok _ 0 _ _ _ _ _ _ _ _ _ _ _ _ _ o a u w h g.1.1 g.1.2 g.2 rfl
  · rw [begB_busy id st op arg pc til per can r0 r1 r2 r3 r4 code res o a u h h1 hs] at hX; cases hX; exact specBegin_busy id st op arg pc til per can r0 r1 r2 r3 r4 code res o a u w h g.1.1 g.1.2 g.2 (by simpa using hs)

end Go.Proofs.YtepjaahclcpaaaaDoor
