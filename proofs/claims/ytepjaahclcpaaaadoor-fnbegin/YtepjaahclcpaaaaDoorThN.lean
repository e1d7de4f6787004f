/-
  Threads (chapter 3): NewThread and BeginCall.
-/
import Derived.Test.YtepjaahclcpaaaaDoorThB
namespace Go.Proofs.YtepjaahclcpaaaaDoor
open Go.RowKit

/-- A thread's fields. -/
structure Th where
  id : Int
  st : Int
  op : Int
  arg : Int
  pc : Int
  til : Int
  per : Bool
  can : Bool
  r0 : Int
  r1 : Int
  r2 : Int
  r3 : Int
  r4 : Int
  code : Int
  res : Int

def thZero : Th := ⟨0, 0, 0, 0, 0, 0, false, false, 0, 0, 0, 0, 0, 0, 0⟩
def newB (n : Int) : Th × Int := if inB n 0 3 = true then (⟨n, 0, 0, 0, 0, 0, false, false, 0, 0, 0, 0, 0, 0, 0⟩, 0) else (thZero, 4)
def begB (id st op arg pc til : Int) (per can : Bool) (r0 r1 r2 r3 r4 code res : Int) (o a u : Int) : Th × Int :=
  if thB id st op arg pc til per can r0 r1 r2 r3 r4 code res = true then (if (opB o && argB o a && tilB o u) = true then (if st = 0 then (⟨id, 1, o, a, 0, u, false, false, 0, 0, 0, 0, 0, 0, 0⟩, 0) else (⟨id, st, op, arg, pc, til, per, can, r0, r1, r2, r3, r4, code, res⟩, 9)) else (thZero, 4)) else (thZero, 1)
def canB (id st op arg pc til : Int) (per can : Bool) (r0 r1 r2 r3 r4 code res : Int) : Th × Int :=
  if thB id st op arg pc til per can r0 r1 r2 r3 r4 code res = true then (if waitB op = true then (⟨id, 1, op, arg, pc, til, per, true, r0, r1, r2, r3, r4, code, res⟩, 0) else (⟨id, st, op, arg, pc, til, per, can, r0, r1, r2, r3, r4, code, res⟩, 10)) else (thZero, 1)

set_option maxHeartbeats 1000000 in
theorem implNewThread_any (n : Int) (w : World) (id' st' op' arg' pc' til' : Int) (per' can' : Bool) (s0 s1 s2 s3 s4 code' res' c : Int) (hX : newB n = (⟨id', st', op', arg', pc', til', per', can', s0, s1, s2, s3, s4, code', res'⟩, c)) :
    Calls Tryd.prog 9 #[.int .i64 n] w fun e w' => e = .returned (.tuple #[.agg #[.int .i64 id', .int .i64 st', .int .i64 op', .int .i64 arg', .int .i64 pc', .int .i64 til', .bool per', .bool can', .int .i64 s0, .int .i64 s1, .int .i64 s2, .int .i64 s3, .int .i64 s4, .int .i64 code', .int .i64 res'], .int .i64 c]) ∧ Below w.heap.size w w' := by
  unfold newB at hX
  cases h : inB n 0 3
  all_goals
    rw [h] at hX
    first | rw [if_pos rfl] at hX | rw [if_neg (by decide)] at hX
    cases hX
    go_enter Tryd.func9, Tryd.ntmps9
    go_wp2_with (go_at_call 25; refine (idOK_any _ _).mono ?_; rintro e w' ⟨rfl, rfl⟩)
    refine bodyPost_ret (v := .tuple #[.agg _, .int .i64 _]) (by simp [results, Tryd.results9, go_sem]) rfl ⟨rfl, ?_⟩
    exact below_alloc _ _

theorem begB_bad (id st op arg pc til : Int) (per can : Bool) (r0 r1 r2 r3 r4 code res : Int) (o a u : Int) (h : thB id st op arg pc til per can r0 r1 r2 r3 r4 code res = false) : begB id st op arg pc til per can r0 r1 r2 r3 r4 code res o a u = (thZero, 1) := by unfold begB; rw [h]; rfl
theorem begB_range (id st op arg pc til : Int) (per can : Bool) (r0 r1 r2 r3 r4 code res : Int) (o a u : Int) (h : thB id st op arg pc til per can r0 r1 r2 r3 r4 code res = true) (h1 : (opB o && argB o a && tilB o u) = false) : begB id st op arg pc til per can r0 r1 r2 r3 r4 code res o a u = (thZero, 4) := by unfold begB; rw [h, h1]; rfl
theorem begB_busy (id st op arg pc til : Int) (per can : Bool) (r0 r1 r2 r3 r4 code res : Int) (o a u : Int) (h : thB id st op arg pc til per can r0 r1 r2 r3 r4 code res = true) (h1 : (opB o && argB o a && tilB o u) = true) (h2 : st ≠ 0) : begB id st op arg pc til per can r0 r1 r2 r3 r4 code res o a u = (⟨id, st, op, arg, pc, til, per, can, r0, r1, r2, r3, r4, code, res⟩, 9) := by unfold begB; rw [h, h1, if_neg h2]; rfl
theorem begB_ok (id op arg pc til : Int) (per can : Bool) (r0 r1 r2 r3 r4 code res : Int) (o a u : Int) (h : thB id 0 op arg pc til per can r0 r1 r2 r3 r4 code res = true) (h1 : (opB o && argB o a && tilB o u) = true) : begB id 0 op arg pc til per can r0 r1 r2 r3 r4 code res o a u = (⟨id, 1, o, a, 0, u, false, false, 0, 0, 0, 0, 0, 0, 0⟩, 0) := by unfold begB; rw [h, h1]; rfl
end Go.Proofs.YtepjaahclcpaaaaDoor
