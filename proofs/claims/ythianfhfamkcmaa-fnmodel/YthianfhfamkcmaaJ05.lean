/-
  Threads (chapter 3): contracts of idleOK and of the program's ThreadOK.
-/
import Derived.Test.YthianfhfamkcmaaJ03
namespace Go.Proofs.Ythianfhfamkcmaa
open Go.RowKit

theorem idle_bad {op arg pc til : Int} {per can : Bool} {r0 r1 r2 r3 r4 code res : Int} (h : bareB op arg pc til per can r0 r1 r2 r3 r4 = false ∨ inB code 0 19 = false ∨ inB res 0 1000000000 = false) : idleB op arg pc til per can r0 r1 r2 r3 r4 code res = false := by
  unfold idleB
  rcases h with h | h | h <;> simp [h]

set_option maxHeartbeats 400000 in
theorem resultOK_any (n : Int) (w : World) : Calls Try.prog 71 #[.int .i64 n] w fun e w' => e = .returned (.bool (inB n 0 1000000000)) ∧ w = w' := by
  by_cases h1 : 0 ≤ n <;> by_cases h2 : n ≤ 1000000000
  all_goals
    go_enter Try.func71, Try.ntmps71
    go_wp2
    go_ret
    exact ⟨ret_bool (by simp [inB]; omega), rfl⟩

set_option maxHeartbeats 1000000 in
/-- The thread of an idle one with the same Id, Code and Result is compared with it. -/
theorem idleOK_any (id op arg pc til : Int) (per can : Bool) (r0 r1 r2 r3 r4 code res : Int) (w : World) :
    Calls Try.prog 176 #[.agg #[.int .i64 id, .int .i64 0, .int .i64 op, .int .i64 arg, .int .i64 pc, .int .i64 til, .bool per, .bool can, .int .i64 r0, .int .i64 r1, .int .i64 r2, .int .i64 r3, .int .i64 r4, .int .i64 code, .int .i64 res]] w fun e w' => e = .returned (.bool (idleB op arg pc til per can r0 r1 r2 r3 r4 code res)) ∧ Below w.heap.size w w' := by
  have hq := fun wx => run_eql_thread id 0 op arg pc til per can r0 r1 r2 r3 r4 code res id 0 0 0 0 0 false false 0 0 0 0 0 code res wx
  rw [eqTh_bare] at hq
  cases h1 : bareB op arg pc til per can r0 r1 r2 r3 r4
  · have HV := Lib.hid (idle_bad (code := code) (res := res) (.inl h1))
    simp only [h1, Bool.and_false] at hq
    clear h1
    go_enter Try.func176, Try.ntmps176
    go_wp2
    go_ret
    exact ⟨ret_bool HV.out.symm, below_alloc2 _ _ _⟩
  simp only [h1, beq_self_eq_true, Bool.and_true] at hq
  cases h2 : inB code 0 19
  · have HV := Lib.hid (idle_bad (op := op) (arg := arg) (pc := pc) (til := til) (per := per) (can := can) (r0 := r0) (r1 := r1) (r2 := r2) (r3 := r3) (r4 := r4) (res := res) (.inr (.inl h2)))
    clear h1
    go_enter Try.func176, Try.ntmps176
    go_wp2_with (go_at_call 129; refine (codeOK_any _ _).mono ?_; rintro e w' ⟨rfl, rfl⟩)
    go_ret
    exact ⟨ret_bool HV.out.symm, below_alloc2 _ _ _⟩
  have HV : Hid (idleB op arg pc til per can r0 r1 r2 r3 r4 code res = inB res 0 1000000000) := by unfold Hid idleB; rw [h1, h2]; rfl
  clear h1
  go_enter Try.func176, Try.ntmps176
  go_wp2_with (first | (go_at_call 129; refine (codeOK_any _ _).mono ?_; rintro e w' ⟨rfl, rfl⟩) | (go_at_call 71; refine (resultOK_any _ _).mono ?_; rintro e w' ⟨rfl, rfl⟩))
  go_ret
  exact ⟨ret_bool HV.out.symm, below_alloc2 _ _ _⟩
end Go.Proofs.Ythianfhfamkcmaa
