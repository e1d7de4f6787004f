/-
  Threads (chapter 3): contracts of ThreadOK, the program's, and of what it calls.
-/
import Derived.Test.YthianfhfamkcmaaJ01
namespace Go.Proofs.Ythianfhfamkcmaa
open Go.RowKit

theorem wordsB_regs (r0 r1 r2 r3 r4 : Int) : wordsB [r0, r1, r2, r3, r4] = regsB r0 r1 r2 r3 r4 := by
  simp [wordsB, regsB, Bool.and_assoc]

/-- The registers of a thread that lies in a block of its own, as a slice. -/
theorem rd_regs (w : World) (id st op arg pc til : Int) (per can : Bool) (r0 r1 r2 r3 r4 code res : Int) : Rd (w.alloc (.cells #[.int .i64 id, .int .i64 st, .int .i64 op, .int .i64 arg, .int .i64 pc, .int .i64 til, .bool per, .bool can, .int .i64 r0, .int .i64 r1, .int .i64 r2, .int .i64 r3, .int .i64 r4, .int .i64 code, .int .i64 res] 150)) (some ⟨w.heap.size, 8, none⟩) [r0, r1, r2, r3, r4] := by
  intro i hi
  refine ⟨_, 8, rfl, ?_⟩
  have hi' : i < 5 := hi
  obtain rfl | rfl | rfl | rfl | rfl : i = 0 ∨ i = 1 ∨ i = 2 ∨ i = 3 ∨ i = 4 := by omega
  all_goals simp

set_option maxHeartbeats 1000000 in
theorem regsOK_any (g c : Nat) (r0 r1 r2 r3 r4 : Int) (w : World) (h : Rd w (some ⟨g, 8, none⟩) [r0, r1, r2, r3, r4]) :
    Calls Try.prog 166 #[.slice (some ⟨g, 8, none⟩) 5 c] w fun e w' => e = .returned (.bool (regsB r0 r1 r2 r3 r4)) ∧ w = w' := by
  rw [← wordsB_regs]
  exact wordsOK_any (some ⟨g, 8, none⟩) c [r0, r1, r2, r3, r4] w (by simp) h

theorem hasCall_any (id st op arg pc til : Int) (per can : Bool) (r0 r1 r2 r3 r4 code res : Int) (w : World) : Calls Try.prog 169 #[.agg #[.int .i64 id, .int .i64 st, .int .i64 op, .int .i64 arg, .int .i64 pc, .int .i64 til, .bool per, .bool can, .int .i64 r0, .int .i64 r1, .int .i64 r2, .int .i64 r3, .int .i64 r4, .int .i64 code, .int .i64 res]] w fun e w' => e = .returned (.bool (st != 0)) ∧ Below w.heap.size w w' := by
  go_enter Try.func169, Try.ntmps169
  go_wp2
  go_ret
  exact ⟨rfl, below_alloc _ _⟩

theorem mayWait_any (id st op arg pc til : Int) (per can : Bool) (r0 r1 r2 r3 r4 code res : Int) (w : World) : Calls Try.prog 178 #[.agg #[.int .i64 id, .int .i64 st, .int .i64 op, .int .i64 arg, .int .i64 pc, .int .i64 til, .bool per, .bool can, .int .i64 r0, .int .i64 r1, .int .i64 r2, .int .i64 r3, .int .i64 r4, .int .i64 code, .int .i64 res]] w fun e w' => e = .returned (.bool (waitB op)) ∧ Below w.heap.size w w' := by
  go_enter Try.func178, Try.ntmps178
  go_wp2_with (go_at_call 181; refine (implIsWaiting_any _ _).mono ?_; rintro e w' ⟨rfl, rfl⟩)
  go_ret
  exact ⟨rfl, below_alloc _ _⟩

set_option maxHeartbeats 2000000 in
theorem callOK_any (id st op arg pc til : Int) (per can : Bool) (r0 r1 r2 r3 r4 code res : Int) (w : World) : Calls Try.prog 177 #[.agg #[.int .i64 id, .int .i64 st, .int .i64 op, .int .i64 arg, .int .i64 pc, .int .i64 til, .bool per, .bool can, .int .i64 r0, .int .i64 r1, .int .i64 r2, .int .i64 r3, .int .i64 r4, .int .i64 code, .int .i64 res]] w fun e w' => e = .returned (.bool (callB op arg pc til r0 r1 r2 r3 r4 code res)) ∧ Below w.heap.size w w' := by
  have HR := Lib.hid (rd_regs w id st op arg pc til per can r0 r1 r2 r3 r4 code res)
  unfold callB
  cases h1 : opB op
  · go_enter Try.func177, Try.ntmps177
    go_wp2_with (go_at_call 108; refine (opOK_any _ _).mono ?_; rintro e w' ⟨rfl, rfl⟩)
    go_ret
    exact ⟨ret_bool rfl, below_alloc _ _⟩
  cases h2 : argB op arg
  · go_enter Try.func177, Try.ntmps177
    go_wp2_with (first | (go_at_call 108; refine (opOK_any _ _).mono ?_; rintro e w' ⟨rfl, rfl⟩) | (go_at_call 74; refine (argOK_any _ _ _).mono ?_; rintro e w' ⟨rfl, rfl⟩))
    go_ret
    exact ⟨ret_bool rfl, below_alloc _ _⟩
  cases h3 : tilB op til
  · go_enter Try.func177, Try.ntmps177
    go_wp2_with (first | (go_at_call 108; refine (opOK_any _ _).mono ?_; rintro e w' ⟨rfl, rfl⟩) | (go_at_call 74; refine (argOK_any _ _ _).mono ?_; rintro e w' ⟨rfl, rfl⟩) | (go_at_call 180; refine (untilOK_any _ _ _).mono ?_; rintro e w' ⟨rfl, rfl⟩))
    go_ret
    exact ⟨ret_bool rfl, below_alloc _ _⟩
  cases h4 : inB pc 0 16
  · have h4' := inB_false h4
    clear h4
    by_cases h5 : 0 ≤ pc
    all_goals
      have h6 : pc < 0 ∨ 16 < pc := by omega
      clear h4'
      first | (have h7 : 16 < pc := by omega) | (have h7 : pc < 0 := by omega)
      clear h6
      go_enter Try.func177, Try.ntmps177
      go_wp2_with (first | (go_at_call 108; refine (opOK_any _ _).mono ?_; rintro e w' ⟨rfl, rfl⟩) | (go_at_call 74; refine (argOK_any _ _ _).mono ?_; rintro e w' ⟨rfl, rfl⟩) | (go_at_call 180; refine (untilOK_any _ _ _).mono ?_; rintro e w' ⟨rfl, rfl⟩))
      go_ret
      exact ⟨ret_bool rfl, below_alloc _ _⟩
  obtain ⟨h5, h6⟩ := inB_true h4
  clear h4
  cases h7 : regsB r0 r1 r2 r3 r4
  all_goals
    cases h8 : (code == 0) <;> cases h9 : (res == 0)
  all_goals
    go_enter Try.func177, Try.ntmps177
    go_wp2_with (first | (go_at_call 108; refine (opOK_any _ _).mono ?_; rintro e w' ⟨rfl, rfl⟩) | (go_at_call 74; refine (argOK_any _ _ _).mono ?_; rintro e w' ⟨rfl, rfl⟩) | (go_at_call 180; refine (untilOK_any _ _ _).mono ?_; rintro e w' ⟨rfl, rfl⟩) | (go_at_call 166; refine (regsOK_any _ _ r0 r1 r2 r3 r4 _ HR.out).mono ?_; rintro e w' ⟨rfl, rfl⟩))
    go_ret
    exact ⟨ret_bool rfl, below_alloc _ _⟩
end Go.Proofs.Ythianfhfamkcmaa
