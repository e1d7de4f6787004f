/-
  Threads (chapter 3): the contract of the program's ThreadOK.
-/
import Derived.Test.YthianfhfamkcmaaJ05
namespace Go.Proofs.Ythianfhfamkcmaa
open Go.RowKit

theorem thB_id (id st op arg pc til : Int) (per can : Bool) (r0 r1 r2 r3 r4 code res : Int) (h : inB id 0 3 = false) : thB id st op arg pc til per can r0 r1 r2 r3 r4 code res = false := by unfold thB; rw [h]; rfl
theorem thB_idle (id op arg pc til : Int) (per can : Bool) (r0 r1 r2 r3 r4 code res : Int) (h : inB id 0 3 = true) : thB id 0 op arg pc til per can r0 r1 r2 r3 r4 code res = idleB op arg pc til per can r0 r1 r2 r3 r4 code res := by
  unfold thB; rw [h]; rfl
theorem thB_runs (id op arg pc til : Int) (per can : Bool) (r0 r1 r2 r3 r4 code res : Int) (h : inB id 0 3 = true) : thB id 1 op arg pc til per can r0 r1 r2 r3 r4 code res = callB op arg pc til r0 r1 r2 r3 r4 code res := by
  unfold thB; rw [h]; rfl
theorem thB_parked (id op arg pc til : Int) (per can : Bool) (r0 r1 r2 r3 r4 code res : Int) (h : inB id 0 3 = true) : thB id 2 op arg pc til per can r0 r1 r2 r3 r4 code res = (callB op arg pc til r0 r1 r2 r3 r4 code res && waitB op) := by
  unfold thB; rw [h]; rfl
theorem thB_other (id st op arg pc til : Int) (per can : Bool) (r0 r1 r2 r3 r4 code res : Int) (h0 : st ≠ 0) (h1 : st ≠ 1) (h2 : st ≠ 2) : thB id st op arg pc til per can r0 r1 r2 r3 r4 code res = false := by
  unfold thB; rw [if_neg h0, if_neg h1, if_neg h2, Bool.and_false]

set_option maxHeartbeats 1000000 in
theorem implThreadOK_any (id st op arg pc til : Int) (per can : Bool) (r0 r1 r2 r3 r4 code res : Int) (w : World) : Calls Try.prog 167 #[.agg #[.int .i64 id, .int .i64 st, .int .i64 op, .int .i64 arg, .int .i64 pc, .int .i64 til, .bool per, .bool can, .int .i64 r0, .int .i64 r1, .int .i64 r2, .int .i64 r3, .int .i64 r4, .int .i64 code, .int .i64 res]] w fun e w' => e = .returned (.bool (thB id st op arg pc til per can r0 r1 r2 r3 r4 code res)) ∧ Below w.heap.size w w' := by
  cases h0 : inB id 0 3
  · have HV := Lib.hid (thB_id id st op arg pc til per can r0 r1 r2 r3 r4 code res h0)
    go_enter Try.func167, Try.ntmps167
    go_wp2_with (go_at_call 107; refine (idOK_any _ _).mono ?_; rintro e w' ⟨rfl, rfl⟩)
    go_ret
    exact ⟨ret_bool HV.out.symm, below_alloc _ _⟩
  by_cases s0 : st = 0
  · subst s0
    have HV := Lib.hid (thB_idle id op arg pc til per can r0 r1 r2 r3 r4 code res h0)
    go_enter Try.func167, Try.ntmps167
    go_wp2_with (first | (go_at_call 107; refine (idOK_any _ _).mono ?_; rintro e w' ⟨rfl, rfl⟩) | (go_at_call 176; refine (idleOK_any _ _ _ _ _ _ _ _ _ _ _ _ _ _ _).mono ?_; rintro e w1 ⟨rfl, hb⟩))
    go_ret
    exact ⟨ret_bool HV.out.symm, below_trans (below_alloc _ _) hb⟩
  by_cases s1 : st = 1
  · subst s1
    clear s0
    have HV := Lib.hid (thB_runs id op arg pc til per can r0 r1 r2 r3 r4 code res h0)
    go_enter Try.func167, Try.ntmps167
    go_wp2_with (first | (go_at_call 107; refine (idOK_any _ _).mono ?_; rintro e w' ⟨rfl, rfl⟩) | (go_at_call 177; refine (callOK_any _ _ _ _ _ _ _ _ _ _ _ _ _ _ _ _).mono ?_; rintro e w1 ⟨rfl, hb⟩))
    go_ret
    exact ⟨ret_bool HV.out.symm, below_trans (below_alloc _ _) hb⟩
  by_cases s2 : st = 2
  · subst s2
    clear s0 s1
    have HV := Lib.hid (thB_parked id op arg pc til per can r0 r1 r2 r3 r4 code res h0)
    cases h1 : callB op arg pc til r0 r1 r2 r3 r4 code res
    · rw [h1, Bool.false_and] at HV
      go_enter Try.func167, Try.ntmps167
      go_wp2_with (first | (go_at_call 107; refine (idOK_any _ _).mono ?_; rintro e w' ⟨rfl, rfl⟩) | (go_at_call 177; refine (callOK_any _ _ _ _ _ _ _ _ _ _ _ _ _ _ _ _).mono ?_; rintro e w1 ⟨rfl, hb⟩))
      go_ret
      exact ⟨ret_bool HV.out.symm, below_trans (below_alloc _ _) hb⟩
    · rw [h1, Bool.true_and] at HV
      go_enter Try.func167, Try.ntmps167
      go_wp2_with (first | (go_at_call 107; refine (idOK_any _ _).mono ?_; rintro e w' ⟨rfl, rfl⟩) | (go_at_call 177; refine (callOK_any _ _ _ _ _ _ _ _ _ _ _ _ _ _ _ _).mono ?_; rintro e w1 ⟨rfl, hb⟩; obtain ⟨hc, hf⟩ := bcell hb; have HB := Lib.hid hb; clear hb) | (go_at_call 178; refine (mayWait_any _ _ _ _ _ _ _ _ _ _ _ _ _ _ _ _).mono ?_; rintro e w2 ⟨rfl, hb2⟩))
      go_ret
      exact ⟨ret_bool HV.out.symm, below_trans (below_trans (below_alloc _ _) HB.out) hb2⟩
  · have HV := Lib.hid (thB_other id st op arg pc til per can r0 r1 r2 r3 r4 code res s0 s1 s2)
    have g0 : (st == 0) = false := by simpa using s0
    have g1 : (st == 1) = false := by simpa using s1
    have g2 : (st == 2) = false := by simpa using s2
    clear s0 s1 s2
    go_enter Try.func167, Try.ntmps167
    go_wp2_with (go_at_call 107; refine (idOK_any _ _).mono ?_; rintro e w' ⟨rfl, rfl⟩)
    go_ret
    exact ⟨ret_bool HV.out.symm, below_alloc _ _⟩
end Go.Proofs.Ythianfhfamkcmaa
