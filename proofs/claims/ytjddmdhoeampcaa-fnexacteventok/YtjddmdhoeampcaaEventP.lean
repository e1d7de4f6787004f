/-
  What an event comes to (chapter 9): the happenings' methods told and right, happeningOf; two events compared.
-/
import Derived.Test.YtjddmdhoeampcaaEvent
import Derived.Handy
namespace Go.Proofs.Ytjddmdhoeampcaa
open Go.RowKit

def eqEv (k th op arg n k' th' op' arg' n' : Int) : Bool := k == k' && th == th' && op == op' && arg == arg' && n == n'
theorem run_eq_event (k th op arg n k' th' op' arg' n' : Int) (w : World) :
    (Op.equalIn 10000 62 (.agg #[.int .i64 k, .int .i64 th, .int .i64 op, .int .i64 arg, .int .i64 n]) (.agg #[.int .i64 k', .int .i64 th', .int .i64 op', .int .i64 arg', .int .i64 n'])).run Try.prog w = .ok (eqEv k th op arg n k' th' op' arg' n') w := by
  have hq : Try.prog.stoodInHeld 62 = false := by kernel_rfl
  rw [show (10000 : Nat) = 9999 + 1 from rfl, run_equalIn_struct w 9999 62 _ _ (by kernel_rfl) hq]
  simp [go_sem, Op.eqFields, Program.fieldsOf, Try.underlying62, part, isAgg, run_underlying Try.underlying3]
  unfold eqEv
  clear hq
  refine if h0 : k = k' then ?_ else (by simp [h0])
  refine if h1 : th = th' then ?_ else (by simp [h1])
  refine if h2 : op = op' then ?_ else (by simp [h2])
  refine if h3 : arg = arg' then ?_ else (by simp [h3])
  refine if h4 : n = n' then ?_ else (by simp [h4])
  simp [h0, h1, h2, h3, h4]
theorem run_eql_event (k th op arg n k' th' op' arg' n' : Int) (w : World) :
    (binOp .eql 62 (.agg #[.int .i64 k, .int .i64 th, .int .i64 op, .int .i64 arg, .int .i64 n]) (.agg #[.int .i64 k', .int .i64 th', .int .i64 op', .int .i64 arg', .int .i64 n'])).run Try.prog w = .ok (.bool (eqEv k th op arg n k' th' op' arg' n')) w := by
  rw [run_eql_struct, run_eq_event]; rfl

set_option maxHeartbeats 400000 in
theorem spanOK_any (n : Int) (w : World) : Calls Try.prog 143 #[.int .i64 n] w fun e w' => e = .returned (.bool (inB n 0 1000)) ∧ w = w' := by
  by_cases h1 : 0 ≤ n <;> by_cases h2 : n ≤ 1000
  all_goals
    go_enter Try.func143, Try.ntmps143
    go_wp2
    go_ret
    exact ⟨ret_bool (by simp [inB]; omega), rfl⟩

set_option maxHeartbeats 400000 in
theorem callBegins_told (th op arg n : Int) (w : World) : Calls Try.prog 142 #[.agg #[.int .i64 th, .int .i64 op, .int .i64 arg, .int .i64 n]] w fun e w' => e = .returned (.agg #[.int .i64 1, .int .i64 th, .int .i64 op, .int .i64 arg, .int .i64 n]) ∧ Below w.heap.size w w' := by
  go_enter Try.func142, Try.ntmps142
  go_wp2
  refine bodyPost_ret (v := .agg #[.int .i64 1, .int .i64 th, .int .i64 op, .int .i64 arg, .int .i64 n]) (by simp [results, Try.results142, go_sem]) rfl ⟨rfl, below_alloc2 _ _ _⟩

set_option maxHeartbeats 400000 in
theorem stepTaken_told (th : Int) (w : World) : Calls Try.prog 145 #[.agg #[.int .i64 th]] w fun e w' => e = .returned (.agg #[.int .i64 2, .int .i64 th, .int .i64 0, .int .i64 0, .int .i64 0]) ∧ Below w.heap.size w w' := by
  go_enter Try.func145, Try.ntmps145
  go_wp2
  refine bodyPost_ret (v := .agg #[.int .i64 2, .int .i64 th, .int .i64 0, .int .i64 0, .int .i64 0]) (by simp [results, Try.results145, go_sem]) rfl ⟨rfl, below_alloc2 _ _ _⟩

set_option maxHeartbeats 400000 in
theorem stepTaken_right (th : Int) (w : World) : Calls Try.prog 144 #[.agg #[.int .i64 th]] w fun e w' => e = .returned (.bool (inB th 0 3)) ∧ Below w.heap.size w w' := by
  go_enter Try.func144, Try.ntmps144
  go_wp2_with ((go_at_call 68; refine (idOK_any _ _).mono ?_; rintro e w' ⟨rfl, rfl⟩))
  go_ret
  exact ⟨rfl, below_alloc _ _⟩

set_option maxHeartbeats 400000 in
theorem timePasses_told (n : Int) (w : World) : Calls Try.prog 147 #[.agg #[.int .i64 n]] w fun e w' => e = .returned (.agg #[.int .i64 3, .int .i64 0, .int .i64 0, .int .i64 0, .int .i64 n]) ∧ Below w.heap.size w w' := by
  go_enter Try.func147, Try.ntmps147
  go_wp2
  refine bodyPost_ret (v := .agg #[.int .i64 3, .int .i64 0, .int .i64 0, .int .i64 0, .int .i64 n]) (by simp [results, Try.results147, go_sem]) rfl ⟨rfl, below_alloc2 _ _ _⟩

set_option maxHeartbeats 400000 in
theorem timePasses_right (n : Int) (w : World) : Calls Try.prog 146 #[.agg #[.int .i64 n]] w fun e w' => e = .returned (.bool (inB n 0 1000)) ∧ Below w.heap.size w w' := by
  go_enter Try.func146, Try.ntmps146
  go_wp2_with ((go_at_call 143; refine (spanOK_any _ _).mono ?_; rintro e w' ⟨rfl, rfl⟩))
  go_ret
  exact ⟨rfl, below_alloc _ _⟩

set_option maxHeartbeats 400000 in
theorem cancelled_told (th : Int) (w : World) : Calls Try.prog 149 #[.agg #[.int .i64 th]] w fun e w' => e = .returned (.agg #[.int .i64 4, .int .i64 th, .int .i64 0, .int .i64 0, .int .i64 0]) ∧ Below w.heap.size w w' := by
  go_enter Try.func149, Try.ntmps149
  go_wp2
  refine bodyPost_ret (v := .agg #[.int .i64 4, .int .i64 th, .int .i64 0, .int .i64 0, .int .i64 0]) (by simp [results, Try.results149, go_sem]) rfl ⟨rfl, below_alloc2 _ _ _⟩

set_option maxHeartbeats 400000 in
theorem cancelled_right (th : Int) (w : World) : Calls Try.prog 148 #[.agg #[.int .i64 th]] w fun e w' => e = .returned (.bool (inB th 0 3)) ∧ Below w.heap.size w w' := by
  go_enter Try.func148, Try.ntmps148
  go_wp2_with ((go_at_call 68; refine (idOK_any _ _).mono ?_; rintro e w' ⟨rfl, rfl⟩))
  go_ret
  exact ⟨rfl, below_alloc _ _⟩

set_option maxHeartbeats 400000 in
theorem woken_told (th : Int) (w : World) : Calls Try.prog 151 #[.agg #[.int .i64 th]] w fun e w' => e = .returned (.agg #[.int .i64 5, .int .i64 th, .int .i64 0, .int .i64 0, .int .i64 0]) ∧ Below w.heap.size w w' := by
  go_enter Try.func151, Try.ntmps151
  go_wp2
  refine bodyPost_ret (v := .agg #[.int .i64 5, .int .i64 th, .int .i64 0, .int .i64 0, .int .i64 0]) (by simp [results, Try.results151, go_sem]) rfl ⟨rfl, below_alloc2 _ _ _⟩

set_option maxHeartbeats 400000 in
theorem woken_right (th : Int) (w : World) : Calls Try.prog 150 #[.agg #[.int .i64 th]] w fun e w' => e = .returned (.bool (inB th 0 3)) ∧ Below w.heap.size w w' := by
  go_enter Try.func150, Try.ntmps150
  go_wp2_with ((go_at_call 68; refine (idOK_any _ _).mono ?_; rintro e w' ⟨rfl, rfl⟩))
  go_ret
  exact ⟨rfl, below_alloc _ _⟩

/-- What a call that begins asks. -/
def beginsB (th op arg n : Int) : Bool := inB th 0 3 && opB op && argB op arg && inB n 0 (if waitB op = true then 1000 else 0)
set_option maxHeartbeats 1000000 in
theorem callBegins_right (th op arg n : Int) (w : World) : Calls Try.prog 141 #[.agg #[.int .i64 th, .int .i64 op, .int .i64 arg, .int .i64 n]] w fun e w' => e = .returned (.bool (beginsB th op arg n)) ∧ Below w.heap.size w w' := by
  cases h1 : inB th 0 3
  · have HV : Hid (beginsB th op arg n = false) := by unfold Hid beginsB; rw [h1]; rfl
    go_enter Try.func141, Try.ntmps141
    go_wp2_with (first | (go_at_call 68; refine (idOK_any _ _).mono ?_; rintro e w' ⟨rfl, rfl⟩) | (go_at_call 69; refine (opOK_any _ _).mono ?_; rintro e w' ⟨rfl, rfl⟩) | (go_at_call 70; refine (argOK_any _ _ _).mono ?_; rintro e w' ⟨rfl, rfl⟩) | (go_at_call 143; refine (spanOK_any _ _).mono ?_; rintro e w' ⟨rfl, rfl⟩) | (go_at_call 122; refine (implIsWaiting_any _ _).mono ?_; rintro e w' ⟨rfl, rfl⟩))
    go_ret
    exact ⟨ret_bool HV.out.symm, below_alloc _ _⟩
  cases h2 : opB op
  · have HV : Hid (beginsB th op arg n = false) := by unfold Hid beginsB; rw [h1, h2]; rfl
    go_enter Try.func141, Try.ntmps141
    go_wp2_with (first | (go_at_call 68; refine (idOK_any _ _).mono ?_; rintro e w' ⟨rfl, rfl⟩) | (go_at_call 69; refine (opOK_any _ _).mono ?_; rintro e w' ⟨rfl, rfl⟩) | (go_at_call 70; refine (argOK_any _ _ _).mono ?_; rintro e w' ⟨rfl, rfl⟩) | (go_at_call 143; refine (spanOK_any _ _).mono ?_; rintro e w' ⟨rfl, rfl⟩) | (go_at_call 122; refine (implIsWaiting_any _ _).mono ?_; rintro e w' ⟨rfl, rfl⟩))
    go_ret
    exact ⟨ret_bool HV.out.symm, below_alloc _ _⟩
  cases h3 : argB op arg
  · have HV : Hid (beginsB th op arg n = false) := by unfold Hid beginsB; rw [h1, h2, h3]; rfl
    go_enter Try.func141, Try.ntmps141
    go_wp2_with (first | (go_at_call 68; refine (idOK_any _ _).mono ?_; rintro e w' ⟨rfl, rfl⟩) | (go_at_call 69; refine (opOK_any _ _).mono ?_; rintro e w' ⟨rfl, rfl⟩) | (go_at_call 70; refine (argOK_any _ _ _).mono ?_; rintro e w' ⟨rfl, rfl⟩) | (go_at_call 143; refine (spanOK_any _ _).mono ?_; rintro e w' ⟨rfl, rfl⟩) | (go_at_call 122; refine (implIsWaiting_any _ _).mono ?_; rintro e w' ⟨rfl, rfl⟩))
    go_ret
    exact ⟨ret_bool HV.out.symm, below_alloc _ _⟩
  cases h4 : inB n 0 1000
  · have HV : Hid (beginsB th op arg n = false) := by
      have h := inB_false h4
      unfold Hid beginsB
      have h5 : inB n 0 (if waitB op = true then 1000 else 0) = false := by rw [Bool.eq_false_iff]; intro hh; have := inB_iff.1 hh; split at this <;> omega
      rw [h5, Bool.and_false]
    go_enter Try.func141, Try.ntmps141
    go_wp2_with (first | (go_at_call 68; refine (idOK_any _ _).mono ?_; rintro e w' ⟨rfl, rfl⟩) | (go_at_call 69; refine (opOK_any _ _).mono ?_; rintro e w' ⟨rfl, rfl⟩) | (go_at_call 70; refine (argOK_any _ _ _).mono ?_; rintro e w' ⟨rfl, rfl⟩) | (go_at_call 143; refine (spanOK_any _ _).mono ?_; rintro e w' ⟨rfl, rfl⟩) | (go_at_call 122; refine (implIsWaiting_any _ _).mono ?_; rintro e w' ⟨rfl, rfl⟩))
    go_ret
    exact ⟨ret_bool HV.out.symm, below_alloc _ _⟩
  by_cases h5 : n = 0
  · have HV : Hid (beginsB th op arg n = true) := by
      unfold Hid beginsB
      have h6 : inB n 0 (if waitB op = true then 1000 else 0) = true := by rw [inB_iff, h5]; split <;> omega
      rw [h1, h2, h3, h6]; rfl
    subst h5
    go_enter Try.func141, Try.ntmps141
    go_wp2_with (first | (go_at_call 68; refine (idOK_any _ _).mono ?_; rintro e w' ⟨rfl, rfl⟩) | (go_at_call 69; refine (opOK_any _ _).mono ?_; rintro e w' ⟨rfl, rfl⟩) | (go_at_call 70; refine (argOK_any _ _ _).mono ?_; rintro e w' ⟨rfl, rfl⟩) | (go_at_call 143; refine (spanOK_any _ _).mono ?_; rintro e w' ⟨rfl, rfl⟩) | (go_at_call 122; refine (implIsWaiting_any _ _).mono ?_; rintro e w' ⟨rfl, rfl⟩))
    go_ret
    exact ⟨ret_bool HV.out.symm, below_alloc _ _⟩
  have g5 : (n == 0) = false := by simpa using h5
  cases h6 : waitB op
  · have HV : Hid (beginsB th op arg n = false) := by
      unfold Hid beginsB
      have h7 : inB n 0 (if waitB op = true then 1000 else 0) = false := by rw [Bool.eq_false_iff]; intro hh; have := inB_iff.1 hh; rw [h6, if_neg (by decide)] at this; omega
      rw [h7, Bool.and_false]
    clear h5
    go_enter Try.func141, Try.ntmps141
    go_wp2_with (first | (go_at_call 68; refine (idOK_any _ _).mono ?_; rintro e w' ⟨rfl, rfl⟩) | (go_at_call 69; refine (opOK_any _ _).mono ?_; rintro e w' ⟨rfl, rfl⟩) | (go_at_call 70; refine (argOK_any _ _ _).mono ?_; rintro e w' ⟨rfl, rfl⟩) | (go_at_call 143; refine (spanOK_any _ _).mono ?_; rintro e w' ⟨rfl, rfl⟩) | (go_at_call 122; refine (implIsWaiting_any _ _).mono ?_; rintro e w' ⟨rfl, rfl⟩))
    go_ret
    exact ⟨ret_bool HV.out.symm, below_alloc _ _⟩
  have HV : Hid (beginsB th op arg n = true) := by
    unfold Hid beginsB
    rw [h1, h2, h3, h6, if_pos rfl, h4]; rfl
  clear h5
  go_enter Try.func141, Try.ntmps141
  go_wp2_with (first | (go_at_call 68; refine (idOK_any _ _).mono ?_; rintro e w' ⟨rfl, rfl⟩) | (go_at_call 69; refine (opOK_any _ _).mono ?_; rintro e w' ⟨rfl, rfl⟩) | (go_at_call 70; refine (argOK_any _ _ _).mono ?_; rintro e w' ⟨rfl, rfl⟩) | (go_at_call 143; refine (spanOK_any _ _).mono ?_; rintro e w' ⟨rfl, rfl⟩) | (go_at_call 122; refine (implIsWaiting_any _ _).mono ?_; rintro e w' ⟨rfl, rfl⟩))
  go_ret
  exact ⟨ret_bool HV.out.symm, below_alloc _ _⟩

set_option maxHeartbeats 400000 in
theorem happening_callBegins (th op arg n : Int) (w : World) : Calls Try.prog 85 #[.agg #[.int .i64 1, .int .i64 th, .int .i64 op, .int .i64 arg, .int .i64 n]] w fun e w' => e = .returned (.iface 110 (.agg #[.int .i64 th, .int .i64 op, .int .i64 arg, .int .i64 n])) ∧ Below w.heap.size w w' := by
  go_enter Try.func85, Try.ntmps85
  go_wp2
  go_ret
  exact ⟨rfl, below_alloc _ _⟩

set_option maxHeartbeats 400000 in
theorem happening_stepTaken (th op arg n : Int) (w : World) : Calls Try.prog 85 #[.agg #[.int .i64 2, .int .i64 th, .int .i64 op, .int .i64 arg, .int .i64 n]] w fun e w' => e = .returned (.iface 112 (.agg #[.int .i64 th])) ∧ Below w.heap.size w w' := by
  go_enter Try.func85, Try.ntmps85
  go_wp2
  go_ret
  exact ⟨rfl, below_alloc _ _⟩

set_option maxHeartbeats 400000 in
theorem happening_timePasses (th op arg n : Int) (w : World) : Calls Try.prog 85 #[.agg #[.int .i64 3, .int .i64 th, .int .i64 op, .int .i64 arg, .int .i64 n]] w fun e w' => e = .returned (.iface 114 (.agg #[.int .i64 n])) ∧ Below w.heap.size w w' := by
  go_enter Try.func85, Try.ntmps85
  go_wp2
  go_ret
  exact ⟨rfl, below_alloc _ _⟩

set_option maxHeartbeats 400000 in
theorem happening_cancelled (th op arg n : Int) (w : World) : Calls Try.prog 85 #[.agg #[.int .i64 4, .int .i64 th, .int .i64 op, .int .i64 arg, .int .i64 n]] w fun e w' => e = .returned (.iface 115 (.agg #[.int .i64 th])) ∧ Below w.heap.size w w' := by
  go_enter Try.func85, Try.ntmps85
  go_wp2
  go_ret
  exact ⟨rfl, below_alloc _ _⟩

set_option maxHeartbeats 400000 in
theorem happening_woken (th op arg n : Int) (w : World) : Calls Try.prog 85 #[.agg #[.int .i64 5, .int .i64 th, .int .i64 op, .int .i64 arg, .int .i64 n]] w fun e w' => e = .returned (.iface 116 (.agg #[.int .i64 th])) ∧ Below w.heap.size w w' := by
  go_enter Try.func85, Try.ntmps85
  go_wp2
  go_ret
  exact ⟨rfl, below_alloc _ _⟩

set_option maxHeartbeats 400000 in
theorem happening_none (k th op arg n : Int) (w : World) (h : inB k 1 5 = false) : Calls Try.prog 85 #[.agg #[.int .i64 k, .int .i64 th, .int .i64 op, .int .i64 arg, .int .i64 n]] w fun e w' => e = .returned .nilIface ∧ Below w.heap.size w w' := by
  have hk := inB_false h
  have g1 : (k == 1) = false := by simp; omega
  have g2 : (k == 2) = false := by simp; omega
  have g3 : (k == 3) = false := by simp; omega
  have g4 : (k == 4) = false := by simp; omega
  have g5 : (k == 5) = false := by simp; omega
  clear h hk
  go_enter Try.func85, Try.ntmps85
  go_wp2
  go_ret
  exact ⟨rfl, below_alloc _ _⟩
end Go.Proofs.Ytjddmdhoeampcaa
