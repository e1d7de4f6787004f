/-
  Events (chapter 9): what is a right one; EventOK of the model.
-/
import Derived.Test.YtjddmdhoeampcaaEventA
import Derived.Test.YtjddmdhoeampcaaEventB
import Derived.Test.YtjddmdhoeampcaaEventC
namespace Go.Proofs.Ytjddmdhoeampcaa
open Go.RowKit

/-- An event that is right. -/
def evB (k th op arg n : Int) : Bool :=
  if k = 1 then inB th 0 3 && opB op && argB op arg && inB n 0 (if waitB op = true then 1000 else 0)
  else if k = 3 then op == 0 && arg == 0 && th == 0 && inB n 0 1000
  else inB k 2 5 && (op == 0 && arg == 0) && n == 0 && inB th 0 3
theorem evB_one (th op arg n : Int) : evB 1 th op arg n = (inB th 0 3 && opB op && argB op arg && inB n 0 (if waitB op = true then 1000 else 0)) := by unfold evB; rw [if_pos rfl]
theorem evB_three (th op arg n : Int) : evB 3 th op arg n = (op == 0 && arg == 0 && th == 0 && inB n 0 1000) := by unfold evB; rw [if_neg (by decide), if_pos rfl]
theorem evB_else (k th op arg n : Int) (h1 : k ≠ 1) (h3 : k ≠ 3) : evB k th op arg n = (inB k 2 5 && (op == 0 && arg == 0) && n == 0 && inB th 0 3) := by unfold evB; rw [if_neg h1, if_neg h3]

set_option maxHeartbeats 4000000 in
theorem specEventOK_any (k th op arg n : Int) (w : World) : Calls Try.prog 34 #[.agg #[.int .i64 k, .int .i64 th, .int .i64 op, .int .i64 arg, .int .i64 n]] w fun e w' => e = .returned (.bool (evB k th op arg n)) ∧ Below w.heap.size w w' := by
  by_cases hk1 : k = 1
  · subst hk1
    rw [evB_one]
    cases h1 : inB th 0 3
    · exact specEv_th th op arg n h1 w
    cases h2 : opB op
    · exact specEv_op th op arg n h1 h2 w
    cases h3 : argB op arg
    · exact specEv_arg th op arg n h1 h2 h3 w
    cases hw : waitB op
    · rw [if_neg (by decide)]
      cases h4 : inB n 0 0
      · exact specEv_nff th op arg n h1 h2 h3 hw h4 w
      · exact specEv_nft th op arg n h1 h2 h3 hw h4 w
    · rw [if_pos rfl]
      cases h4 : inB n 0 1000
      · exact specEv_ntf th op arg n h1 h2 h3 hw h4 w
      · exact specEv_ntt th op arg n h1 h2 h3 hw h4 w
  have gk1 : (k == 1) = false := by simpa using hk1
  by_cases hk3 : k = 3
  · subst hk3
    have HV := Lib.hid (evB_three th op arg n)
    clear hk1
    cases g1 : (op == 0)
    · rw [g1] at HV
      go_enter Try.func34, Try.ntmps34
      go_wp2_with (first | (go_at_call 50; refine (l01In_any _ _ _ _).mono ?_; rintro e w' ⟨rfl, rfl⟩))
      go_ret
      exact ⟨ret_bool HV.out.symm, below_alloc _ _⟩
    cases g2 : (arg == 0)
    · rw [g1, g2] at HV
      go_enter Try.func34, Try.ntmps34
      go_wp2_with (first | (go_at_call 50; refine (l01In_any _ _ _ _).mono ?_; rintro e w' ⟨rfl, rfl⟩))
      go_ret
      exact ⟨ret_bool HV.out.symm, below_alloc _ _⟩
    cases g3 : (th == 0)
    · rw [g1, g2, g3] at HV
      go_enter Try.func34, Try.ntmps34
      go_wp2_with (first | (go_at_call 50; refine (l01In_any _ _ _ _).mono ?_; rintro e w' ⟨rfl, rfl⟩))
      go_ret
      exact ⟨ret_bool HV.out.symm, below_alloc _ _⟩
    cases g4 : inB n 0 1000
    all_goals
      rw [g1, g2, g3, g4] at HV
      go_enter Try.func34, Try.ntmps34
      go_wp2_with (first | (go_at_call 50; refine (l01In_any _ _ _ _).mono ?_; rintro e w' ⟨rfl, rfl⟩))
      go_ret
      exact ⟨ret_bool HV.out.symm, below_alloc _ _⟩
  have gk3 : (k == 3) = false := by simpa using hk3
  have HV := Lib.hid (evB_else k th op arg n hk1 hk3)
  clear hk1 hk3
  cases g0 : inB k 2 5
  · rw [g0] at HV
    cases g1 : (op == 0) <;> cases g2 : (arg == 0)
    all_goals
      rw [g1, g2] at HV
      go_enter Try.func34, Try.ntmps34
      go_wp2_with (first | (go_at_call 50; refine (l01In_any _ _ _ _).mono ?_; rintro e w' ⟨rfl, rfl⟩))
      go_ret
      exact ⟨ret_bool HV.out.symm, below_alloc _ _⟩
  cases g1 : (op == 0)
  · rw [g0, g1] at HV
    go_enter Try.func34, Try.ntmps34
    go_wp2_with (first | (go_at_call 50; refine (l01In_any _ _ _ _).mono ?_; rintro e w' ⟨rfl, rfl⟩))
    go_ret
    exact ⟨ret_bool HV.out.symm, below_alloc _ _⟩
  cases g2 : (arg == 0)
  · rw [g0, g1, g2] at HV
    go_enter Try.func34, Try.ntmps34
    go_wp2_with (first | (go_at_call 50; refine (l01In_any _ _ _ _).mono ?_; rintro e w' ⟨rfl, rfl⟩))
    go_ret
    exact ⟨ret_bool HV.out.symm, below_alloc _ _⟩
  cases g3 : (n == 0)
  · rw [g0, g1, g2, g3] at HV
    go_enter Try.func34, Try.ntmps34
    go_wp2_with (first | (go_at_call 50; refine (l01In_any _ _ _ _).mono ?_; rintro e w' ⟨rfl, rfl⟩))
    go_ret
    exact ⟨ret_bool HV.out.symm, below_alloc _ _⟩
  cases g4 : inB th 0 3
  all_goals
    rw [g0, g1, g2, g3, g4] at HV
    go_enter Try.func34, Try.ntmps34
    go_wp2_with (first | (go_at_call 50; refine (l01In_any _ _ _ _).mono ?_; rintro e w' ⟨rfl, rfl⟩))
    go_ret
    exact ⟨ret_bool HV.out.symm, below_alloc _ _⟩
end Go.Proofs.Ytjddmdhoeampcaa
