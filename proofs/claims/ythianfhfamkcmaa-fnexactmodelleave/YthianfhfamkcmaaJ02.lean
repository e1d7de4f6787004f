/-
  Threads (chapter 3): what a right thread is, and contracts of the small functions, the program's and the model's.
-/
import Derived.Test.YthianfhfamkcmaaJ01
import Derived.Laws.StructEq
namespace Go.Proofs.Ythianfhfamkcmaa
open Go.RowKit

def opB (op : Int) : Bool := inB op 1 6
def waitB (op : Int) : Bool := inB op 1 3
def bringsB (op : Int) : Bool := op == 1 || op == 3 || op == 4
def argB (op arg : Int) : Bool := inB arg 0 (if bringsB op = true then 999 else 0)
def tilB (op til : Int) : Bool := inB til 0 (if waitB op = true then 1000000 else 0)
def regsB (r0 r1 r2 r3 r4 : Int) : Bool := wordB r0 && wordB r1 && wordB r2 && wordB r3 && wordB r4
def zeroB (r0 r1 r2 r3 r4 : Int) : Bool := r0 == 0 && r1 == 0 && r2 == 0 && r3 == 0 && r4 == 0
/-- What an idle thread has besides its Id. -/
def bareB (op arg pc til : Int) (per can : Bool) (r0 r1 r2 r3 r4 : Int) : Bool := op == 0 && arg == 0 && pc == 0 && til == 0 && per == false && can == false && zeroB r0 r1 r2 r3 r4
def idleB (op arg pc til : Int) (per can : Bool) (r0 r1 r2 r3 r4 code res : Int) : Bool := bareB op arg pc til per can r0 r1 r2 r3 r4 && inB code 0 19 && inB res 0 1000000000
def callB (op arg pc til r0 r1 r2 r3 r4 code res : Int) : Bool := opB op && argB op arg && tilB op til && inB pc 0 16 && regsB r0 r1 r2 r3 r4 && code == 0 && res == 0
/-- A thread that is right. -/
def thB (id st op arg pc til : Int) (per can : Bool) (r0 r1 r2 r3 r4 code res : Int) : Bool :=
  inB id 0 3 && (if st = 0 then idleB op arg pc til per can r0 r1 r2 r3 r4 code res else if st = 1 then callB op arg pc til r0 r1 r2 r3 r4 code res else if st = 2 then callB op arg pc til r0 r1 r2 r3 r4 code res && waitB op else false)

theorem opB_iff (op : Int) : opB op = true ↔ 1 ≤ op ∧ op ≤ 6 := inB_iff
theorem waitB_iff (op : Int) : waitB op = true ↔ 1 ≤ op ∧ op ≤ 3 := inB_iff
theorem bringsB_iff (op : Int) : bringsB op = true ↔ op = 1 ∨ op = 3 ∨ op = 4 := by simp [bringsB, or_assoc]

set_option maxHeartbeats 400000 in
theorem idOK_any (n : Int) (w : World) : Calls Try.prog 107 #[.int .i64 n] w fun e w' => e = .returned (.bool (inB n 0 3)) ∧ w = w' := by
  by_cases h1 : 0 ≤ n <;> by_cases h2 : n < 4
  all_goals
    go_enter Try.func107, Try.ntmps107
    go_wp2
    go_ret
    exact ⟨ret_bool (by simp [inB]; omega), rfl⟩

set_option maxHeartbeats 400000 in
theorem opOK_any (n : Int) (w : World) : Calls Try.prog 108 #[.int .i64 n] w fun e w' => e = .returned (.bool (opB n)) ∧ w = w' := by
  by_cases h1 : 1 ≤ n <;> by_cases h2 : n ≤ 6
  all_goals
    go_enter Try.func108, Try.ntmps108
    go_wp2
    go_ret
    exact ⟨ret_bool (by simp [opB, inB]; omega), rfl⟩

set_option maxHeartbeats 400000 in
theorem codeOK_any (n : Int) (w : World) : Calls Try.prog 129 #[.int .i64 n] w fun e w' => e = .returned (.bool (inB n 0 19)) ∧ w = w' := by
  by_cases h1 : 0 ≤ n <;> by_cases h2 : n < 20
  all_goals
    go_enter Try.func129, Try.ntmps129
    go_wp2
    go_ret
    exact ⟨ret_bool (by simp [inB]; omega), rfl⟩

set_option maxHeartbeats 400000 in
theorem implIsWaiting_any (n : Int) (w : World) : Calls Try.prog 181 #[.int .i64 n] w fun e w' => e = .returned (.bool (waitB n)) ∧ w = w' := by
  by_cases h1 : n = 1
  · subst h1
    go_enter Try.func181, Try.ntmps181
    go_wp2
    go_ret
    exact ⟨ret_bool (by decide), rfl⟩
  by_cases h2 : n = 2
  · subst h2
    clear h1
    go_enter Try.func181, Try.ntmps181
    go_wp2
    go_ret
    exact ⟨ret_bool (by decide), rfl⟩
  have HV : Hid (waitB n = (n == 3)) := by
    unfold Hid
    rw [Bool.eq_iff_iff, waitB_iff]; simp; omega
  have g1 : (n == 1) = false := by simpa using h1
  have g2 : (n == 2) = false := by simpa using h2
  clear h1 h2
  go_enter Try.func181, Try.ntmps181
  go_wp2
  go_ret
  exact ⟨ret_bool HV.out.symm, rfl⟩

set_option maxHeartbeats 1000000 in
theorem argOK_any (op arg : Int) (w : World) : Calls Try.prog 74 #[.int .i64 op, .int .i64 arg] w fun e w' => e = .returned (.bool (argB op arg)) ∧ w = w' := by
  by_cases h : op = 1 ∨ op = 3 ∨ op = 4
  · have HV : Hid (argB op arg = inB arg 0 999) := by unfold Hid argB; rw [if_pos ((bringsB_iff op).2 h)]
    rcases h with rfl | rfl | rfl
    all_goals
      by_cases h1 : 0 ≤ arg <;> by_cases h2 : arg < 1000
      all_goals
        go_enter Try.func74, Try.ntmps74
        go_wp2
        go_ret
        exact ⟨ret_bool (by rw [HV.out]; simp [inB]; omega), rfl⟩
  · have HV : Hid (argB op arg = (arg == 0)) := by
      unfold Hid argB
      rw [if_neg (fun e => h ((bringsB_iff op).1 e)), Bool.eq_iff_iff, inB_iff]; simp; omega
    have g1 : (op == 1) = false := by simp; omega
    have g3 : (op == 3) = false := by simp; omega
    have g4 : (op == 4) = false := by simp; omega
    clear h
    go_enter Try.func74, Try.ntmps74
    go_wp2
    go_ret
    exact ⟨ret_bool HV.out.symm, rfl⟩

set_option maxHeartbeats 400000 in
theorem timeOK_any (n : Int) (w : World) : Calls Try.prog 127 #[.int .i64 n] w fun e w' => e = .returned (.bool (inB n 0 1000000)) ∧ w = w' := by
  by_cases h1 : 0 ≤ n <;> by_cases h2 : n ≤ 1000000
  all_goals
    go_enter Try.func127, Try.ntmps127
    go_wp2
    go_ret
    exact ⟨ret_bool (by simp [inB]; omega), rfl⟩

set_option maxHeartbeats 1000000 in
theorem untilOK_any (op til : Int) (w : World) : Calls Try.prog 180 #[.int .i64 op, .int .i64 til] w fun e w' => e = .returned (.bool (tilB op til)) ∧ w = w' := by
  cases h : waitB op
  · have HV : Hid (tilB op til = (til == 0)) := by
      unfold Hid tilB
      rw [h, if_neg (by decide), Bool.eq_iff_iff, inB_iff]; simp; omega
    go_enter Try.func180, Try.ntmps180
    go_wp2_with (go_at_call 181; refine (implIsWaiting_any _ _).mono ?_; rintro e w' ⟨rfl, rfl⟩)
    go_ret
    exact ⟨ret_bool HV.out.symm, rfl⟩
  · have HV : Hid (tilB op til = inB til 0 1000000) := by unfold Hid tilB; rw [h, if_pos rfl]
    go_enter Try.func180, Try.ntmps180
    go_wp2_with (first | (go_at_call 181; refine (implIsWaiting_any _ _).mono ?_; rintro e w' ⟨rfl, rfl⟩) | (go_at_call 127; refine (timeOK_any _ _).mono ?_; rintro e w' ⟨rfl, rfl⟩))
    go_ret
    exact ⟨ret_bool HV.out.symm, rfl⟩

set_option maxHeartbeats 400000 in
theorem specIsWaiting_any (n : Int) (w : World) : Calls Try.prog 160 #[.int .i64 n] w fun e w' => e = .returned (.bool (waitB n)) ∧ w = w' := by
  unfold waitB
  go_enter Try.func160, Try.ntmps160
  go_wp2_with (go_at_call 102; refine (l01In_any _ _ _ _).mono ?_; rintro e w' ⟨rfl, rfl⟩)
  go_ret
  exact ⟨rfl, rfl⟩

set_option maxHeartbeats 400000 in
theorem l02Op_any (n : Int) (w : World) : Calls Try.prog 105 #[.int .i64 n] w fun e w' => e = .returned (.bool (opB n)) ∧ w = w' := by
  unfold opB
  go_enter Try.func105, Try.ntmps105
  go_wp2_with (go_at_call 102; refine (l01In_any _ _ _ _).mono ?_; rintro e w' ⟨rfl, rfl⟩)
  go_ret
  exact ⟨rfl, rfl⟩
end Go.Proofs.Ythianfhfamkcmaa
