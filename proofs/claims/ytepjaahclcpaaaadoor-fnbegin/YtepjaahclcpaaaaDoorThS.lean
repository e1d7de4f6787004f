/-
  Threads (chapter 3): contracts of the model's ThreadOK and of what it calls.
-/
import Derived.Test.YtepjaahclcpaaaaDoorBaseX
import Derived.Test.YtepjaahclcpaaaaDoorThD
namespace Go.Proofs.YtepjaahclcpaaaaDoor
open Go.RowKit

theorem l01Bit_any (b : Bool) (w : World) : Calls Tryd.prog 23 #[.bool b] w fun e w' => e = .returned (.int .i64 (if b = true then 1 else 0)) ∧ w = w' := by
  cases b
  all_goals
    go_enter Tryd.func23, Tryd.ntmps23
    go_wp2
    go_ret
    exact ⟨rfl, rfl⟩
theorem bit_true (w : World) : Calls Tryd.prog 23 #[.bool true] w fun e w' => e = .returned (.int .i64 1) ∧ w = w' := l01Bit_any true w
theorem bit_false (w : World) : Calls Tryd.prog 23 #[.bool false] w fun e w' => e = .returned (.int .i64 0) ∧ w = w' := l01Bit_any false w

set_option maxHeartbeats 1000000 in
theorem l02Arg_any (op arg : Int) (w : World) : Calls Tryd.prog 21 #[.int .i64 op, .int .i64 arg] w fun e w' => e = .returned (.bool (argB op arg)) ∧ w = w' := by
  by_cases h : op = 1 ∨ op = 3 ∨ op = 4
  · have HV : Hid (argB op arg = inB arg 0 999) := by unfold Hid argB; rw [if_pos ((bringsB_iff op).2 h)]
    rcases h with rfl | rfl | rfl
    all_goals
      go_enter Tryd.func21, Tryd.ntmps21
      go_wp2_with (first | (go_at_call 23; refine (bit_true _).mono ?_; rintro e w' ⟨rfl, rfl⟩) | (go_at_call 22; refine (l01In_any _ _ _ _).mono ?_; rintro e w' ⟨rfl, rfl⟩))
      go_ret
      exact ⟨ret_bool HV.out.symm, rfl⟩
  · have HV : Hid (argB op arg = inB arg 0 0) := by unfold Hid argB; rw [if_neg (fun e => h ((bringsB_iff op).1 e))]
    have g1 : (op == 1) = false := by simp; omega
    have g3 : (op == 3) = false := by simp; omega
    have g4 : (op == 4) = false := by simp; omega
    clear h
    go_enter Tryd.func21, Tryd.ntmps21
    go_wp2_with (first | (go_at_call 23; refine (bit_false _).mono ?_; rintro e w' ⟨rfl, rfl⟩) | (go_at_call 22; refine (l01In_any _ _ _ _).mono ?_; rintro e w' ⟨rfl, rfl⟩))
    go_ret
    exact ⟨ret_bool HV.out.symm, rfl⟩

theorem regsB_at {r0 r1 r2 r3 r4 : Int} {k : Nat} (hk : k < 5) (h : wordB ([r0, r1, r2, r3, r4].getD k 0) = false) : regsB r0 r1 r2 r3 r4 = false := by
  rw [← wordsB_regs]; exact wordsB_false (by simpa using hk) h
theorem regsB_all {r0 r1 r2 r3 r4 : Int} (h : ∀ j, j < 5 → wordB ([r0, r1, r2, r3, r4].getD j 0) = true) : regsB r0 r1 r2 r3 r4 = true := by
  rw [← wordsB_regs]; exact (wordsB_iff _).2 h

/-- Where one of these is not so, a thread is not right. -/
theorem thB_bad (id st op arg pc til : Int) (per can : Bool) (r0 r1 r2 r3 r4 code res : Int) (h : inB st 0 2 = false ∨ inB code 0 19 = false ∨ inB res 0 1000000000 = false ∨ inB til 0 1000000 = false ∨ regsB r0 r1 r2 r3 r4 = false) : thB id st op arg pc til per can r0 r1 r2 r3 r4 code res = false := by
  cases h0 : inB id 0 3
  · exact thB_id id st op arg pc til per can r0 r1 r2 r3 r4 code res h0
  by_cases s0 : st = 0
  · subst s0
    rw [thB_idle _ _ _ _ _ _ _ _ _ _ _ _ _ _ h0]
    cases hb : idleB op arg pc til per can r0 r1 r2 r3 r4 code res
    · rfl
    · simp [idleB, bareB, zeroB, regsB, wordB, inB] at *
      obtain ⟨⟨⟨⟨⟨⟨⟨⟨rfl, rfl⟩, rfl⟩, rfl⟩, rfl⟩, rfl⟩, hz⟩, hc⟩, hr⟩ := hb
      omega
  have hcall : ∀ b, callB op arg pc til r0 r1 r2 r3 r4 code res = b → (inB code 0 19 = false ∨ inB res 0 1000000000 = false ∨ inB til 0 1000000 = false ∨ regsB r0 r1 r2 r3 r4 = false) → callB op arg pc til r0 r1 r2 r3 r4 code res = false := by
    intro b hb hx
    cases b
    · exact hb
    · exfalso
      simp only [callB, Bool.and_eq_true, beq_iff_eq] at hb
      obtain ⟨⟨⟨⟨⟨⟨ho, ha⟩, ht⟩, hp⟩, hr⟩, hc⟩, hs⟩ := hb
      subst hc hs
      rcases hx with hx | hx | hx | hx
      · exact absurd hx (by decide)
      · exact absurd hx (by decide)
      · have h1 := inB_false hx
        unfold tilB at ht
        have h2 := inB_true ht
        split at h2 <;> omega
      · rw [hr] at hx; cases hx
  by_cases s1 : st = 1
  · subst s1
    rw [thB_runs _ _ _ _ _ _ _ _ _ _ _ _ _ _ h0]
    exact hcall _ rfl (by rcases h with h | h; exact absurd h (by decide); exact h)
  by_cases s2 : st = 2
  · subst s2
    rw [thB_parked _ _ _ _ _ _ _ _ _ _ _ _ _ _ h0, hcall _ rfl (by rcases h with h | h; exact absurd h (by decide); exact h)]; rfl
  · exact thB_other id st op arg pc til per can r0 r1 r2 r3 r4 code res s0 s1 s2

/-- What is left of it in a call. -/
theorem thB_call (id st op arg pc til : Int) (per can : Bool) (r0 r1 r2 r3 r4 code res : Int) (h0 : inB id 0 3 = true) (hs : st = 1 ∨ st = 2) (ht : inB til 0 1000000 = true) (hr : regsB r0 r1 r2 r3 r4 = true) :
    thB id st op arg pc til per can r0 r1 r2 r3 r4 code res = (opB op && argB op arg && inB pc 0 16 && (st != 2 || waitB op) && (til == 0 || waitB op) && code == 0 && res == 0) := by
  have e : tilB op til = (til == 0 || waitB op) := by
    unfold tilB
    cases hw : waitB op
    · rw [if_neg (by decide), Bool.or_false, Bool.eq_iff_iff, inB_iff]; simp; omega
    · rw [if_pos rfl, ht]; simp
  rcases hs with rfl | rfl
  · rw [thB_runs _ _ _ _ _ _ _ _ _ _ _ _ _ _ h0]
    unfold callB
    rw [e, hr]
    generalize opB op = b1; generalize argB op arg = b2; generalize (til == 0 || waitB op) = b3; generalize inB pc 0 16 = b4
    cases b1 <;> cases b2 <;> cases b3 <;> cases b4 <;> simp
  · rw [thB_parked _ _ _ _ _ _ _ _ _ _ _ _ _ _ h0]
    unfold callB
    rw [e, hr]
    generalize opB op = b1; generalize argB op arg = b2; generalize (til == 0) = b3; generalize inB pc 0 16 = b4; generalize waitB op = b5; generalize (code == 0) = b6; generalize (res == 0) = b7
    cases b1 <;> cases b2 <;> cases b3 <;> cases b4 <;> cases b5 <;> cases b6 <;> cases b7 <;> rfl
theorem thB_bare (id op arg pc til : Int) (per can : Bool) (r0 r1 r2 r3 r4 code res : Int) (h0 : inB id 0 3 = true) (hc : inB code 0 19 = true) (hr : inB res 0 1000000000 = true) :
    thB id 0 op arg pc til per can r0 r1 r2 r3 r4 code res = (op == 0 && arg == 0 && pc == 0 && til == 0 && per == false && can == false && zeroB r0 r1 r2 r3 r4) := by
  rw [thB_idle _ _ _ _ _ _ _ _ _ _ _ _ _ _ h0]
  unfold idleB bareB
  rw [hc, hr, Bool.and_true, Bool.and_true]
end Go.Proofs.YtepjaahclcpaaaaDoor
