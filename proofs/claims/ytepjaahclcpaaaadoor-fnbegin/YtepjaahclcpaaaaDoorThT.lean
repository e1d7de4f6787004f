/-
  Threads (chapter 3): the contract of the model's ThreadOK.
-/
import Derived.Test.YtepjaahclcpaaaaDoorThS
namespace Go.Proofs.YtepjaahclcpaaaaDoor
open Go.RowKit

theorem run_eql_regs (r0 r1 r2 r3 r4 : Int) (w : World) : (binOp .eql 23 (.agg #[.int .i64 r0, .int .i64 r1, .int .i64 r2, .int .i64 r3, .int .i64 r4]) (.agg #[.int .i64 0, .int .i64 0, .int .i64 0, .int .i64 0, .int .i64 0])).run Tryd.prog w = .ok (.bool (zeroB r0 r1 r2 r3 r4)) w := by
  rw [run_eql_struct, run_eq_regs 9998]; rfl

set_option maxRecDepth 100000 in
set_option maxHeartbeats 4000000 in
theorem specThreadOK_any (id st op arg pc til : Int) (per can : Bool) (r0 r1 r2 r3 r4 code res : Int) (w : World) : Calls Tryd.prog 19 #[.agg #[.int .i64 id, .int .i64 st, .int .i64 op, .int .i64 arg, .int .i64 pc, .int .i64 til, .bool per, .bool can, .int .i64 r0, .int .i64 r1, .int .i64 r2, .int .i64 r3, .int .i64 r4, .int .i64 code, .int .i64 res]] w fun e w' => e = .returned (.bool (thB id st op arg pc til per can r0 r1 r2 r3 r4 code res)) ∧ Below w.heap.size w w' := by
  cases h0 : inB id 0 3
  · have HV := Lib.hid (thB_id id st op arg pc til per can r0 r1 r2 r3 r4 code res h0)
    go_enter Tryd.func19, Tryd.ntmps19
    go_wp2_with (first | (go_at_call 22; refine (l01In_any _ _ _ _).mono ?_; rintro e w' ⟨rfl, rfl⟩) | (go_at_call 34; refine (l01Word_any _ _).mono ?_; rintro e w' ⟨rfl, rfl⟩) | (go_at_call 20; refine (l02Op_any _ _).mono ?_; rintro e w' ⟨rfl, rfl⟩) | (go_at_call 21; refine (l02Arg_any _ _ _).mono ?_; rintro e w' ⟨rfl, rfl⟩) | (go_at_call 24; refine (specIsWaiting_any _ _).mono ?_; rintro e w' ⟨rfl, rfl⟩))
    go_ret
    exact ⟨ret_bool HV.out.symm, below_alloc _ _⟩
  cases q1 : inB st 0 2
  · have HV := Lib.hid (thB_bad id st op arg pc til per can r0 r1 r2 r3 r4 code res (.inl q1))
    go_enter Tryd.func19, Tryd.ntmps19
    go_wp2_with (first | (go_at_call 22; refine (l01In_any _ _ _ _).mono ?_; rintro e w' ⟨rfl, rfl⟩) | (go_at_call 34; refine (l01Word_any _ _).mono ?_; rintro e w' ⟨rfl, rfl⟩) | (go_at_call 20; refine (l02Op_any _ _).mono ?_; rintro e w' ⟨rfl, rfl⟩) | (go_at_call 21; refine (l02Arg_any _ _ _).mono ?_; rintro e w' ⟨rfl, rfl⟩) | (go_at_call 24; refine (specIsWaiting_any _ _).mono ?_; rintro e w' ⟨rfl, rfl⟩))
    go_ret
    exact ⟨ret_bool HV.out.symm, below_alloc _ _⟩
  cases q2 : inB code 0 19
  · have HV := Lib.hid (thB_bad id st op arg pc til per can r0 r1 r2 r3 r4 code res (.inr (.inl q2)))
    go_enter Tryd.func19, Tryd.ntmps19
    go_wp2_with (first | (go_at_call 22; refine (l01In_any _ _ _ _).mono ?_; rintro e w' ⟨rfl, rfl⟩) | (go_at_call 34; refine (l01Word_any _ _).mono ?_; rintro e w' ⟨rfl, rfl⟩) | (go_at_call 20; refine (l02Op_any _ _).mono ?_; rintro e w' ⟨rfl, rfl⟩) | (go_at_call 21; refine (l02Arg_any _ _ _).mono ?_; rintro e w' ⟨rfl, rfl⟩) | (go_at_call 24; refine (specIsWaiting_any _ _).mono ?_; rintro e w' ⟨rfl, rfl⟩))
    go_ret
    exact ⟨ret_bool HV.out.symm, below_alloc _ _⟩
  cases q3 : inB res 0 1000000000
  · have HV := Lib.hid (thB_bad id st op arg pc til per can r0 r1 r2 r3 r4 code res (.inr (.inr (.inl q3))))
    go_enter Tryd.func19, Tryd.ntmps19
    go_wp2_with (first | (go_at_call 22; refine (l01In_any _ _ _ _).mono ?_; rintro e w' ⟨rfl, rfl⟩) | (go_at_call 34; refine (l01Word_any _ _).mono ?_; rintro e w' ⟨rfl, rfl⟩) | (go_at_call 20; refine (l02Op_any _ _).mono ?_; rintro e w' ⟨rfl, rfl⟩) | (go_at_call 21; refine (l02Arg_any _ _ _).mono ?_; rintro e w' ⟨rfl, rfl⟩) | (go_at_call 24; refine (specIsWaiting_any _ _).mono ?_; rintro e w' ⟨rfl, rfl⟩))
    go_ret
    exact ⟨ret_bool HV.out.symm, below_alloc _ _⟩
  cases q4 : inB til 0 1000000
  · have HV := Lib.hid (thB_bad id st op arg pc til per can r0 r1 r2 r3 r4 code res (.inr (.inr (.inr (.inl q4)))))
    go_enter Tryd.func19, Tryd.ntmps19
    go_wp2_with (first | (go_at_call 22; refine (l01In_any _ _ _ _).mono ?_; rintro e w' ⟨rfl, rfl⟩) | (go_at_call 34; refine (l01Word_any _ _).mono ?_; rintro e w' ⟨rfl, rfl⟩) | (go_at_call 20; refine (l02Op_any _ _).mono ?_; rintro e w' ⟨rfl, rfl⟩) | (go_at_call 21; refine (l02Arg_any _ _ _).mono ?_; rintro e w' ⟨rfl, rfl⟩) | (go_at_call 24; refine (specIsWaiting_any _ _).mono ?_; rintro e w' ⟨rfl, rfl⟩))
    go_ret
    exact ⟨ret_bool HV.out.symm, below_alloc _ _⟩
  have HR := Lib.hid (rd_regs w id st op arg pc til per can r0 r1 r2 r3 r4 code res)
  go_enter Tryd.func19, Tryd.ntmps19
  go_wp2_with (go_at_call 22; refine (l01In_any _ _ _ _).mono ?_; rintro e w' ⟨rfl, rfl⟩)
  go_loop [3] (fun i => ∃ k : Nat, k ≤ 5 ∧ i = .int .i64 k ∧ ∀ j, j < k → wordB ([r0, r1, r2, r3, r4].getD j 0) = true) (fun i => 5 - (intOf i).toNat)
  case atStart => exact ⟨0, Nat.zero_le _, rfl, fun j hj => absurd hj (by omega)⟩
  case round =>
    obtain ⟨k, hk, rfl, hall⟩ := hrel
    have HL := Lib.hid hall; clear hall
    by_cases hlt : k < 5
    · obtain ⟨b, o, hbo, hcell⟩ := HR.out k (by simpa using hlt)
      simp only [Option.some.injEq, Addr.mk.injEq, and_true] at hbo
      obtain ⟨rfl, rfl⟩ := hbo
      generalize hx : [r0, r1, r2, r3, r4].getD k 0 = x at *
      have HX := Lib.hid hx; clear hx
      cases hw : wordB x
      · have HN := Lib.hid (thB_bad id st op arg pc til per can r0 r1 r2 r3 r4 code res (.inr (.inr (.inr (.inr (regsB_at hlt (by rw [HX.out]; exact hw)))))))
        go_wp2_with (go_at_call 34; refine (l01Word_any _ _).mono ?_; rintro e w' ⟨rfl, rfl⟩)
        go_ret
        exact ⟨ret_bool HN.out.symm, below_alloc _ _⟩
      · go_wp2_with (go_at_call 34; refine (l01Word_any _ _).mono ?_; rintro e w' ⟨rfl, rfl⟩)
        go_round
        case rel => exact ⟨k + 1, by omega, by go_num, fun j hj => by
          by_cases e : j < k
          · exact HL.out j e
          · obtain rfl : j = k := by omega
            rw [HX.out]; exact hw⟩
        case measure => simp [intOf]; omega
    · have hr := regsB_all fun j hj => HL.out j (by omega)
      by_cases s0 : st = 0
      · subst s0
        have HV := Lib.hid (thB_bare id op arg pc til per can r0 r1 r2 r3 r4 code res h0 q2 q3)
        have hq := fun wx => run_eql_regs r0 r1 r2 r3 r4 wx
        clear hr q1
        cases g0 : (op == 0)
        · go_wp2
          go_ret
          exact ⟨ret_bool (by rw [HV.out, g0]; rfl), below_alloc _ _⟩
        cases g1 : (arg == 0)
        · go_wp2
          go_ret
          exact ⟨ret_bool (by rw [HV.out, g0, g1]; rfl), below_alloc _ _⟩
        cases g2 : (pc == 0)
        · go_wp2
          go_ret
          exact ⟨ret_bool (by rw [HV.out, g0, g1, g2]; rfl), below_alloc _ _⟩
        cases g3 : (til == 0)
        · go_wp2
          go_ret
          exact ⟨ret_bool (by rw [HV.out, g0, g1, g2, g3]; rfl), below_alloc _ _⟩
        cases per
        rotate_left
        · go_wp2
          go_ret
          exact ⟨ret_bool (by rw [HV.out, g0, g1, g2, g3]; rfl), below_alloc _ _⟩
        cases can
        rotate_left
        · go_wp2
          go_ret
          exact ⟨ret_bool (by rw [HV.out, g0, g1, g2, g3]; rfl), below_alloc _ _⟩
        go_wp2
        go_ret
        exact ⟨ret_bool (by rw [HV.out, g0, g1, g2, g3]; rfl), below_alloc _ _⟩
      have hs : st = 1 ∨ st = 2 := by have := inB_true q1; omega
      have HV := Lib.hid (thB_call id st op arg pc til per can r0 r1 r2 r3 r4 code res h0 hs q4 hr)
      have g0 : (st == 0) = false := by simpa using s0
      clear hr s0 q1
      cases g1 : opB op
      · have hs1 := Lib.hid hs
        clear hs
        go_wp2_with (first | (go_at_call 22; refine (l01In_any _ _ _ _).mono ?_; rintro e w' ⟨rfl, rfl⟩) | (go_at_call 34; refine (l01Word_any _ _).mono ?_; rintro e w' ⟨rfl, rfl⟩) | (go_at_call 20; refine (l02Op_any _ _).mono ?_; rintro e w' ⟨rfl, rfl⟩) | (go_at_call 21; refine (l02Arg_any _ _ _).mono ?_; rintro e w' ⟨rfl, rfl⟩) | (go_at_call 24; refine (specIsWaiting_any _ _).mono ?_; rintro e w' ⟨rfl, rfl⟩))
        go_ret
        exact ⟨ret_bool (by rw [HV.out, g1]; rfl), below_alloc _ _⟩
      cases g2 : argB op arg
      · have hs1 := Lib.hid hs
        clear hs
        go_wp2_with (first | (go_at_call 22; refine (l01In_any _ _ _ _).mono ?_; rintro e w' ⟨rfl, rfl⟩) | (go_at_call 34; refine (l01Word_any _ _).mono ?_; rintro e w' ⟨rfl, rfl⟩) | (go_at_call 20; refine (l02Op_any _ _).mono ?_; rintro e w' ⟨rfl, rfl⟩) | (go_at_call 21; refine (l02Arg_any _ _ _).mono ?_; rintro e w' ⟨rfl, rfl⟩) | (go_at_call 24; refine (specIsWaiting_any _ _).mono ?_; rintro e w' ⟨rfl, rfl⟩))
        go_ret
        exact ⟨ret_bool (by rw [HV.out, g1, g2]; rfl), below_alloc _ _⟩
      cases g3 : inB pc 0 16
      · have hs1 := Lib.hid hs
        clear hs
        go_wp2_with (first | (go_at_call 22; refine (l01In_any _ _ _ _).mono ?_; rintro e w' ⟨rfl, rfl⟩) | (go_at_call 34; refine (l01Word_any _ _).mono ?_; rintro e w' ⟨rfl, rfl⟩) | (go_at_call 20; refine (l02Op_any _ _).mono ?_; rintro e w' ⟨rfl, rfl⟩) | (go_at_call 21; refine (l02Arg_any _ _ _).mono ?_; rintro e w' ⟨rfl, rfl⟩) | (go_at_call 24; refine (specIsWaiting_any _ _).mono ?_; rintro e w' ⟨rfl, rfl⟩))
        go_ret
        exact ⟨ret_bool (by rw [HV.out, g1, g2, g3]; rfl), below_alloc _ _⟩
      clear g0
      rcases hs with rfl | rfl
      all_goals
        cases g4 : waitB op <;> cases g5 : (til == 0) <;> cases g6 : (code == 0)
      all_goals
        go_wp2_with (first | (go_at_call 22; refine (l01In_any _ _ _ _).mono ?_; rintro e w' ⟨rfl, rfl⟩) | (go_at_call 34; refine (l01Word_any _ _).mono ?_; rintro e w' ⟨rfl, rfl⟩) | (go_at_call 20; refine (l02Op_any _ _).mono ?_; rintro e w' ⟨rfl, rfl⟩) | (go_at_call 21; refine (l02Arg_any _ _ _).mono ?_; rintro e w' ⟨rfl, rfl⟩) | (go_at_call 24; refine (specIsWaiting_any _ _).mono ?_; rintro e w' ⟨rfl, rfl⟩))
        go_ret
        exact ⟨ret_bool (by rw [HV.out, g1, g2, g3, g4, g5, g6]; rfl), below_alloc _ _⟩
end Go.Proofs.YtepjaahclcpaaaaDoor
