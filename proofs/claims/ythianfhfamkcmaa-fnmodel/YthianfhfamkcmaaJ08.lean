/-
  Calls (chapter 9): CallOK, the program's and the model's, and the walk of its exact law.
-/
import Derived.Test.YthianfhfamkcmaaJ07
import Derived.Test.YthianfhfamkcmaaJ01
namespace Go.Proofs.Ythianfhfamkcmaa
open Go.RowKit

/-- A call that is right. -/
def clB (th op arg fr to code res : Int) : Bool := inB th 0 3 && opB op && argB op arg && inB fr 0 1000000 && (if to = 0 then code == 0 && res == 0 else inB to (fr + 1) 1000000 && inB code 0 19 && inB res 0 1000000000)
theorem clB_th (th op arg fr to code res : Int) (h : inB th 0 3 = false) : clB th op arg fr to code res = false := by simp [clB, h]
theorem clB_op (th op arg fr to code res : Int) (h : opB op = false) : clB th op arg fr to code res = false := by simp [clB, h]
theorem clB_arg (th op arg fr to code res : Int) (h : argB op arg = false) : clB th op arg fr to code res = false := by simp [clB, h]
theorem clB_fr (th op arg fr to code res : Int) (h : inB fr 0 1000000 = false) : clB th op arg fr to code res = false := by simp [clB, h]
theorem clB_open (th op arg fr code res : Int) (h1 : inB th 0 3 = true) (h2 : opB op = true) (h3 : argB op arg = true) (h4 : inB fr 0 1000000 = true) : clB th op arg fr 0 code res = (code == 0 && res == 0) := by simp [clB, h1, h2, h3, h4]
theorem clB_over (th op arg fr to code res : Int) (h1 : inB th 0 3 = true) (h2 : opB op = true) (h3 : argB op arg = true) (h4 : inB fr 0 1000000 = true) (h : to ≠ 0) : clB th op arg fr to code res = (inB to (fr + 1) 1000000 && inB code 0 19 && inB res 0 1000000000) := by simp [clB, h1, h2, h3, h4, h]

theorem isOpen_any (th op arg fr to code res : Int) (w : World) : Calls Try.prog 128 #[.agg #[.int .i64 th, .int .i64 op, .int .i64 arg, .int .i64 fr, .int .i64 to, .int .i64 code, .int .i64 res]] w fun e w' => e = .returned (.bool (to == 0)) ∧ Below w.heap.size w w' := by
  go_enter Try.func128, Try.ntmps128
  go_wp2
  go_ret
  exact ⟨rfl, below_alloc _ _⟩

set_option maxHeartbeats 4000000 in
theorem specCallOK_any (th op arg fr to code res : Int) (w : World) : Calls Try.prog 76 #[.agg #[.int .i64 th, .int .i64 op, .int .i64 arg, .int .i64 fr, .int .i64 to, .int .i64 code, .int .i64 res]] w fun e w' => e = .returned (.bool (clB th op arg fr to code res)) ∧ Below w.heap.size w w' := by
  cases h1 : inB th 0 3
  · have HV := Lib.hid (clB_th th op arg fr to code res h1)
    go_enter Try.func76, Try.ntmps76
    go_wp2_with (first | (go_at_call 102; refine (l01In_any _ _ _ _).mono ?_; rintro e w' ⟨rfl, rfl⟩) | (go_at_call 105; refine (l02Op_any _ _).mono ?_; rintro e w' ⟨rfl, rfl⟩) | (go_at_call 106; refine (l02Arg_any _ _ _).mono ?_; rintro e w' ⟨rfl, rfl⟩))
    go_ret
    exact ⟨ret_bool (HV.out.symm), below_alloc _ _⟩
  cases h2 : opB op
  · have HV := Lib.hid (clB_op th op arg fr to code res h2)
    go_enter Try.func76, Try.ntmps76
    go_wp2_with (first | (go_at_call 102; refine (l01In_any _ _ _ _).mono ?_; rintro e w' ⟨rfl, rfl⟩) | (go_at_call 105; refine (l02Op_any _ _).mono ?_; rintro e w' ⟨rfl, rfl⟩) | (go_at_call 106; refine (l02Arg_any _ _ _).mono ?_; rintro e w' ⟨rfl, rfl⟩))
    go_ret
    exact ⟨ret_bool (HV.out.symm), below_alloc _ _⟩
  cases h3 : argB op arg
  · have HV := Lib.hid (clB_arg th op arg fr to code res h3)
    go_enter Try.func76, Try.ntmps76
    go_wp2_with (first | (go_at_call 102; refine (l01In_any _ _ _ _).mono ?_; rintro e w' ⟨rfl, rfl⟩) | (go_at_call 105; refine (l02Op_any _ _).mono ?_; rintro e w' ⟨rfl, rfl⟩) | (go_at_call 106; refine (l02Arg_any _ _ _).mono ?_; rintro e w' ⟨rfl, rfl⟩))
    go_ret
    exact ⟨ret_bool (HV.out.symm), below_alloc _ _⟩
  cases h4 : inB fr 0 1000000
  · have HV := Lib.hid (clB_fr th op arg fr to code res h4)
    go_enter Try.func76, Try.ntmps76
    go_wp2_with (first | (go_at_call 102; refine (l01In_any _ _ _ _).mono ?_; rintro e w' ⟨rfl, rfl⟩) | (go_at_call 105; refine (l02Op_any _ _).mono ?_; rintro e w' ⟨rfl, rfl⟩) | (go_at_call 106; refine (l02Arg_any _ _ _).mono ?_; rintro e w' ⟨rfl, rfl⟩))
    go_ret
    exact ⟨ret_bool (HV.out.symm), below_alloc _ _⟩
  have q : fr + 1 = fr + 1 := rfl
  have e1 : IntKind.i64.wrap (fr + 1) = fr + 1 := IntWalk.i64_in _ (by have := inB_true h4; omega)
  clear q
  by_cases ht : to = 0
  · subst ht
    have HV := Lib.hid (clB_open th op arg fr code res h1 h2 h3 h4)
    by_cases hc : code = 0
    · subst hc
      have b1 : inB 0 0 19 = true := by decide
      by_cases hr : res = 0
      · subst hr
        have b2 : inB 0 0 1000000000 = true := by decide
        go_enter Try.func76, Try.ntmps76
        go_wp2_with (first | (go_at_call 102; refine (l01In_any _ _ _ _).mono ?_; rintro e w' ⟨rfl, rfl⟩) | (go_at_call 105; refine (l02Op_any _ _).mono ?_; rintro e w' ⟨rfl, rfl⟩) | (go_at_call 106; refine (l02Arg_any _ _ _).mono ?_; rintro e w' ⟨rfl, rfl⟩))
        go_ret
        exact ⟨ret_bool (HV.out.symm), below_alloc _ _⟩
      · have g : (res == 0) = false := by simpa using hr
        rw [g] at HV
        cases b2 : inB res 0 1000000000
        all_goals
          go_enter Try.func76, Try.ntmps76
          go_wp2_with (first | (go_at_call 102; refine (l01In_any _ _ _ _).mono ?_; rintro e w' ⟨rfl, rfl⟩) | (go_at_call 105; refine (l02Op_any _ _).mono ?_; rintro e w' ⟨rfl, rfl⟩) | (go_at_call 106; refine (l02Arg_any _ _ _).mono ?_; rintro e w' ⟨rfl, rfl⟩))
          go_ret
          exact ⟨ret_bool (HV.out.symm), below_alloc _ _⟩
    · have g : (code == 0) = false := by simpa using hc
      rw [g] at HV
      cases b1 : inB code 0 19
      · go_enter Try.func76, Try.ntmps76
        go_wp2_with (first | (go_at_call 102; refine (l01In_any _ _ _ _).mono ?_; rintro e w' ⟨rfl, rfl⟩) | (go_at_call 105; refine (l02Op_any _ _).mono ?_; rintro e w' ⟨rfl, rfl⟩) | (go_at_call 106; refine (l02Arg_any _ _ _).mono ?_; rintro e w' ⟨rfl, rfl⟩))
        go_ret
        exact ⟨ret_bool (HV.out.symm), below_alloc _ _⟩
      cases b2 : inB res 0 1000000000
      all_goals
        go_enter Try.func76, Try.ntmps76
        go_wp2_with (first | (go_at_call 102; refine (l01In_any _ _ _ _).mono ?_; rintro e w' ⟨rfl, rfl⟩) | (go_at_call 105; refine (l02Op_any _ _).mono ?_; rintro e w' ⟨rfl, rfl⟩) | (go_at_call 106; refine (l02Arg_any _ _ _).mono ?_; rintro e w' ⟨rfl, rfl⟩))
        go_ret
        exact ⟨ret_bool (HV.out.symm), below_alloc _ _⟩
  · have HV := Lib.hid (clB_over th op arg fr to code res h1 h2 h3 h4 ht)
    have g : (to == 0) = false := by simpa using ht
    cases b0 : inB to (fr + 1) 1000000
    · rw [b0] at HV
      go_enter Try.func76, Try.ntmps76
      go_wp2_with (first | (go_at_call 102; refine (l01In_any _ _ _ _).mono ?_; rintro e w' ⟨rfl, rfl⟩) | (go_at_call 105; refine (l02Op_any _ _).mono ?_; rintro e w' ⟨rfl, rfl⟩) | (go_at_call 106; refine (l02Arg_any _ _ _).mono ?_; rintro e w' ⟨rfl, rfl⟩))
      go_ret
      exact ⟨ret_bool (HV.out.symm), below_alloc _ _⟩
    have g2 : 0 < to := by have := inB_true b0; have := inB_true h4; omega
    cases b1 : inB code 0 19
    · rw [b0, b1] at HV
      go_enter Try.func76, Try.ntmps76
      go_wp2_with (first | (go_at_call 102; refine (l01In_any _ _ _ _).mono ?_; rintro e w' ⟨rfl, rfl⟩) | (go_at_call 105; refine (l02Op_any _ _).mono ?_; rintro e w' ⟨rfl, rfl⟩) | (go_at_call 106; refine (l02Arg_any _ _ _).mono ?_; rintro e w' ⟨rfl, rfl⟩))
      go_ret
      exact ⟨ret_bool (HV.out.symm), below_alloc _ _⟩
    cases b2 : inB res 0 1000000000
    all_goals
      rw [b0, b1, b2] at HV
      go_enter Try.func76, Try.ntmps76
      go_wp2_with (first | (go_at_call 102; refine (l01In_any _ _ _ _).mono ?_; rintro e w' ⟨rfl, rfl⟩) | (go_at_call 105; refine (l02Op_any _ _).mono ?_; rintro e w' ⟨rfl, rfl⟩) | (go_at_call 106; refine (l02Arg_any _ _ _).mono ?_; rintro e w' ⟨rfl, rfl⟩))
      go_ret
      exact ⟨ret_bool (HV.out.symm), below_alloc _ _⟩

set_option maxHeartbeats 4000000 in
theorem implCallOK_any (th op arg fr to code res : Int) (w : World) : Calls Try.prog 78 #[.agg #[.int .i64 th, .int .i64 op, .int .i64 arg, .int .i64 fr, .int .i64 to, .int .i64 code, .int .i64 res]] w fun e w' => e = .returned (.bool (clB th op arg fr to code res)) ∧ Below w.heap.size w w' := by
  cases h1 : inB th 0 3
  · have HV := Lib.hid (clB_th th op arg fr to code res h1)
    go_enter Try.func78, Try.ntmps78
    go_wp2_with (first | (go_at_call 107; refine (idOK_any _ _).mono ?_; rintro e w' ⟨rfl, rfl⟩) | (go_at_call 108; refine (opOK_any _ _).mono ?_; rintro e w' ⟨rfl, rfl⟩) | (go_at_call 74; refine (argOK_any _ _ _).mono ?_; rintro e w' ⟨rfl, rfl⟩) | (go_at_call 127; refine (timeOK_any _ _).mono ?_; rintro e w' ⟨rfl, rfl⟩) | (go_at_call 129; refine (codeOK_any _ _).mono ?_; rintro e w' ⟨rfl, rfl⟩) | (go_at_call 71; refine (resultOK_any _ _).mono ?_; rintro e w' ⟨rfl, rfl⟩))
    go_ret
    exact ⟨ret_bool (HV.out.symm), below_alloc _ _⟩
  cases h2 : opB op
  · have HV := Lib.hid (clB_op th op arg fr to code res h2)
    go_enter Try.func78, Try.ntmps78
    go_wp2_with (first | (go_at_call 107; refine (idOK_any _ _).mono ?_; rintro e w' ⟨rfl, rfl⟩) | (go_at_call 108; refine (opOK_any _ _).mono ?_; rintro e w' ⟨rfl, rfl⟩) | (go_at_call 74; refine (argOK_any _ _ _).mono ?_; rintro e w' ⟨rfl, rfl⟩) | (go_at_call 127; refine (timeOK_any _ _).mono ?_; rintro e w' ⟨rfl, rfl⟩) | (go_at_call 129; refine (codeOK_any _ _).mono ?_; rintro e w' ⟨rfl, rfl⟩) | (go_at_call 71; refine (resultOK_any _ _).mono ?_; rintro e w' ⟨rfl, rfl⟩))
    go_ret
    exact ⟨ret_bool (HV.out.symm), below_alloc _ _⟩
  cases h3 : argB op arg
  · have HV := Lib.hid (clB_arg th op arg fr to code res h3)
    go_enter Try.func78, Try.ntmps78
    go_wp2_with (first | (go_at_call 107; refine (idOK_any _ _).mono ?_; rintro e w' ⟨rfl, rfl⟩) | (go_at_call 108; refine (opOK_any _ _).mono ?_; rintro e w' ⟨rfl, rfl⟩) | (go_at_call 74; refine (argOK_any _ _ _).mono ?_; rintro e w' ⟨rfl, rfl⟩) | (go_at_call 127; refine (timeOK_any _ _).mono ?_; rintro e w' ⟨rfl, rfl⟩) | (go_at_call 129; refine (codeOK_any _ _).mono ?_; rintro e w' ⟨rfl, rfl⟩) | (go_at_call 71; refine (resultOK_any _ _).mono ?_; rintro e w' ⟨rfl, rfl⟩))
    go_ret
    exact ⟨ret_bool (HV.out.symm), below_alloc _ _⟩
  cases h4 : inB fr 0 1000000
  · have HV := Lib.hid (clB_fr th op arg fr to code res h4)
    go_enter Try.func78, Try.ntmps78
    go_wp2_with (first | (go_at_call 107; refine (idOK_any _ _).mono ?_; rintro e w' ⟨rfl, rfl⟩) | (go_at_call 108; refine (opOK_any _ _).mono ?_; rintro e w' ⟨rfl, rfl⟩) | (go_at_call 74; refine (argOK_any _ _ _).mono ?_; rintro e w' ⟨rfl, rfl⟩) | (go_at_call 127; refine (timeOK_any _ _).mono ?_; rintro e w' ⟨rfl, rfl⟩) | (go_at_call 129; refine (codeOK_any _ _).mono ?_; rintro e w' ⟨rfl, rfl⟩) | (go_at_call 71; refine (resultOK_any _ _).mono ?_; rintro e w' ⟨rfl, rfl⟩))
    go_ret
    exact ⟨ret_bool (HV.out.symm), below_alloc _ _⟩
  by_cases ht : to = 0
  · subst ht
    have HV := Lib.hid (clB_open th op arg fr code res h1 h2 h3 h4)
    by_cases hc : code = 0
    · subst hc
      by_cases hr : res = 0
      · subst hr
        go_enter Try.func78, Try.ntmps78
        go_wp2_with (first | (go_at_call 107; refine (idOK_any _ _).mono ?_; rintro e w' ⟨rfl, rfl⟩) | (go_at_call 108; refine (opOK_any _ _).mono ?_; rintro e w' ⟨rfl, rfl⟩) | (go_at_call 74; refine (argOK_any _ _ _).mono ?_; rintro e w' ⟨rfl, rfl⟩) | (go_at_call 127; refine (timeOK_any _ _).mono ?_; rintro e w' ⟨rfl, rfl⟩) | (go_at_call 129; refine (codeOK_any _ _).mono ?_; rintro e w' ⟨rfl, rfl⟩) | (go_at_call 71; refine (resultOK_any _ _).mono ?_; rintro e w' ⟨rfl, rfl⟩))
        refine (isOpen_any _ _ _ _ _ _ _ _).mono ?_
        rintro e w1 ⟨rfl, hb⟩
        have HB := Lib.hid (below_trans (below_alloc _ _) hb)
        have hx0 : w1.cell? ⟨w.heap.size, 0, none⟩ = some (.int .i64 th) := cell_keep hb (by simp)
        have hx1 : w1.cell? ⟨w.heap.size, 1, none⟩ = some (.int .i64 op) := cell_keep hb (by simp)
        have hx2 : w1.cell? ⟨w.heap.size, 2, none⟩ = some (.int .i64 arg) := cell_keep hb (by simp)
        have hx3 : w1.cell? ⟨w.heap.size, 3, none⟩ = some (.int .i64 fr) := cell_keep hb (by simp)
        have hx4 : w1.cell? ⟨w.heap.size, 4, none⟩ = some (.int .i64 0) := cell_keep hb (by simp)
        have hx5 : w1.cell? ⟨w.heap.size, 5, none⟩ = some (.int .i64 0) := cell_keep hb (by simp)
        have hx6 : w1.cell? ⟨w.heap.size, 6, none⟩ = some (.int .i64 0) := cell_keep hb (by simp)
        clear hb
        go_wp2_with (first | (go_at_call 107; refine (idOK_any _ _).mono ?_; rintro e w' ⟨rfl, rfl⟩) | (go_at_call 108; refine (opOK_any _ _).mono ?_; rintro e w' ⟨rfl, rfl⟩) | (go_at_call 74; refine (argOK_any _ _ _).mono ?_; rintro e w' ⟨rfl, rfl⟩) | (go_at_call 127; refine (timeOK_any _ _).mono ?_; rintro e w' ⟨rfl, rfl⟩) | (go_at_call 129; refine (codeOK_any _ _).mono ?_; rintro e w' ⟨rfl, rfl⟩) | (go_at_call 71; refine (resultOK_any _ _).mono ?_; rintro e w' ⟨rfl, rfl⟩))
        go_ret
        exact ⟨ret_bool (HV.out.symm), HB.out⟩
      · have g : (res == 0) = false := by simpa using hr
        rw [g] at HV
        go_enter Try.func78, Try.ntmps78
        go_wp2_with (first | (go_at_call 107; refine (idOK_any _ _).mono ?_; rintro e w' ⟨rfl, rfl⟩) | (go_at_call 108; refine (opOK_any _ _).mono ?_; rintro e w' ⟨rfl, rfl⟩) | (go_at_call 74; refine (argOK_any _ _ _).mono ?_; rintro e w' ⟨rfl, rfl⟩) | (go_at_call 127; refine (timeOK_any _ _).mono ?_; rintro e w' ⟨rfl, rfl⟩) | (go_at_call 129; refine (codeOK_any _ _).mono ?_; rintro e w' ⟨rfl, rfl⟩) | (go_at_call 71; refine (resultOK_any _ _).mono ?_; rintro e w' ⟨rfl, rfl⟩))
        refine (isOpen_any _ _ _ _ _ _ _ _).mono ?_
        rintro e w1 ⟨rfl, hb⟩
        have HB := Lib.hid (below_trans (below_alloc _ _) hb)
        have hx0 : w1.cell? ⟨w.heap.size, 0, none⟩ = some (.int .i64 th) := cell_keep hb (by simp)
        have hx1 : w1.cell? ⟨w.heap.size, 1, none⟩ = some (.int .i64 op) := cell_keep hb (by simp)
        have hx2 : w1.cell? ⟨w.heap.size, 2, none⟩ = some (.int .i64 arg) := cell_keep hb (by simp)
        have hx3 : w1.cell? ⟨w.heap.size, 3, none⟩ = some (.int .i64 fr) := cell_keep hb (by simp)
        have hx4 : w1.cell? ⟨w.heap.size, 4, none⟩ = some (.int .i64 0) := cell_keep hb (by simp)
        have hx5 : w1.cell? ⟨w.heap.size, 5, none⟩ = some (.int .i64 0) := cell_keep hb (by simp)
        have hx6 : w1.cell? ⟨w.heap.size, 6, none⟩ = some (.int .i64 res) := cell_keep hb (by simp)
        clear hb
        go_wp2_with (first | (go_at_call 107; refine (idOK_any _ _).mono ?_; rintro e w' ⟨rfl, rfl⟩) | (go_at_call 108; refine (opOK_any _ _).mono ?_; rintro e w' ⟨rfl, rfl⟩) | (go_at_call 74; refine (argOK_any _ _ _).mono ?_; rintro e w' ⟨rfl, rfl⟩) | (go_at_call 127; refine (timeOK_any _ _).mono ?_; rintro e w' ⟨rfl, rfl⟩) | (go_at_call 129; refine (codeOK_any _ _).mono ?_; rintro e w' ⟨rfl, rfl⟩) | (go_at_call 71; refine (resultOK_any _ _).mono ?_; rintro e w' ⟨rfl, rfl⟩))
        go_ret
        exact ⟨ret_bool (HV.out.symm), HB.out⟩
    · have g : (code == 0) = false := by simpa using hc
      rw [g] at HV
      go_enter Try.func78, Try.ntmps78
      go_wp2_with (first | (go_at_call 107; refine (idOK_any _ _).mono ?_; rintro e w' ⟨rfl, rfl⟩) | (go_at_call 108; refine (opOK_any _ _).mono ?_; rintro e w' ⟨rfl, rfl⟩) | (go_at_call 74; refine (argOK_any _ _ _).mono ?_; rintro e w' ⟨rfl, rfl⟩) | (go_at_call 127; refine (timeOK_any _ _).mono ?_; rintro e w' ⟨rfl, rfl⟩) | (go_at_call 129; refine (codeOK_any _ _).mono ?_; rintro e w' ⟨rfl, rfl⟩) | (go_at_call 71; refine (resultOK_any _ _).mono ?_; rintro e w' ⟨rfl, rfl⟩))
      refine (isOpen_any _ _ _ _ _ _ _ _).mono ?_
      rintro e w1 ⟨rfl, hb⟩
      have HB := Lib.hid (below_trans (below_alloc _ _) hb)
      have hx0 : w1.cell? ⟨w.heap.size, 0, none⟩ = some (.int .i64 th) := cell_keep hb (by simp)
      have hx1 : w1.cell? ⟨w.heap.size, 1, none⟩ = some (.int .i64 op) := cell_keep hb (by simp)
      have hx2 : w1.cell? ⟨w.heap.size, 2, none⟩ = some (.int .i64 arg) := cell_keep hb (by simp)
      have hx3 : w1.cell? ⟨w.heap.size, 3, none⟩ = some (.int .i64 fr) := cell_keep hb (by simp)
      have hx4 : w1.cell? ⟨w.heap.size, 4, none⟩ = some (.int .i64 0) := cell_keep hb (by simp)
      have hx5 : w1.cell? ⟨w.heap.size, 5, none⟩ = some (.int .i64 code) := cell_keep hb (by simp)
      have hx6 : w1.cell? ⟨w.heap.size, 6, none⟩ = some (.int .i64 res) := cell_keep hb (by simp)
      clear hb
      go_wp2_with (first | (go_at_call 107; refine (idOK_any _ _).mono ?_; rintro e w' ⟨rfl, rfl⟩) | (go_at_call 108; refine (opOK_any _ _).mono ?_; rintro e w' ⟨rfl, rfl⟩) | (go_at_call 74; refine (argOK_any _ _ _).mono ?_; rintro e w' ⟨rfl, rfl⟩) | (go_at_call 127; refine (timeOK_any _ _).mono ?_; rintro e w' ⟨rfl, rfl⟩) | (go_at_call 129; refine (codeOK_any _ _).mono ?_; rintro e w' ⟨rfl, rfl⟩) | (go_at_call 71; refine (resultOK_any _ _).mono ?_; rintro e w' ⟨rfl, rfl⟩))
      go_ret
      exact ⟨ret_bool (HV.out.symm), HB.out⟩
  · have HV := Lib.hid (clB_over th op arg fr to code res h1 h2 h3 h4 ht)
    have g : (to == 0) = false := by simpa using ht
    by_cases hg : fr < to
    · have b00 : inB to (fr + 1) 1000000 = inB to 0 1000000 := by have := inB_true h4; rw [Bool.eq_iff_iff, inB_iff, inB_iff]; omega
      rw [b00] at HV
      clear b00
      cases b0 : inB to 0 1000000
      · rw [b0] at HV
        go_enter Try.func78, Try.ntmps78
        go_wp2_with (first | (go_at_call 107; refine (idOK_any _ _).mono ?_; rintro e w' ⟨rfl, rfl⟩) | (go_at_call 108; refine (opOK_any _ _).mono ?_; rintro e w' ⟨rfl, rfl⟩) | (go_at_call 74; refine (argOK_any _ _ _).mono ?_; rintro e w' ⟨rfl, rfl⟩) | (go_at_call 127; refine (timeOK_any _ _).mono ?_; rintro e w' ⟨rfl, rfl⟩) | (go_at_call 129; refine (codeOK_any _ _).mono ?_; rintro e w' ⟨rfl, rfl⟩) | (go_at_call 71; refine (resultOK_any _ _).mono ?_; rintro e w' ⟨rfl, rfl⟩))
        refine (isOpen_any _ _ _ _ _ _ _ _).mono ?_
        rintro e w1 ⟨rfl, hb⟩
        have HB := Lib.hid (below_trans (below_alloc _ _) hb)
        have hx0 : w1.cell? ⟨w.heap.size, 0, none⟩ = some (.int .i64 th) := cell_keep hb (by simp)
        have hx1 : w1.cell? ⟨w.heap.size, 1, none⟩ = some (.int .i64 op) := cell_keep hb (by simp)
        have hx2 : w1.cell? ⟨w.heap.size, 2, none⟩ = some (.int .i64 arg) := cell_keep hb (by simp)
        have hx3 : w1.cell? ⟨w.heap.size, 3, none⟩ = some (.int .i64 fr) := cell_keep hb (by simp)
        have hx4 : w1.cell? ⟨w.heap.size, 4, none⟩ = some (.int .i64 to) := cell_keep hb (by simp)
        have hx5 : w1.cell? ⟨w.heap.size, 5, none⟩ = some (.int .i64 code) := cell_keep hb (by simp)
        have hx6 : w1.cell? ⟨w.heap.size, 6, none⟩ = some (.int .i64 res) := cell_keep hb (by simp)
        clear hb
        go_wp2_with (first | (go_at_call 107; refine (idOK_any _ _).mono ?_; rintro e w' ⟨rfl, rfl⟩) | (go_at_call 108; refine (opOK_any _ _).mono ?_; rintro e w' ⟨rfl, rfl⟩) | (go_at_call 74; refine (argOK_any _ _ _).mono ?_; rintro e w' ⟨rfl, rfl⟩) | (go_at_call 127; refine (timeOK_any _ _).mono ?_; rintro e w' ⟨rfl, rfl⟩) | (go_at_call 129; refine (codeOK_any _ _).mono ?_; rintro e w' ⟨rfl, rfl⟩) | (go_at_call 71; refine (resultOK_any _ _).mono ?_; rintro e w' ⟨rfl, rfl⟩))
        go_ret
        exact ⟨ret_bool (HV.out.symm), HB.out⟩
      cases b1 : inB code 0 19
      · rw [b0, b1] at HV
        go_enter Try.func78, Try.ntmps78
        go_wp2_with (first | (go_at_call 107; refine (idOK_any _ _).mono ?_; rintro e w' ⟨rfl, rfl⟩) | (go_at_call 108; refine (opOK_any _ _).mono ?_; rintro e w' ⟨rfl, rfl⟩) | (go_at_call 74; refine (argOK_any _ _ _).mono ?_; rintro e w' ⟨rfl, rfl⟩) | (go_at_call 127; refine (timeOK_any _ _).mono ?_; rintro e w' ⟨rfl, rfl⟩) | (go_at_call 129; refine (codeOK_any _ _).mono ?_; rintro e w' ⟨rfl, rfl⟩) | (go_at_call 71; refine (resultOK_any _ _).mono ?_; rintro e w' ⟨rfl, rfl⟩))
        refine (isOpen_any _ _ _ _ _ _ _ _).mono ?_
        rintro e w1 ⟨rfl, hb⟩
        have HB := Lib.hid (below_trans (below_alloc _ _) hb)
        have hx0 : w1.cell? ⟨w.heap.size, 0, none⟩ = some (.int .i64 th) := cell_keep hb (by simp)
        have hx1 : w1.cell? ⟨w.heap.size, 1, none⟩ = some (.int .i64 op) := cell_keep hb (by simp)
        have hx2 : w1.cell? ⟨w.heap.size, 2, none⟩ = some (.int .i64 arg) := cell_keep hb (by simp)
        have hx3 : w1.cell? ⟨w.heap.size, 3, none⟩ = some (.int .i64 fr) := cell_keep hb (by simp)
        have hx4 : w1.cell? ⟨w.heap.size, 4, none⟩ = some (.int .i64 to) := cell_keep hb (by simp)
        have hx5 : w1.cell? ⟨w.heap.size, 5, none⟩ = some (.int .i64 code) := cell_keep hb (by simp)
        have hx6 : w1.cell? ⟨w.heap.size, 6, none⟩ = some (.int .i64 res) := cell_keep hb (by simp)
        clear hb
        go_wp2_with (first | (go_at_call 107; refine (idOK_any _ _).mono ?_; rintro e w' ⟨rfl, rfl⟩) | (go_at_call 108; refine (opOK_any _ _).mono ?_; rintro e w' ⟨rfl, rfl⟩) | (go_at_call 74; refine (argOK_any _ _ _).mono ?_; rintro e w' ⟨rfl, rfl⟩) | (go_at_call 127; refine (timeOK_any _ _).mono ?_; rintro e w' ⟨rfl, rfl⟩) | (go_at_call 129; refine (codeOK_any _ _).mono ?_; rintro e w' ⟨rfl, rfl⟩) | (go_at_call 71; refine (resultOK_any _ _).mono ?_; rintro e w' ⟨rfl, rfl⟩))
        go_ret
        exact ⟨ret_bool (HV.out.symm), HB.out⟩
      cases b2 : inB res 0 1000000000
      all_goals
        rw [b0, b1, b2] at HV
        go_enter Try.func78, Try.ntmps78
        go_wp2_with (first | (go_at_call 107; refine (idOK_any _ _).mono ?_; rintro e w' ⟨rfl, rfl⟩) | (go_at_call 108; refine (opOK_any _ _).mono ?_; rintro e w' ⟨rfl, rfl⟩) | (go_at_call 74; refine (argOK_any _ _ _).mono ?_; rintro e w' ⟨rfl, rfl⟩) | (go_at_call 127; refine (timeOK_any _ _).mono ?_; rintro e w' ⟨rfl, rfl⟩) | (go_at_call 129; refine (codeOK_any _ _).mono ?_; rintro e w' ⟨rfl, rfl⟩) | (go_at_call 71; refine (resultOK_any _ _).mono ?_; rintro e w' ⟨rfl, rfl⟩))
        refine (isOpen_any _ _ _ _ _ _ _ _).mono ?_
        rintro e w1 ⟨rfl, hb⟩
        have HB := Lib.hid (below_trans (below_alloc _ _) hb)
        have hx0 : w1.cell? ⟨w.heap.size, 0, none⟩ = some (.int .i64 th) := cell_keep hb (by simp)
        have hx1 : w1.cell? ⟨w.heap.size, 1, none⟩ = some (.int .i64 op) := cell_keep hb (by simp)
        have hx2 : w1.cell? ⟨w.heap.size, 2, none⟩ = some (.int .i64 arg) := cell_keep hb (by simp)
        have hx3 : w1.cell? ⟨w.heap.size, 3, none⟩ = some (.int .i64 fr) := cell_keep hb (by simp)
        have hx4 : w1.cell? ⟨w.heap.size, 4, none⟩ = some (.int .i64 to) := cell_keep hb (by simp)
        have hx5 : w1.cell? ⟨w.heap.size, 5, none⟩ = some (.int .i64 code) := cell_keep hb (by simp)
        have hx6 : w1.cell? ⟨w.heap.size, 6, none⟩ = some (.int .i64 res) := cell_keep hb (by simp)
        clear hb
        go_wp2_with (first | (go_at_call 107; refine (idOK_any _ _).mono ?_; rintro e w' ⟨rfl, rfl⟩) | (go_at_call 108; refine (opOK_any _ _).mono ?_; rintro e w' ⟨rfl, rfl⟩) | (go_at_call 74; refine (argOK_any _ _ _).mono ?_; rintro e w' ⟨rfl, rfl⟩) | (go_at_call 127; refine (timeOK_any _ _).mono ?_; rintro e w' ⟨rfl, rfl⟩) | (go_at_call 129; refine (codeOK_any _ _).mono ?_; rintro e w' ⟨rfl, rfl⟩) | (go_at_call 71; refine (resultOK_any _ _).mono ?_; rintro e w' ⟨rfl, rfl⟩))
        go_ret
        exact ⟨ret_bool (HV.out.symm), HB.out⟩
    · have b0 : inB to (fr + 1) 1000000 = false := by rw [Bool.eq_false_iff]; intro hh; have := inB_iff.1 hh; omega
      rw [b0] at HV
      clear b0
      go_enter Try.func78, Try.ntmps78
      go_wp2_with (first | (go_at_call 107; refine (idOK_any _ _).mono ?_; rintro e w' ⟨rfl, rfl⟩) | (go_at_call 108; refine (opOK_any _ _).mono ?_; rintro e w' ⟨rfl, rfl⟩) | (go_at_call 74; refine (argOK_any _ _ _).mono ?_; rintro e w' ⟨rfl, rfl⟩) | (go_at_call 127; refine (timeOK_any _ _).mono ?_; rintro e w' ⟨rfl, rfl⟩) | (go_at_call 129; refine (codeOK_any _ _).mono ?_; rintro e w' ⟨rfl, rfl⟩) | (go_at_call 71; refine (resultOK_any _ _).mono ?_; rintro e w' ⟨rfl, rfl⟩))
      refine (isOpen_any _ _ _ _ _ _ _ _).mono ?_
      rintro e w1 ⟨rfl, hb⟩
      have HB := Lib.hid (below_trans (below_alloc _ _) hb)
      have hx0 : w1.cell? ⟨w.heap.size, 0, none⟩ = some (.int .i64 th) := cell_keep hb (by simp)
      have hx1 : w1.cell? ⟨w.heap.size, 1, none⟩ = some (.int .i64 op) := cell_keep hb (by simp)
      have hx2 : w1.cell? ⟨w.heap.size, 2, none⟩ = some (.int .i64 arg) := cell_keep hb (by simp)
      have hx3 : w1.cell? ⟨w.heap.size, 3, none⟩ = some (.int .i64 fr) := cell_keep hb (by simp)
      have hx4 : w1.cell? ⟨w.heap.size, 4, none⟩ = some (.int .i64 to) := cell_keep hb (by simp)
      have hx5 : w1.cell? ⟨w.heap.size, 5, none⟩ = some (.int .i64 code) := cell_keep hb (by simp)
      have hx6 : w1.cell? ⟨w.heap.size, 6, none⟩ = some (.int .i64 res) := cell_keep hb (by simp)
      clear hb
      go_wp2_with (first | (go_at_call 107; refine (idOK_any _ _).mono ?_; rintro e w' ⟨rfl, rfl⟩) | (go_at_call 108; refine (opOK_any _ _).mono ?_; rintro e w' ⟨rfl, rfl⟩) | (go_at_call 74; refine (argOK_any _ _ _).mono ?_; rintro e w' ⟨rfl, rfl⟩) | (go_at_call 127; refine (timeOK_any _ _).mono ?_; rintro e w' ⟨rfl, rfl⟩) | (go_at_call 129; refine (codeOK_any _ _).mono ?_; rintro e w' ⟨rfl, rfl⟩) | (go_at_call 71; refine (resultOK_any _ _).mono ?_; rintro e w' ⟨rfl, rfl⟩))
      go_ret
      exact ⟨ret_bool (HV.out.symm), HB.out⟩

set_option maxHeartbeats 1000000 in
theorem toCall_any (th op arg fr to code res : Int) (w : World) : Calls Try.prog 29 #[.agg #[.int .i64 th, .int .i64 op, .int .i64 arg, .int .i64 fr, .int .i64 to, .int .i64 code, .int .i64 res]] w fun e w' => e = .returned (.agg #[.int .i64 th, .int .i64 op, .int .i64 arg, .int .i64 fr, .int .i64 to, .int .i64 code, .int .i64 res]) ∧ Below w.heap.size w w' := by
  go_enter Try.func29, Try.ntmps29
  go_wp2
  refine bodyPost_ret (v := .agg #[.int .i64 th, .int .i64 op, .int .i64 arg, .int .i64 fr, .int .i64 to, .int .i64 code, .int .i64 res]) (by simp [results, Try.results29, go_sem]) rfl ⟨rfl, ?_⟩
  exact below_alloc3 _ _ _ _
end Go.Proofs.Ythianfhfamkcmaa
