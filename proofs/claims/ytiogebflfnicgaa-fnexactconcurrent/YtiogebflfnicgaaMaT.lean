/-
  Machines (chapter 9): the model's MachineOK: where it refuses by the machine's own numbers.
-/
import Derived.Test.YtiogebflfnicgaaMaS
import Derived.Test.YtiogebflfnicgaaArenaB
import Derived.Test.YtiogebflfnicgaaMach
import Derived.Test.YtiogebflfnicgaaThT
namespace Go.Proofs.Ytiogebflfnicgaa
open Go.RowKit


/-- The machine's own numbers are right. -/
def numB (zs : List Int) (nt nc : Nat) (clk stp : Int) : Bool := arenaB zs && decide (15 ≤ zs.length) && decide (nt = 4) && inB clk 0 1000000 && inB stp 0 1000000 && decide (nc ≤ 4096)

set_option maxHeartbeats 4000000 in
theorem specMachine_no (A T C : Option Addr) (ca ct cc nt : Nat) (zs : List Int) (cs : List Cll) (clk stp : Int) (w : World) (hz : zs.length ≤ 1048576) (hA : Rd w A zs) (hno : numB zs nt cs.length clk stp = false) :
    Calls Try.prog 73 #[.agg #[.slice A zs.length ca, .slice T nt ct, .int .i64 clk, .int .i64 stp, .slice C cs.length cc]] w fun e w' => e = .returned (.bool false) ∧ Below w.heap.size w w' := by
  have HA := Lib.hid (hA.below (below_alloc w (.cells #[.slice A zs.length ca, .slice T nt ct, .int .i64 clk, .int .i64 stp, .slice C cs.length cc] 64))); clear hA
  have HM0 := Lib.hid (BoxC.new 64 w #[.slice A zs.length ca, .slice T nt ct, .int .i64 clk, .int .i64 stp, .slice C cs.length cc])

  cases q1 : arenaB zs
  · go_enter Try.func73, Try.ntmps73
    go_wp2_with fail
    refine (specArenaOK_any _ _ zs _ hz HA.out).mono ?_
    rintro e w1 ⟨rfl, hb⟩
    rw [q1]
    have HB1 := Lib.hid (below_trans (below_alloc _ _) hb)
    have HM1 := Lib.hid (HM0.out.below hb)
    have hm := HM1.out.cell
    clear hb
    go_wp2_with (go_at_call 39; refine (l01In_any _ _ _ _).mono ?_; rintro e w' ⟨rfl, rfl⟩)
    go_ret
    exact ⟨rfl, HB1.out⟩
  by_cases q2 : zs.length < 15
  · have q2d : decide ((zs.length : Int) < 15) = true := decide_eq_true (by omega)
    have q2i : (zs.length : Int) < 15 := by omega
    go_enter Try.func73, Try.ntmps73
    go_wp2_with fail
    refine (specArenaOK_any _ _ zs _ hz HA.out).mono ?_
    rintro e w1 ⟨rfl, hb⟩
    rw [q1]
    have HB1 := Lib.hid (below_trans (below_alloc _ _) hb)
    have HM1 := Lib.hid (HM0.out.below hb)
    have hm := HM1.out.cell
    clear hb
    go_wp2_with (go_at_call 39; refine (l01In_any _ _ _ _).mono ?_; rintro e w' ⟨rfl, rfl⟩)
    go_ret
    exact ⟨rfl, HB1.out⟩
  have q2d : decide ((zs.length : Int) < 15) = false := decide_eq_false (by omega)
  have q2i : ¬ (zs.length : Int) < 15 := by omega
  by_cases q3 : nt = 4
  rotate_left
  · have q3d : ((nt : Int) == 4) = false := by simp; omega
    have q3i : ¬ (nt : Int) = 4 := by omega
    go_enter Try.func73, Try.ntmps73
    go_wp2_with fail
    refine (specArenaOK_any _ _ zs _ hz HA.out).mono ?_
    rintro e w1 ⟨rfl, hb⟩
    rw [q1]
    have HB1 := Lib.hid (below_trans (below_alloc _ _) hb)
    have HM1 := Lib.hid (HM0.out.below hb)
    have hm := HM1.out.cell
    clear hb
    go_wp2_with (go_at_call 39; refine (l01In_any _ _ _ _).mono ?_; rintro e w' ⟨rfl, rfl⟩)
    go_ret
    exact ⟨rfl, HB1.out⟩
  subst q3
  cases q4 : inB clk 0 1000000
  · go_enter Try.func73, Try.ntmps73
    go_wp2_with fail
    refine (specArenaOK_any _ _ zs _ hz HA.out).mono ?_
    rintro e w1 ⟨rfl, hb⟩
    rw [q1]
    have HB1 := Lib.hid (below_trans (below_alloc _ _) hb)
    have HM1 := Lib.hid (HM0.out.below hb)
    have hm := HM1.out.cell
    clear hb
    go_wp2_with (go_at_call 39; refine (l01In_any _ _ _ _).mono ?_; rintro e w' ⟨rfl, rfl⟩)
    go_ret
    exact ⟨rfl, HB1.out⟩
  cases q5 : inB stp 0 1000000
  · go_enter Try.func73, Try.ntmps73
    go_wp2_with fail
    refine (specArenaOK_any _ _ zs _ hz HA.out).mono ?_
    rintro e w1 ⟨rfl, hb⟩
    rw [q1]
    have HB1 := Lib.hid (below_trans (below_alloc _ _) hb)
    have HM1 := Lib.hid (HM0.out.below hb)
    have hm := HM1.out.cell
    clear hb
    go_wp2_with (go_at_call 39; refine (l01In_any _ _ _ _).mono ?_; rintro e w' ⟨rfl, rfl⟩)
    go_ret
    exact ⟨rfl, HB1.out⟩
  by_cases q6 : cs.length ≤ 4096
  · unfold numB at hno
    rw [q1, q4, q5, decide_eq_true q6, decide_eq_true (by omega : 15 ≤ zs.length)] at hno
    cases hno
  have q6d : decide ((4096 : Int) < (cs.length : Int)) = true := decide_eq_true (by omega)
  have q6i : (4096 : Int) < (cs.length : Int) := by omega
  go_enter Try.func73, Try.ntmps73
  go_wp2_with fail
  refine (specArenaOK_any _ _ zs _ hz HA.out).mono ?_
  rintro e w1 ⟨rfl, hb⟩
  rw [q1]
  have HB1 := Lib.hid (below_trans (below_alloc _ _) hb)
  have HM1 := Lib.hid (HM0.out.below hb)
  have hm := HM1.out.cell
  clear hb
  go_wp2_with (go_at_call 39; refine (l01In_any _ _ _ _).mono ?_; rintro e w' ⟨rfl, rfl⟩)
  go_ret
  exact ⟨rfl, HB1.out⟩
end Go.Proofs.Ytiogebflfnicgaa
