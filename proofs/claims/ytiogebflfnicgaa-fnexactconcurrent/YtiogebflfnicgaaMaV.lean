/-
  Machines (chapter 9): the program's MachineOK.
-/
import Derived.Test.YtiogebflfnicgaaMaB
import Derived.Test.YtiogebflfnicgaaArena
namespace Go.Proofs.Ytiogebflfnicgaa
open Go.RowKit

/-- A right machine: its own numbers, its threads, its calls. -/
def machB (zs : List Int) (ts : List Thd) (cs : List Cll) (clk stp : Int) : Bool :=
  arenaB zs && decide (15 ≤ zs.length) && inB clk 0 1000000 && inB stp 0 1000000 && (decide (ts.length = 4) && thFrom 0 ts) && callsB stp ts cs

set_option maxHeartbeats 1000000 in
theorem threadsOK_no (A T C : Option Addr) (ca ct cc nt : Nat) (zs : List Int) (cs : List Cll) (clk stp : Int) (w : World) (hl : nt ≠ 4) :
    Calls Try.prog 118 #[.agg #[.slice A zs.length ca, .slice T nt ct, .int .i64 clk, .int .i64 stp, .slice C cs.length cc]] w fun e w' => e = .returned (.bool false) ∧ Below w.heap.size w w' := by
  have hne : ((nt : Int) == 4) = false := by simp; omega
  have hne2 : ¬ (nt : Int) = 4 := by omega
  go_enter Try.func118, Try.ntmps118
  go_wp2
  go_ret
  exact ⟨rfl, below_alloc _ _⟩

set_option maxHeartbeats 4000000 in
set_option maxRecDepth 100000 in
theorem implMachineOK_any (A T C : Option Addr) (ca ct cc nt : Nat) (zs : List Int) (ts : List Thd) (cs : List Cll) (clk stp : Int) (w : World) (hnt : nt = ts.length) (hz : zs.length ≤ 1048576) (hA : Rd w A zs) (hT : RdR Thd.cs w T ts) (hC : RdR Cll.cs w C cs) :
    Calls Try.prog 79 #[.agg #[.slice A zs.length ca, .slice T nt ct, .int .i64 clk, .int .i64 stp, .slice C cs.length cc]] w fun e w' => e = .returned (.bool (machB zs ts cs clk stp)) ∧ Below w.heap.size w w' := by
  have HA := Lib.hid (hA.below (below_alloc w (.cells #[.slice A zs.length ca, .slice T nt ct, .int .i64 clk, .int .i64 stp, .slice C cs.length cc] 64))); clear hA
  have HM0 := Lib.hid (BoxC.new 64 w #[.slice A zs.length ca, .slice T nt ct, .int .i64 clk, .int .i64 stp, .slice C cs.length cc])
  have HT := Lib.hid hT; have HC := Lib.hid hC; have HN := Lib.hid hnt; clear hT hC hnt
  cases q1 : arenaB zs
  · go_enter Try.func79, Try.ntmps79
    go_wp2_with fail
    refine (implArenaOK_any _ _ zs _ hz HA.out).mono ?_
    rintro e w1 ⟨rfl, hb⟩
    rw [q1]
    have HB1 := Lib.hid (below_trans (below_alloc _ _) hb)
    have HM1 := Lib.hid (HM0.out.below hb)
    have hm := HM1.out.cell
    clear hb
    go_wp2_with (go_at_call 117; refine (timeOK_any _ _).mono ?_; rintro e w' ⟨rfl, rfl⟩)
    go_ret
    exact ⟨ret_bool (by unfold machB; rw [q1]; rfl), HB1.out⟩
  by_cases q2 : zs.length < 15
  · have q2d : decide ((zs.length : Int) < 15) = true := decide_eq_true (by omega)
    have q2i : (zs.length : Int) < 15 := by omega
    go_enter Try.func79, Try.ntmps79
    go_wp2_with fail
    refine (implArenaOK_any _ _ zs _ hz HA.out).mono ?_
    rintro e w1 ⟨rfl, hb⟩
    rw [q1]
    have HB1 := Lib.hid (below_trans (below_alloc _ _) hb)
    have HM1 := Lib.hid (HM0.out.below hb)
    have hm := HM1.out.cell
    clear hb
    go_wp2_with (go_at_call 117; refine (timeOK_any _ _).mono ?_; rintro e w' ⟨rfl, rfl⟩)
    go_ret
    exact ⟨ret_bool (by unfold machB; rw [decide_eq_false (by omega : ¬ 15 ≤ zs.length)]; simp), HB1.out⟩
  have q2d : decide ((zs.length : Int) < 15) = false := decide_eq_false (by omega)
  have q2i : ¬ (zs.length : Int) < 15 := by omega
  cases q4 : inB clk 0 1000000
  · go_enter Try.func79, Try.ntmps79
    go_wp2_with fail
    refine (implArenaOK_any _ _ zs _ hz HA.out).mono ?_
    rintro e w1 ⟨rfl, hb⟩
    rw [q1]
    have HB1 := Lib.hid (below_trans (below_alloc _ _) hb)
    have HM1 := Lib.hid (HM0.out.below hb)
    have hm := HM1.out.cell
    clear hb
    go_wp2_with (go_at_call 117; refine (timeOK_any _ _).mono ?_; rintro e w' ⟨rfl, rfl⟩)
    go_ret
    exact ⟨ret_bool (by unfold machB; rw [q4]; simp), HB1.out⟩
  cases q5 : inB stp 0 1000000
  · go_enter Try.func79, Try.ntmps79
    go_wp2_with fail
    refine (implArenaOK_any _ _ zs _ hz HA.out).mono ?_
    rintro e w1 ⟨rfl, hb⟩
    rw [q1]
    have HB1 := Lib.hid (below_trans (below_alloc _ _) hb)
    have HM1 := Lib.hid (HM0.out.below hb)
    have hm := HM1.out.cell
    clear hb
    go_wp2_with (go_at_call 117; refine (timeOK_any _ _).mono ?_; rintro e w' ⟨rfl, rfl⟩)
    go_ret
    exact ⟨ret_bool (by unfold machB; rw [q5]; simp), HB1.out⟩
  have HMB : Hid (machB zs ts cs clk stp = ((decide (ts.length = 4) && thFrom 0 ts) && callsB stp ts cs)) := by unfold Hid machB; rw [q1, q4, q5, decide_eq_true (by omega : 15 ≤ zs.length)]; rfl
  by_cases hl : nt = 4
  rotate_left
  · have hlt : ts.length ≠ 4 := by rw [← HN.out]; exact hl
    go_enter Try.func79, Try.ntmps79
    go_wp2_with fail
    refine (implArenaOK_any _ _ zs _ hz HA.out).mono ?_
    rintro e w1 ⟨rfl, hb⟩
    rw [q1]
    have HB1 := Lib.hid (below_trans (below_alloc _ _) hb)
    have HM1 := Lib.hid (HM0.out.below hb)
    have hm := HM1.out.cell
    clear hb
    go_wp2_with (go_at_call 117; refine (timeOK_any _ _).mono ?_; rintro e w' ⟨rfl, rfl⟩)
    refine (threadsOK_no A T C ca ct cc nt zs cs clk stp _ hl).mono ?_
    rintro e w2 ⟨rfl, hb⟩
    have HB2 := Lib.hid (below_trans HB1.out hb)
    go_wp2
    go_ret
    exact ⟨ret_bool (by rw [HMB.out, decide_eq_false hlt]; rfl), HB2.out⟩
  subst hl
  have h4 : ts.length = 4 := HN.out.symm
  cases q6 : thFrom 0 ts
  · go_enter Try.func79, Try.ntmps79
    go_wp2_with fail
    refine (implArenaOK_any _ _ zs _ hz HA.out).mono ?_
    rintro e w1 ⟨rfl, hb⟩
    rw [q1]
    have HB1 := Lib.hid (below_trans (below_alloc _ _) hb)
    have HM1 := Lib.hid (HM0.out.below hb)
    have hm := HM1.out.cell
    clear hb
    go_wp2_with (go_at_call 117; refine (timeOK_any _ _).mono ?_; rintro e w' ⟨rfl, rfl⟩)
    refine (threadsOK_four A T C ca ct cc zs ts cs clk stp _ h4 (HT.out.below HB1.out)).mono ?_
    rintro e w2 ⟨rfl, hb⟩
    rw [q6]
    have HB2 := Lib.hid (below_trans HB1.out hb)
    have HM2 := Lib.hid (HM1.out.below hb)
    clear hb hm
    have hm := HM2.out.cell
    go_wp2
    go_ret
    exact ⟨ret_bool (by rw [HMB.out, q6]; simp), HB2.out⟩
  by_cases q7 : cs.length ≤ 4096
  rotate_left
  · go_enter Try.func79, Try.ntmps79
    go_wp2_with fail
    refine (implArenaOK_any _ _ zs _ hz HA.out).mono ?_
    rintro e w1 ⟨rfl, hb⟩
    rw [q1]
    have HB1 := Lib.hid (below_trans (below_alloc _ _) hb)
    have HM1 := Lib.hid (HM0.out.below hb)
    have hm := HM1.out.cell
    clear hb
    go_wp2_with (go_at_call 117; refine (timeOK_any _ _).mono ?_; rintro e w' ⟨rfl, rfl⟩)
    refine (threadsOK_four A T C ca ct cc zs ts cs clk stp _ h4 (HT.out.below HB1.out)).mono ?_
    rintro e w2 ⟨rfl, hb⟩
    rw [q6]
    have HB2 := Lib.hid (below_trans HB1.out hb)
    have HM2 := Lib.hid (HM1.out.below hb)
    clear hb hm
    have hm := HM2.out.cell
    go_wp2_with fail
    refine (callsOK_many A T C ca ct cc zs cs clk stp _ q7).mono ?_
    rintro e w3 ⟨rfl, hb⟩
    have HB3 := Lib.hid (below_trans HB2.out hb)
    go_wp2
    go_ret
    exact ⟨ret_bool (by rw [HMB.out]; unfold callsB; rw [decide_eq_false q7]; simp), HB3.out⟩
  go_enter Try.func79, Try.ntmps79
  go_wp2_with fail
  refine (implArenaOK_any _ _ zs _ hz HA.out).mono ?_
  rintro e w1 ⟨rfl, hb⟩
  rw [q1]
  have HB1 := Lib.hid (below_trans (below_alloc _ _) hb)
  have HM1 := Lib.hid (HM0.out.below hb)
  have hm := HM1.out.cell
  clear hb
  go_wp2_with (go_at_call 117; refine (timeOK_any _ _).mono ?_; rintro e w' ⟨rfl, rfl⟩)
  refine (threadsOK_four A T C ca ct cc zs ts cs clk stp _ h4 (HT.out.below HB1.out)).mono ?_
  rintro e w2 ⟨rfl, hb⟩
  rw [q6]
  have HB2 := Lib.hid (below_trans HB1.out hb)
  have HM2 := Lib.hid (HM1.out.below hb)
  clear hb hm
  have hm := HM2.out.cell
  go_wp2_with fail
  refine (callsOK_any A T C ca ct cc zs ts cs clk stp _ h4 q7 (HT.out.below HB2.out) (HC.out.below HB2.out)).mono ?_
  rintro e w3 ⟨rfl, hb⟩
  have HB3 := Lib.hid (below_trans HB2.out hb)
  go_wp2
  go_ret
  exact ⟨ret_bool (by rw [HMB.out, decide_eq_true h4, q6]; rfl), HB3.out⟩
end Go.Proofs.Ytiogebflfnicgaa
