/-
  Machines (chapter 9): SameMachine, the program's and the model's.
-/
import Derived.Test.YtiogebflfnicgaaMaV
import Derived.Test.YtiogebflfnicgaaMaW
import Derived.Test.YtiogebflfnicgaaSame
import Derived.Test.YtiogebflfnicgaaEqM
import Derived.Test.YtiogebflfnicgaaBoxD
namespace Go.Proofs.Ytiogebflfnicgaa
open Go.RowKit

/-- What SameMachine answers. -/
def saB (zs : List Int) (ts : List Thd) (cs : List Cll) (clk stp : Int) (zs2 : List Int) (ts2 : List Thd) (cs2 : List Cll) (clk2 stp2 : Int) : Bool :=
  machB zs ts cs clk stp && machB zs2 ts2 cs2 clk2 stp2 && clk == clk2 && stp == stp2 && decide (zs = zs2) && deq ts ts2 && deq cs cs2
theorem mach_four {zs : List Int} {ts : List Thd} {cs : List Cll} {clk stp : Int} (h : machB zs ts cs clk stp = true) : ts.length = 4 := by
  unfold machB at h
  simp only [Bool.and_eq_true, decide_eq_true_eq] at h
  exact h.1.2.1

set_option maxHeartbeats 2000000 in
set_option maxRecDepth 100000 in
theorem implSameMachine_any (A T C : Option Addr) (ca ct cc : Nat) (zs : List Int) (ts : List Thd) (cs : List Cll) (clk stp : Int) (A2 T2 C2 : Option Addr) (ca2 ct2 cc2 : Nat) (zs2 : List Int) (ts2 : List Thd) (cs2 : List Cll) (clk2 stp2 : Int) (w : World) (hz : zs.length ≤ 1048576) (ht : ts.length ≤ 1048576) (hc : cs.length ≤ 1048576) (hA : Rd w A zs) (hT : RdR Thd.cs w T ts) (hC : RdR Cll.cs w C cs)
    (hz2 : zs2.length ≤ 1048576) (ht2 : ts2.length ≤ 1048576) (hc2 : cs2.length ≤ 1048576) (hA2 : Rd w A2 zs2) (hT2 : RdR Thd.cs w T2 ts2) (hC2 : RdR Cll.cs w C2 cs2) :
    Calls Try.prog 32 #[.agg #[.slice A zs.length ca, .slice T ts.length ct, .int .i64 clk, .int .i64 stp, .slice C cs.length cc], .agg #[.slice A2 zs2.length ca2, .slice T2 ts2.length ct2, .int .i64 clk2, .int .i64 stp2, .slice C2 cs2.length cc2]] w fun e w' => e = .returned (.bool (saB zs ts cs clk stp zs2 ts2 cs2 clk2 stp2)) ∧ Below w.heap.size w w' := by
  have HA := Lib.hid hA; have HT := Lib.hid hT; have HC := Lib.hid hC; have HA2 := Lib.hid hA2; have HT2 := Lib.hid hT2; have HC2 := Lib.hid hC2; clear hA hT hC hA2 hT2 hC2
  replace hz := Lib.hid hz; replace ht := Lib.hid ht; replace hc := Lib.hid hc; replace hz2 := Lib.hid hz2; replace ht2 := Lib.hid ht2; replace hc2 := Lib.hid hc2
  have HB0 := Lib.hid (below_alloc2 w (.cells #[.slice A zs.length ca, .slice T ts.length ct, .int .i64 clk, .int .i64 stp, .slice C cs.length cc] 64) (.cells #[.slice A2 zs2.length ca2, .slice T2 ts2.length ct2, .int .i64 clk2, .int .i64 stp2, .slice C2 cs2.length cc2] 64))
  have HX0 := Lib.hid ((BoxC.new 64 w #[.slice A zs.length ca, .slice T ts.length ct, .int .i64 clk, .int .i64 stp, .slice C cs.length cc]).below (below_alloc _ (.cells #[.slice A2 zs2.length ca2, .slice T2 ts2.length ct2, .int .i64 clk2, .int .i64 stp2, .slice C2 cs2.length cc2] 64)))
  have HY0 := Lib.hid (by have h := BoxC.new 64 (w.alloc (.cells #[.slice A zs.length ca, .slice T ts.length ct, .int .i64 clk, .int .i64 stp, .slice C cs.length cc] 64)) #[.slice A2 zs2.length ca2, .slice T2 ts2.length ct2, .int .i64 clk2, .int .i64 stp2, .slice C2 cs2.length cc2]; rw [size_alloc] at h; exact h)
  cases QA : machB zs ts cs clk stp
  · have HF : Hid (saB zs ts cs clk stp zs2 ts2 cs2 clk2 stp2 = false) := by unfold Hid saB; rw [QA]; simp
    go_enter Try.func32, Try.ntmps32
    have hx := HX0.out.cell; have hy := HY0.out.cell
    go_wp2_with fail
    refine (implMachineOK_any _ _ _ _ _ _ _ zs ts cs clk stp _ rfl hz.out (HA.out.below HB0.out) (HT.out.below HB0.out) (HC.out.below HB0.out)).mono ?_
    rintro e w1 ⟨rfl, hb⟩
    rw [QA]
    have HB1 := Lib.hid (below_trans HB0.out hb)
    have HX1 := Lib.hid (HX0.out.below hb); have HY1 := Lib.hid (HY0.out.below hb)
    clear hb HB0 HX0 HY0 hx hy
    have hx := HX1.out.cell; have hy := HY1.out.cell
    go_wp2
    go_ret
    exact ⟨ret_bool HF.out.symm, HB1.out⟩
  cases QB : machB zs2 ts2 cs2 clk2 stp2
  · have HF : Hid (saB zs ts cs clk stp zs2 ts2 cs2 clk2 stp2 = false) := by unfold Hid saB; rw [QB]; simp
    go_enter Try.func32, Try.ntmps32
    have hx := HX0.out.cell; have hy := HY0.out.cell
    go_wp2_with fail
    refine (implMachineOK_any _ _ _ _ _ _ _ zs ts cs clk stp _ rfl hz.out (HA.out.below HB0.out) (HT.out.below HB0.out) (HC.out.below HB0.out)).mono ?_
    rintro e w1 ⟨rfl, hb⟩
    rw [QA]
    have HB1 := Lib.hid (below_trans HB0.out hb)
    have HX1 := Lib.hid (HX0.out.below hb); have HY1 := Lib.hid (HY0.out.below hb)
    clear hb HB0 HX0 HY0 hx hy
    have hx := HX1.out.cell; have hy := HY1.out.cell
    go_wp2_with fail
    refine (implMachineOK_any _ _ _ _ _ _ _ zs2 ts2 cs2 clk2 stp2 _ rfl hz2.out (HA2.out.below HB1.out) (HT2.out.below HB1.out) (HC2.out.below HB1.out)).mono ?_
    rintro e w2 ⟨rfl, hb⟩
    rw [QB]
    have HB2 := Lib.hid (below_trans HB1.out hb)
    have HX2 := Lib.hid (HX1.out.below hb); have HY2 := Lib.hid (HY1.out.below hb)
    clear hb HB1 HX1 HY1 hx hy
    have hx := HX2.out.cell; have hy := HY2.out.cell
    go_wp2
    go_ret
    exact ⟨ret_bool HF.out.symm, HB2.out⟩
  cases Q1 : clk == clk2
  · have HF : Hid (saB zs ts cs clk stp zs2 ts2 cs2 clk2 stp2 = false) := by unfold Hid saB; rw [Q1]; simp
    have q1 : ¬ clk = clk2 := by simpa using Q1
    have q1b : (clk != clk2) = true := by simpa using q1
    go_enter Try.func32, Try.ntmps32
    have hx := HX0.out.cell; have hy := HY0.out.cell
    go_wp2_with fail
    refine (implMachineOK_any _ _ _ _ _ _ _ zs ts cs clk stp _ rfl hz.out (HA.out.below HB0.out) (HT.out.below HB0.out) (HC.out.below HB0.out)).mono ?_
    rintro e w1 ⟨rfl, hb⟩
    rw [QA]
    have HB1 := Lib.hid (below_trans HB0.out hb)
    have HX1 := Lib.hid (HX0.out.below hb); have HY1 := Lib.hid (HY0.out.below hb)
    clear hb HB0 HX0 HY0 hx hy
    have hx := HX1.out.cell; have hy := HY1.out.cell
    go_wp2_with fail
    refine (implMachineOK_any _ _ _ _ _ _ _ zs2 ts2 cs2 clk2 stp2 _ rfl hz2.out (HA2.out.below HB1.out) (HT2.out.below HB1.out) (HC2.out.below HB1.out)).mono ?_
    rintro e w2 ⟨rfl, hb⟩
    rw [QB]
    have HB2 := Lib.hid (below_trans HB1.out hb)
    have HX2 := Lib.hid (HX1.out.below hb); have HY2 := Lib.hid (HY1.out.below hb)
    clear hb HB1 HX1 HY1 hx hy
    have hx := HX2.out.cell; have hy := HY2.out.cell
    go_wp2
    go_ret
    exact ⟨ret_bool HF.out.symm, HB2.out⟩
  have q1 : clk = clk2 := by simpa using Q1
  subst q1
  cases Q2 : stp == stp2
  · have HF : Hid (saB zs ts cs clk stp zs2 ts2 cs2 clk stp2 = false) := by unfold Hid saB; rw [Q2]; simp
    have q2 : ¬ stp = stp2 := by simpa using Q2
    have q2b : (stp != stp2) = true := by simpa using q2
    go_enter Try.func32, Try.ntmps32
    have hx := HX0.out.cell; have hy := HY0.out.cell
    go_wp2_with fail
    refine (implMachineOK_any _ _ _ _ _ _ _ zs ts cs clk stp _ rfl hz.out (HA.out.below HB0.out) (HT.out.below HB0.out) (HC.out.below HB0.out)).mono ?_
    rintro e w1 ⟨rfl, hb⟩
    rw [QA]
    have HB1 := Lib.hid (below_trans HB0.out hb)
    have HX1 := Lib.hid (HX0.out.below hb); have HY1 := Lib.hid (HY0.out.below hb)
    clear hb HB0 HX0 HY0 hx hy
    have hx := HX1.out.cell; have hy := HY1.out.cell
    go_wp2_with fail
    refine (implMachineOK_any _ _ _ _ _ _ _ zs2 ts2 cs2 clk stp2 _ rfl hz2.out (HA2.out.below HB1.out) (HT2.out.below HB1.out) (HC2.out.below HB1.out)).mono ?_
    rintro e w2 ⟨rfl, hb⟩
    rw [QB]
    have HB2 := Lib.hid (below_trans HB1.out hb)
    have HX2 := Lib.hid (HX1.out.below hb); have HY2 := Lib.hid (HY1.out.below hb)
    clear hb HB1 HX1 HY1 hx hy
    have hx := HX2.out.cell; have hy := HY2.out.cell
    go_wp2
    go_ret
    exact ⟨ret_bool HF.out.symm, HB2.out⟩
  have q2 : stp = stp2 := by simpa using Q2
  subst q2
  cases Q3 : decide (zs = zs2)
  · have HF : Hid (saB zs ts cs clk stp zs2 ts2 cs2 clk stp = false) := by unfold Hid saB; rw [Q3]; simp
    go_enter Try.func32, Try.ntmps32
    have hx := HX0.out.cell; have hy := HY0.out.cell
    go_wp2_with fail
    refine (implMachineOK_any _ _ _ _ _ _ _ zs ts cs clk stp _ rfl hz.out (HA.out.below HB0.out) (HT.out.below HB0.out) (HC.out.below HB0.out)).mono ?_
    rintro e w1 ⟨rfl, hb⟩
    rw [QA]
    have HB1 := Lib.hid (below_trans HB0.out hb)
    have HX1 := Lib.hid (HX0.out.below hb); have HY1 := Lib.hid (HY0.out.below hb)
    clear hb HB0 HX0 HY0 hx hy
    have hx := HX1.out.cell; have hy := HY1.out.cell
    go_wp2_with fail
    refine (implMachineOK_any _ _ _ _ _ _ _ zs2 ts2 cs2 clk stp _ rfl hz2.out (HA2.out.below HB1.out) (HT2.out.below HB1.out) (HC2.out.below HB1.out)).mono ?_
    rintro e w2 ⟨rfl, hb⟩
    rw [QB]
    have HB2 := Lib.hid (below_trans HB1.out hb)
    have HX2 := Lib.hid (HX1.out.below hb); have HY2 := Lib.hid (HY1.out.below hb)
    clear hb HB1 HX1 HY1 hx hy
    have hx := HX2.out.cell; have hy := HY2.out.cell
    go_wp2_with fail
    refine (implSameArena_any _ _ _ _ zs zs2 _ (by have := hz.out; unfold maxLen; omega) (by have := hz2.out; unfold maxLen; omega) (HA.out.below HB2.out) (HA2.out.below HB2.out)).mono ?_
    rintro e w3 ⟨rfl, hb⟩
    rw [Q3]
    have HB3 := Lib.hid (below_trans HB2.out hb)
    have HX3 := Lib.hid (HX2.out.below hb); have HY3 := Lib.hid (HY2.out.below hb)
    clear hb HB2 HX2 HY2 hx hy
    have hx := HX3.out.cell; have hy := HY3.out.cell
    go_wp2
    go_ret
    exact ⟨ret_bool HF.out.symm, HB3.out⟩
  cases Q4 : deq ts ts2
  · have HF : Hid (saB zs ts cs clk stp zs2 ts2 cs2 clk stp = false) := by unfold Hid saB; rw [Q4]; simp
    go_enter Try.func32, Try.ntmps32
    have hx := HX0.out.cell; have hy := HY0.out.cell
    go_wp2_with fail
    refine (implMachineOK_any _ _ _ _ _ _ _ zs ts cs clk stp _ rfl hz.out (HA.out.below HB0.out) (HT.out.below HB0.out) (HC.out.below HB0.out)).mono ?_
    rintro e w1 ⟨rfl, hb⟩
    rw [QA]
    have HB1 := Lib.hid (below_trans HB0.out hb)
    have HX1 := Lib.hid (HX0.out.below hb); have HY1 := Lib.hid (HY0.out.below hb)
    clear hb HB0 HX0 HY0 hx hy
    have hx := HX1.out.cell; have hy := HY1.out.cell
    go_wp2_with fail
    refine (implMachineOK_any _ _ _ _ _ _ _ zs2 ts2 cs2 clk stp _ rfl hz2.out (HA2.out.below HB1.out) (HT2.out.below HB1.out) (HC2.out.below HB1.out)).mono ?_
    rintro e w2 ⟨rfl, hb⟩
    rw [QB]
    have HB2 := Lib.hid (below_trans HB1.out hb)
    have HX2 := Lib.hid (HX1.out.below hb); have HY2 := Lib.hid (HY1.out.below hb)
    clear hb HB1 HX1 HY1 hx hy
    have hx := HX2.out.cell; have hy := HY2.out.cell
    go_wp2_with fail
    refine (implSameArena_any _ _ _ _ zs zs2 _ (by have := hz.out; unfold maxLen; omega) (by have := hz2.out; unfold maxLen; omega) (HA.out.below HB2.out) (HA2.out.below HB2.out)).mono ?_
    rintro e w3 ⟨rfl, hb⟩
    rw [Q3]
    have HB3 := Lib.hid (below_trans HB2.out hb)
    have HX3 := Lib.hid (HX2.out.below hb); have HY3 := Lib.hid (HY2.out.below hb)
    clear hb HB2 HX2 HY2 hx hy
    have hx := HX3.out.cell; have hy := HY3.out.cell
    go_wp2_with fail
    refine (eqRowsT_any _ _ _ _ ts ts2 _ ht.out ht2.out (HT.out.below HB3.out) (HT2.out.below HB3.out)).mono ?_
    rintro e w4 ⟨rfl, hb⟩
    rw [Q4]
    have HB4 := Lib.hid (below_trans HB3.out hb)
    have HX4 := Lib.hid (HX3.out.below hb); have HY4 := Lib.hid (HY3.out.below hb)
    clear hb HB3 HX3 HY3 hx hy
    have hx := HX4.out.cell; have hy := HY4.out.cell
    go_wp2
    go_ret
    exact ⟨ret_bool HF.out.symm, HB4.out⟩
  obtain ⟨q, Q5⟩ : ∃ q, deq cs cs2 = q := ⟨_, rfl⟩
  have HF : Hid (saB zs ts cs clk stp zs2 ts2 cs2 clk stp = q) := by unfold Hid saB; rw [QA, QB, Q1, Q2, Q3, Q4, Q5]; rfl
  go_enter Try.func32, Try.ntmps32
  have hx := HX0.out.cell; have hy := HY0.out.cell
  go_wp2_with fail
  refine (implMachineOK_any _ _ _ _ _ _ _ zs ts cs clk stp _ rfl hz.out (HA.out.below HB0.out) (HT.out.below HB0.out) (HC.out.below HB0.out)).mono ?_
  rintro e w1 ⟨rfl, hb⟩
  rw [QA]
  have HB1 := Lib.hid (below_trans HB0.out hb)
  have HX1 := Lib.hid (HX0.out.below hb); have HY1 := Lib.hid (HY0.out.below hb)
  clear hb HB0 HX0 HY0 hx hy
  have hx := HX1.out.cell; have hy := HY1.out.cell
  go_wp2_with fail
  refine (implMachineOK_any _ _ _ _ _ _ _ zs2 ts2 cs2 clk stp _ rfl hz2.out (HA2.out.below HB1.out) (HT2.out.below HB1.out) (HC2.out.below HB1.out)).mono ?_
  rintro e w2 ⟨rfl, hb⟩
  rw [QB]
  have HB2 := Lib.hid (below_trans HB1.out hb)
  have HX2 := Lib.hid (HX1.out.below hb); have HY2 := Lib.hid (HY1.out.below hb)
  clear hb HB1 HX1 HY1 hx hy
  have hx := HX2.out.cell; have hy := HY2.out.cell
  go_wp2_with fail
  refine (implSameArena_any _ _ _ _ zs zs2 _ (by have := hz.out; unfold maxLen; omega) (by have := hz2.out; unfold maxLen; omega) (HA.out.below HB2.out) (HA2.out.below HB2.out)).mono ?_
  rintro e w3 ⟨rfl, hb⟩
  rw [Q3]
  have HB3 := Lib.hid (below_trans HB2.out hb)
  have HX3 := Lib.hid (HX2.out.below hb); have HY3 := Lib.hid (HY2.out.below hb)
  clear hb HB2 HX2 HY2 hx hy
  have hx := HX3.out.cell; have hy := HY3.out.cell
  go_wp2_with fail
  refine (eqRowsT_any _ _ _ _ ts ts2 _ ht.out ht2.out (HT.out.below HB3.out) (HT2.out.below HB3.out)).mono ?_
  rintro e w4 ⟨rfl, hb⟩
  rw [Q4]
  have HB4 := Lib.hid (below_trans HB3.out hb)
  have HX4 := Lib.hid (HX3.out.below hb); have HY4 := Lib.hid (HY3.out.below hb)
  clear hb HB3 HX3 HY3 hx hy
  have hx := HX4.out.cell; have hy := HY4.out.cell
  go_wp2_with fail
  refine (eqRowsC_any _ _ _ _ cs cs2 _ hc.out hc2.out (HC.out.below HB4.out) (HC2.out.below HB4.out)).mono ?_
  rintro e w5 ⟨rfl, hb⟩
  rw [Q5]
  have HB5 := Lib.hid (below_trans HB4.out hb)
  have HX5 := Lib.hid (HX4.out.below hb); have HY5 := Lib.hid (HY4.out.below hb)
  clear hb HB4 HX4 HY4 hx hy
  have hx := HX5.out.cell; have hy := HY5.out.cell
  go_wp2
  go_ret
  exact ⟨ret_bool HF.out.symm, HB5.out⟩
end Go.Proofs.Ytiogebflfnicgaa
