/-
  Machines (chapter 9): the model's SameMachine.
-/
import Derived.Test.YtiogebflfnicgaaSameMa
namespace Go.Proofs.Ytiogebflfnicgaa
open Go.RowKit

set_option maxHeartbeats 2000000 in
set_option maxRecDepth 100000 in
theorem specSameMachine_any (A T C : Option Addr) (ca ct cc : Nat) (zs : List Int) (ts : List Thd) (cs : List Cll) (clk stp : Int) (A2 T2 C2 : Option Addr) (ca2 ct2 cc2 : Nat) (zs2 : List Int) (ts2 : List Thd) (cs2 : List Cll) (clk2 stp2 : Int) (w : World) (hz : zs.length ≤ 1048576) (ht : ts.length ≤ 1048576) (hc : cs.length ≤ 1048576) (hA : Rd w A zs) (hT : RdR Thd.cs w T ts) (hC : RdR Cll.cs w C cs)
    (hz2 : zs2.length ≤ 1048576) (ht2 : ts2.length ≤ 1048576) (hc2 : cs2.length ≤ 1048576) (hA2 : Rd w A2 zs2) (hT2 : RdR Thd.cs w T2 ts2) (hC2 : RdR Cll.cs w C2 cs2) :
    Calls Try.prog 30 #[.agg #[.slice A zs.length ca, .slice T ts.length ct, .int .i64 clk, .int .i64 stp, .slice C cs.length cc], .agg #[.slice A2 zs2.length ca2, .slice T2 ts2.length ct2, .int .i64 clk2, .int .i64 stp2, .slice C2 cs2.length cc2]] w fun e w' => e = .returned (.bool (saB zs ts cs clk stp zs2 ts2 cs2 clk2 stp2)) ∧ Below w.heap.size w w' := by
  have HA := Lib.hid hA; have HT := Lib.hid hT; have HC := Lib.hid hC; have HA2 := Lib.hid hA2; have HT2 := Lib.hid hT2; have HC2 := Lib.hid hC2; clear hA hT hC hA2 hT2 hC2
  replace hz := Lib.hid hz; replace ht := Lib.hid ht; replace hc := Lib.hid hc; replace hz2 := Lib.hid hz2; replace ht2 := Lib.hid ht2; replace hc2 := Lib.hid hc2
  have HB0 := Lib.hid (below_alloc2 w (.cells #[.slice A zs.length ca, .slice T ts.length ct, .int .i64 clk, .int .i64 stp, .slice C cs.length cc] 64) (.cells #[.slice A2 zs2.length ca2, .slice T2 ts2.length ct2, .int .i64 clk2, .int .i64 stp2, .slice C2 cs2.length cc2] 64))
  have HX0 := Lib.hid ((BoxC.new 64 w #[.slice A zs.length ca, .slice T ts.length ct, .int .i64 clk, .int .i64 stp, .slice C cs.length cc]).below (below_alloc _ (.cells #[.slice A2 zs2.length ca2, .slice T2 ts2.length ct2, .int .i64 clk2, .int .i64 stp2, .slice C2 cs2.length cc2] 64)))
  have HY0 := Lib.hid (by have h := BoxC.new 64 (w.alloc (.cells #[.slice A zs.length ca, .slice T ts.length ct, .int .i64 clk, .int .i64 stp, .slice C cs.length cc] 64)) #[.slice A2 zs2.length ca2, .slice T2 ts2.length ct2, .int .i64 clk2, .int .i64 stp2, .slice C2 cs2.length cc2]; rw [size_alloc] at h; exact h)
  cases QA : machB zs ts cs clk stp
  · have HF : Hid (saB zs ts cs clk stp zs2 ts2 cs2 clk2 stp2 = false) := by unfold Hid saB; rw [QA]; simp
    go_enter Try.func30, Try.ntmps30
    have hx := HX0.out.cell; have hy := HY0.out.cell
    go_wp2_with fail
    refine (specMachineOK_any _ _ _ _ _ _ _ zs ts cs clk stp _ rfl hz.out (HA.out.below HB0.out) (HT.out.below HB0.out) (HC.out.below HB0.out)).mono ?_
    rintro e w1 ⟨rfl, hb⟩
    rw [QA]
    have HB1 := Lib.hid (below_trans HB0.out hb)
    have HX1 := Lib.hid (HX0.out.below hb); have HY1 := Lib.hid (HY0.out.below hb)
    clear hb HB0 HX0 HY0 hx hy
    have hx := HX1.out.cell; have hy := HY1.out.cell
    go_wp2
    go_ret
    exact ⟨ret_bool HF.out.symm, HB1.out⟩
  cases QB : machB zs2 ts2 cs2 clk2 stp2
  · have HF : Hid (saB zs ts cs clk stp zs2 ts2 cs2 clk2 stp2 = false) := by unfold Hid saB; rw [QB]; simp
    go_enter Try.func30, Try.ntmps30
    have hx := HX0.out.cell; have hy := HY0.out.cell
    go_wp2_with fail
    refine (specMachineOK_any _ _ _ _ _ _ _ zs ts cs clk stp _ rfl hz.out (HA.out.below HB0.out) (HT.out.below HB0.out) (HC.out.below HB0.out)).mono ?_
    rintro e w1 ⟨rfl, hb⟩
    rw [QA]
    have HB1 := Lib.hid (below_trans HB0.out hb)
    have HX1 := Lib.hid (HX0.out.below hb); have HY1 := Lib.hid (HY0.out.below hb)
    clear hb HB0 HX0 HY0 hx hy
    have hx := HX1.out.cell; have hy := HY1.out.cell
    go_wp2_with fail
    refine (specMachineOK_any _ _ _ _ _ _ _ zs2 ts2 cs2 clk2 stp2 _ rfl hz2.out (HA2.out.below HB1.out) (HT2.out.below HB1.out) (HC2.out.below HB1.out)).mono ?_
    rintro e w2 ⟨rfl, hb⟩
    rw [QB]
    have HB2 := Lib.hid (below_trans HB1.out hb)
    have HX2 := Lib.hid (HX1.out.below hb); have HY2 := Lib.hid (HY1.out.below hb)
    clear hb HB1 HX1 HY1 hx hy
    have hx := HX2.out.cell; have hy := HY2.out.cell
    go_wp2
    go_ret
    exact ⟨ret_bool HF.out.symm, HB2.out⟩
  cases Q3 : decide (zs = zs2)
  · have HF : Hid (saB zs ts cs clk stp zs2 ts2 cs2 clk2 stp2 = false) := by unfold Hid saB; rw [Q3]; simp
    go_enter Try.func30, Try.ntmps30
    have hx := HX0.out.cell; have hy := HY0.out.cell
    go_wp2_with fail
    refine (specMachineOK_any _ _ _ _ _ _ _ zs ts cs clk stp _ rfl hz.out (HA.out.below HB0.out) (HT.out.below HB0.out) (HC.out.below HB0.out)).mono ?_
    rintro e w1 ⟨rfl, hb⟩
    rw [QA]
    have HB1 := Lib.hid (below_trans HB0.out hb)
    have HX1 := Lib.hid (HX0.out.below hb); have HY1 := Lib.hid (HY0.out.below hb)
    clear hb HB0 HX0 HY0 hx hy
    have hx := HX1.out.cell; have hy := HY1.out.cell
    go_wp2_with fail
    refine (specMachineOK_any _ _ _ _ _ _ _ zs2 ts2 cs2 clk2 stp2 _ rfl hz2.out (HA2.out.below HB1.out) (HT2.out.below HB1.out) (HC2.out.below HB1.out)).mono ?_
    rintro e w2 ⟨rfl, hb⟩
    rw [QB]
    have HB2 := Lib.hid (below_trans HB1.out hb)
    have HX2 := Lib.hid (HX1.out.below hb); have HY2 := Lib.hid (HY1.out.below hb)
    clear hb HB1 HX1 HY1 hx hy
    have hx := HX2.out.cell; have hy := HY2.out.cell
    go_wp2_with fail
    refine (specSameArena_any _ _ _ _ zs zs2 _ (by have := hz.out; unfold maxLen; omega) (by have := hz2.out; unfold maxLen; omega) (HA.out.below HB2.out) (HA2.out.below HB2.out)).mono ?_
    rintro e w3 ⟨rfl, hb⟩
    rw [Q3]
    have HB3 := Lib.hid (below_trans HB2.out hb)
    have HX3 := Lib.hid (HX2.out.below hb); have HY3 := Lib.hid (HY2.out.below hb)
    clear hb HB2 HX2 HY2 hx hy
    have hx := HX3.out.cell; have hy := HY3.out.cell
    go_wp2
    go_ret
    exact ⟨ret_bool HF.out.symm, HB3.out⟩
  cases Q1 : clk == clk2
  · have HF : Hid (saB zs ts cs clk stp zs2 ts2 cs2 clk2 stp2 = false) := by unfold Hid saB; rw [Q1]; simp
    have q1 : ¬ clk = clk2 := by simpa using Q1
    have q1b : (clk != clk2) = true := by simpa using q1
    go_enter Try.func30, Try.ntmps30
    have hx := HX0.out.cell; have hy := HY0.out.cell
    go_wp2_with fail
    refine (specMachineOK_any _ _ _ _ _ _ _ zs ts cs clk stp _ rfl hz.out (HA.out.below HB0.out) (HT.out.below HB0.out) (HC.out.below HB0.out)).mono ?_
    rintro e w1 ⟨rfl, hb⟩
    rw [QA]
    have HB1 := Lib.hid (below_trans HB0.out hb)
    have HX1 := Lib.hid (HX0.out.below hb); have HY1 := Lib.hid (HY0.out.below hb)
    clear hb HB0 HX0 HY0 hx hy
    have hx := HX1.out.cell; have hy := HY1.out.cell
    go_wp2_with fail
    refine (specMachineOK_any _ _ _ _ _ _ _ zs2 ts2 cs2 clk2 stp2 _ rfl hz2.out (HA2.out.below HB1.out) (HT2.out.below HB1.out) (HC2.out.below HB1.out)).mono ?_
    rintro e w2 ⟨rfl, hb⟩
    rw [QB]
    have HB2 := Lib.hid (below_trans HB1.out hb)
    have HX2 := Lib.hid (HX1.out.below hb); have HY2 := Lib.hid (HY1.out.below hb)
    clear hb HB1 HX1 HY1 hx hy
    have hx := HX2.out.cell; have hy := HY2.out.cell
    go_wp2_with fail
    refine (specSameArena_any _ _ _ _ zs zs2 _ (by have := hz.out; unfold maxLen; omega) (by have := hz2.out; unfold maxLen; omega) (HA.out.below HB2.out) (HA2.out.below HB2.out)).mono ?_
    rintro e w3 ⟨rfl, hb⟩
    rw [Q3]
    have HB3 := Lib.hid (below_trans HB2.out hb)
    have HX3 := Lib.hid (HX2.out.below hb); have HY3 := Lib.hid (HY2.out.below hb)
    clear hb HB2 HX2 HY2 hx hy
    have hx := HX3.out.cell; have hy := HY3.out.cell
    go_wp2
    go_ret
    exact ⟨ret_bool HF.out.symm, HB3.out⟩
  have q1 : clk = clk2 := by simpa using Q1
  subst q1
  cases Q2 : stp == stp2
  · have HF : Hid (saB zs ts cs clk stp zs2 ts2 cs2 clk stp2 = false) := by unfold Hid saB; rw [Q2]; simp
    have q2 : ¬ stp = stp2 := by simpa using Q2
    have q2b : (stp != stp2) = true := by simpa using q2
    go_enter Try.func30, Try.ntmps30
    have hx := HX0.out.cell; have hy := HY0.out.cell
    go_wp2_with fail
    refine (specMachineOK_any _ _ _ _ _ _ _ zs ts cs clk stp _ rfl hz.out (HA.out.below HB0.out) (HT.out.below HB0.out) (HC.out.below HB0.out)).mono ?_
    rintro e w1 ⟨rfl, hb⟩
    rw [QA]
    have HB1 := Lib.hid (below_trans HB0.out hb)
    have HX1 := Lib.hid (HX0.out.below hb); have HY1 := Lib.hid (HY0.out.below hb)
    clear hb HB0 HX0 HY0 hx hy
    have hx := HX1.out.cell; have hy := HY1.out.cell
    go_wp2_with fail
    refine (specMachineOK_any _ _ _ _ _ _ _ zs2 ts2 cs2 clk stp2 _ rfl hz2.out (HA2.out.below HB1.out) (HT2.out.below HB1.out) (HC2.out.below HB1.out)).mono ?_
    rintro e w2 ⟨rfl, hb⟩
    rw [QB]
    have HB2 := Lib.hid (below_trans HB1.out hb)
    have HX2 := Lib.hid (HX1.out.below hb); have HY2 := Lib.hid (HY1.out.below hb)
    clear hb HB1 HX1 HY1 hx hy
    have hx := HX2.out.cell; have hy := HY2.out.cell
    go_wp2_with fail
    refine (specSameArena_any _ _ _ _ zs zs2 _ (by have := hz.out; unfold maxLen; omega) (by have := hz2.out; unfold maxLen; omega) (HA.out.below HB2.out) (HA2.out.below HB2.out)).mono ?_
    rintro e w3 ⟨rfl, hb⟩
    rw [Q3]
    have HB3 := Lib.hid (below_trans HB2.out hb)
    have HX3 := Lib.hid (HX2.out.below hb); have HY3 := Lib.hid (HY2.out.below hb)
    clear hb HB2 HX2 HY2 hx hy
    have hx := HX3.out.cell; have hy := HY3.out.cell
    go_wp2
    go_ret
    exact ⟨ret_bool HF.out.symm, HB3.out⟩
  have q2 : stp = stp2 := by simpa using Q2
  subst q2
  cases Q5 : deq cs cs2
  · have HF : Hid (saB zs ts cs clk stp zs2 ts2 cs2 clk stp = false) := by unfold Hid saB; rw [Q5]; simp
    go_enter Try.func30, Try.ntmps30
    have hx := HX0.out.cell; have hy := HY0.out.cell
    go_wp2_with fail
    refine (specMachineOK_any _ _ _ _ _ _ _ zs ts cs clk stp _ rfl hz.out (HA.out.below HB0.out) (HT.out.below HB0.out) (HC.out.below HB0.out)).mono ?_
    rintro e w1 ⟨rfl, hb⟩
    rw [QA]
    have HB1 := Lib.hid (below_trans HB0.out hb)
    have HX1 := Lib.hid (HX0.out.below hb); have HY1 := Lib.hid (HY0.out.below hb)
    clear hb HB0 HX0 HY0 hx hy
    have hx := HX1.out.cell; have hy := HY1.out.cell
    go_wp2_with fail
    refine (specMachineOK_any _ _ _ _ _ _ _ zs2 ts2 cs2 clk stp _ rfl hz2.out (HA2.out.below HB1.out) (HT2.out.below HB1.out) (HC2.out.below HB1.out)).mono ?_
    rintro e w2 ⟨rfl, hb⟩
    rw [QB]
    have HB2 := Lib.hid (below_trans HB1.out hb)
    have HX2 := Lib.hid (HX1.out.below hb); have HY2 := Lib.hid (HY1.out.below hb)
    clear hb HB1 HX1 HY1 hx hy
    have hx := HX2.out.cell; have hy := HY2.out.cell
    go_wp2_with fail
    refine (specSameArena_any _ _ _ _ zs zs2 _ (by have := hz.out; unfold maxLen; omega) (by have := hz2.out; unfold maxLen; omega) (HA.out.below HB2.out) (HA2.out.below HB2.out)).mono ?_
    rintro e w3 ⟨rfl, hb⟩
    rw [Q3]
    have HB3 := Lib.hid (below_trans HB2.out hb)
    have HX3 := Lib.hid (HX2.out.below hb); have HY3 := Lib.hid (HY2.out.below hb)
    clear hb HB2 HX2 HY2 hx hy
    have hx := HX3.out.cell; have hy := HY3.out.cell
    go_wp2_with fail
    refine (l08Calls_any _ _ _ _ cs cs2 _ hc.out hc2.out (HC.out.below HB3.out) (HC2.out.below HB3.out)).mono ?_
    rintro e w4 ⟨rfl, hb⟩
    rw [Q5]
    have HB4 := Lib.hid (below_trans HB3.out hb)
    have HX4 := Lib.hid (HX3.out.below hb); have HY4 := Lib.hid (HY3.out.below hb)
    clear hb HB3 HX3 HY3 hx hy
    have hx := HX4.out.cell; have hy := HY4.out.cell
    go_wp2
    go_ret
    exact ⟨ret_bool HF.out.symm, HB4.out⟩
  have HF0 : Hid (saB zs ts cs clk stp zs2 ts2 cs2 clk stp = deq ts ts2) := by unfold Hid saB; rw [QA, QB, Q1, Q2, Q3, Q5]; simp
  have h4 := Lib.hid (mach_four QA); have h42 := Lib.hid (mach_four QB)
  go_enter Try.func30, Try.ntmps30
  have hx := HX0.out.cell; have hy := HY0.out.cell
  go_wp2_with fail
  refine (specMachineOK_any _ _ _ _ _ _ _ zs ts cs clk stp _ rfl hz.out (HA.out.below HB0.out) (HT.out.below HB0.out) (HC.out.below HB0.out)).mono ?_
  rintro e w1 ⟨rfl, hb⟩
  rw [QA]
  have HB1 := Lib.hid (below_trans HB0.out hb)
  have HX1 := Lib.hid (HX0.out.below hb); have HY1 := Lib.hid (HY0.out.below hb)
  clear hb HB0 HX0 HY0 hx hy
  have hx := HX1.out.cell; have hy := HY1.out.cell
  go_wp2_with fail
  refine (specMachineOK_any _ _ _ _ _ _ _ zs2 ts2 cs2 clk stp _ rfl hz2.out (HA2.out.below HB1.out) (HT2.out.below HB1.out) (HC2.out.below HB1.out)).mono ?_
  rintro e w2 ⟨rfl, hb⟩
  rw [QB]
  have HB2 := Lib.hid (below_trans HB1.out hb)
  have HX2 := Lib.hid (HX1.out.below hb); have HY2 := Lib.hid (HY1.out.below hb)
  clear hb HB1 HX1 HY1 hx hy
  have hx := HX2.out.cell; have hy := HY2.out.cell
  go_wp2_with fail
  refine (specSameArena_any _ _ _ _ zs zs2 _ (by have := hz.out; unfold maxLen; omega) (by have := hz2.out; unfold maxLen; omega) (HA.out.below HB2.out) (HA2.out.below HB2.out)).mono ?_
  rintro e w3 ⟨rfl, hb⟩
  rw [Q3]
  have HB3 := Lib.hid (below_trans HB2.out hb)
  have HX3 := Lib.hid (HX2.out.below hb); have HY3 := Lib.hid (HY2.out.below hb)
  clear hb HB2 HX2 HY2 hx hy
  have hx := HX3.out.cell; have hy := HY3.out.cell
  go_wp2_with fail
  refine (l08Calls_any _ _ _ _ cs cs2 _ hc.out hc2.out (HC.out.below HB3.out) (HC2.out.below HB3.out)).mono ?_
  rintro e w4 ⟨rfl, hb⟩
  rw [Q5]
  have HB4 := Lib.hid (below_trans HB3.out hb)
  have HX4 := Lib.hid (HX3.out.below hb); have HY4 := Lib.hid (HY3.out.below hb)
  clear hb HB3 HX3 HY3 hx hy
  have hx := HX4.out.cell; have hy := HY4.out.cell
  go_wp2_with fail
  go_loopw [5] (fun i wr => ∃ k : Nat, k ≤ 4 ∧ i = .int .i64 k ∧ (∀ j, j < k → ts[j]? = ts2[j]?) ∧ BoxC 64 wr w.heap.size #[.slice A zs.length ca, .slice T ts.length ct, .int .i64 clk, .int .i64 stp, .slice C cs.length cc] ∧ BoxC 64 wr (w.heap.size + 1) #[.slice A2 zs2.length ca2, .slice T2 ts2.length ct2, .int .i64 clk, .int .i64 stp, .slice C2 cs2.length cc2] ∧ Below w.heap.size w wr) (fun i _ => 4 - (intOf i).toNat)
  case atStart => exact ⟨0, Nat.zero_le _, rfl, fun j hj => absurd hj (by omega), HX4.out, HY4.out, HB4.out⟩
  case round =>
    clear hx hy HX4 HY4 HB4
    obtain ⟨k, hk, rfl, hsame, hxb, hyb, hbl⟩ := hrel
    have HS := Lib.hid hsame; have HB' := Lib.hid hbl; have HX := Lib.hid hxb; have HY := Lib.hid hyb
    clear hsame hbl hxb hyb
    by_cases hlt : k < 4
    · have hlt' : (k : Int) < 4 := by omega
      have hl1 : k < ts.length := by have := h4.out; omega
      have hl2 : k < ts2.length := by have := h42.out; omega
      obtain ⟨x, hx⟩ : ∃ x, ts[k]? = some x := ⟨_, List.getElem?_eq_getElem hl1⟩
      obtain ⟨y, hy⟩ : ∃ y, ts2[k]? = some y := ⟨_, List.getElem?_eq_getElem hl2⟩
      obtain ⟨b, o, rfl, hr1⟩ := (HT.out.below HB'.out).row Thd.len k x hx
      obtain ⟨b2, o2, rfl, hr2⟩ := (HT2.out.below HB'.out).row Thd.len k y hy
      have HPX := Lib.hid hx; have HPY := Lib.hid hy
      clear hx hy
      obtain ⟨id, st, op, arg, pc, til, per, can, r0, r1, r2, r3, r4, code, res⟩ := x
      obtain ⟨id2, st2, op2, arg2, pc2, til2, per2, can2, r02, r12, r22, r32, r42, code2, res2⟩ := y
      have HC := Lib.hid (And.intro (And.intro HX.out.cell HY.out.cell) (And.intro (cellsThread _ _ _ _ _ _ _ _ _ _ _ _ _ _ _ hr1) (cellsThread _ _ _ _ _ _ _ _ _ _ _ _ _ _ _ hr2)))
      clear hr1 hr2
      by_cases hxy : (⟨id, st, op, arg, pc, til, per, can, r0, r1, r2, r3, r4, code, res⟩ : Thd) = ⟨id2, st2, op2, arg2, pc2, til2, per2, can2, r02, r12, r22, r32, r42, code2, res2⟩
      · have e0 : id = id2 := congrArg Thd.id hxy
        have e1 : st = st2 := congrArg Thd.st hxy
        have e2 : op = op2 := congrArg Thd.op hxy
        have e3 : arg = arg2 := congrArg Thd.arg hxy
        have e4 : pc = pc2 := congrArg Thd.pc hxy
        have e5 : til = til2 := congrArg Thd.til hxy
        have e6 : per = per2 := congrArg Thd.per hxy
        have e7 : can = can2 := congrArg Thd.can hxy
        have e8 : r0 = r02 := congrArg Thd.r0 hxy
        have e9 : r1 = r12 := congrArg Thd.r1 hxy
        have e10 : r2 = r22 := congrArg Thd.r2 hxy
        have e11 : r3 = r32 := congrArg Thd.r3 hxy
        have e12 : r4 = r42 := congrArg Thd.r4 hxy
        have e13 : code = code2 := congrArg Thd.code hxy
        have e14 : res = res2 := congrArg Thd.res hxy
        subst e0 e1 e2 e3 e4 e5 e6 e7 e8 e9 e10 e11 e12 e13 e14
        have hneq : ∀ wx : World, (binOp .neq 103 (.agg #[.int .i64 id, .int .i64 st, .int .i64 op, .int .i64 arg, .int .i64 pc, .int .i64 til, .bool per, .bool can, .int .i64 r0, .int .i64 r1, .int .i64 r2, .int .i64 r3, .int .i64 r4, .int .i64 code, .int .i64 res]) (.agg #[.int .i64 id, .int .i64 st, .int .i64 op, .int .i64 arg, .int .i64 pc, .int .i64 til, .bool per, .bool can, .int .i64 r0, .int .i64 r1, .int .i64 r2, .int .i64 r3, .int .i64 r4, .int .i64 code, .int .i64 res])).run Try.prog wx = .ok (.bool false) wx := fun wx => by rw [run_neq_thread id st op arg pc til per can r0 r1 r2 r3 r4 code res id st op arg pc til per can r0 r1 r2 r3 r4 code res wx, eqTh_refl]; rfl
        have HS2 : Hid (∀ j, j < k + 1 → ts[j]? = ts2[j]?) := by
          unfold Hid
          intro j hj
          by_cases e : j < k
          · exact HS.out j e
          · obtain rfl : j = k := by omega
            rw [HPX.out, HPY.out]
        clear hxy
        go_wp2_with fail
        go_region_held3 (fun w' => ((∀ j : Nat, w'.cell? ⟨w.heap.size, j, none⟩ = (#[.slice A zs.length ca, .slice (some ⟨b, o, none⟩) ts.length ct, .int .i64 clk, .int .i64 stp, .slice C cs.length cc] : Array Value)[j]?) ∧ (∀ j : Nat, w'.cell? ⟨(w.heap.size + 1), j, none⟩ = (#[.slice A2 zs2.length ca2, .slice (some ⟨b2, o2, none⟩) ts2.length ct2, .int .i64 clk, .int .i64 stp, .slice C2 cs2.length cc2] : Array Value)[j]?)) ∧ (w'.cell? ⟨b, o + k * 15, none⟩ = some (.int .i64 id) ∧ w'.cell? ⟨b, o + k * 15 + 1, none⟩ = some (.int .i64 st) ∧ w'.cell? ⟨b, o + k * 15 + 2, none⟩ = some (.int .i64 op) ∧ w'.cell? ⟨b, o + k * 15 + 3, none⟩ = some (.int .i64 arg) ∧ w'.cell? ⟨b, o + k * 15 + 4, none⟩ = some (.int .i64 pc) ∧ w'.cell? ⟨b, o + k * 15 + 5, none⟩ = some (.int .i64 til) ∧ w'.cell? ⟨b, o + k * 15 + 6, none⟩ = some (.bool per) ∧ w'.cell? ⟨b, o + k * 15 + 7, none⟩ = some (.bool can) ∧ w'.cell? ⟨b, o + k * 15 + 8, none⟩ = some (.int .i64 r0) ∧ w'.cell? ⟨b, o + k * 15 + 9, none⟩ = some (.int .i64 r1) ∧ w'.cell? ⟨b, o + k * 15 + 10, none⟩ = some (.int .i64 r2) ∧ w'.cell? ⟨b, o + k * 15 + 11, none⟩ = some (.int .i64 r3) ∧ w'.cell? ⟨b, o + k * 15 + 12, none⟩ = some (.int .i64 r4) ∧ w'.cell? ⟨b, o + k * 15 + 13, none⟩ = some (.int .i64 code) ∧ w'.cell? ⟨b, o + k * 15 + 14, none⟩ = some (.int .i64 res)) ∧ (w'.cell? ⟨b2, o2 + k * 15, none⟩ = some (.int .i64 id) ∧ w'.cell? ⟨b2, o2 + k * 15 + 1, none⟩ = some (.int .i64 st) ∧ w'.cell? ⟨b2, o2 + k * 15 + 2, none⟩ = some (.int .i64 op) ∧ w'.cell? ⟨b2, o2 + k * 15 + 3, none⟩ = some (.int .i64 arg) ∧ w'.cell? ⟨b2, o2 + k * 15 + 4, none⟩ = some (.int .i64 pc) ∧ w'.cell? ⟨b2, o2 + k * 15 + 5, none⟩ = some (.int .i64 til) ∧ w'.cell? ⟨b2, o2 + k * 15 + 6, none⟩ = some (.bool per) ∧ w'.cell? ⟨b2, o2 + k * 15 + 7, none⟩ = some (.bool can) ∧ w'.cell? ⟨b2, o2 + k * 15 + 8, none⟩ = some (.int .i64 r0) ∧ w'.cell? ⟨b2, o2 + k * 15 + 9, none⟩ = some (.int .i64 r1) ∧ w'.cell? ⟨b2, o2 + k * 15 + 10, none⟩ = some (.int .i64 r2) ∧ w'.cell? ⟨b2, o2 + k * 15 + 11, none⟩ = some (.int .i64 r3) ∧ w'.cell? ⟨b2, o2 + k * 15 + 12, none⟩ = some (.int .i64 r4) ∧ w'.cell? ⟨b2, o2 + k * 15 + 13, none⟩ = some (.int .i64 code) ∧ w'.cell? ⟨b2, o2 + k * 15 + 14, none⟩ = some (.int .i64 res))) (exact HC.out) (fail)
        go_wp2
        go_roundw
        case rel => exact ⟨k + 1, by omega, by go_num, HS2.out, HX.out.below (Below.refl _ _).drew, HY.out.below (Below.refl _ _).drew, HB'.out.drew⟩
        case measure => simp [intOf]; omega
      · have hq := eqTh_ne id st op arg pc til per can r0 r1 r2 r3 r4 code res id2 st2 op2 arg2 pc2 til2 per2 can2 r02 r12 r22 r32 r42 code2 res2 hxy
        have hneq : ∀ wx : World, (binOp .neq 103 (.agg #[.int .i64 id, .int .i64 st, .int .i64 op, .int .i64 arg, .int .i64 pc, .int .i64 til, .bool per, .bool can, .int .i64 r0, .int .i64 r1, .int .i64 r2, .int .i64 r3, .int .i64 r4, .int .i64 code, .int .i64 res]) (.agg #[.int .i64 id2, .int .i64 st2, .int .i64 op2, .int .i64 arg2, .int .i64 pc2, .int .i64 til2, .bool per2, .bool can2, .int .i64 r02, .int .i64 r12, .int .i64 r22, .int .i64 r32, .int .i64 r42, .int .i64 code2, .int .i64 res2])).run Try.prog wx = .ok (.bool true) wx := fun wx => by rw [run_neq_thread id st op arg pc til per can r0 r1 r2 r3 r4 code res id2 st2 op2 arg2 pc2 til2 per2 can2 r02 r12 r22 r32 r42 code2 res2 wx, hq]; rfl
        have HF : Hid (saB zs ts cs clk stp zs2 ts2 cs2 clk stp = false) := by
          unfold Hid
          rw [HF0.out]
          apply deq_no
          rintro rfl
          have := HPX.out.symm.trans HPY.out
          exact hxy (Option.some.inj this)
        clear hxy hq
        go_wp2_with fail
        go_region_held3 (fun w' => ((∀ j : Nat, w'.cell? ⟨w.heap.size, j, none⟩ = (#[.slice A zs.length ca, .slice (some ⟨b, o, none⟩) ts.length ct, .int .i64 clk, .int .i64 stp, .slice C cs.length cc] : Array Value)[j]?) ∧ (∀ j : Nat, w'.cell? ⟨(w.heap.size + 1), j, none⟩ = (#[.slice A2 zs2.length ca2, .slice (some ⟨b2, o2, none⟩) ts2.length ct2, .int .i64 clk, .int .i64 stp, .slice C2 cs2.length cc2] : Array Value)[j]?)) ∧ (w'.cell? ⟨b, o + k * 15, none⟩ = some (.int .i64 id) ∧ w'.cell? ⟨b, o + k * 15 + 1, none⟩ = some (.int .i64 st) ∧ w'.cell? ⟨b, o + k * 15 + 2, none⟩ = some (.int .i64 op) ∧ w'.cell? ⟨b, o + k * 15 + 3, none⟩ = some (.int .i64 arg) ∧ w'.cell? ⟨b, o + k * 15 + 4, none⟩ = some (.int .i64 pc) ∧ w'.cell? ⟨b, o + k * 15 + 5, none⟩ = some (.int .i64 til) ∧ w'.cell? ⟨b, o + k * 15 + 6, none⟩ = some (.bool per) ∧ w'.cell? ⟨b, o + k * 15 + 7, none⟩ = some (.bool can) ∧ w'.cell? ⟨b, o + k * 15 + 8, none⟩ = some (.int .i64 r0) ∧ w'.cell? ⟨b, o + k * 15 + 9, none⟩ = some (.int .i64 r1) ∧ w'.cell? ⟨b, o + k * 15 + 10, none⟩ = some (.int .i64 r2) ∧ w'.cell? ⟨b, o + k * 15 + 11, none⟩ = some (.int .i64 r3) ∧ w'.cell? ⟨b, o + k * 15 + 12, none⟩ = some (.int .i64 r4) ∧ w'.cell? ⟨b, o + k * 15 + 13, none⟩ = some (.int .i64 code) ∧ w'.cell? ⟨b, o + k * 15 + 14, none⟩ = some (.int .i64 res)) ∧ (w'.cell? ⟨b2, o2 + k * 15, none⟩ = some (.int .i64 id2) ∧ w'.cell? ⟨b2, o2 + k * 15 + 1, none⟩ = some (.int .i64 st2) ∧ w'.cell? ⟨b2, o2 + k * 15 + 2, none⟩ = some (.int .i64 op2) ∧ w'.cell? ⟨b2, o2 + k * 15 + 3, none⟩ = some (.int .i64 arg2) ∧ w'.cell? ⟨b2, o2 + k * 15 + 4, none⟩ = some (.int .i64 pc2) ∧ w'.cell? ⟨b2, o2 + k * 15 + 5, none⟩ = some (.int .i64 til2) ∧ w'.cell? ⟨b2, o2 + k * 15 + 6, none⟩ = some (.bool per2) ∧ w'.cell? ⟨b2, o2 + k * 15 + 7, none⟩ = some (.bool can2) ∧ w'.cell? ⟨b2, o2 + k * 15 + 8, none⟩ = some (.int .i64 r02) ∧ w'.cell? ⟨b2, o2 + k * 15 + 9, none⟩ = some (.int .i64 r12) ∧ w'.cell? ⟨b2, o2 + k * 15 + 10, none⟩ = some (.int .i64 r22) ∧ w'.cell? ⟨b2, o2 + k * 15 + 11, none⟩ = some (.int .i64 r32) ∧ w'.cell? ⟨b2, o2 + k * 15 + 12, none⟩ = some (.int .i64 r42) ∧ w'.cell? ⟨b2, o2 + k * 15 + 13, none⟩ = some (.int .i64 code2) ∧ w'.cell? ⟨b2, o2 + k * 15 + 14, none⟩ = some (.int .i64 res2))) (exact HC.out) (fail)
        go_wp2
        go_ret
        exact ⟨ret_bool HF.out.symm, HB'.out.drew⟩
    · have hge : ¬ (k : Int) < 4 := by omega
      have HF : Hid (saB zs ts cs clk stp zs2 ts2 cs2 clk stp = true) := by
        unfold Hid
        rw [HF0.out]
        apply deq_yes
        apply List.ext_getElem?
        intro j
        by_cases hj : j < 4
        · exact HS.out j (by omega)
        · rw [List.getElem?_eq_none (by have := h4.out; omega), List.getElem?_eq_none (by have := h42.out; omega)]
      go_wp2
      go_ret
      exact ⟨ret_bool HF.out.symm, HB'.out⟩
end Go.Proofs.Ytiogebflfnicgaa
