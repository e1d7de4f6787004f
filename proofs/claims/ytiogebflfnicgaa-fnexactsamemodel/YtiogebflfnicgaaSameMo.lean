/-
  Models (chapter 11): SameModel, the program's and the model's.
-/
import Derived.Test.YtiogebflfnicgaaModS
import Derived.Test.YtiogebflfnicgaaEqW
namespace Go.Proofs.Ytiogebflfnicgaa
open Go.RowKit

/-- What SameModel answers. -/
def smB (zs : List Int) (cnt : Int) (bs os : List Wtr) (zs2 : List Int) (cnt2 : Int) (bs2 os2 : List Wtr) : Bool :=
  mdB zs cnt bs os && mdB zs2 cnt2 bs2 os2 && cnt == cnt2 && decide (zs = zs2) && decide (bs = bs2) && decide (os = os2)
theorem drewN_below {w w' : World} (h : ∃ n, w' = w.drewN n) : Below w.heap.size w w' := by obtain ⟨n, rfl⟩ := h; exact below_drewN n

set_option maxHeartbeats 8000000 in
set_option maxRecDepth 100000 in
theorem implSameModel_any (A B O : Option Addr) (ca cb co : Nat) (zs : List Int) (bs os : List Wtr) (cnt : Int) (A2 B2 O2 : Option Addr) (ca2 cb2 co2 : Nat) (zs2 : List Int) (bs2 os2 : List Wtr) (cnt2 : Int) (w : World) (hz : zs.length ≤ 1048576) (ht : bs.length ≤ 1048576) (hc : os.length ≤ 1048576) (hA : Rd w A zs) (hT : RdR Wtr.cs w B bs) (hC : RdR Wtr.cs w O os)
    (hz2 : zs2.length ≤ 1048576) (ht2 : bs2.length ≤ 1048576) (hc2 : os2.length ≤ 1048576) (hA2 : Rd w A2 zs2) (hT2 : RdR Wtr.cs w B2 bs2) (hC2 : RdR Wtr.cs w O2 os2) :
    Calls Try.prog 19 #[.agg #[.slice A zs.length ca, .int .i64 cnt, .slice B bs.length cb, .slice O os.length co], .agg #[.slice A2 zs2.length ca2, .int .i64 cnt2, .slice B2 bs2.length cb2, .slice O2 os2.length co2]] w fun e w' => e = .returned (.bool (smB zs cnt bs os zs2 cnt2 bs2 os2)) ∧ Below w.heap.size w w' := by
  have HA := Lib.hid hA; have HT := Lib.hid hT; have HC := Lib.hid hC; have HA2 := Lib.hid hA2; have HT2 := Lib.hid hT2; have HC2 := Lib.hid hC2; clear hA hT hC hA2 hT2 hC2
  replace hz := Lib.hid hz; replace ht := Lib.hid ht; replace hc := Lib.hid hc; replace hz2 := Lib.hid hz2; replace ht2 := Lib.hid ht2; replace hc2 := Lib.hid hc2
  have HB0 := Lib.hid (below_alloc2 w (.cells #[.slice A zs.length ca, .int .i64 cnt, .slice B bs.length cb, .slice O os.length co] 30) (.cells #[.slice A2 zs2.length ca2, .int .i64 cnt2, .slice B2 bs2.length cb2, .slice O2 os2.length co2] 30))
  have HX0 := Lib.hid ((BoxC.new 30 w #[.slice A zs.length ca, .int .i64 cnt, .slice B bs.length cb, .slice O os.length co]).below (below_alloc _ (.cells #[.slice A2 zs2.length ca2, .int .i64 cnt2, .slice B2 bs2.length cb2, .slice O2 os2.length co2] 30)))
  have HY0 := Lib.hid (by have h := BoxC.new 30 (w.alloc (.cells #[.slice A zs.length ca, .int .i64 cnt, .slice B bs.length cb, .slice O os.length co] 30)) #[.slice A2 zs2.length ca2, .int .i64 cnt2, .slice B2 bs2.length cb2, .slice O2 os2.length co2]; rw [size_alloc] at h; exact h)
  cases QA : mdB zs cnt bs os
  · have HF : Hid (smB zs cnt bs os zs2 cnt2 bs2 os2 = false) := by unfold Hid smB; rw [QA]; rfl
    go_enter Try.func19, Try.ntmps19
    have hx := HX0.out.cell; have hy := HY0.out.cell
    go_wp2_with fail
    refine (implModelOK_any _ _ _ _ _ _ zs bs os cnt _ hz.out ht.out hc.out (HA.out.below HB0.out) (HT.out.below HB0.out) (HC.out.below HB0.out)).mono ?_
    rintro e w1 ⟨rfl, hb⟩
    rw [QA]
    have HB1 := Lib.hid (below_trans HB0.out hb)
    have HX1 := Lib.hid (HX0.out.below hb); have HY1 := Lib.hid (HY0.out.below hb)
    clear hb HB0 HX0 HY0 hx hy
    have hx := HX1.out.cell; have hy := HY1.out.cell
    go_wp2
    go_ret
    exact ⟨ret_bool HF.out.symm, HB1.out⟩
  cases QB : mdB zs2 cnt2 bs2 os2
  · have HF : Hid (smB zs cnt bs os zs2 cnt2 bs2 os2 = false) := by unfold Hid smB; rw [QB]; simp
    go_enter Try.func19, Try.ntmps19
    have hx := HX0.out.cell; have hy := HY0.out.cell
    go_wp2_with fail
    refine (implModelOK_any _ _ _ _ _ _ zs bs os cnt _ hz.out ht.out hc.out (HA.out.below HB0.out) (HT.out.below HB0.out) (HC.out.below HB0.out)).mono ?_
    rintro e w1 ⟨rfl, hb⟩
    rw [QA]
    have HB1 := Lib.hid (below_trans HB0.out hb)
    have HX1 := Lib.hid (HX0.out.below hb); have HY1 := Lib.hid (HY0.out.below hb)
    clear hb HB0 HX0 HY0 hx hy
    have hx := HX1.out.cell; have hy := HY1.out.cell
    go_wp2_with fail
    refine (implModelOK_any _ _ _ _ _ _ zs2 bs2 os2 cnt2 _ hz2.out ht2.out hc2.out (HA2.out.below HB1.out) (HT2.out.below HB1.out) (HC2.out.below HB1.out)).mono ?_
    rintro e w2 ⟨rfl, hb⟩
    rw [QB]
    have HB2 := Lib.hid (below_trans HB1.out hb)
    have HX2 := Lib.hid (HX1.out.below hb); have HY2 := Lib.hid (HY1.out.below hb)
    clear hb HB1 HX1 HY1 hx hy
    have hx := HX2.out.cell; have hy := HY2.out.cell
    go_wp2
    go_ret
    exact ⟨ret_bool HF.out.symm, HB2.out⟩
  cases Q1 : cnt == cnt2
  · have HF : Hid (smB zs cnt bs os zs2 cnt2 bs2 os2 = false) := by unfold Hid smB; rw [Q1]; simp
    have q1 : ¬ cnt = cnt2 := by simpa using Q1
    have q1b : (cnt != cnt2) = true := by simpa using q1
    go_enter Try.func19, Try.ntmps19
    have hx := HX0.out.cell; have hy := HY0.out.cell
    go_wp2_with fail
    refine (implModelOK_any _ _ _ _ _ _ zs bs os cnt _ hz.out ht.out hc.out (HA.out.below HB0.out) (HT.out.below HB0.out) (HC.out.below HB0.out)).mono ?_
    rintro e w1 ⟨rfl, hb⟩
    rw [QA]
    have HB1 := Lib.hid (below_trans HB0.out hb)
    have HX1 := Lib.hid (HX0.out.below hb); have HY1 := Lib.hid (HY0.out.below hb)
    clear hb HB0 HX0 HY0 hx hy
    have hx := HX1.out.cell; have hy := HY1.out.cell
    go_wp2_with fail
    refine (implModelOK_any _ _ _ _ _ _ zs2 bs2 os2 cnt2 _ hz2.out ht2.out hc2.out (HA2.out.below HB1.out) (HT2.out.below HB1.out) (HC2.out.below HB1.out)).mono ?_
    rintro e w2 ⟨rfl, hb⟩
    rw [QB]
    have HB2 := Lib.hid (below_trans HB1.out hb)
    have HX2 := Lib.hid (HX1.out.below hb); have HY2 := Lib.hid (HY1.out.below hb)
    clear hb HB1 HX1 HY1 hx hy
    have hx := HX2.out.cell; have hy := HY2.out.cell
    go_wp2
    go_ret
    exact ⟨ret_bool HF.out.symm, HB2.out⟩
  have q1 : cnt = cnt2 := by simpa using Q1
  subst q1
  cases Q2 : decide (zs = zs2)
  · have HF : Hid (smB zs cnt bs os zs2 cnt bs2 os2 = false) := by unfold Hid smB; rw [Q2]; simp
    go_enter Try.func19, Try.ntmps19
    have hx := HX0.out.cell; have hy := HY0.out.cell
    go_wp2_with fail
    refine (implModelOK_any _ _ _ _ _ _ zs bs os cnt _ hz.out ht.out hc.out (HA.out.below HB0.out) (HT.out.below HB0.out) (HC.out.below HB0.out)).mono ?_
    rintro e w1 ⟨rfl, hb⟩
    rw [QA]
    have HB1 := Lib.hid (below_trans HB0.out hb)
    have HX1 := Lib.hid (HX0.out.below hb); have HY1 := Lib.hid (HY0.out.below hb)
    clear hb HB0 HX0 HY0 hx hy
    have hx := HX1.out.cell; have hy := HY1.out.cell
    go_wp2_with fail
    refine (implModelOK_any _ _ _ _ _ _ zs2 bs2 os2 cnt _ hz2.out ht2.out hc2.out (HA2.out.below HB1.out) (HT2.out.below HB1.out) (HC2.out.below HB1.out)).mono ?_
    rintro e w2 ⟨rfl, hb⟩
    rw [QB]
    have HB2 := Lib.hid (below_trans HB1.out hb)
    have HX2 := Lib.hid (HX1.out.below hb); have HY2 := Lib.hid (HY1.out.below hb)
    clear hb HB1 HX1 HY1 hx hy
    have hx := HX2.out.cell; have hy := HY2.out.cell
    go_wp2_with fail
    refine (eqIntsM_any _ _ _ _ zs zs2 _ (by have := hz.out; unfold maxLen; omega) (by have := hz2.out; unfold maxLen; omega) (HA.out.below HB2.out) (HA2.out.below HB2.out)).mono ?_
    rintro e w3 ⟨rfl, hd⟩
    have hb := drewN_below hd; clear hd
    rw [Q2]
    have HB3 := Lib.hid (below_trans HB2.out hb)
    have HX3 := Lib.hid (HX2.out.below hb); have HY3 := Lib.hid (HY2.out.below hb)
    clear hb HB2 HX2 HY2 hx hy
    have hx := HX3.out.cell; have hy := HY3.out.cell
    go_wp2
    go_ret
    exact ⟨ret_bool HF.out.symm, HB3.out⟩
  cases Q3 : decide (bs = bs2)
  · have HF : Hid (smB zs cnt bs os zs2 cnt bs2 os2 = false) := by unfold Hid smB; rw [Q3]; simp
    go_enter Try.func19, Try.ntmps19
    have hx := HX0.out.cell; have hy := HY0.out.cell
    go_wp2_with fail
    refine (implModelOK_any _ _ _ _ _ _ zs bs os cnt _ hz.out ht.out hc.out (HA.out.below HB0.out) (HT.out.below HB0.out) (HC.out.below HB0.out)).mono ?_
    rintro e w1 ⟨rfl, hb⟩
    rw [QA]
    have HB1 := Lib.hid (below_trans HB0.out hb)
    have HX1 := Lib.hid (HX0.out.below hb); have HY1 := Lib.hid (HY0.out.below hb)
    clear hb HB0 HX0 HY0 hx hy
    have hx := HX1.out.cell; have hy := HY1.out.cell
    go_wp2_with fail
    refine (implModelOK_any _ _ _ _ _ _ zs2 bs2 os2 cnt _ hz2.out ht2.out hc2.out (HA2.out.below HB1.out) (HT2.out.below HB1.out) (HC2.out.below HB1.out)).mono ?_
    rintro e w2 ⟨rfl, hb⟩
    rw [QB]
    have HB2 := Lib.hid (below_trans HB1.out hb)
    have HX2 := Lib.hid (HX1.out.below hb); have HY2 := Lib.hid (HY1.out.below hb)
    clear hb HB1 HX1 HY1 hx hy
    have hx := HX2.out.cell; have hy := HY2.out.cell
    go_wp2_with fail
    refine (eqIntsM_any _ _ _ _ zs zs2 _ (by have := hz.out; unfold maxLen; omega) (by have := hz2.out; unfold maxLen; omega) (HA.out.below HB2.out) (HA2.out.below HB2.out)).mono ?_
    rintro e w3 ⟨rfl, hd⟩
    have hb := drewN_below hd; clear hd
    rw [Q2]
    have HB3 := Lib.hid (below_trans HB2.out hb)
    have HX3 := Lib.hid (HX2.out.below hb); have HY3 := Lib.hid (HY2.out.below hb)
    clear hb HB2 HX2 HY2 hx hy
    have hx := HX3.out.cell; have hy := HY3.out.cell
    go_wp2_with fail
    refine (eqRowsW_any _ _ _ _ bs bs2 _ ht.out ht2.out (HT.out.below HB3.out) (HT2.out.below HB3.out)).mono ?_
    rintro e w4 ⟨rfl, hb⟩
    rw [Q3]
    have HB4 := Lib.hid (below_trans HB3.out hb)
    have HX4 := Lib.hid (HX3.out.below hb); have HY4 := Lib.hid (HY3.out.below hb)
    clear hb HB3 HX3 HY3 hx hy
    have hx := HX4.out.cell; have hy := HY4.out.cell
    go_wp2
    go_ret
    exact ⟨ret_bool HF.out.symm, HB4.out⟩
  obtain ⟨q, Q4⟩ : ∃ q, decide (os = os2) = q := ⟨_, rfl⟩
  have HF : Hid (smB zs cnt bs os zs2 cnt bs2 os2 = q) := by unfold Hid smB; rw [QA, QB, Q1, Q2, Q3, Q4]; rfl
  go_enter Try.func19, Try.ntmps19
  have hx := HX0.out.cell; have hy := HY0.out.cell
  go_wp2_with fail
  refine (implModelOK_any _ _ _ _ _ _ zs bs os cnt _ hz.out ht.out hc.out (HA.out.below HB0.out) (HT.out.below HB0.out) (HC.out.below HB0.out)).mono ?_
  rintro e w1 ⟨rfl, hb⟩
  rw [QA]
  have HB1 := Lib.hid (below_trans HB0.out hb)
  have HX1 := Lib.hid (HX0.out.below hb); have HY1 := Lib.hid (HY0.out.below hb)
  clear hb HB0 HX0 HY0 hx hy
  have hx := HX1.out.cell; have hy := HY1.out.cell
  go_wp2_with fail
  refine (implModelOK_any _ _ _ _ _ _ zs2 bs2 os2 cnt _ hz2.out ht2.out hc2.out (HA2.out.below HB1.out) (HT2.out.below HB1.out) (HC2.out.below HB1.out)).mono ?_
  rintro e w2 ⟨rfl, hb⟩
  rw [QB]
  have HB2 := Lib.hid (below_trans HB1.out hb)
  have HX2 := Lib.hid (HX1.out.below hb); have HY2 := Lib.hid (HY1.out.below hb)
  clear hb HB1 HX1 HY1 hx hy
  have hx := HX2.out.cell; have hy := HY2.out.cell
  go_wp2_with fail
  refine (eqIntsM_any _ _ _ _ zs zs2 _ (by have := hz.out; unfold maxLen; omega) (by have := hz2.out; unfold maxLen; omega) (HA.out.below HB2.out) (HA2.out.below HB2.out)).mono ?_
  rintro e w3 ⟨rfl, hd⟩
  have hb := drewN_below hd; clear hd
  rw [Q2]
  have HB3 := Lib.hid (below_trans HB2.out hb)
  have HX3 := Lib.hid (HX2.out.below hb); have HY3 := Lib.hid (HY2.out.below hb)
  clear hb HB2 HX2 HY2 hx hy
  have hx := HX3.out.cell; have hy := HY3.out.cell
  go_wp2_with fail
  refine (eqRowsW_any _ _ _ _ bs bs2 _ ht.out ht2.out (HT.out.below HB3.out) (HT2.out.below HB3.out)).mono ?_
  rintro e w4 ⟨rfl, hb⟩
  rw [Q3]
  have HB4 := Lib.hid (below_trans HB3.out hb)
  have HX4 := Lib.hid (HX3.out.below hb); have HY4 := Lib.hid (HY3.out.below hb)
  clear hb HB3 HX3 HY3 hx hy
  have hx := HX4.out.cell; have hy := HY4.out.cell
  go_wp2_with fail
  refine (eqRowsW_any _ _ _ _ os os2 _ hc.out hc2.out (HC.out.below HB4.out) (HC2.out.below HB4.out)).mono ?_
  rintro e w5 ⟨rfl, hb⟩
  rw [Q4]
  have HB5 := Lib.hid (below_trans HB4.out hb)
  have HX5 := Lib.hid (HX4.out.below hb); have HY5 := Lib.hid (HY4.out.below hb)
  clear hb HB4 HX4 HY4 hx hy
  have hx := HX5.out.cell; have hy := HY5.out.cell
  go_wp2
  go_ret
  exact ⟨ret_bool HF.out.symm, HB5.out⟩

set_option maxHeartbeats 8000000 in
set_option maxRecDepth 100000 in
theorem specSameModel_any (A B O : Option Addr) (ca cb co : Nat) (zs : List Int) (bs os : List Wtr) (cnt : Int) (A2 B2 O2 : Option Addr) (ca2 cb2 co2 : Nat) (zs2 : List Int) (bs2 os2 : List Wtr) (cnt2 : Int) (w : World) (hz : zs.length ≤ 1048576) (ht : bs.length ≤ 1048576) (hc : os.length ≤ 1048576) (hA : Rd w A zs) (hT : RdR Wtr.cs w B bs) (hC : RdR Wtr.cs w O os)
    (hz2 : zs2.length ≤ 1048576) (ht2 : bs2.length ≤ 1048576) (hc2 : os2.length ≤ 1048576) (hA2 : Rd w A2 zs2) (hT2 : RdR Wtr.cs w B2 bs2) (hC2 : RdR Wtr.cs w O2 os2) :
    Calls Try.prog 18 #[.agg #[.slice A zs.length ca, .int .i64 cnt, .slice B bs.length cb, .slice O os.length co], .agg #[.slice A2 zs2.length ca2, .int .i64 cnt2, .slice B2 bs2.length cb2, .slice O2 os2.length co2]] w fun e w' => e = .returned (.bool (smB zs cnt bs os zs2 cnt2 bs2 os2)) ∧ Below w.heap.size w w' := by
  have HA := Lib.hid hA; have HT := Lib.hid hT; have HC := Lib.hid hC; have HA2 := Lib.hid hA2; have HT2 := Lib.hid hT2; have HC2 := Lib.hid hC2; clear hA hT hC hA2 hT2 hC2
  replace hz := Lib.hid hz; replace ht := Lib.hid ht; replace hc := Lib.hid hc; replace hz2 := Lib.hid hz2; replace ht2 := Lib.hid ht2; replace hc2 := Lib.hid hc2
  have HB0 := Lib.hid (below_alloc2 w (.cells #[.slice A zs.length ca, .int .i64 cnt, .slice B bs.length cb, .slice O os.length co] 30) (.cells #[.slice A2 zs2.length ca2, .int .i64 cnt2, .slice B2 bs2.length cb2, .slice O2 os2.length co2] 30))
  have HX0 := Lib.hid ((BoxC.new 30 w #[.slice A zs.length ca, .int .i64 cnt, .slice B bs.length cb, .slice O os.length co]).below (below_alloc _ (.cells #[.slice A2 zs2.length ca2, .int .i64 cnt2, .slice B2 bs2.length cb2, .slice O2 os2.length co2] 30)))
  have HY0 := Lib.hid (by have h := BoxC.new 30 (w.alloc (.cells #[.slice A zs.length ca, .int .i64 cnt, .slice B bs.length cb, .slice O os.length co] 30)) #[.slice A2 zs2.length ca2, .int .i64 cnt2, .slice B2 bs2.length cb2, .slice O2 os2.length co2]; rw [size_alloc] at h; exact h)
  cases QA : mdB zs cnt bs os
  · have HF : Hid (smB zs cnt bs os zs2 cnt2 bs2 os2 = false) := by unfold Hid smB; rw [QA]; rfl
    go_enter Try.func18, Try.ntmps18
    have hx := HX0.out.cell; have hy := HY0.out.cell
    go_wp2_with fail
    refine (specModelOK_any _ _ _ _ _ _ zs bs os cnt _ hz.out ht.out hc.out (HA.out.below HB0.out) (HT.out.below HB0.out) (HC.out.below HB0.out)).mono ?_
    rintro e w1 ⟨rfl, hb⟩
    rw [QA]
    have HB1 := Lib.hid (below_trans HB0.out hb)
    have HX1 := Lib.hid (HX0.out.below hb); have HY1 := Lib.hid (HY0.out.below hb)
    clear hb HB0 HX0 HY0 hx hy
    have hx := HX1.out.cell; have hy := HY1.out.cell
    go_wp2
    go_ret
    exact ⟨ret_bool HF.out.symm, HB1.out⟩
  cases QB : mdB zs2 cnt2 bs2 os2
  · have HF : Hid (smB zs cnt bs os zs2 cnt2 bs2 os2 = false) := by unfold Hid smB; rw [QB]; simp
    go_enter Try.func18, Try.ntmps18
    have hx := HX0.out.cell; have hy := HY0.out.cell
    go_wp2_with fail
    refine (specModelOK_any _ _ _ _ _ _ zs bs os cnt _ hz.out ht.out hc.out (HA.out.below HB0.out) (HT.out.below HB0.out) (HC.out.below HB0.out)).mono ?_
    rintro e w1 ⟨rfl, hb⟩
    rw [QA]
    have HB1 := Lib.hid (below_trans HB0.out hb)
    have HX1 := Lib.hid (HX0.out.below hb); have HY1 := Lib.hid (HY0.out.below hb)
    clear hb HB0 HX0 HY0 hx hy
    have hx := HX1.out.cell; have hy := HY1.out.cell
    go_wp2_with fail
    refine (specModelOK_any _ _ _ _ _ _ zs2 bs2 os2 cnt2 _ hz2.out ht2.out hc2.out (HA2.out.below HB1.out) (HT2.out.below HB1.out) (HC2.out.below HB1.out)).mono ?_
    rintro e w2 ⟨rfl, hb⟩
    rw [QB]
    have HB2 := Lib.hid (below_trans HB1.out hb)
    have HX2 := Lib.hid (HX1.out.below hb); have HY2 := Lib.hid (HY1.out.below hb)
    clear hb HB1 HX1 HY1 hx hy
    have hx := HX2.out.cell; have hy := HY2.out.cell
    go_wp2
    go_ret
    exact ⟨ret_bool HF.out.symm, HB2.out⟩
  cases Q2 : decide (zs = zs2)
  · have HF : Hid (smB zs cnt bs os zs2 cnt2 bs2 os2 = false) := by unfold Hid smB; rw [Q2]; simp
    go_enter Try.func18, Try.ntmps18
    have hx := HX0.out.cell; have hy := HY0.out.cell
    go_wp2_with fail
    refine (specModelOK_any _ _ _ _ _ _ zs bs os cnt _ hz.out ht.out hc.out (HA.out.below HB0.out) (HT.out.below HB0.out) (HC.out.below HB0.out)).mono ?_
    rintro e w1 ⟨rfl, hb⟩
    rw [QA]
    have HB1 := Lib.hid (below_trans HB0.out hb)
    have HX1 := Lib.hid (HX0.out.below hb); have HY1 := Lib.hid (HY0.out.below hb)
    clear hb HB0 HX0 HY0 hx hy
    have hx := HX1.out.cell; have hy := HY1.out.cell
    go_wp2_with fail
    refine (specModelOK_any _ _ _ _ _ _ zs2 bs2 os2 cnt2 _ hz2.out ht2.out hc2.out (HA2.out.below HB1.out) (HT2.out.below HB1.out) (HC2.out.below HB1.out)).mono ?_
    rintro e w2 ⟨rfl, hb⟩
    rw [QB]
    have HB2 := Lib.hid (below_trans HB1.out hb)
    have HX2 := Lib.hid (HX1.out.below hb); have HY2 := Lib.hid (HY1.out.below hb)
    clear hb HB1 HX1 HY1 hx hy
    have hx := HX2.out.cell; have hy := HY2.out.cell
    go_wp2_with fail
    refine (l01SameM_any _ _ _ _ zs zs2 _ (by have := hz.out; unfold maxLen; omega) (by have := hz2.out; unfold maxLen; omega) (HA.out.below HB2.out) (HA2.out.below HB2.out)).mono ?_
    rintro e w3 ⟨rfl, hd⟩
    have hb := drewN_below hd; clear hd
    rw [Q2]
    have HB3 := Lib.hid (below_trans HB2.out hb)
    have HX3 := Lib.hid (HX2.out.below hb); have HY3 := Lib.hid (HY2.out.below hb)
    clear hb HB2 HX2 HY2 hx hy
    have hx := HX3.out.cell; have hy := HY3.out.cell
    go_wp2
    go_ret
    exact ⟨ret_bool HF.out.symm, HB3.out⟩
  cases Q1 : cnt == cnt2
  · have HF : Hid (smB zs cnt bs os zs2 cnt2 bs2 os2 = false) := by unfold Hid smB; rw [Q1]; simp
    have q1 : ¬ cnt = cnt2 := by simpa using Q1
    have q1b : (cnt != cnt2) = true := by simpa using q1
    go_enter Try.func18, Try.ntmps18
    have hx := HX0.out.cell; have hy := HY0.out.cell
    go_wp2_with fail
    refine (specModelOK_any _ _ _ _ _ _ zs bs os cnt _ hz.out ht.out hc.out (HA.out.below HB0.out) (HT.out.below HB0.out) (HC.out.below HB0.out)).mono ?_
    rintro e w1 ⟨rfl, hb⟩
    rw [QA]
    have HB1 := Lib.hid (below_trans HB0.out hb)
    have HX1 := Lib.hid (HX0.out.below hb); have HY1 := Lib.hid (HY0.out.below hb)
    clear hb HB0 HX0 HY0 hx hy
    have hx := HX1.out.cell; have hy := HY1.out.cell
    go_wp2_with fail
    refine (specModelOK_any _ _ _ _ _ _ zs2 bs2 os2 cnt2 _ hz2.out ht2.out hc2.out (HA2.out.below HB1.out) (HT2.out.below HB1.out) (HC2.out.below HB1.out)).mono ?_
    rintro e w2 ⟨rfl, hb⟩
    rw [QB]
    have HB2 := Lib.hid (below_trans HB1.out hb)
    have HX2 := Lib.hid (HX1.out.below hb); have HY2 := Lib.hid (HY1.out.below hb)
    clear hb HB1 HX1 HY1 hx hy
    have hx := HX2.out.cell; have hy := HY2.out.cell
    go_wp2_with fail
    refine (l01SameM_any _ _ _ _ zs zs2 _ (by have := hz.out; unfold maxLen; omega) (by have := hz2.out; unfold maxLen; omega) (HA.out.below HB2.out) (HA2.out.below HB2.out)).mono ?_
    rintro e w3 ⟨rfl, hd⟩
    have hb := drewN_below hd; clear hd
    rw [Q2]
    have HB3 := Lib.hid (below_trans HB2.out hb)
    have HX3 := Lib.hid (HX2.out.below hb); have HY3 := Lib.hid (HY2.out.below hb)
    clear hb HB2 HX2 HY2 hx hy
    have hx := HX3.out.cell; have hy := HY3.out.cell
    go_wp2
    go_ret
    exact ⟨ret_bool HF.out.symm, HB3.out⟩
  have q1 : cnt = cnt2 := by simpa using Q1
  subst q1
  cases Q3 : decide (bs = bs2)
  · have HF : Hid (smB zs cnt bs os zs2 cnt bs2 os2 = false) := by unfold Hid smB; rw [Q3]; simp
    go_enter Try.func18, Try.ntmps18
    have hx := HX0.out.cell; have hy := HY0.out.cell
    go_wp2_with fail
    refine (specModelOK_any _ _ _ _ _ _ zs bs os cnt _ hz.out ht.out hc.out (HA.out.below HB0.out) (HT.out.below HB0.out) (HC.out.below HB0.out)).mono ?_
    rintro e w1 ⟨rfl, hb⟩
    rw [QA]
    have HB1 := Lib.hid (below_trans HB0.out hb)
    have HX1 := Lib.hid (HX0.out.below hb); have HY1 := Lib.hid (HY0.out.below hb)
    clear hb HB0 HX0 HY0 hx hy
    have hx := HX1.out.cell; have hy := HY1.out.cell
    go_wp2_with fail
    refine (specModelOK_any _ _ _ _ _ _ zs2 bs2 os2 cnt _ hz2.out ht2.out hc2.out (HA2.out.below HB1.out) (HT2.out.below HB1.out) (HC2.out.below HB1.out)).mono ?_
    rintro e w2 ⟨rfl, hb⟩
    rw [QB]
    have HB2 := Lib.hid (below_trans HB1.out hb)
    have HX2 := Lib.hid (HX1.out.below hb); have HY2 := Lib.hid (HY1.out.below hb)
    clear hb HB1 HX1 HY1 hx hy
    have hx := HX2.out.cell; have hy := HY2.out.cell
    go_wp2_with fail
    refine (l01SameM_any _ _ _ _ zs zs2 _ (by have := hz.out; unfold maxLen; omega) (by have := hz2.out; unfold maxLen; omega) (HA.out.below HB2.out) (HA2.out.below HB2.out)).mono ?_
    rintro e w3 ⟨rfl, hd⟩
    have hb := drewN_below hd; clear hd
    rw [Q2]
    have HB3 := Lib.hid (below_trans HB2.out hb)
    have HX3 := Lib.hid (HX2.out.below hb); have HY3 := Lib.hid (HY2.out.below hb)
    clear hb HB2 HX2 HY2 hx hy
    have hx := HX3.out.cell; have hy := HY3.out.cell
    go_wp2_with fail
    refine (l10Waiters_any _ _ _ _ bs bs2 _ ht.out ht2.out (HT.out.below HB3.out) (HT2.out.below HB3.out)).mono ?_
    rintro e w4 ⟨rfl, hb⟩
    rw [Q3]
    have HB4 := Lib.hid (below_trans HB3.out hb)
    have HX4 := Lib.hid (HX3.out.below hb); have HY4 := Lib.hid (HY3.out.below hb)
    clear hb HB3 HX3 HY3 hx hy
    have hx := HX4.out.cell; have hy := HY4.out.cell
    go_wp2
    go_ret
    exact ⟨ret_bool HF.out.symm, HB4.out⟩
  obtain ⟨q, Q4⟩ : ∃ q, decide (os = os2) = q := ⟨_, rfl⟩
  have HF : Hid (smB zs cnt bs os zs2 cnt bs2 os2 = q) := by unfold Hid smB; rw [QA, QB, Q1, Q2, Q3, Q4]; rfl
  go_enter Try.func18, Try.ntmps18
  have hx := HX0.out.cell; have hy := HY0.out.cell
  go_wp2_with fail
  refine (specModelOK_any _ _ _ _ _ _ zs bs os cnt _ hz.out ht.out hc.out (HA.out.below HB0.out) (HT.out.below HB0.out) (HC.out.below HB0.out)).mono ?_
  rintro e w1 ⟨rfl, hb⟩
  rw [QA]
  have HB1 := Lib.hid (below_trans HB0.out hb)
  have HX1 := Lib.hid (HX0.out.below hb); have HY1 := Lib.hid (HY0.out.below hb)
  clear hb HB0 HX0 HY0 hx hy
  have hx := HX1.out.cell; have hy := HY1.out.cell
  go_wp2_with fail
  refine (specModelOK_any _ _ _ _ _ _ zs2 bs2 os2 cnt _ hz2.out ht2.out hc2.out (HA2.out.below HB1.out) (HT2.out.below HB1.out) (HC2.out.below HB1.out)).mono ?_
  rintro e w2 ⟨rfl, hb⟩
  rw [QB]
  have HB2 := Lib.hid (below_trans HB1.out hb)
  have HX2 := Lib.hid (HX1.out.below hb); have HY2 := Lib.hid (HY1.out.below hb)
  clear hb HB1 HX1 HY1 hx hy
  have hx := HX2.out.cell; have hy := HY2.out.cell
  go_wp2_with fail
  refine (l01SameM_any _ _ _ _ zs zs2 _ (by have := hz.out; unfold maxLen; omega) (by have := hz2.out; unfold maxLen; omega) (HA.out.below HB2.out) (HA2.out.below HB2.out)).mono ?_
  rintro e w3 ⟨rfl, hd⟩
  have hb := drewN_below hd; clear hd
  rw [Q2]
  have HB3 := Lib.hid (below_trans HB2.out hb)
  have HX3 := Lib.hid (HX2.out.below hb); have HY3 := Lib.hid (HY2.out.below hb)
  clear hb HB2 HX2 HY2 hx hy
  have hx := HX3.out.cell; have hy := HY3.out.cell
  go_wp2_with fail
  refine (l10Waiters_any _ _ _ _ bs bs2 _ ht.out ht2.out (HT.out.below HB3.out) (HT2.out.below HB3.out)).mono ?_
  rintro e w4 ⟨rfl, hb⟩
  rw [Q3]
  have HB4 := Lib.hid (below_trans HB3.out hb)
  have HX4 := Lib.hid (HX3.out.below hb); have HY4 := Lib.hid (HY3.out.below hb)
  clear hb HB3 HX3 HY3 hx hy
  have hx := HX4.out.cell; have hy := HY4.out.cell
  go_wp2_with fail
  refine (l10Waiters_any _ _ _ _ os os2 _ hc.out hc2.out (HC.out.below HB4.out) (HC2.out.below HB4.out)).mono ?_
  rintro e w5 ⟨rfl, hb⟩
  rw [Q4]
  have HB5 := Lib.hid (below_trans HB4.out hb)
  have HX5 := Lib.hid (HX4.out.below hb); have HY5 := Lib.hid (HY4.out.below hb)
  clear hb HB4 HX4 HY4 hx hy
  have hx := HX5.out.cell; have hy := HY5.out.cell
  go_wp2
  go_ret
  exact ⟨ret_bool HF.out.symm, HB5.out⟩
end Go.Proofs.Ytiogebflfnicgaa
