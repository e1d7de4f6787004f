/-
  Models (chapter 11): SameModel, the program's and the model's.
  The walk of the law FnExactModelOK.
  Models (chapter 11): ModelHolds, the program's and the model's, and the walk of its exact law.
  Models (chapter 11): what FnModel asks, over lists.
  For the laws of models: segments within ranges, what is answered.
  Models (chapter 11): the program's ModelLeave.
  Models (chapter 11): the model's ModelCall, one way of it.
  Models (chapter 11): the model's ModelCall, one way of it.
  Models (chapter 11): the model's ModelCall.
-/
import Derived.Test.YthianfhfamkcmaaJ13
import Derived.Test.YthianfhfamkcmaaJ25
import Derived.Test.YthianfhfamkcmaaJ26
import Derived.Test.YthianfhfamkcmaaJ27
import Derived.Test.YthianfhfamkcmaaJ14
import Derived.Test.YthianfhfamkcmaaJ19
import Derived.Test.YthianfhfamkcmaaJ20
import Derived.BigQuiet
import Derived.Test.YthianfhfamkcmaaJ28
namespace Go.Proofs.Ythianfhfamkcmaa
open Go.RowKit

/-- What SameModel answers. -/
def smB (zs : List Int) (cnt : Int) (bs os : List Wtr) (zs2 : List Int) (cnt2 : Int) (bs2 os2 : List Wtr) : Bool :=
  mdB zs cnt bs os && mdB zs2 cnt2 bs2 os2 && cnt == cnt2 && decide (zs = zs2) && decide (bs = bs2) && decide (os = os2)
theorem drewN_below {w w' : World} (h : ∃ n, w' = w.drewN n) : Below w.heap.size w w' := by obtain ⟨n, rfl⟩ := h; exact below_drewN n

set_option maxHeartbeats 8000000 in
set_option maxRecDepth 100000 in
theorem implSameModel_any (A B O : Option Addr) (ca cb co : Nat) (zs : List Int) (bs os : List Wtr) (cnt : Int) (A2 B2 O2 : Option Addr) (ca2 cb2 co2 : Nat) (zs2 : List Int) (bs2 os2 : List Wtr) (cnt2 : Int) (w : World) (hz : zs.length ≤ 1048576) (ht : bs.length ≤ 1048576) (hc : os.length ≤ 1048576) (hA : Rd w A zs) (hT : RdR Wtr.cs w B bs) (hC : RdR Wtr.cs w O os)
    (hz2 : zs2.length ≤ 1048576) (ht2 : bs2.length ≤ 1048576) (hc2 : os2.length ≤ 1048576) (hA2 : Rd w A2 zs2) (hT2 : RdR Wtr.cs w B2 bs2) (hC2 : RdR Wtr.cs w O2 os2) :
    Calls Try.prog 23 #[.agg #[.slice A zs.length ca, .int .i64 cnt, .slice B bs.length cb, .slice O os.length co], .agg #[.slice A2 zs2.length ca2, .int .i64 cnt2, .slice B2 bs2.length cb2, .slice O2 os2.length co2]] w fun e w' => e = .returned (.bool (smB zs cnt bs os zs2 cnt2 bs2 os2)) ∧ Below w.heap.size w w' := by
  have HA := Lib.hid hA; have HT := Lib.hid hT; have HC := Lib.hid hC; have HA2 := Lib.hid hA2; have HT2 := Lib.hid hT2; have HC2 := Lib.hid hC2; clear hA hT hC hA2 hT2 hC2
  replace hz := Lib.hid hz; replace ht := Lib.hid ht; replace hc := Lib.hid hc; replace hz2 := Lib.hid hz2; replace ht2 := Lib.hid ht2; replace hc2 := Lib.hid hc2
  have HB0 := Lib.hid (below_alloc2 w (.cells #[.slice A zs.length ca, .int .i64 cnt, .slice B bs.length cb, .slice O os.length co] 31) (.cells #[.slice A2 zs2.length ca2, .int .i64 cnt2, .slice B2 bs2.length cb2, .slice O2 os2.length co2] 31))
  have HX0 := Lib.hid ((BoxC.new 31 w #[.slice A zs.length ca, .int .i64 cnt, .slice B bs.length cb, .slice O os.length co]).below (below_alloc _ (.cells #[.slice A2 zs2.length ca2, .int .i64 cnt2, .slice B2 bs2.length cb2, .slice O2 os2.length co2] 31)))
  have HY0 := Lib.hid (by have h := BoxC.new 31 (w.alloc (.cells #[.slice A zs.length ca, .int .i64 cnt, .slice B bs.length cb, .slice O os.length co] 31)) #[.slice A2 zs2.length ca2, .int .i64 cnt2, .slice B2 bs2.length cb2, .slice O2 os2.length co2]; rw [size_alloc] at h; exact h)
  cases QA : mdB zs cnt bs os
  · have HF : Hid (smB zs cnt bs os zs2 cnt2 bs2 os2 = false) := by unfold Hid smB; rw [QA]; rfl
    go_enter Try.func23, Try.ntmps23
    have hx := HX0.out.cell; have hy := HY0.out.cell
    go_wp2_with fail
    refine (implModelOK_any _ _ _ _ _ _ zs bs os cnt _ hz.out ht.out hc.out (HA.out.below HB0.out) (HT.out.below HB0.out) (HC.out.below HB0.out)).mono ?_
    rintro e w1 ⟨rfl, hb⟩
    rw [QA]
    have HB1 := Lib.hid (below_trans HB0.out hb)
    have HX1 := Lib.hid (HX0.out.below hb); have HY1 := Lib.hid (HY0.out.below hb)
    clear hb HB0 HX0 HY0 hx hy
    have hx := HX1.out.cell; have hy := HY1.out.cell
    go_wp2
    go_ret
    exact ⟨ret_bool HF.out.symm, HB1.out⟩
  cases QB : mdB zs2 cnt2 bs2 os2
  · have HF : Hid (smB zs cnt bs os zs2 cnt2 bs2 os2 = false) := by unfold Hid smB; rw [QB]; simp
    go_enter Try.func23, Try.ntmps23
    have hx := HX0.out.cell; have hy := HY0.out.cell
    go_wp2_with fail
    refine (implModelOK_any _ _ _ _ _ _ zs bs os cnt _ hz.out ht.out hc.out (HA.out.below HB0.out) (HT.out.below HB0.out) (HC.out.below HB0.out)).mono ?_
    rintro e w1 ⟨rfl, hb⟩
    rw [QA]
    have HB1 := Lib.hid (below_trans HB0.out hb)
    have HX1 := Lib.hid (HX0.out.below hb); have HY1 := Lib.hid (HY0.out.below hb)
    clear hb HB0 HX0 HY0 hx hy
    have hx := HX1.out.cell; have hy := HY1.out.cell
    go_wp2_with fail
    refine (implModelOK_any _ _ _ _ _ _ zs2 bs2 os2 cnt2 _ hz2.out ht2.out hc2.out (HA2.out.below HB1.out) (HT2.out.below HB1.out) (HC2.out.below HB1.out)).mono ?_
    rintro e w2 ⟨rfl, hb⟩
    rw [QB]
    have HB2 := Lib.hid (below_trans HB1.out hb)
    have HX2 := Lib.hid (HX1.out.below hb); have HY2 := Lib.hid (HY1.out.below hb)
    clear hb HB1 HX1 HY1 hx hy
    have hx := HX2.out.cell; have hy := HY2.out.cell
    go_wp2
    go_ret
    exact ⟨ret_bool HF.out.symm, HB2.out⟩
  cases Q1 : cnt == cnt2
  · have HF : Hid (smB zs cnt bs os zs2 cnt2 bs2 os2 = false) := by unfold Hid smB; rw [Q1]; simp
    have q1 : ¬ cnt = cnt2 := by simpa using Q1
    have q1b : (cnt != cnt2) = true := by simpa using q1
    go_enter Try.func23, Try.ntmps23
    have hx := HX0.out.cell; have hy := HY0.out.cell
    go_wp2_with fail
    refine (implModelOK_any _ _ _ _ _ _ zs bs os cnt _ hz.out ht.out hc.out (HA.out.below HB0.out) (HT.out.below HB0.out) (HC.out.below HB0.out)).mono ?_
    rintro e w1 ⟨rfl, hb⟩
    rw [QA]
    have HB1 := Lib.hid (below_trans HB0.out hb)
    have HX1 := Lib.hid (HX0.out.below hb); have HY1 := Lib.hid (HY0.out.below hb)
    clear hb HB0 HX0 HY0 hx hy
    have hx := HX1.out.cell; have hy := HY1.out.cell
    go_wp2_with fail
    refine (implModelOK_any _ _ _ _ _ _ zs2 bs2 os2 cnt2 _ hz2.out ht2.out hc2.out (HA2.out.below HB1.out) (HT2.out.below HB1.out) (HC2.out.below HB1.out)).mono ?_
    rintro e w2 ⟨rfl, hb⟩
    rw [QB]
    have HB2 := Lib.hid (below_trans HB1.out hb)
    have HX2 := Lib.hid (HX1.out.below hb); have HY2 := Lib.hid (HY1.out.below hb)
    clear hb HB1 HX1 HY1 hx hy
    have hx := HX2.out.cell; have hy := HY2.out.cell
    go_wp2
    go_ret
    exact ⟨ret_bool HF.out.symm, HB2.out⟩
  have q1 : cnt = cnt2 := by simpa using Q1
  subst q1
  cases Q2 : decide (zs = zs2)
  · have HF : Hid (smB zs cnt bs os zs2 cnt bs2 os2 = false) := by unfold Hid smB; rw [Q2]; simp
    go_enter Try.func23, Try.ntmps23
    have hx := HX0.out.cell; have hy := HY0.out.cell
    go_wp2_with fail
    refine (implModelOK_any _ _ _ _ _ _ zs bs os cnt _ hz.out ht.out hc.out (HA.out.below HB0.out) (HT.out.below HB0.out) (HC.out.below HB0.out)).mono ?_
    rintro e w1 ⟨rfl, hb⟩
    rw [QA]
    have HB1 := Lib.hid (below_trans HB0.out hb)
    have HX1 := Lib.hid (HX0.out.below hb); have HY1 := Lib.hid (HY0.out.below hb)
    clear hb HB0 HX0 HY0 hx hy
    have hx := HX1.out.cell; have hy := HY1.out.cell
    go_wp2_with fail
    refine (implModelOK_any _ _ _ _ _ _ zs2 bs2 os2 cnt _ hz2.out ht2.out hc2.out (HA2.out.below HB1.out) (HT2.out.below HB1.out) (HC2.out.below HB1.out)).mono ?_
    rintro e w2 ⟨rfl, hb⟩
    rw [QB]
    have HB2 := Lib.hid (below_trans HB1.out hb)
    have HX2 := Lib.hid (HX1.out.below hb); have HY2 := Lib.hid (HY1.out.below hb)
    clear hb HB1 HX1 HY1 hx hy
    have hx := HX2.out.cell; have hy := HY2.out.cell
    go_wp2_with fail
    refine (eqIntsM_any _ _ _ _ zs zs2 _ (by have := hz.out; unfold maxLen; omega) (by have := hz2.out; unfold maxLen; omega) (HA.out.below HB2.out) (HA2.out.below HB2.out)).mono ?_
    rintro e w3 ⟨rfl, hd⟩
    have hb := drewN_below hd; clear hd
    rw [Q2]
    have HB3 := Lib.hid (below_trans HB2.out hb)
    have HX3 := Lib.hid (HX2.out.below hb); have HY3 := Lib.hid (HY2.out.below hb)
    clear hb HB2 HX2 HY2 hx hy
    have hx := HX3.out.cell; have hy := HY3.out.cell
    go_wp2
    go_ret
    exact ⟨ret_bool HF.out.symm, HB3.out⟩
  cases Q3 : decide (bs = bs2)
  · have HF : Hid (smB zs cnt bs os zs2 cnt bs2 os2 = false) := by unfold Hid smB; rw [Q3]; simp
    go_enter Try.func23, Try.ntmps23
    have hx := HX0.out.cell; have hy := HY0.out.cell
    go_wp2_with fail
    refine (implModelOK_any _ _ _ _ _ _ zs bs os cnt _ hz.out ht.out hc.out (HA.out.below HB0.out) (HT.out.below HB0.out) (HC.out.below HB0.out)).mono ?_
    rintro e w1 ⟨rfl, hb⟩
    rw [QA]
    have HB1 := Lib.hid (below_trans HB0.out hb)
    have HX1 := Lib.hid (HX0.out.below hb); have HY1 := Lib.hid (HY0.out.below hb)
    clear hb HB0 HX0 HY0 hx hy
    have hx := HX1.out.cell; have hy := HY1.out.cell
    go_wp2_with fail
    refine (implModelOK_any _ _ _ _ _ _ zs2 bs2 os2 cnt _ hz2.out ht2.out hc2.out (HA2.out.below HB1.out) (HT2.out.below HB1.out) (HC2.out.below HB1.out)).mono ?_
    rintro e w2 ⟨rfl, hb⟩
    rw [QB]
    have HB2 := Lib.hid (below_trans HB1.out hb)
    have HX2 := Lib.hid (HX1.out.below hb); have HY2 := Lib.hid (HY1.out.below hb)
    clear hb HB1 HX1 HY1 hx hy
    have hx := HX2.out.cell; have hy := HY2.out.cell
    go_wp2_with fail
    refine (eqIntsM_any _ _ _ _ zs zs2 _ (by have := hz.out; unfold maxLen; omega) (by have := hz2.out; unfold maxLen; omega) (HA.out.below HB2.out) (HA2.out.below HB2.out)).mono ?_
    rintro e w3 ⟨rfl, hd⟩
    have hb := drewN_below hd; clear hd
    rw [Q2]
    have HB3 := Lib.hid (below_trans HB2.out hb)
    have HX3 := Lib.hid (HX2.out.below hb); have HY3 := Lib.hid (HY2.out.below hb)
    clear hb HB2 HX2 HY2 hx hy
    have hx := HX3.out.cell; have hy := HY3.out.cell
    go_wp2_with fail
    refine (eqRowsW_any _ _ _ _ bs bs2 _ ht.out ht2.out (HT.out.below HB3.out) (HT2.out.below HB3.out)).mono ?_
    rintro e w4 ⟨rfl, hb⟩
    rw [Q3]
    have HB4 := Lib.hid (below_trans HB3.out hb)
    have HX4 := Lib.hid (HX3.out.below hb); have HY4 := Lib.hid (HY3.out.below hb)
    clear hb HB3 HX3 HY3 hx hy
    have hx := HX4.out.cell; have hy := HY4.out.cell
    go_wp2
    go_ret
    exact ⟨ret_bool HF.out.symm, HB4.out⟩
  obtain ⟨q, Q4⟩ : ∃ q, decide (os = os2) = q := ⟨_, rfl⟩
  have HF : Hid (smB zs cnt bs os zs2 cnt bs2 os2 = q) := by unfold Hid smB; rw [QA, QB, Q1, Q2, Q3, Q4]; rfl
  go_enter Try.func23, Try.ntmps23
  have hx := HX0.out.cell; have hy := HY0.out.cell
  go_wp2_with fail
  refine (implModelOK_any _ _ _ _ _ _ zs bs os cnt _ hz.out ht.out hc.out (HA.out.below HB0.out) (HT.out.below HB0.out) (HC.out.below HB0.out)).mono ?_
  rintro e w1 ⟨rfl, hb⟩
  rw [QA]
  have HB1 := Lib.hid (below_trans HB0.out hb)
  have HX1 := Lib.hid (HX0.out.below hb); have HY1 := Lib.hid (HY0.out.below hb)
  clear hb HB0 HX0 HY0 hx hy
  have hx := HX1.out.cell; have hy := HY1.out.cell
  go_wp2_with fail
  refine (implModelOK_any _ _ _ _ _ _ zs2 bs2 os2 cnt _ hz2.out ht2.out hc2.out (HA2.out.below HB1.out) (HT2.out.below HB1.out) (HC2.out.below HB1.out)).mono ?_
  rintro e w2 ⟨rfl, hb⟩
  rw [QB]
  have HB2 := Lib.hid (below_trans HB1.out hb)
  have HX2 := Lib.hid (HX1.out.below hb); have HY2 := Lib.hid (HY1.out.below hb)
  clear hb HB1 HX1 HY1 hx hy
  have hx := HX2.out.cell; have hy := HY2.out.cell
  go_wp2_with fail
  refine (eqIntsM_any _ _ _ _ zs zs2 _ (by have := hz.out; unfold maxLen; omega) (by have := hz2.out; unfold maxLen; omega) (HA.out.below HB2.out) (HA2.out.below HB2.out)).mono ?_
  rintro e w3 ⟨rfl, hd⟩
  have hb := drewN_below hd; clear hd
  rw [Q2]
  have HB3 := Lib.hid (below_trans HB2.out hb)
  have HX3 := Lib.hid (HX2.out.below hb); have HY3 := Lib.hid (HY2.out.below hb)
  clear hb HB2 HX2 HY2 hx hy
  have hx := HX3.out.cell; have hy := HY3.out.cell
  go_wp2_with fail
  refine (eqRowsW_any _ _ _ _ bs bs2 _ ht.out ht2.out (HT.out.below HB3.out) (HT2.out.below HB3.out)).mono ?_
  rintro e w4 ⟨rfl, hb⟩
  rw [Q3]
  have HB4 := Lib.hid (below_trans HB3.out hb)
  have HX4 := Lib.hid (HX3.out.below hb); have HY4 := Lib.hid (HY3.out.below hb)
  clear hb HB3 HX3 HY3 hx hy
  have hx := HX4.out.cell; have hy := HY4.out.cell
  go_wp2_with fail
  refine (eqRowsW_any _ _ _ _ os os2 _ hc.out hc2.out (HC.out.below HB4.out) (HC2.out.below HB4.out)).mono ?_
  rintro e w5 ⟨rfl, hb⟩
  rw [Q4]
  have HB5 := Lib.hid (below_trans HB4.out hb)
  have HX5 := Lib.hid (HX4.out.below hb); have HY5 := Lib.hid (HY4.out.below hb)
  clear hb HB4 HX4 HY4 hx hy
  have hx := HX5.out.cell; have hy := HY5.out.cell
  go_wp2
  go_ret
  exact ⟨ret_bool HF.out.symm, HB5.out⟩

end Go.Proofs.Ythianfhfamkcmaa

namespace Go.Proofs.Ythianfhfamkcmaa
open Go.RowKit

theorem RdR.drewW {α : Type} {f : α → List Value} {w : World} {A : Option Addr} {l : List α} (h : RdR f w A l) : RdR f w.drew A l := h

end Go.Proofs.Ythianfhfamkcmaa

namespace Go.Proofs.Ythianfhfamkcmaa
open Go.RowKit

/-- What ModelHolds answers. -/
def hoB (zs : List Int) (cnt : Int) (bs os : List Wtr) : Bool := mdB zs cnt bs os && !bs.isEmpty && hdO bs == 1
def hoC (zs : List Int) (cnt : Int) (bs os : List Wtr) : Int := if mdB zs cnt bs os = true then (if bs.length = 0 then 5 else 0) else 1
theorem ho_no {zs : List Int} {cnt : Int} {bs os : List Wtr} (h : mdB zs cnt bs os = false) : hoB zs cnt bs os = false ∧ hoC zs cnt bs os = 1 := by unfold hoB hoC; rw [h]; exact ⟨rfl, rfl⟩
theorem ho_none {zs : List Int} {cnt : Int} {bs os : List Wtr} (h : mdB zs cnt bs os = true) (hb : bs.length = 0) : hoB zs cnt bs os = false ∧ hoC zs cnt bs os = 5 := by
  have hn : bs = [] := List.eq_nil_of_length_eq_zero hb
  subst hn
  unfold hoB hoC; rw [h]; exact ⟨rfl, rfl⟩
theorem ho_some {zs : List Int} {cnt : Int} {bs os : List Wtr} {x : Wtr} (h : mdB zs cnt bs os = true) (hx : bs[0]? = some x) : hoB zs cnt bs os = (x.op == 1) ∧ hoC zs cnt bs os = 0 := by
  cases bs with
  | nil => simp at hx
  | cons y r =>
    simp at hx
    subst hx
    unfold hoB hoC; rw [h]; exact ⟨by simp [hdO], rfl⟩

set_option maxHeartbeats 2000000 in
set_option maxRecDepth 100000 in
theorem implModelHolds_any (A B O : Option Addr) (ca cb co : Nat) (zs : List Int) (bs os : List Wtr) (cnt : Int) (w : World) (hz : zs.length ≤ 1048576) (ht : bs.length ≤ 1048576) (hc : os.length ≤ 1048576) (hA : Rd w A zs) (hT : RdR Wtr.cs w B bs) (hC : RdR Wtr.cs w O os) :
    Calls Try.prog 25 #[.agg #[.slice A zs.length ca, .int .i64 cnt, .slice B bs.length cb, .slice O os.length co]] w fun e w' => e = .returned (.tuple #[.bool (hoB zs cnt bs os), .int .i64 (hoC zs cnt bs os)]) ∧ Below w.heap.size w w' := by
  have HA := Lib.hid hA; have HT := Lib.hid hT; have HC := Lib.hid hC; clear hA hT hC
  have HM := Lib.hid (BoxC.new 31 w #[.slice A zs.length ca, .int .i64 cnt, .slice B bs.length cb, .slice O os.length co])
  cases QM : mdB zs cnt bs os
  · obtain ⟨e1, e2⟩ := ho_no QM
    have E1 := Lib.hid e1; have E2 := Lib.hid e2; clear e1 e2
    go_enter Try.func25, Try.ntmps25
    go_wp2_with fail
    refine (implModelOK_any _ _ _ _ _ _ zs bs os cnt _ hz ht hc (HA.out.below (below_alloc _ _)) (HT.out.below (below_alloc _ _)) (HC.out.below (below_alloc _ _))).mono ?_
    rintro e w1 ⟨rfl, hb⟩
    rw [QM]
    have HB := Lib.hid (below_trans (below_alloc _ _) hb)
    have HM1 := Lib.hid (HM.out.below hb)
    clear hb
    have hm := HM1.out.cell
    go_wp2
    go_ret2
    exact ⟨by rw [E1.out, E2.out]; first | rfl | simp, HB.out⟩
  by_cases hb0 : bs.length = 0
  · obtain ⟨e1, e2⟩ := ho_none QM hb0
    have E1 := Lib.hid e1; have E2 := Lib.hid e2; clear e1 e2
    have HB0 := Lib.hid hb0; clear hb0
    go_enter Try.func25, Try.ntmps25
    go_wp2_with fail
    refine (implModelOK_any _ _ _ _ _ _ zs bs os cnt _ hz ht hc (HA.out.below (below_alloc _ _)) (HT.out.below (below_alloc _ _)) (HC.out.below (below_alloc _ _))).mono ?_
    rintro e w1 ⟨rfl, hb⟩
    rw [QM]
    have HB := Lib.hid (below_trans (below_alloc _ _) hb)
    have HM1 := Lib.hid (HM.out.below hb)
    clear hb
    have hm := HM1.out.cell
    have hb0' : (bs.length : Int) = 0 := by have := HB0.out; omega
    go_wp2
    go_ret2
    exact ⟨by rw [E1.out, E2.out]; first | rfl | simp, HB.out⟩
  have HBN := Lib.hid hb0
  have hpos : 0 < bs.length := by omega
  obtain ⟨x0, hx0⟩ : ∃ x0, bs[0]? = some x0 := ⟨_, List.getElem?_eq_getElem hpos⟩
  obtain ⟨b, o, rfl, hrow0⟩ := HT.out.row Wtr.len 0 x0 hx0
  obtain ⟨e1, e2⟩ := ho_some QM hx0
  have E1 := Lib.hid e1; have E2 := Lib.hid e2; clear e1 e2 hx0
  obtain ⟨th0, op0, arg0⟩ := x0
  have H00 : Hid (w.cell? ⟨b, o + 1, none⟩ = some (.int .i64 op0)) := by unfold Hid; simpa using hrow0 1 _ rfl
  clear hrow0
  have HPS := Lib.hid hpos
  clear hpos hb0
  go_enter Try.func25, Try.ntmps25
  go_wp2_with fail
  refine (implModelOK_any _ _ _ _ _ _ zs bs os cnt _ hz ht hc (HA.out.below (below_alloc _ _)) (HT.out.below (below_alloc _ _)) (HC.out.below (below_alloc _ _))).mono ?_
  rintro e w1 ⟨rfl, hb⟩
  rw [QM]
  have HB := Lib.hid (below_trans (below_alloc _ _) hb)
  have HM1 := Lib.hid (HM.out.below hb)
  clear hb
  have hm := HM1.out.cell
  have hb0' : ¬ (bs.length : Int) = 0 := by have := HBN.out; omega
  have hpos := HPS.out
  have h00 := cell_keep HB.out H00.out
  go_wp2
  go_ret2
  exact ⟨by rw [E1.out, E2.out]; first | rfl | simp, HB.out⟩

end Go.Proofs.Ythianfhfamkcmaa

namespace Go.Proofs.Ythianfhfamkcmaa
open Go.RowKit

theorem sm_self {zs : List Int} {cnt : Int} {bs os : List Wtr} (h : Md zs cnt bs os) : smB zs cnt bs os zs cnt bs os = true := by
  simp [smB, md_iff.2 h]
/-- A call that ends, or is refused, leaves nobody more waiting. -/
theorem doR_less {zs : List Int} {cnt : Int} {bs os : List Wtr} {th op arg : Int} {en : Bool} {code res met : Int} {zs' : List Int} {cnt' : Int} {bs' os' : List Wtr} (hr : doR zs cnt bs os th op arg = ((en, code, res, met), (zs', cnt', bs', os'))) (h : ¬ code = 0 ∨ en = true) : bs'.length + os'.length ≤ bs.length + os.length := by
  unfold doR at hr
  repeat' split at hr
  all_goals (simp only [Prod.mk.injEq] at hr; obtain ⟨⟨rfl, rfl, _, _⟩, _, _, rfl, rfl⟩ := hr)
  all_goals first
    | (simp <;> omega)
    | (exfalso; rcases h with h | h <;> first | exact h rfl | cases h)
    | simp
/-- A call that waits. -/
theorem doR_stays {zs : List Int} {cnt : Int} {bs os : List Wtr} {th op arg : Int} {res met : Int} {zs' : List Int} {cnt' : Int} {bs' os' : List Wtr} (hm : Md zs cnt bs os) (hw : wtB th op arg = true) (hr : doR zs cnt bs os th op arg = ((false, 0, res, met), (zs', cnt', bs', os'))) :
    waitsB bs os th = false ∧ waitsB bs' os' th = true ∧ zs' = zs ∧ cnt' = cnt ∧ keptT th bs' = bs ∧ keptT th os' = os ∧ ((op = 3 ∧ bs' = bs) ∨ (¬ op = 3 ∧ ¬ bs'.length = 0 ∧ (hdO bs' == 1) = (op == 1))) := by
  cases hq : waitsB bs os th
  rotate_left
  · unfold doR at hr
    rw [if_pos hq] at hr
    simp at hr
  obtain ⟨q1, q2⟩ := waits_iff.1 hq
  have k1 := kept_all q1
  have k2 := kept_all q2
  have ht : keepT th ⟨th, op, arg⟩ = false := by simp [keepT]
  unfold doR at hr
  rw [if_neg (by rw [hq]; decide)] at hr
  by_cases h12 : op = 1 ∨ op = 2
  · rw [if_pos h12] at hr
    have h3 : ¬ op = 3 := by omega
    cases bs with
    | nil =>
      simp only [Prod.mk.injEq] at hr
      obtain ⟨_, rfl, rfl, rfl, rfl⟩ := hr
      exact ⟨rfl, by simp [waitsB, isTh], rfl, rfl, by rw [← List.nil_append [_], keptT_miss [] ht]; rfl, k2, .inr ⟨h3, by simp, rfl⟩⟩
    | cons x r =>
      simp only at hr
      split at hr
      · simp at hr
      · rename_i hne
        simp only [Prod.mk.injEq] at hr
        obtain ⟨_, rfl, rfl, rfl, rfl⟩ := hr
        have hx := (hm.b x (by simp)).2.2
        have he : x.op = op := by rcases h12 with rfl | rfl <;> rcases hx with hx | hx <;> first | exact hx | (exfalso; apply hne; rw [hx]; simp [partB])
        exact ⟨rfl, by simp [waitsB, isTh], rfl, rfl, by rw [keptT_miss (x :: r) ht]; exact k1, k2, .inr ⟨h3, by simp, by show (x.op == 1) = _; rw [he]⟩⟩
  · rw [if_neg h12] at hr
    by_cases h3 : op = 3
    · rw [if_pos h3] at hr
      cases os with
      | nil =>
        simp only [Prod.mk.injEq] at hr
        obtain ⟨_, rfl, rfl, rfl, rfl⟩ := hr
        exact ⟨rfl, by simp [waitsB, isTh], rfl, rfl, k1, by rw [← List.nil_append [_], keptT_miss [] ht]; rfl, .inl ⟨h3, rfl⟩⟩
      | cons x r =>
        simp only at hr
        split at hr
        · simp at hr
        · rename_i hne
          exact absurd (by rw [(hm.o x (by simp)).2.1, h3]; simp [partB]) hne
    · rw [if_neg h3] at hr
      exfalso
      repeat' split at hr
      all_goals simp at hr
end Go.Proofs.Ythianfhfamkcmaa

namespace Go.Proofs.Ythianfhfamkcmaa
open Go.RowKit

/-- A segment within a range of blocks. -/
structure SegH (lo hi : Nat) (w : World) (A : Option Addr) (vs : List Value) : Prop where
  s : SegC lo w A vs
  u : vs = [] ∨ ∃ g o, A = some ⟨g, o, none⟩ ∧ g < hi
theorem SegH.of {lo : Nat} {w : World} {A : Option Addr} {vs : List Value} (h : SegC lo w A vs) : SegH lo w.heap.size w A vs := by
  refine ⟨h, ?_⟩
  rcases h with h | ⟨g, o, rfl, _, hc, _⟩
  · exact .inl h
  · rcases vs with _ | ⟨v, r⟩
    · exact .inl rfl
    · have h0 := hc 0 v rfl
      refine .inr ⟨g, o, rfl, ?_⟩
      by_cases hg : g < w.heap.size
      · exact hg
      · exfalso
        have hn : w.heap[g]? = none := Array.getElem?_eq_none (by omega)
        simp [World.cell?, hn] at h0
theorem SegH.below {lo hi : Nat} {w w' : World} {A : Option Addr} {vs : List Value} (h : SegH lo hi w A vs) (hb : Below w.heap.size w w') : SegH lo hi w' A vs := ⟨h.s.below hb, h.u⟩
theorem SegH.grown {lo hi : Nat} {w w' : World} {A : Option Addr} {vs : List Value} {row : Option Nat} (h : SegH lo hi w A vs) (hg : w.grownBy w' row) (hr : ∀ q, row = some q → q < lo ∨ hi ≤ q) : SegH lo hi w' A vs := by
  refine ⟨?_, h.u⟩
  rcases h.s with h0 | ⟨g, o, rfl, h1, hc, hf⟩
  · exact .inl h0
  · rcases h.u with h0 | ⟨g', o', he, h2⟩
    · exact .inl h0
    · obtain ⟨rfl, rfl⟩ : g = g' ∧ o = o' := by simpa using he
      exact SegC.kept (n := 0) (c := 0) (.inr ⟨g, o, rfl, h1, hc, hf⟩) hg (.inr (fun e => by have := hr g e.symm; omega))
theorem SegH.row {lo hi : Nat} {w : World} {A : Option Addr} {vs : List Value} (h : SegH lo hi w A vs) {k : Nat} (hk : k < lo ∨ hi ≤ k) (cs : Array Value) : SegH lo hi (w.setRow k cs) A vs :=
  h.grown (gr_setRow w k cs) (fun q e => by cases e; exact hk)
theorem SegH.rd {lo hi : Nat} {w : World} {A : Option Addr} {l : List Int} (h : SegH lo hi w A (ints l)) : Rd w A l := SegC.rd h.s
theorem SegH.rdW {lo hi : Nat} {w : World} {A : Option Addr} {l : List Wtr} (h : SegH lo hi w A (flatV Wtr.cs l)) : RdR Wtr.cs w A l := SegC.rdW h.s
theorem BoxC.mgrownR {t : TypeId} {w w' : World} {k : Nat} {cs : Array Value} {row : Option Nat} (h : BoxC t w k cs) (hg : w.grownBy w' row) (hr : ∀ q, row = some q → q ≠ k) : BoxC t w' k cs := h.mgrown hg (fun e => hr k e.symm rfl)
theorem info_lm : (Try.prog.info? 25).map (·.size) = some 4 := by kernel_rfl
theorem info_lw : (Try.prog.info? 27).map (·.size) = some 3 := by kernel_rfl
theorem below_drewM (w : World) : Below w.heap.size w w.drew := ⟨rfl, rfl, rfl, Nat.le_refl _, fun _ _ => rfl⟩
/-- Where the blocks of an answer's lists lie, and that they are three. -/
structure P3 (lo hi : Nat) (u v x : Value) : Prop where
  u1 : ∀ q, u.ownBlock = some q → lo ≤ q ∧ q < hi
  v1 : ∀ q, v.ownBlock = some q → lo ≤ q ∧ q < hi
  x1 : ∀ q, x.ownBlock = some q → lo ≤ q ∧ q < hi
  d12 : Dis u v
  d13 : Dis u x
  d23 : Dis v x
/-- What program and model are asked for, of an argument that reads so. -/
def AnsP (strong : Bool) (w : World) (mk : Value → Value) (L : List Int) (n : Int) (bs' os' : List Wtr) (e : Ending) (w' : World) : Prop :=
  ∃ A1 c1 B1 d1 O1 e1, e = .returned (mk (.agg #[.slice A1 L.length c1, .int .i64 n, .slice B1 bs'.length d1, .slice O1 os'.length e1])) ∧
    SegH w.heap.size w'.heap.size w' A1 (ints L) ∧ SegH w.heap.size w'.heap.size w' B1 (flatV Wtr.cs bs') ∧ SegH w.heap.size w'.heap.size w' O1 (flatV Wtr.cs os') ∧
    (strong = true → P3 w.heap.size w'.heap.size (.slice A1 L.length c1) (.slice B1 bs'.length d1) (.slice O1 os'.length e1)) ∧ Below w.heap.size w w'
end Go.Proofs.Ythianfhfamkcmaa

namespace Go.Proofs.Ythianfhfamkcmaa
open Go.RowKit

set_option maxHeartbeats 4000000 in
set_option maxRecDepth 100000 in
theorem mleave_no (A B O : Option Addr) (ca cb co : Nat) (zs : List Int) (bs os : List Wtr) (cnt th : Int) (w : World) (hz : zs.length ≤ 1048576) (ht : bs.length ≤ 1048576) (hc : os.length ≤ 1048576) (hA : Rd w A zs) (hT : RdR Wtr.cs w B bs) (hC : RdR Wtr.cs w O os) (qm : mdB zs cnt bs os = false) :
    Calls Try.prog 20 #[.agg #[.slice A zs.length ca, .int .i64 cnt, .slice B bs.length cb, .slice O os.length co], .int .i64 th] w (fun e w' => e = .returned (.tuple #[.agg #[.slice none 0 0, .int .i64 0, .slice none 0 0, .slice none 0 0], .int .i64 1]) ∧ Below w.heap.size w w') := by
  have HA := Lib.hid hA; have HT := Lib.hid hT; have HC := Lib.hid hC; clear hA hT hC
  have HB0 := Lib.hid (below_alloc3 w (.cells #[.slice A zs.length ca, .int .i64 cnt, .slice B bs.length cb, .slice O os.length co] 31) (.cells #[.int .i64 th] 3) (.cells #[.slice none 0 0, .int .i64 0, .slice none 0 0, .slice none 0 0] 31))
  have HX := Lib.hid ((BoxC.new 31 w #[.slice A zs.length ca, .int .i64 cnt, .slice B bs.length cb, .slice O os.length co]).below (below_alloc2 _ (.cells #[.int .i64 th] 3) (.cells #[.slice none 0 0, .int .i64 0, .slice none 0 0, .slice none 0 0] 31)))
  have HN := Lib.hid (by have h := (BoxC.new 3 (w.alloc (.cells #[.slice A zs.length ca, .int .i64 cnt, .slice B bs.length cb, .slice O os.length co] 31)) #[.int .i64 th]).below (below_alloc _ (.cells #[.slice none 0 0, .int .i64 0, .slice none 0 0, .slice none 0 0] 31)); rw [size_alloc] at h; exact h)
  have HR := Lib.hid (by have h := BoxC.new 31 ((w.alloc (.cells #[.slice A zs.length ca, .int .i64 cnt, .slice B bs.length cb, .slice O os.length co] 31)).alloc (.cells #[.int .i64 th] 3)) #[.slice none 0 0, .int .i64 0, .slice none 0 0, .slice none 0 0]; rw [size_alloc, size_alloc] at h; exact h)
  go_enter Try.func20, Try.ntmps20
  have hx := HX.out.cell
  go_wp2_with fail
  refine (implModelOK_any _ _ _ _ _ _ zs bs os cnt _ hz ht hc (HA.out.below HB0.out) (HT.out.below HB0.out) (HC.out.below HB0.out)).mono ?_
  rintro e w1 ⟨rfl, hb⟩
  rw [qm]
  have HB1 := Lib.hid (below_trans HB0.out hb)
  have HX1 := Lib.hid (HX.out.below hb); have HN1 := Lib.hid (HN.out.below hb); have HR1 := Lib.hid (HR.out.below hb)
  clear hb HB0 HX HN HR hx
  go_wp2_with (refine wpList_store_row rfl 31 _ _ rfl (w.heap.size + 1 + 1) _ rfl rfl 31 _ HR1.out info_model rfl (one4m _ _ _ _ _ _ _ _ _ _) ?_)
  have hr := (HR1.out.mrow #[.slice none 0 0, .int .i64 0, .slice none 0 0, .slice none 0 0]).cell
  have hb' := below_setRow HB1.out (Nat.le_trans (Nat.le_succ _) (Nat.le_succ _) : w.heap.size ≤ w.heap.size + 1 + 1) #[.slice none 0 0, .int .i64 0, .slice none 0 0, .slice none 0 0]
  generalize w1.setRow (w.heap.size + 1 + 1) #[.slice none 0 0, .int .i64 0, .slice none 0 0, .slice none 0 0] = w9 at hr hb' ⊢
  refine bodyPost_ret (v := .tuple #[.agg #[.slice none 0 0, .int .i64 0, .slice none 0 0, .slice none 0 0], .int .i64 1]) (by simp [results, Try.results20, go_sem, hr]) rfl ⟨rfl, hb'⟩

set_option maxHeartbeats 4000000 in
set_option maxRecDepth 100000 in
theorem mleave_idle (A B O : Option Addr) (ca cb co : Nat) (zs : List Int) (bs os : List Wtr) (cnt th : Int) (w : World) (hz : zs.length ≤ 1048576) (ht : bs.length ≤ 1048576) (hc : os.length ≤ 1048576) (hA : Rd w A zs) (hT : RdR Wtr.cs w B bs) (hC : RdR Wtr.cs w O os) (nA : A = none → ca = 0) (nB : B = none → cb = 0) (nO : O = none → co = 0) (qm : mdB zs cnt bs os = true) (qw : waitsB bs os th = false) :
    Calls Try.prog 20 #[.agg #[.slice A zs.length ca, .int .i64 cnt, .slice B bs.length cb, .slice O os.length co], .int .i64 th] w (AnsP true w (fun v => .tuple #[v, .int .i64 10]) zs cnt bs os) := by
  have NA := Lib.hid nA; have NB := Lib.hid nB; have NO := Lib.hid nO; clear nA nB nO
  have HA := Lib.hid hA; have HT := Lib.hid hT; have HC := Lib.hid hC; clear hA hT hC
  have HB0 := Lib.hid (below_alloc3 w (.cells #[.slice A zs.length ca, .int .i64 cnt, .slice B bs.length cb, .slice O os.length co] 31) (.cells #[.int .i64 th] 3) (.cells #[.slice none 0 0, .int .i64 0, .slice none 0 0, .slice none 0 0] 31))
  have HX := Lib.hid ((BoxC.new 31 w #[.slice A zs.length ca, .int .i64 cnt, .slice B bs.length cb, .slice O os.length co]).below (below_alloc2 _ (.cells #[.int .i64 th] 3) (.cells #[.slice none 0 0, .int .i64 0, .slice none 0 0, .slice none 0 0] 31)))
  have HN := Lib.hid (by have h := (BoxC.new 3 (w.alloc (.cells #[.slice A zs.length ca, .int .i64 cnt, .slice B bs.length cb, .slice O os.length co] 31)) #[.int .i64 th]).below (below_alloc _ (.cells #[.slice none 0 0, .int .i64 0, .slice none 0 0, .slice none 0 0] 31)); rw [size_alloc] at h; exact h)
  have HR := Lib.hid (by have h := BoxC.new 31 ((w.alloc (.cells #[.slice A zs.length ca, .int .i64 cnt, .slice B bs.length cb, .slice O os.length co] 31)).alloc (.cells #[.int .i64 th] 3)) #[.slice none 0 0, .int .i64 0, .slice none 0 0, .slice none 0 0]; rw [size_alloc, size_alloc] at h; exact h)
  go_enter Try.func20, Try.ntmps20
  have hx := HX.out.cell
  go_wp2_with fail
  refine (implModelOK_any _ _ _ _ _ _ zs bs os cnt _ hz ht hc (HA.out.below HB0.out) (HT.out.below HB0.out) (HC.out.below HB0.out)).mono ?_
  rintro e w1 ⟨rfl, hb⟩
  rw [qm]
  have HB1 := Lib.hid (below_trans HB0.out hb)
  have HX1 := Lib.hid (HX.out.below hb); have HN1 := Lib.hid (HN.out.below hb); have HR1 := Lib.hid (HR.out.below hb)
  clear hb HB0 HX HN HR hx
  have hx := HX1.out.cell
  go_wp2_with fail
  refine (copyModel_any _ _ _ _ _ _ zs bs os cnt _ hz ht hc (HA.out.below HB1.out) (HT.out.below HB1.out) (HC.out.below HB1.out) NA.out NB.out NO.out).mono ?_
  rintro e w3 ⟨B1, d1, B2, d2, B3, d3, rfl, hO, hb⟩
  have HB3 := Lib.hid (below_trans HB1.out hb)
  have HX3 := Lib.hid (HX1.out.below hb); have HN3 := Lib.hid (HN1.out.below hb); have HR3 := Lib.hid (HR1.out.below hb)
  have hs1 : w.heap.size + 1 + 1 < w1.heap.size := HR1.out.lt
  have HO3 := Lib.hid hO
  have hs3 : w1.heap.size ≤ w3.heap.size := hb.size
  have hy3 : w.heap.size + 1 + 1 < w3.heap.size := HR3.out.lt
  clear hb hO HB1 HX1 HN1 HR1 hx
  go_upto_region 4 with (refine wpList_store_row rfl 31 _ _ rfl w3.heap.size _ rfl rfl 31 _ (BoxC.new 31 w3 _) info_model rfl (one4m _ _ _ _ _ _ _ _ _ _) ?_)
  have hbl := below_setRow (below_alloc w3 (.cells #[.slice none 0 0, .int .i64 0, .slice none 0 0, .slice none 0 0] 31)) (Nat.le_refl _) #[.slice B1 zs.length d1, .int .i64 cnt, .slice B2 bs.length d2, .slice B3 os.length d3]
  have hK := (BoxC.new 31 w3 #[.slice none 0 0, .int .i64 0, .slice none 0 0, .slice none 0 0]).mrow #[.slice B1 zs.length d1, .int .i64 cnt, .slice B2 bs.length d2, .slice B3 os.length d3]
  generalize (w3.alloc (.cells #[.slice none 0 0, .int .i64 0, .slice none 0 0, .slice none 0 0] 31)).setRow w3.heap.size #[.slice B1 zs.length d1, .int .i64 cnt, .slice B2 bs.length d2, .slice B3 os.length d3] = w4 at hbl hK ⊢
  have HB4 := Lib.hid (below_trans HB3.out hbl)
  have HX4 := Lib.hid (HX3.out.below hbl); have HN4 := Lib.hid (HN3.out.below hbl); have HR4 := Lib.hid (HR3.out.below hbl)
  have HO4 := Lib.hid (HO3.out.below hbl)
  have HK4 := Lib.hid hK
  have hk4 : w3.heap.size < w4.heap.size := hK.lt
  generalize w3.heap.size = k6 at hK hs3 hy3 HK4 hk4 ⊢
  clear hbl hK HB3 HX3 HN3 HR3 HO3
  have hx := HX4.out.cell; have hn := HN4.out.cell
  go_wp2_with fail
  refine (waits_any _ _ _ _ _ _ zs bs os cnt th _ ht hc (HT.out.below HB4.out) (HC.out.below HB4.out)).mono ?_
  rintro e w5 ⟨rfl, hb⟩
  rw [qw]
  have HB5 := Lib.hid (below_trans HB4.out hb)
  have HX5 := Lib.hid (HX4.out.below hb); have HN5 := Lib.hid (HN4.out.below hb); have HR5 := Lib.hid (HR4.out.below hb)
  have HO5 := Lib.hid (HO4.out.below hb); have HK5 := Lib.hid (HK4.out.below hb)
  have hk5 : k6 < w5.heap.size := HK5.out.lt
  have hs5 : w4.heap.size ≤ w5.heap.size := hb.size
  clear hb HB4 HX4 HN4 HR4 HO4 HK4 hx hn
  have hx := HK5.out.cell
  go_wp2_with (refine wpList_store_row rfl 31 _ _ rfl (w.heap.size + 1 + 1) _ rfl rfl 31 _ HR5.out info_model rfl (one4m _ _ _ _ _ _ _ _ _ _) ?_)
  have hr := (HR5.out.mrow #[.slice B1 zs.length d1, .int .i64 cnt, .slice B2 bs.length d2, .slice B3 os.length d3]).cell
  have hb' := below_setRow HB5.out (Nat.le_trans (Nat.le_succ _) (Nat.le_succ _) : w.heap.size ≤ w.heap.size + 1 + 1) #[.slice B1 zs.length d1, .int .i64 cnt, .slice B2 bs.length d2, .slice B3 os.length d3]
  have hO' := OwnO.row HO5.out (k := w.heap.size + 1 + 1) (by omega) #[.slice B1 zs.length d1, .int .i64 cnt, .slice B2 bs.length d2, .slice B3 os.length d3]
  generalize w5.setRow (w.heap.size + 1 + 1) #[.slice B1 zs.length d1, .int .i64 cnt, .slice B2 bs.length d2, .slice B3 os.length d3] = w9 at hr hb' hO' ⊢
  clear hx
  refine bodyPost_ret (v := .tuple #[.agg #[.slice B1 zs.length d1, .int .i64 cnt, .slice B2 bs.length d2, .slice B3 os.length d3], .int .i64 10]) (by simp [results, Try.results20, go_sem, hr]) rfl ⟨B1, d1, B2, d2, B3, d3, rfl, .of ((SegC.ofI hO'.st).base (by omega)), .of ((SegC.ofW hO'.wt).base (by omega)), .of ((SegC.ofW hO'.of).base (by omega)), fun _ => ⟨fun q hq => by have := World.ownsRow.lt hO'.st q hq; omega, fun q hq => by have := World.ownsRow.lt hO'.wt q hq; omega, fun q hq => by have := World.ownsRow.lt hO'.of q hq; omega, hO'.d12, hO'.d13, hO'.d23⟩, hb'⟩

set_option maxHeartbeats 4000000 in
set_option maxRecDepth 100000 in
theorem mleave_yes (A B O : Option Addr) (ca cb co : Nat) (zs : List Int) (bs os : List Wtr) (cnt th : Int) (w : World) (hz : zs.length ≤ 1048576) (ht : bs.length ≤ 1048576) (hc : os.length ≤ 1048576) (hA : Rd w A zs) (hT : RdR Wtr.cs w B bs) (hC : RdR Wtr.cs w O os) (nA : A = none → ca = 0) (nB : B = none → cb = 0) (nO : O = none → co = 0) (qm : mdB zs cnt bs os = true) (qw : waitsB bs os th = true) :
    Calls Try.prog 20 #[.agg #[.slice A zs.length ca, .int .i64 cnt, .slice B bs.length cb, .slice O os.length co], .int .i64 th] w (AnsP true w (fun v => .tuple #[v, .int .i64 0]) zs cnt (keptT th bs) (keptT th os)) := by
  have NA := Lib.hid nA; have NB := Lib.hid nB; have NO := Lib.hid nO; clear nA nB nO
  have HA := Lib.hid hA; have HT := Lib.hid hT; have HC := Lib.hid hC; clear hA hT hC
  have HB0 := Lib.hid (below_alloc3 w (.cells #[.slice A zs.length ca, .int .i64 cnt, .slice B bs.length cb, .slice O os.length co] 31) (.cells #[.int .i64 th] 3) (.cells #[.slice none 0 0, .int .i64 0, .slice none 0 0, .slice none 0 0] 31))
  have HX := Lib.hid ((BoxC.new 31 w #[.slice A zs.length ca, .int .i64 cnt, .slice B bs.length cb, .slice O os.length co]).below (below_alloc2 _ (.cells #[.int .i64 th] 3) (.cells #[.slice none 0 0, .int .i64 0, .slice none 0 0, .slice none 0 0] 31)))
  have HN := Lib.hid (by have h := (BoxC.new 3 (w.alloc (.cells #[.slice A zs.length ca, .int .i64 cnt, .slice B bs.length cb, .slice O os.length co] 31)) #[.int .i64 th]).below (below_alloc _ (.cells #[.slice none 0 0, .int .i64 0, .slice none 0 0, .slice none 0 0] 31)); rw [size_alloc] at h; exact h)
  have HR := Lib.hid (by have h := BoxC.new 31 ((w.alloc (.cells #[.slice A zs.length ca, .int .i64 cnt, .slice B bs.length cb, .slice O os.length co] 31)).alloc (.cells #[.int .i64 th] 3)) #[.slice none 0 0, .int .i64 0, .slice none 0 0, .slice none 0 0]; rw [size_alloc, size_alloc] at h; exact h)
  go_enter Try.func20, Try.ntmps20
  have hx := HX.out.cell
  go_wp2_with fail
  refine (implModelOK_any _ _ _ _ _ _ zs bs os cnt _ hz ht hc (HA.out.below HB0.out) (HT.out.below HB0.out) (HC.out.below HB0.out)).mono ?_
  rintro e w1 ⟨rfl, hb⟩
  rw [qm]
  have HB1 := Lib.hid (below_trans HB0.out hb)
  have HX1 := Lib.hid (HX.out.below hb); have HN1 := Lib.hid (HN.out.below hb); have HR1 := Lib.hid (HR.out.below hb)
  clear hb HB0 HX HN HR hx
  have hx := HX1.out.cell
  go_wp2_with fail
  refine (copyModel_any _ _ _ _ _ _ zs bs os cnt _ hz ht hc (HA.out.below HB1.out) (HT.out.below HB1.out) (HC.out.below HB1.out) NA.out NB.out NO.out).mono ?_
  rintro e w3 ⟨B1, d1, B2, d2, B3, d3, rfl, hO, hb⟩
  have HB3 := Lib.hid (below_trans HB1.out hb)
  have HX3 := Lib.hid (HX1.out.below hb); have HN3 := Lib.hid (HN1.out.below hb); have HR3 := Lib.hid (HR1.out.below hb)
  have hs1 : w.heap.size + 1 + 1 < w1.heap.size := HR1.out.lt
  have HO3 := Lib.hid hO
  have hA6 : ∀ q, (Value.slice B1 zs.length d1).ownBlock = some q → q < w3.heap.size := fun q hq => (World.ownsRow.lt hO.st q hq).2
  have hs3 : w1.heap.size ≤ w3.heap.size := hb.size
  have hy3 : w.heap.size + 1 + 1 < w3.heap.size := HR3.out.lt
  clear hb hO HB1 HX1 HN1 HR1 hx
  go_upto_region 4 with (refine wpList_store_row rfl 31 _ _ rfl w3.heap.size _ rfl rfl 31 _ (BoxC.new 31 w3 _) info_model rfl (one4m _ _ _ _ _ _ _ _ _ _) ?_)
  have hbl := below_setRow (below_alloc w3 (.cells #[.slice none 0 0, .int .i64 0, .slice none 0 0, .slice none 0 0] 31)) (Nat.le_refl _) #[.slice B1 zs.length d1, .int .i64 cnt, .slice B2 bs.length d2, .slice B3 os.length d3]
  have hK := (BoxC.new 31 w3 #[.slice none 0 0, .int .i64 0, .slice none 0 0, .slice none 0 0]).mrow #[.slice B1 zs.length d1, .int .i64 cnt, .slice B2 bs.length d2, .slice B3 os.length d3]
  generalize (w3.alloc (.cells #[.slice none 0 0, .int .i64 0, .slice none 0 0, .slice none 0 0] 31)).setRow w3.heap.size #[.slice B1 zs.length d1, .int .i64 cnt, .slice B2 bs.length d2, .slice B3 os.length d3] = w4 at hbl hK ⊢
  have HB4 := Lib.hid (below_trans HB3.out hbl)
  have HX4 := Lib.hid (HX3.out.below hbl); have HN4 := Lib.hid (HN3.out.below hbl); have HR4 := Lib.hid (HR3.out.below hbl)
  have HO4 := Lib.hid (HO3.out.below hbl)
  have HK4 := Lib.hid hK
  have hk4 : w3.heap.size < w4.heap.size := hK.lt
  generalize w3.heap.size = k6 at hK hs3 hy3 HK4 hk4 hA6 ⊢
  clear hbl hK HB3 HX3 HN3 HR3 HO3
  have hx := HX4.out.cell; have hn := HN4.out.cell
  go_wp2_with fail
  refine (waits_any _ _ _ _ _ _ zs bs os cnt th _ ht hc (HT.out.below HB4.out) (HC.out.below HB4.out)).mono ?_
  rintro e w5 ⟨rfl, hb⟩
  rw [qw]
  have HB5 := Lib.hid (below_trans HB4.out hb)
  have HX5 := Lib.hid (HX4.out.below hb); have HN5 := Lib.hid (HN4.out.below hb); have HR5 := Lib.hid (HR4.out.below hb)
  have HO5 := Lib.hid (HO4.out.below hb); have HK5 := Lib.hid (HK4.out.below hb)
  have hk5 : k6 < w5.heap.size := HK5.out.lt
  have hs5 : w4.heap.size ≤ w5.heap.size := hb.size
  clear hb HB4 HX4 HN4 HR4 HO4 HK4 hx hn
  have hx := HX5.out.cell; have hk := HK5.out.cell
  go_wp2_with fail
  refine (onlyW_any (w.heap.size + 1) th _ _ bs _ (HT.out.below HB5.out) ht HN5.out).mono ?_
  rintro e w6 ⟨G, g, rfl, hG, hb⟩
  have HB6 := Lib.hid (below_trans HB5.out hb)
  have HX6 := Lib.hid (HX5.out.below hb); have HN6 := Lib.hid (HN5.out.below hb); have HR6 := Lib.hid (HR5.out.below hb); have HK6 := Lib.hid (HK5.out.below hb)
  have HS6 := Lib.hid (HO5.out.st.below hb); have HG6 := Lib.hid hG
  have hlA : ∀ q, (Value.slice B1 zs.length d1).ownBlock = some q → q < w5.heap.size := fun q hq => (World.ownsRow.lt HO5.out.st q hq).2
  have hlG : ∀ q, (Value.slice G (keptT th bs).length g).ownBlock = some q → w5.heap.size ≤ q ∧ q < w6.heap.size := fun q hq => World.ownsRow.lt hG q hq
  have hs6 : w5.heap.size ≤ w6.heap.size := hb.size
  clear hb hG HB5 HX5 HN5 HR5 HO5 HK5 hx hk
  have hf := HK6.out.mfroz; have hk := HK6.out.cell
  go_upto_region 8 with fail
  have HB7 := Lib.hid (HB6.out.setCell (p := ⟨k6, 2, none⟩) (by simp <;> omega) (.slice G (keptT th bs).length g))
  have HX7 := Lib.hid (HX6.out.msetO ⟨k6, 2, none⟩ (.slice G (keptT th bs).length g) (by simp <;> omega)); have HN7 := Lib.hid (HN6.out.msetO ⟨k6, 2, none⟩ (.slice G (keptT th bs).length g) (by simp <;> omega)); have HR7 := Lib.hid (HR6.out.msetO ⟨k6, 2, none⟩ (.slice G (keptT th bs).length g) (by simp <;> omega))
  have HK7 : Hid (BoxC 31 (w6.setCell ⟨k6, 2, none⟩ (.slice G (keptT th bs).length g)) k6 #[.slice B1 zs.length d1, .int .i64 cnt, .slice G (keptT th bs).length g, .slice B3 os.length d3]) := Lib.hid (HK6.out.mset 2 _)
  have HS7 : Hid (NewA w1.heap.size (w6.setCell ⟨k6, 2, none⟩ (.slice G (keptT th bs).length g)) B1 d1 zs) := Lib.hid (ownsRow_setCell_other HS6.out (by intro e; have := hA6 k6 e; omega) _)
  have HG7 : Hid (OwnR Wtr.cs 3 35 w5.heap.size (w6.setCell ⟨k6, 2, none⟩ (.slice G (keptT th bs).length g)) G g (keptT th bs)) := Lib.hid (ownsRow_setCell_below HG6.out (by simp <;> omega) _)
  have hs7 : (w6.setCell ⟨k6, 2, none⟩ (.slice G (keptT th bs).length g)).heap.size = w6.heap.size := size_setc2 _ _ _
  generalize w6.setCell ⟨k6, 2, none⟩ (.slice G (keptT th bs).length g) = w7 at HB7 HX7 HN7 HR7 HK7 HS7 HG7 hs7 ⊢
  clear hf hk HB6 HX6 HN6 HR6 HK6 HS6 HG6
  have hx := HX7.out.cell; have hk := HK7.out.cell
  go_wp2_with fail
  refine (onlyW_any (w.heap.size + 1) th _ _ os _ (HC.out.below HB7.out) hc HN7.out).mono ?_
  rintro e w8 ⟨H, h, rfl, hH, hb⟩
  have HB8 := Lib.hid (below_trans HB7.out hb)
  have HR8 := Lib.hid (HR7.out.below hb); have HK8 := Lib.hid (HK7.out.below hb)
  have HS8 := Lib.hid (HS7.out.below hb); have HG8 := Lib.hid (OwnR.below HG7.out hb); have HH8 := Lib.hid hH
  have hlH : ∀ q, (Value.slice H (keptT th os).length h).ownBlock = some q → w7.heap.size ≤ q ∧ q < w8.heap.size := fun q hq => World.ownsRow.lt hH q hq
  have hs8 : w7.heap.size ≤ w8.heap.size := hb.size
  clear hb hH HB7 HX7 HN7 HR7 HK7 HS7 HG7 hx hk
  have hf := HK8.out.mfroz; have hk := HK8.out.cell
  go_upto_region 9 with fail
  have HB9 := Lib.hid (HB8.out.setCell (p := ⟨k6, 3, none⟩) (by simp <;> omega) (.slice H (keptT th os).length h))
  have HR9 := Lib.hid (HR8.out.msetO ⟨k6, 3, none⟩ (.slice H (keptT th os).length h) (by simp <;> omega))
  have HK9 : Hid (BoxC 31 (w8.setCell ⟨k6, 3, none⟩ (.slice H (keptT th os).length h)) k6 #[.slice B1 zs.length d1, .int .i64 cnt, .slice G (keptT th bs).length g, .slice H (keptT th os).length h]) := Lib.hid (HK8.out.mset 3 _)
  have HS9 : Hid (NewA w1.heap.size (w8.setCell ⟨k6, 3, none⟩ (.slice H (keptT th os).length h)) B1 d1 zs) := Lib.hid (ownsRow_setCell_other HS8.out (by intro e; have := hA6 k6 e; omega) _)
  have HG9 : Hid (OwnR Wtr.cs 3 35 w5.heap.size (w8.setCell ⟨k6, 3, none⟩ (.slice H (keptT th os).length h)) G g (keptT th bs)) := Lib.hid (ownsRow_setCell_below HG8.out (by simp <;> omega) _)
  have HH9 : Hid (OwnR Wtr.cs 3 35 w7.heap.size (w8.setCell ⟨k6, 3, none⟩ (.slice H (keptT th os).length h)) H h (keptT th os)) := Lib.hid (ownsRow_setCell_below HH8.out (by simp <;> omega) _)
  have hs9 : (w8.setCell ⟨k6, 3, none⟩ (.slice H (keptT th os).length h)).heap.size = w8.heap.size := size_setc2 _ _ _
  generalize w8.setCell ⟨k6, 3, none⟩ (.slice H (keptT th os).length h) = w9 at HB9 HR9 HK9 HS9 HG9 HH9 hs9 ⊢
  clear hf hk HB8 HR8 HK8 HS8 HG8 HH8
  have hx := HK9.out.cell
  go_wp2_with (refine wpList_store_row rfl 31 _ _ rfl (w.heap.size + 1 + 1) _ rfl rfl 31 _ HR9.out info_model rfl (one4m _ _ _ _ _ _ _ _ _ _) ?_)
  have hr := (HR9.out.mrow #[.slice B1 zs.length d1, .int .i64 cnt, .slice G (keptT th bs).length g, .slice H (keptT th os).length h]).cell
  have hb' := below_setRow HB9.out (Nat.le_trans (Nat.le_succ _) (Nat.le_succ _) : w.heap.size ≤ w.heap.size + 1 + 1) #[.slice B1 zs.length d1, .int .i64 cnt, .slice G (keptT th bs).length g, .slice H (keptT th os).length h]
  have hS' := ownsRow_setRow_below HS9.out (k := w.heap.size + 1 + 1) (by omega) #[.slice B1 zs.length d1, .int .i64 cnt, .slice G (keptT th bs).length g, .slice H (keptT th os).length h]
  have hG' := ownsRow_setRow_below HG9.out (k := w.heap.size + 1 + 1) (by omega) #[.slice B1 zs.length d1, .int .i64 cnt, .slice G (keptT th bs).length g, .slice H (keptT th os).length h]
  have hH' := ownsRow_setRow_below HH9.out (k := w.heap.size + 1 + 1) (by omega) #[.slice B1 zs.length d1, .int .i64 cnt, .slice G (keptT th bs).length g, .slice H (keptT th os).length h]
  generalize w9.setRow (w.heap.size + 1 + 1) #[.slice B1 zs.length d1, .int .i64 cnt, .slice G (keptT th bs).length g, .slice H (keptT th os).length h] = wa at hr hb' hS' hG' hH' ⊢
  clear hx
  refine bodyPost_ret (v := .tuple #[.agg #[.slice B1 zs.length d1, .int .i64 cnt, .slice G (keptT th bs).length g, .slice H (keptT th os).length h], .int .i64 0]) (by simp [results, Try.results20, go_sem, hr]) rfl ⟨B1, d1, G, g, H, h, rfl, .of ((SegC.ofI hS').base (by omega)), .of ((SegC.ofW hG').base (by omega)), .of ((SegC.ofW hH').base (by omega)),
    fun _ => ⟨fun q hq => by have := World.ownsRow.lt hS' q hq; omega, fun q hq => by have := World.ownsRow.lt hG' q hq; omega, fun q hq => by have := World.ownsRow.lt hH' q hq; omega, fun q e1 e2 => by have := hlA q e1; have := hlG q e2; omega, fun q e1 e2 => by have := hlA q e1; have := hlH q e2; omega, fun q e1 e2 => by have := hlG q e1; have := hlH q e2; omega⟩, hb'⟩

end Go.Proofs.Ythianfhfamkcmaa

namespace Go.Proofs.Ythianfhfamkcmaa
open Go.RowKit

set_option maxHeartbeats 4000000 in
set_option maxRecDepth 100000 in
theorem smc_no1 (A B O : Option Addr) (ca cb co : Nat) (zs : List Int) (bs os : List Wtr) (cnt th op arg : Int) (w : World) (hz : zs.length ≤ 1048576) (ht : bs.length ≤ 1048576) (hc : os.length ≤ 1048576) (hA : Rd w A zs) (hT : RdR Wtr.cs w B bs) (hC : RdR Wtr.cs w O os) (qm : mdB zs cnt bs os = false) :
    Calls Try.prog 12 #[.agg #[.slice A zs.length ca, .int .i64 cnt, .slice B bs.length cb, .slice O os.length co], .agg #[.int .i64 th, .int .i64 op, .int .i64 arg]] w (fun e w' => e = .returned (.tuple #[.agg #[.slice none 0 0, .int .i64 0, .slice none 0 0, .slice none 0 0], .bool false, .int .i64 1, .int .i64 0, .int .i64 0]) ∧ Below w.heap.size w w') := by
  have HA := Lib.hid hA; have HT := Lib.hid hT; have HC := Lib.hid hC; clear hA hT hC
  have HB0 := Lib.hid (below_alloc3 w (.cells #[.slice A zs.length ca, .int .i64 cnt, .slice B bs.length cb, .slice O os.length co] 31) (.cells #[.int .i64 th, .int .i64 op, .int .i64 arg] 35) (.cells #[.slice none 0 0, .int .i64 0, .slice none 0 0, .slice none 0 0] 31))
  have HX := Lib.hid ((BoxC.new 31 w #[.slice A zs.length ca, .int .i64 cnt, .slice B bs.length cb, .slice O os.length co]).below (below_alloc2 _ (.cells #[.int .i64 th, .int .i64 op, .int .i64 arg] 35) (.cells #[.slice none 0 0, .int .i64 0, .slice none 0 0, .slice none 0 0] 31)))
  have HW := Lib.hid (by have h := (BoxC.new 35 (w.alloc (.cells #[.slice A zs.length ca, .int .i64 cnt, .slice B bs.length cb, .slice O os.length co] 31)) #[.int .i64 th, .int .i64 op, .int .i64 arg]).below (below_alloc _ (.cells #[.slice none 0 0, .int .i64 0, .slice none 0 0, .slice none 0 0] 31)); rw [size_alloc] at h; exact h)
  have HR := Lib.hid (by have h := BoxC.new 31 ((w.alloc (.cells #[.slice A zs.length ca, .int .i64 cnt, .slice B bs.length cb, .slice O os.length co] 31)).alloc (.cells #[.int .i64 th, .int .i64 op, .int .i64 arg] 35)) #[.slice none 0 0, .int .i64 0, .slice none 0 0, .slice none 0 0]; rw [size_alloc, size_alloc] at h; exact h)
  go_enter Try.func12, Try.ntmps12
  have hx := HX.out.cell
  go_wp2_with fail
  refine (specModelOK_any _ _ _ _ _ _ zs bs os cnt _ hz ht hc (HA.out.below HB0.out) (HT.out.below HB0.out) (HC.out.below HB0.out)).mono ?_
  rintro e w1 ⟨rfl, hb⟩
  rw [qm]
  have HB1 := Lib.hid (below_trans HB0.out hb)
  have HX1 := Lib.hid (HX.out.below hb); have HW1 := Lib.hid (HW.out.below hb); have HR1 := Lib.hid (HR.out.below hb)
  clear hb HB0 HX HW HR hx
  go_wp2_with (refine wpList_store_row rfl 31 _ _ rfl (w.heap.size + 1 + 1) _ rfl rfl 31 _ HR1.out info_model rfl (one4m _ _ _ _ _ _ _ _ _ _) ?_)
  have hr := (HR1.out.mrow #[.slice none 0 0, .int .i64 0, .slice none 0 0, .slice none 0 0]).cell
  have hb' := below_setRow HB1.out (Nat.le_trans (Nat.le_succ _) (Nat.le_succ _) : w.heap.size ≤ w.heap.size + 1 + 1) #[.slice none 0 0, .int .i64 0, .slice none 0 0, .slice none 0 0]
  generalize w1.setRow (w.heap.size + 1 + 1) #[.slice none 0 0, .int .i64 0, .slice none 0 0, .slice none 0 0] = w9 at hr hb' ⊢
  refine bodyPost_ret (v := .tuple #[.agg #[.slice none 0 0, .int .i64 0, .slice none 0 0, .slice none 0 0], .bool false, .int .i64 1, .int .i64 0, .int .i64 0]) (by simp [results, Try.results12, go_sem, hr]) rfl ⟨rfl, hb'⟩

set_option maxHeartbeats 4000000 in
set_option maxRecDepth 100000 in
theorem smc_no2 (A B O : Option Addr) (ca cb co : Nat) (zs : List Int) (bs os : List Wtr) (cnt th op arg : Int) (w : World) (hz : zs.length ≤ 1048576) (ht : bs.length ≤ 1048576) (hc : os.length ≤ 1048576) (hA : Rd w A zs) (hT : RdR Wtr.cs w B bs) (hC : RdR Wtr.cs w O os) (qm : mdB zs cnt bs os = true) (qw : wtB th op arg = false) :
    Calls Try.prog 12 #[.agg #[.slice A zs.length ca, .int .i64 cnt, .slice B bs.length cb, .slice O os.length co], .agg #[.int .i64 th, .int .i64 op, .int .i64 arg]] w (fun e w' => e = .returned (.tuple #[.agg #[.slice none 0 0, .int .i64 0, .slice none 0 0, .slice none 0 0], .bool false, .int .i64 1, .int .i64 0, .int .i64 0]) ∧ Below w.heap.size w w') := by
  have HA := Lib.hid hA; have HT := Lib.hid hT; have HC := Lib.hid hC; clear hA hT hC
  have HB0 := Lib.hid (below_alloc3 w (.cells #[.slice A zs.length ca, .int .i64 cnt, .slice B bs.length cb, .slice O os.length co] 31) (.cells #[.int .i64 th, .int .i64 op, .int .i64 arg] 35) (.cells #[.slice none 0 0, .int .i64 0, .slice none 0 0, .slice none 0 0] 31))
  have HX := Lib.hid ((BoxC.new 31 w #[.slice A zs.length ca, .int .i64 cnt, .slice B bs.length cb, .slice O os.length co]).below (below_alloc2 _ (.cells #[.int .i64 th, .int .i64 op, .int .i64 arg] 35) (.cells #[.slice none 0 0, .int .i64 0, .slice none 0 0, .slice none 0 0] 31)))
  have HW := Lib.hid (by have h := (BoxC.new 35 (w.alloc (.cells #[.slice A zs.length ca, .int .i64 cnt, .slice B bs.length cb, .slice O os.length co] 31)) #[.int .i64 th, .int .i64 op, .int .i64 arg]).below (below_alloc _ (.cells #[.slice none 0 0, .int .i64 0, .slice none 0 0, .slice none 0 0] 31)); rw [size_alloc] at h; exact h)
  have HR := Lib.hid (by have h := BoxC.new 31 ((w.alloc (.cells #[.slice A zs.length ca, .int .i64 cnt, .slice B bs.length cb, .slice O os.length co] 31)).alloc (.cells #[.int .i64 th, .int .i64 op, .int .i64 arg] 35)) #[.slice none 0 0, .int .i64 0, .slice none 0 0, .slice none 0 0]; rw [size_alloc, size_alloc] at h; exact h)
  go_enter Try.func12, Try.ntmps12
  have hx := HX.out.cell
  go_wp2_with fail
  refine (specModelOK_any _ _ _ _ _ _ zs bs os cnt _ hz ht hc (HA.out.below HB0.out) (HT.out.below HB0.out) (HC.out.below HB0.out)).mono ?_
  rintro e w1 ⟨rfl, hb⟩
  rw [qm]
  have HB1 := Lib.hid (below_trans HB0.out hb)
  have HX1 := Lib.hid (HX.out.below hb); have HW1 := Lib.hid (HW.out.below hb); have HR1 := Lib.hid (HR.out.below hb)
  clear hb HB0 HX HW HR hx
  have hx := HW1.out.cell
  go_wp2_with fail
  refine (specWaiter_any th op arg _).mono ?_
  rintro e w2 ⟨rfl, hb⟩
  rw [qw]
  have HB2 := Lib.hid (below_trans HB1.out hb)
  have HX2 := Lib.hid (HX1.out.below hb); have HW2 := Lib.hid (HW1.out.below hb); have HR2 := Lib.hid (HR1.out.below hb)
  clear hb HB1 HX1 HW1 HR1 hx
  go_wp2_with (refine wpList_store_row rfl 31 _ _ rfl (w.heap.size + 1 + 1) _ rfl rfl 31 _ HR2.out info_model rfl (one4m _ _ _ _ _ _ _ _ _ _) ?_)
  have hr := (HR2.out.mrow #[.slice none 0 0, .int .i64 0, .slice none 0 0, .slice none 0 0]).cell
  have hb' := below_setRow HB2.out (Nat.le_trans (Nat.le_succ _) (Nat.le_succ _) : w.heap.size ≤ w.heap.size + 1 + 1) #[.slice none 0 0, .int .i64 0, .slice none 0 0, .slice none 0 0]
  generalize w2.setRow (w.heap.size + 1 + 1) #[.slice none 0 0, .int .i64 0, .slice none 0 0, .slice none 0 0] = w9 at hr hb' ⊢
  refine bodyPost_ret (v := .tuple #[.agg #[.slice none 0 0, .int .i64 0, .slice none 0 0, .slice none 0 0], .bool false, .int .i64 1, .int .i64 0, .int .i64 0]) (by simp [results, Try.results12, go_sem, hr]) rfl ⟨rfl, hb'⟩

set_option maxHeartbeats 4000000 in
set_option maxRecDepth 100000 in
theorem smc_busy (A B O : Option Addr) (ca cb co : Nat) (zs : List Int) (bs os : List Wtr) (cnt th op arg : Int) (w : World) (hz : zs.length ≤ 1048576) (ht : bs.length ≤ 1048576) (hc : os.length ≤ 1048576) (hA : Rd w A zs) (hT : RdR Wtr.cs w B bs) (hC : RdR Wtr.cs w O os) (qm : mdB zs cnt bs os = true) (qw : wtB th op arg = true) (hw0 : waitsB bs os th = true) :
    Calls Try.prog 12 #[.agg #[.slice A zs.length ca, .int .i64 cnt, .slice B bs.length cb, .slice O os.length co], .agg #[.int .i64 th, .int .i64 op, .int .i64 arg]] w (SpecPost w ((false, 9, 0, -1), (zs, cnt, bs, os))) := by
  have HA := Lib.hid hA; have HT := Lib.hid hT; have HC := Lib.hid hC; clear hA hT hC
  have HB0 := Lib.hid (below_alloc3 w (.cells #[.slice A zs.length ca, .int .i64 cnt, .slice B bs.length cb, .slice O os.length co] 31) (.cells #[.int .i64 th, .int .i64 op, .int .i64 arg] 35) (.cells #[.slice none 0 0, .int .i64 0, .slice none 0 0, .slice none 0 0] 31))
  have HX := Lib.hid ((BoxC.new 31 w #[.slice A zs.length ca, .int .i64 cnt, .slice B bs.length cb, .slice O os.length co]).below (below_alloc2 _ (.cells #[.int .i64 th, .int .i64 op, .int .i64 arg] 35) (.cells #[.slice none 0 0, .int .i64 0, .slice none 0 0, .slice none 0 0] 31)))
  have HW := Lib.hid (by have h := (BoxC.new 35 (w.alloc (.cells #[.slice A zs.length ca, .int .i64 cnt, .slice B bs.length cb, .slice O os.length co] 31)) #[.int .i64 th, .int .i64 op, .int .i64 arg]).below (below_alloc _ (.cells #[.slice none 0 0, .int .i64 0, .slice none 0 0, .slice none 0 0] 31)); rw [size_alloc] at h; exact h)
  have HR := Lib.hid (by have h := BoxC.new 31 ((w.alloc (.cells #[.slice A zs.length ca, .int .i64 cnt, .slice B bs.length cb, .slice O os.length co] 31)).alloc (.cells #[.int .i64 th, .int .i64 op, .int .i64 arg] 35)) #[.slice none 0 0, .int .i64 0, .slice none 0 0, .slice none 0 0]; rw [size_alloc, size_alloc] at h; exact h)
  go_enter Try.func12, Try.ntmps12
  have hx := HX.out.cell
  go_wp2_with fail
  refine (specModelOK_any _ _ _ _ _ _ zs bs os cnt _ hz ht hc (HA.out.below HB0.out) (HT.out.below HB0.out) (HC.out.below HB0.out)).mono ?_
  rintro e w1 ⟨rfl, hb⟩
  rw [qm]
  have HB1 := Lib.hid (below_trans HB0.out hb)
  have HX1 := Lib.hid (HX.out.below hb); have HW1 := Lib.hid (HW.out.below hb); have HR1 := Lib.hid (HR.out.below hb)
  clear hb HB0 HX HW HR hx
  have hx := HW1.out.cell
  go_wp2_with fail
  refine (specWaiter_any th op arg _).mono ?_
  rintro e w2 ⟨rfl, hb⟩
  rw [qw]
  have HB2 := Lib.hid (below_trans HB1.out hb)
  have HX2 := Lib.hid (HX1.out.below hb); have HW2 := Lib.hid (HW1.out.below hb); have HR2 := Lib.hid (HR1.out.below hb)
  clear hb HB1 HX1 HW1 HR1 hx
  have hx := HX2.out.cell; have hw := HW2.out.cell
  go_wp2_with fail
  refine (l10Waits_any _ _ _ _ _ _ zs bs os cnt th _ ht (md_parts qm).2.2.2.1 (HT.out.below HB2.out) (HC.out.below HB2.out)).mono ?_
  rintro e w3 ⟨rfl, hb⟩
  rw [hw0]
  have HB3 := Lib.hid (below_trans HB2.out hb)
  have HX3 := Lib.hid (HX2.out.below hb); have HW3 := Lib.hid (HW2.out.below hb); have HR3 := Lib.hid (HR2.out.below hb)
  clear hb HB2 HX2 HW2 HR2 hx hw
  have hx := HX3.out.cell; have hw := HW3.out.cell
  go_wp2_with fail
  refine (l10Own_any _ _ _ _ _ _ zs bs os cnt _ hz ht hc (HA.out.below HB3.out) (HT.out.below HB3.out) (HC.out.below HB3.out)).mono ?_
  rintro e w4 ⟨B1, d1, B2, d2, B3, d3, rfl, hO, hb⟩
  have HB4 := Lib.hid (below_trans HB3.out hb)
  have HR4 := Lib.hid (HR3.out.below hb)
  have hz3 := HR3.out.lt
  have HO4 := Lib.hid (OwnO.base hO (b1 := w.heap.size + 1 + 1 + 1) (by omega))
  clear hb hO HB3 HX3 HW3 HR3 hx hw
  go_wp2_with (refine wpList_store_row rfl 31 _ _ rfl (w.heap.size + 1 + 1) _ rfl rfl 31 _ HR4.out info_model rfl (one4m _ _ _ _ _ _ _ _ _ _) ?_)
  have hr := (HR4.out.mrow #[.slice B1 zs.length d1, .int .i64 cnt, .slice B2 bs.length d2, .slice B3 os.length d3]).cell
  have hb' := below_setRow HB4.out (Nat.le_trans (Nat.le_succ _) (Nat.le_succ _) : w.heap.size ≤ w.heap.size + 1 + 1) #[.slice B1 zs.length d1, .int .i64 cnt, .slice B2 bs.length d2, .slice B3 os.length d3]
  have hO' := OwnO.row HO4.out (k := w.heap.size + 1 + 1) (by omega) #[.slice B1 zs.length d1, .int .i64 cnt, .slice B2 bs.length d2, .slice B3 os.length d3]
  generalize w4.setRow (w.heap.size + 1 + 1) #[.slice B1 zs.length d1, .int .i64 cnt, .slice B2 bs.length d2, .slice B3 os.length d3] = w9 at hr hb' hO' ⊢
  refine bodyPost_ret (v := .tuple #[.agg #[.slice B1 zs.length d1, .int .i64 cnt, .slice B2 bs.length d2, .slice B3 os.length d3], .bool false, .int .i64 9, .int .i64 0, .int .i64 (-1)]) (by simp [results, Try.results12, go_sem, hr]) rfl ⟨B1, d1, B2, d2, B3, d3, rfl, (SegC.ofI hO'.st).base (by omega), (SegC.ofW hO'.wt).base (by omega), (SegC.ofW hO'.of).base (by omega), hb'⟩

end Go.Proofs.Ythianfhfamkcmaa

namespace Go.Proofs.Ythianfhfamkcmaa
open Go.RowKit

set_option maxHeartbeats 4000000 in
set_option maxRecDepth 100000 in
theorem smc_full4 (A B O : Option Addr) (ca cb co : Nat) (zs : List Int) (bs os : List Wtr) (cnt th arg : Int) (w : World) (hz : zs.length ≤ 1048576) (ht : bs.length ≤ 1048576) (hc : os.length ≤ 1048576) (hA : Rd w A zs) (hT : RdR Wtr.cs w B bs) (hC : RdR Wtr.cs w O os) (qm : mdB zs cnt bs os = true) (qw : wtB th 4 arg = true) (hw0 : waitsB bs os th = false) (hf : zs.length = 400) :
    Calls Try.prog 12 #[.agg #[.slice A zs.length ca, .int .i64 cnt, .slice B bs.length cb, .slice O os.length co], .agg #[.int .i64 th, .int .i64 4, .int .i64 arg]] w (SpecPost w ((false, 7, 0, -1), (zs, cnt, bs, os))) := by
  have HF := Lib.hid hf; clear hf
  have HA := Lib.hid hA; have HT := Lib.hid hT; have HC := Lib.hid hC; clear hA hT hC
  have HB0 := Lib.hid (below_alloc3 w (.cells #[.slice A zs.length ca, .int .i64 cnt, .slice B bs.length cb, .slice O os.length co] 31) (.cells #[.int .i64 th, .int .i64 4, .int .i64 arg] 35) (.cells #[.slice none 0 0, .int .i64 0, .slice none 0 0, .slice none 0 0] 31))
  have HX := Lib.hid ((BoxC.new 31 w #[.slice A zs.length ca, .int .i64 cnt, .slice B bs.length cb, .slice O os.length co]).below (below_alloc2 _ (.cells #[.int .i64 th, .int .i64 4, .int .i64 arg] 35) (.cells #[.slice none 0 0, .int .i64 0, .slice none 0 0, .slice none 0 0] 31)))
  have HW := Lib.hid (by have h := (BoxC.new 35 (w.alloc (.cells #[.slice A zs.length ca, .int .i64 cnt, .slice B bs.length cb, .slice O os.length co] 31)) #[.int .i64 th, .int .i64 4, .int .i64 arg]).below (below_alloc _ (.cells #[.slice none 0 0, .int .i64 0, .slice none 0 0, .slice none 0 0] 31)); rw [size_alloc] at h; exact h)
  have HR := Lib.hid (by have h := BoxC.new 31 ((w.alloc (.cells #[.slice A zs.length ca, .int .i64 cnt, .slice B bs.length cb, .slice O os.length co] 31)).alloc (.cells #[.int .i64 th, .int .i64 4, .int .i64 arg] 35)) #[.slice none 0 0, .int .i64 0, .slice none 0 0, .slice none 0 0]; rw [size_alloc, size_alloc] at h; exact h)
  go_enter Try.func12, Try.ntmps12
  have hx := HX.out.cell
  go_wp2_with fail
  refine (specModelOK_any _ _ _ _ _ _ zs bs os cnt _ hz ht hc (HA.out.below HB0.out) (HT.out.below HB0.out) (HC.out.below HB0.out)).mono ?_
  rintro e w1 ⟨rfl, hb⟩
  rw [qm]
  have HB1 := Lib.hid (below_trans HB0.out hb)
  have HX1 := Lib.hid (HX.out.below hb); have HW1 := Lib.hid (HW.out.below hb); have HR1 := Lib.hid (HR.out.below hb)
  clear hb HB0 HX HW HR hx
  have hx := HW1.out.cell
  go_wp2_with fail
  refine (specWaiter_any th 4 arg _).mono ?_
  rintro e w2 ⟨rfl, hb⟩
  rw [qw]
  have HB2 := Lib.hid (below_trans HB1.out hb)
  have HX2 := Lib.hid (HX1.out.below hb); have HW2 := Lib.hid (HW1.out.below hb); have HR2 := Lib.hid (HR1.out.below hb)
  clear hb HB1 HX1 HW1 HR1 hx
  have hx := HX2.out.cell; have hw := HW2.out.cell
  go_wp2_with fail
  refine (l10Waits_any _ _ _ _ _ _ zs bs os cnt th _ ht (md_parts qm).2.2.2.1 (HT.out.below HB2.out) (HC.out.below HB2.out)).mono ?_
  rintro e w3 ⟨rfl, hb⟩
  rw [hw0]
  have HB3 := Lib.hid (below_trans HB2.out hb)
  have HX3 := Lib.hid (HX2.out.below hb); have HW3 := Lib.hid (HW2.out.below hb); have HR3 := Lib.hid (HR2.out.below hb)
  clear hb HB2 HX2 HW2 HR2 hx hw
  have hfi : (zs.length : Int) = 400 := by have := HF.out; omega
  have hx := HX3.out.cell; have hw := HW3.out.cell
  go_wp2_with fail
  refine (l10Own_any _ _ _ _ _ _ zs bs os cnt _ hz ht hc (HA.out.below HB3.out) (HT.out.below HB3.out) (HC.out.below HB3.out)).mono ?_
  rintro e w4 ⟨B1, d1, B2, d2, B3, d3, rfl, hO, hb⟩
  have HB4 := Lib.hid (below_trans HB3.out hb)
  have HR4 := Lib.hid (HR3.out.below hb)
  have hz3 := HR3.out.lt
  have HO4 := Lib.hid (OwnO.base hO (b1 := w.heap.size + 1 + 1 + 1) (by omega))
  clear hb hO HB3 HX3 HW3 HR3 hx hw
  go_wp2_with (refine wpList_store_row rfl 31 _ _ rfl (w.heap.size + 1 + 1) _ rfl rfl 31 _ HR4.out info_model rfl (one4m _ _ _ _ _ _ _ _ _ _) ?_)
  have hr := (HR4.out.mrow #[.slice B1 zs.length d1, .int .i64 cnt, .slice B2 bs.length d2, .slice B3 os.length d3]).cell
  have hb' := below_setRow HB4.out (Nat.le_trans (Nat.le_succ _) (Nat.le_succ _) : w.heap.size ≤ w.heap.size + 1 + 1) #[.slice B1 zs.length d1, .int .i64 cnt, .slice B2 bs.length d2, .slice B3 os.length d3]
  have hO' := OwnO.row HO4.out (k := w.heap.size + 1 + 1) (by omega) #[.slice B1 zs.length d1, .int .i64 cnt, .slice B2 bs.length d2, .slice B3 os.length d3]
  generalize w4.setRow (w.heap.size + 1 + 1) #[.slice B1 zs.length d1, .int .i64 cnt, .slice B2 bs.length d2, .slice B3 os.length d3] = w9 at hr hb' hO' ⊢
  refine bodyPost_ret (v := .tuple #[.agg #[.slice B1 zs.length d1, .int .i64 cnt, .slice B2 bs.length d2, .slice B3 os.length d3], .bool false, .int .i64 7, .int .i64 0, .int .i64 (-1)]) (by simp [results, Try.results12, go_sem, hr]) rfl ⟨B1, d1, B2, d2, B3, d3, rfl, (SegC.ofI hO'.st).base (by omega), (SegC.ofW hO'.wt).base (by omega), (SegC.ofW hO'.of).base (by omega), hb'⟩

end Go.Proofs.Ythianfhfamkcmaa

namespace Go.Proofs.Ythianfhfamkcmaa
open Go.RowKit

theorem smc_yes (A B O : Option Addr) (ca cb co : Nat) (zs : List Int) (bs os : List Wtr) (cnt th op arg : Int) (w : World) (hz : zs.length ≤ 1048576) (ht : bs.length ≤ 1048576) (hc : os.length ≤ 1048576) (hA : Rd w A zs) (hT : RdR Wtr.cs w B bs) (hC : RdR Wtr.cs w O os) (qm : mdB zs cnt bs os = true) (qw : wtB th op arg = true) :
    Calls Try.prog 12 #[.agg #[.slice A zs.length ca, .int .i64 cnt, .slice B bs.length cb, .slice O os.length co], .agg #[.int .i64 th, .int .i64 op, .int .i64 arg]] w (SpecPost w (doR zs cnt bs os th op arg)) := by
  cases hw0 : waitsB bs os th
  · have hq' : ¬ waitsB bs os th = true := by rw [hw0]; decide
    by_cases h4 : op = 4
    · subst h4
      by_cases hf : zs.length = 400
      · rw [show doR zs cnt bs os th 4 arg = ((false, 7, 0, -1), (zs, cnt, bs, os)) from by unfold doR; rw [if_neg hq', if_neg (by decide), if_neg (by decide), if_pos rfl, if_pos hf]]
        exact smc_full4 A B O ca cb co zs bs os cnt th arg w hz ht hc hA hT hC qm qw hw0 hf
      · exact smc_go4 A B O ca cb co zs bs os cnt th arg w hz ht hc hA hT hC qm qw hw0 hf
    · by_cases h6 : op = 6
      · subst h6
        by_cases hf : cnt = 1000000000
        · rw [show doR zs cnt bs os th 6 arg = ((false, 7, 0, -1), (zs, cnt, bs, os)) from by unfold doR; rw [if_neg hq', if_neg (by decide), if_neg (by decide), if_neg (by decide), if_neg (by decide), if_pos hf]]
          subst hf; exact smc_full6 A B O ca cb co zs bs os th arg w hz ht hc hA hT hC qm qw hw0
        · exact smc_go6 A B O ca cb co zs bs os cnt th arg w hz ht hc hA hT hC qm qw hw0 hf
      · exact smc_go A B O ca cb co zs bs os cnt th op arg w hz ht hc hA hT hC qm qw hw0 h4 h6
  · rw [show doR zs cnt bs os th op arg = ((false, 9, 0, -1), (zs, cnt, bs, os)) from if_pos hw0]
    exact smc_busy A B O ca cb co zs bs os cnt th op arg w hz ht hc hA hT hC qm qw hw0
end Go.Proofs.Ythianfhfamkcmaa
