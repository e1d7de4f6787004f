/-
  The walk of the law FnExactConcurrent.
-/
import Derived.Test.YtiogebflfnicgaaConB
import Derived.Test.YtiogebflfnicgaaLawMachineA
namespace Go.Proofs.Ytiogebflfnicgaa
open Go.RowKit

set_option maxHeartbeats 8000000 in
set_option maxRecDepth 100000 in
theorem lawConcurrent_walk (A B O : Option Addr) (ca cb co : Nat) (zs : List Int) (ts : List Thd) (cs : List Cll) (clk stp : Int) (w : World) (hz : zs.length ≤ maxLen) (hA : Rd w A zs) (ht : ts.length ≤ maxLen) (hT : RdR Thd.cs w B ts) (hc : cs.length ≤ maxLen) (hC : RdR Cll.cs w O cs) :
    Calls Try.prog 10 #[.agg #[.slice A zs.length ca, .slice B ts.length cb, .int .i64 clk, .int .i64 stp, .slice O cs.length co]] w fun e w' => e = .returned (.bool true) ∧ Below w.heap.size w w' := by
  have HA := Lib.hid hA; have HT := Lib.hid hT; have HC := Lib.hid hC; clear hA hT hC
  have HM0 := Lib.hid (BoxC.new 57 w #[.slice A zs.length ca, .slice B ts.length cb, .int .i64 clk, .int .i64 stp, .slice O cs.length co])
  by_cases hbig : leftM 1048576 zs.length ts.length cs.length < 0
  · have hbd : decide (leftM 1048576 zs.length ts.length cs.length < 0) = true := decide_eq_true hbig
    go_enter Try.func10, Try.ntmps10
    go_wp2_with fail
    refine (szMachine_any _ _ _ _ _ _ _ _ _ _ _ _ _ hz ht hc (by decide) (by decide)).mono ?_
    rintro e w1 ⟨rfl, hb⟩
    have HB := Lib.hid (below_trans (below_alloc _ _) hb); clear hb
    go_wp2
    go_ret
    exact ⟨rfl, HB.out⟩
  obtain ⟨sz, st, sc⟩ := leftM_small (by decide) hbig
  have hbd : decide (leftM 1048576 zs.length ts.length cs.length < 0) = false := decide_eq_false hbig
  obtain ⟨v, hv⟩ : ∃ v : Nat, (if machB zs ts cs clk stp = true then fwd cs else 0) = v := ⟨_, rfl⟩
  obtain ⟨c, hc0⟩ : ∃ c : Int, (if machB zs ts cs clk stp = true then 0 else 1) = c := ⟨_, rfl⟩
  have HV := Lib.hid (And.intro hv hc0); clear hv hc0
  go_enter Try.func10, Try.ntmps10
  go_wp2_with fail
  refine (szMachine_any _ _ _ _ _ _ _ _ _ _ _ _ _ hz ht hc (by decide) (by decide)).mono ?_
  rintro e w1 ⟨rfl, hb⟩
  have HB1 := Lib.hid (below_trans (below_alloc _ _) hb)
  have HM1 := Lib.hid (HM0.out.below hb)
  clear hb HM0
  have hm := HM1.out.cell
  go_wp2_with fail
  refine (toMachine_any _ _ _ _ _ _ zs ts cs clk stp _ sz st sc (HA.out.below HB1.out) (HT.out.below HB1.out) (HC.out.below HB1.out)).mono ?_
  rintro e w2 ⟨a1, a2, a3, rfl, _, _, _, oA, oT, oC, hb⟩
  have HB2 := Lib.hid (below_trans HB1.out hb)
  have HM2 := Lib.hid (HM1.out.below hb)
  have RA := Lib.hid oA.rd; have RT := Lib.hid oT.rd; have RC := Lib.hid oC.rd
  clear hb oA oT oC hm HM1 HB1
  go_wp2_with fail
  refine (specConcurrent_any _ _ _ _ _ zs ts cs clk stp _ _ sz RA.out RT.out RC.out).mono ?_
  rintro e w3 ⟨rfl, hb⟩
  rw [HV.out.1, HV.out.2]
  have HB3 := Lib.hid (below_trans HB2.out hb)
  have HM3 := Lib.hid (HM2.out.below hb)
  clear hb HM2 HB2 RA RT RC
  have hm := HM3.out.cell
  go_wp2_with fail
  refine (toMachine_any _ _ _ _ _ _ zs ts cs clk stp _ sz st sc (HA.out.below HB3.out) (HT.out.below HB3.out) (HC.out.below HB3.out)).mono ?_
  rintro e w4 ⟨b1, b2, b3, rfl, _, _, _, oA, oT, oC, hb⟩
  have HB4 := Lib.hid (below_trans HB3.out hb)
  have HM4 := Lib.hid (HM3.out.below hb)
  have hlt : w.heap.size < w4.heap.size := HM4.out.lt
  have hbx : Below w4.heap.size w4 ((w4.alloc (.cells #[.slice none 0 0, .slice none 0 0, .int .i64 0, .int .i64 0, .slice none 0 0] 64)).setRow w4.heap.size #[.slice (some ⟨b1, 0, none⟩) zs.length zs.length, .slice (some ⟨b2, 0, none⟩) ts.length ts.length, .int .i64 clk, .int .i64 stp, .slice (some ⟨b3, 0, none⟩) cs.length cs.length]) := below_setRow (below_alloc w4 _) (Nat.le_refl _) _
  have RA := Lib.hid (oA.rd.below hbx); have RT := Lib.hid (oT.rd.below hbx); have RC := Lib.hid (oC.rd.below hbx)
  have HB5 := Lib.hid (below_trans HB4.out hbx)
  have HM5 := Lib.hid (HM4.out.below hbx)
  clear hb hm HM3 HB3 hbx oA oT oC
  have HX := Lib.hid (BoxC.new 64 w4 #[.slice none 0 0, .slice none 0 0, .int .i64 0, .int .i64 0, .slice none 0 0])
  go_upto_region 7 with (first | (refine wpList_store_row rfl 64 _ _ rfl w4.heap.size _ rfl rfl 64 _ HX.out info_mach rfl (one5m _ _ _ _ _ _ _ _ _ _ _) ?_))
  have HX5 := Lib.hid (HX.out.mrow #[.slice (some ⟨b1, 0, none⟩) zs.length zs.length, .slice (some ⟨b2, 0, none⟩) ts.length ts.length, .int .i64 clk, .int .i64 stp, .slice (some ⟨b3, 0, none⟩) cs.length cs.length])
  generalize (w4.alloc (.cells #[.slice none 0 0, .slice none 0 0, .int .i64 0, .int .i64 0, .slice none 0 0] 64)).setRow w4.heap.size #[.slice (some ⟨b1, 0, none⟩) zs.length zs.length, .slice (some ⟨b2, 0, none⟩) ts.length ts.length, .int .i64 clk, .int .i64 stp, .slice (some ⟨b3, 0, none⟩) cs.length cs.length] = w5 at HX5 HB5 HM5 RA RT RC ⊢
  generalize w4.heap.size = kx at HX5 hlt ⊢
  clear HX HB4 HM4
  have hx := HX5.out.cell
  go_wp2_with fail
  refine (implConcurrent_any _ _ _ _ _ zs ts cs clk stp _ sz RA.out RT.out RC.out).mono ?_
  rintro e w6 ⟨rfl, hb⟩
  rw [HV.out.1, HV.out.2]
  have HB6 := Lib.hid (below_trans HB5.out hb)
  have HM6 := Lib.hid (HM5.out.below hb)
  have HX6 := Lib.hid (HX5.out.below hb)
  have RA6 := Lib.hid (RA.out.below hb); have RT6 := Lib.hid (RT.out.below hb); have RC6 := Lib.hid (RC.out.below hb)
  clear hb HB5 HM5 HX5 RA RT RC hx HV
  skip
  all_goals
    go_upto_region 10 with fail
    go_region_held3 (fun w' => (∀ j : Nat, w'.cell? ⟨kx, j, none⟩ = (#[.slice (some ⟨b1, 0, none⟩) zs.length zs.length, .slice (some ⟨b2, 0, none⟩) ts.length ts.length, .int .i64 clk, .int .i64 stp, .slice (some ⟨b3, 0, none⟩) cs.length cs.length] : Array Value)[j]?) ∧ (∀ j : Nat, w'.cell? ⟨w.heap.size, j, none⟩ = (#[.slice A zs.length ca, .slice B ts.length cb, .int .i64 clk, .int .i64 stp, .slice O cs.length co] : Array Value)[j]?))
      (first | exact ⟨HX6.out.cell, HM6.out.cell⟩ | exact ⟨(HX6.out.below (below_drew_trans hb7)).cell, (HM6.out.below (below_drew_trans hb7)).cell⟩ | exact ⟨((HX6.out.below (below_drew_trans hb7)).below hb8).cell, ((HM6.out.below (below_drew_trans hb7)).below hb8).cell⟩)
      (first
        | (go_at_call 31; (with_reducible refine (toMachine_any _ _ _ _ _ _ zs ts cs clk stp _ sz st sc (HA.out.below HB6.out).drew (HT.out.below HB6.out).drewR (HC.out.below HB6.out).drewR).mono ?_); rintro e w7 ⟨c1, c2, c3, rfl, _, _, _, oA, oT, oC, hb7⟩)
        | (go_at_call 33; (with_reducible refine (eqMachine_same _ _ _ _ _ _ zs ts cs clk stp _ _ _ _ _ _ _ sz st sc (RA6.out.below (below_drew_trans hb7)) (RT6.out.below (below_drew_trans hb7)) (RC6.out.below (below_drew_trans hb7)) oA.rd oT.rd oC.rd).mono ?_); rintro e w8 ⟨rfl, hb8⟩))
    have HB8 := Lib.hid (below_trans (below_trans HB6.out (below_drew_trans hb7)) hb8)
    clear hb7 hb8
    go_wp2
    go_ret
    exact ⟨rfl, HB8.out⟩
end Go.Proofs.Ytiogebflfnicgaa
