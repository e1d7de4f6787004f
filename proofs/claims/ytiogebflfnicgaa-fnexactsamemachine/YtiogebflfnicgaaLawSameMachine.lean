/-
  The walk of the law FnExactSameMachine.
-/
import Derived.Test.YtiogebflfnicgaaSameMb
import Derived.Test.YtiogebflfnicgaaLawMachineA
namespace Go.Proofs.Ytiogebflfnicgaa
open Go.RowKit

theorem leftM_bounds {l : Int} {a t c : Nat} (hl : l ≤ 1048576) (h : ¬ leftM l a t c < 0) : 0 ≤ leftM l a t c ∧ leftM l a t c ≤ 1048576 := by
  refine ⟨by omega, ?_⟩
  unfold leftM at h ⊢
  by_cases h1 : leftB l a < 0
  · rw [if_pos h1] at h; omega
  rw [if_neg h1] at h ⊢
  by_cases h2 : leftB (leftB l a) t < 0
  · rw [if_pos h2] at h; omega
  rw [if_neg h2] at h ⊢
  by_cases h3 : leftB (leftB (leftB l a) t) c < 0
  · rw [if_pos h3] at h; omega
  rw [if_neg h3]
  obtain ⟨e1, g1⟩ := leftB_pos h1
  obtain ⟨e2, g2⟩ := leftB_pos h2
  obtain ⟨e3, g3⟩ := leftB_pos h3
  omega

set_option maxHeartbeats 16000000 in
set_option maxRecDepth 100000 in
theorem lawSameMachine_walk (A B O : Option Addr) (ca cb co : Nat) (zs : List Int) (ts : List Thd) (cs : List Cll) (clk stp : Int) (A2 B2 O2 : Option Addr) (ca2 cb2 co2 : Nat) (zs2 : List Int) (ts2 : List Thd) (cs2 : List Cll) (clk2 stp2 : Int) (w : World)
    (hz : zs.length ≤ maxLen) (hA : Rd w A zs) (ht : ts.length ≤ maxLen) (hT : RdR Thd.cs w B ts) (hc : cs.length ≤ maxLen) (hC : RdR Cll.cs w O cs)
    (hz2 : zs2.length ≤ maxLen) (hA2 : Rd w A2 zs2) (ht2 : ts2.length ≤ maxLen) (hT2 : RdR Thd.cs w B2 ts2) (hc2 : cs2.length ≤ maxLen) (hC2 : RdR Cll.cs w O2 cs2) :
    Calls Try.prog 9 #[.agg #[.slice A zs.length ca, .slice B ts.length cb, .int .i64 clk, .int .i64 stp, .slice O cs.length co], .agg #[.slice A2 zs2.length ca2, .slice B2 ts2.length cb2, .int .i64 clk2, .int .i64 stp2, .slice O2 cs2.length co2]] w fun e w' => e = .returned (.bool true) ∧ Below w.heap.size w w' := by
  have HA := Lib.hid hA; have HT := Lib.hid hT; have HC := Lib.hid hC; have HA2 := Lib.hid hA2; have HT2 := Lib.hid hT2; have HC2 := Lib.hid hC2; clear hA hT hC hA2 hT2 hC2
  have HX0 := Lib.hid ((BoxC.new 57 w #[.slice A zs.length ca, .slice B ts.length cb, .int .i64 clk, .int .i64 stp, .slice O cs.length co]).below (below_alloc _ (.cells #[.slice A2 zs2.length ca2, .slice B2 ts2.length cb2, .int .i64 clk2, .int .i64 stp2, .slice O2 cs2.length co2] 57)))
  have HY0 := Lib.hid (by have h := BoxC.new 57 (w.alloc (.cells #[.slice A zs.length ca, .slice B ts.length cb, .int .i64 clk, .int .i64 stp, .slice O cs.length co] 57)) #[.slice A2 zs2.length ca2, .slice B2 ts2.length cb2, .int .i64 clk2, .int .i64 stp2, .slice O2 cs2.length co2]; rw [size_alloc] at h; exact h)
  obtain ⟨l1, hl1⟩ : ∃ l, leftM 1048576 zs.length ts.length cs.length = l := ⟨_, rfl⟩
  have HL1 := Lib.hid hl1
  by_cases hbig : l1 < 0
  · clear hl1
    go_enter Try.func9, Try.ntmps9
    go_wp2_with fail
    refine (szMachine_any _ _ _ _ _ _ _ _ _ _ _ _ _ hz ht hc (by decide) (by decide)).mono ?_
    rintro e w1 ⟨rfl, hb⟩
    have HB1 := Lib.hid (below_trans (below_alloc2 _ _ _) hb)
    have HX1 := Lib.hid (HX0.out.below hb); have HY1 := Lib.hid (HY0.out.below hb)
    clear hb HX0 HY0
    have hx := HX1.out.cell; have hy := HY1.out.cell
    rw [HL1.out]
    go_wp2
    go_ret
    exact ⟨rfl, HB1.out⟩
  obtain ⟨sz, st, sc⟩ := leftM_small (a := zs.length) (t := ts.length) (c := cs.length) (l := 1048576) (by decide) (by rw [hl1]; exact hbig)
  obtain ⟨lb1, lb2⟩ := leftM_bounds (a := zs.length) (t := ts.length) (c := cs.length) (l := 1048576) (by decide) (by rw [hl1]; exact hbig)
  rw [hl1] at lb1 lb2
  clear hl1
  obtain ⟨l2, hl2⟩ : ∃ l, leftM l1 zs2.length ts2.length cs2.length = l := ⟨_, rfl⟩
  have HL2 := Lib.hid hl2
  by_cases hbig2 : l2 < 0
  · clear hl2
    go_enter Try.func9, Try.ntmps9
    go_wp2_with fail
    refine (szMachine_any _ _ _ _ _ _ _ _ _ _ _ _ _ hz ht hc (by decide) (by decide)).mono ?_
    rintro e w1 ⟨rfl, hb⟩
    have HB1 := Lib.hid (below_trans (below_alloc2 _ _ _) hb)
    have HX1 := Lib.hid (HX0.out.below hb); have HY1 := Lib.hid (HY0.out.below hb)
    clear hb HX0 HY0
    have hx := HX1.out.cell; have hy := HY1.out.cell
    rw [HL1.out]
    go_wp2_with fail
    refine (szMachine_any _ _ _ _ _ _ _ _ _ _ _ _ _ hz2 ht2 hc2 lb1 lb2).mono ?_
    rintro e w2 ⟨rfl, hb⟩
    rw [HL2.out]
    have HB2 := Lib.hid (below_trans HB1.out hb)
    clear hb
    go_wp2
    go_ret
    exact ⟨rfl, HB2.out⟩
  obtain ⟨sz2, st2, sc2⟩ := leftM_small (a := zs2.length) (t := ts2.length) (c := cs2.length) (l := l1) lb2 (by rw [hl2]; exact hbig2)
  clear hl2
  obtain ⟨v, hv⟩ : ∃ v, saB zs ts cs clk stp zs2 ts2 cs2 clk2 stp2 = v := ⟨_, rfl⟩
  have HV := Lib.hid hv; clear hv
  go_enter Try.func9, Try.ntmps9
  go_wp2_with fail
  refine (szMachine_any _ _ _ _ _ _ _ _ _ _ _ _ _ hz ht hc (by decide) (by decide)).mono ?_
  rintro e w1 ⟨rfl, hb⟩
  have HB1 := Lib.hid (below_trans (below_alloc2 _ _ _) hb)
  have HX1 := Lib.hid (HX0.out.below hb); have HY1 := Lib.hid (HY0.out.below hb)
  clear hb HX0 HY0
  have hx := HX1.out.cell; have hy := HY1.out.cell
  rw [HL1.out]
  go_wp2_with fail
  refine (szMachine_any _ _ _ _ _ _ _ _ _ _ _ _ _ hz2 ht2 hc2 lb1 lb2).mono ?_
  rintro e w2 ⟨rfl, hb⟩
  rw [HL2.out]
  have HB2 := Lib.hid (below_trans HB1.out hb)
  have HX2 := Lib.hid (HX1.out.below hb); have HY2 := Lib.hid (HY1.out.below hb)
  clear hb HX1 HY1 HB1 hx hy lb1 lb2 hz ht hc hz2 ht2 hc2
  have hx := HX2.out.cell; have hy := HY2.out.cell
  go_upto_region 8 with fail
  go_region_held3 (fun w' => (∀ j : Nat, w'.cell? ⟨w.heap.size, j, none⟩ = (#[.slice A zs.length ca, .slice B ts.length cb, .int .i64 clk, .int .i64 stp, .slice O cs.length co] : Array Value)[j]?) ∧ (∀ j : Nat, w'.cell? ⟨(w.heap.size + 1), j, none⟩ = (#[.slice A2 zs2.length ca2, .slice B2 ts2.length cb2, .int .i64 clk2, .int .i64 stp2, .slice O2 cs2.length co2] : Array Value)[j]?))
    (first | exact ⟨HX2.out.cell, HY2.out.cell⟩ | exact ⟨(HX2.out.below (below_drew_trans h1)).cell, (HY2.out.below (below_drew_trans h1)).cell⟩ | exact ⟨(HX2.out.below (below_trans (below_drew_trans h1) h2)).cell, (HY2.out.below (below_trans (below_drew_trans h1) h2)).cell⟩ | exact ⟨(HX2.out.below (below_trans (below_trans (below_drew_trans h1) h2) h3)).cell, (HY2.out.below (below_trans (below_trans (below_drew_trans h1) h2) h3)).cell⟩)
    (first
      | (go_at_call 31; (with_reducible refine (toMachine_any _ _ _ _ _ _ zs ts cs clk stp _ sz st sc (HA.out.below HB2.out).drew (HT.out.below HB2.out).drewR (HC.out.below HB2.out).drewR).mono ?_); rintro e u1 ⟨a1, a2, a3, rfl, _, _, _, oA, oT, oC, h1⟩)
      | (go_at_call 31; (with_reducible refine (toMachine_any _ _ _ _ _ _ zs2 ts2 cs2 clk2 stp2 _ sz2 st2 sc2 (HA2.out.below (below_trans HB2.out (below_drew_trans h1))) (HT2.out.below (below_trans HB2.out (below_drew_trans h1))) (HC2.out.below (below_trans HB2.out (below_drew_trans h1)))).mono ?_); rintro e u2 ⟨c1, c2, c3, rfl, _, _, _, oA2, oT2, oC2, h2⟩)
      | (go_at_call 30; (with_reducible refine (specSameMachine_any _ _ _ _ _ _ zs ts cs clk stp _ _ _ _ _ _ zs2 ts2 cs2 clk2 stp2 _ sz st sc (oA.rd.below h2) (oT.rd.below h2) (oC.rd.below h2) sz2 st2 sc2 oA2.rd oT2.rd oC2.rd).mono ?_); rintro e u3 ⟨rfl, h3⟩; rw [HV.out]))
  have h123 := below_trans (below_trans (below_drew_trans h1) h2) h3
  have HB3 := Lib.hid (below_trans HB2.out h123)
  have HX3 := Lib.hid (HX2.out.below h123); have HY3 := Lib.hid (HY2.out.below h123)
  clear h1 h2 h3 h123 HX2 HY2 HB2 hx hy oA oT oC oA2 oT2 oC2
  have hx := HX3.out.cell; have hy := HY3.out.cell
  go_wp2_with fail
  refine (toMachine_any _ _ _ _ _ _ zs ts cs clk stp _ sz st sc (HA.out.below HB3.out) (HT.out.below HB3.out) (HC.out.below HB3.out)).mono ?_
  rintro e w4 ⟨p1, p2, p3, rfl, _, _, _, oA, oT, oC, hb⟩
  have HB4 := Lib.hid (below_trans HB3.out hb)
  have HX4 := Lib.hid (HX3.out.below hb); have HY4 := Lib.hid (HY3.out.below hb)
  have hlt4 : w.heap.size + 1 < w4.heap.size := HY4.out.lt
  have hbx : Below w4.heap.size w4 ((w4.alloc (.cells #[.slice none 0 0, .slice none 0 0, .int .i64 0, .int .i64 0, .slice none 0 0] 64)).setRow w4.heap.size #[.slice (some ⟨p1, 0, none⟩) zs.length zs.length, .slice (some ⟨p2, 0, none⟩) ts.length ts.length, .int .i64 clk, .int .i64 stp, .slice (some ⟨p3, 0, none⟩) cs.length cs.length]) := below_setRow (below_alloc w4 _) (Nat.le_refl _) _
  have RA := Lib.hid (oA.rd.below hbx); have RT := Lib.hid (oT.rd.below hbx); have RC := Lib.hid (oC.rd.below hbx)
  have HB5 := Lib.hid (below_trans HB4.out hbx)
  have HX5 := Lib.hid (HX4.out.below hbx); have HY5 := Lib.hid (HY4.out.below hbx)
  clear hb hx hy HX3 HY3 HB3 hbx oA oT oC
  have HP := Lib.hid (BoxC.new 64 w4 #[.slice none 0 0, .slice none 0 0, .int .i64 0, .int .i64 0, .slice none 0 0])
  go_upto_region 10 with (first | (refine wpList_store_row rfl 64 _ _ rfl w4.heap.size _ rfl rfl 64 _ HP.out info_mach rfl (one5m _ _ _ _ _ _ _ _ _ _ _) ?_))
  have HP5 := Lib.hid (HP.out.mrow #[.slice (some ⟨p1, 0, none⟩) zs.length zs.length, .slice (some ⟨p2, 0, none⟩) ts.length ts.length, .int .i64 clk, .int .i64 stp, .slice (some ⟨p3, 0, none⟩) cs.length cs.length])
  generalize (w4.alloc (.cells #[.slice none 0 0, .slice none 0 0, .int .i64 0, .int .i64 0, .slice none 0 0] 64)).setRow w4.heap.size #[.slice (some ⟨p1, 0, none⟩) zs.length zs.length, .slice (some ⟨p2, 0, none⟩) ts.length ts.length, .int .i64 clk, .int .i64 stp, .slice (some ⟨p3, 0, none⟩) cs.length cs.length] = w5 at HP5 HB5 HX5 HY5 RA RT RC ⊢
  generalize w4.heap.size = kp at HP5 hlt4 ⊢
  clear HP HB4 HX4 HY4
  have hx := HX5.out.cell; have hy := HY5.out.cell
  go_wp2_with fail
  refine (toMachine_any _ _ _ _ _ _ zs2 ts2 cs2 clk2 stp2 _ sz2 st2 sc2 (HA2.out.below HB5.out) (HT2.out.below HB5.out) (HC2.out.below HB5.out)).mono ?_
  rintro e w6 ⟨q1, q2, q3, rfl, _, _, _, oA, oT, oC, hb⟩
  have HB6 := Lib.hid (below_trans HB5.out hb)
  have HX6 := Lib.hid (HX5.out.below hb); have HY6 := Lib.hid (HY5.out.below hb); have HP6 := Lib.hid (HP5.out.below hb)
  have hlt6 : kp < w6.heap.size := HP6.out.lt
  have hbx : Below w6.heap.size w6 ((w6.alloc (.cells #[.slice none 0 0, .slice none 0 0, .int .i64 0, .int .i64 0, .slice none 0 0] 64)).setRow w6.heap.size #[.slice (some ⟨q1, 0, none⟩) zs2.length zs2.length, .slice (some ⟨q2, 0, none⟩) ts2.length ts2.length, .int .i64 clk2, .int .i64 stp2, .slice (some ⟨q3, 0, none⟩) cs2.length cs2.length]) := below_setRow (below_alloc w6 _) (Nat.le_refl _) _
  have RA2 := Lib.hid (oA.rd.below hbx); have RT2 := Lib.hid (oT.rd.below hbx); have RC2 := Lib.hid (oC.rd.below hbx)
  have RA7 := Lib.hid ((RA.out.below hb).below hbx); have RT7 := Lib.hid ((RT.out.below hb).below hbx); have RC7 := Lib.hid ((RC.out.below hb).below hbx)
  have HB7 := Lib.hid (below_trans HB6.out hbx)
  have HX7 := Lib.hid (HX6.out.below hbx); have HY7 := Lib.hid (HY6.out.below hbx); have HP7 := Lib.hid (HP6.out.below hbx)
  clear hb hx hy HX5 HY5 HB5 HP5 hbx oA oT oC RA RT RC
  have HQ := Lib.hid (BoxC.new 64 w6 #[.slice none 0 0, .slice none 0 0, .int .i64 0, .int .i64 0, .slice none 0 0])
  go_upto_region 11 with (first | (refine wpList_store_row rfl 64 _ _ rfl w6.heap.size _ rfl rfl 64 _ HQ.out info_mach rfl (one5m _ _ _ _ _ _ _ _ _ _ _) ?_))
  have HQ7 := Lib.hid (HQ.out.mrow #[.slice (some ⟨q1, 0, none⟩) zs2.length zs2.length, .slice (some ⟨q2, 0, none⟩) ts2.length ts2.length, .int .i64 clk2, .int .i64 stp2, .slice (some ⟨q3, 0, none⟩) cs2.length cs2.length])
  generalize (w6.alloc (.cells #[.slice none 0 0, .slice none 0 0, .int .i64 0, .int .i64 0, .slice none 0 0] 64)).setRow w6.heap.size #[.slice (some ⟨q1, 0, none⟩) zs2.length zs2.length, .slice (some ⟨q2, 0, none⟩) ts2.length ts2.length, .int .i64 clk2, .int .i64 stp2, .slice (some ⟨q3, 0, none⟩) cs2.length cs2.length] = w7 at HQ7 HB7 HX7 HY7 HP7 RA2 RT2 RC2 RA7 RT7 RC7 ⊢
  generalize w6.heap.size = kq at HQ7 hlt6 ⊢
  clear HQ HB6 HX6 HY6 HP6
  have hp := HP7.out.cell; have hq := HQ7.out.cell
  go_wp2_with fail
  refine (implSameMachine_any _ _ _ _ _ _ zs ts cs clk stp _ _ _ _ _ _ zs2 ts2 cs2 clk2 stp2 _ sz st sc RA7.out RT7.out RC7.out sz2 st2 sc2 RA2.out RT2.out RC2.out).mono ?_
  rintro e w8 ⟨rfl, hb⟩
  rw [HV.out]
  have HB8 := Lib.hid (below_trans HB7.out hb)
  have HX8 := Lib.hid (HX7.out.below hb); have HY8 := Lib.hid (HY7.out.below hb); have HP8 := Lib.hid (HP7.out.below hb); have HQ8 := Lib.hid (HQ7.out.below hb)
  have RA8 := Lib.hid (RA7.out.below hb); have RT8 := Lib.hid (RT7.out.below hb); have RC8 := Lib.hid (RC7.out.below hb)
  have SA8 := Lib.hid (RA2.out.below hb); have ST8 := Lib.hid (RT2.out.below hb); have SC8 := Lib.hid (RC2.out.below hb)
  clear hb HB7 HX7 HY7 HP7 HQ7 RA7 RT7 RC7 RA2 RT2 RC2 hp hq HV
  cases v
  all_goals
    go_upto_region 14 with fail
    go_region_held3 (fun w' => (∀ j : Nat, w'.cell? ⟨kp, j, none⟩ = (#[.slice (some ⟨p1, 0, none⟩) zs.length zs.length, .slice (some ⟨p2, 0, none⟩) ts.length ts.length, .int .i64 clk, .int .i64 stp, .slice (some ⟨p3, 0, none⟩) cs.length cs.length] : Array Value)[j]?) ∧ (∀ j : Nat, w'.cell? ⟨w.heap.size, j, none⟩ = (#[.slice A zs.length ca, .slice B ts.length cb, .int .i64 clk, .int .i64 stp, .slice O cs.length co] : Array Value)[j]?))
      (first | exact ⟨HP8.out.cell, HX8.out.cell⟩ | exact ⟨(HP8.out.below (below_drew_trans h1)).cell, (HX8.out.below (below_drew_trans h1)).cell⟩ | exact ⟨(HP8.out.below (below_trans (below_drew_trans h1) h2)).cell, (HX8.out.below (below_trans (below_drew_trans h1) h2)).cell⟩)
      (first
        | (go_at_call 31; (with_reducible refine (toMachine_any _ _ _ _ _ _ zs ts cs clk stp _ sz st sc (HA.out.below HB8.out).drew (HT.out.below HB8.out).drewR (HC.out.below HB8.out).drewR).mono ?_); rintro e w9 ⟨c1, c2, c3, rfl, _, _, _, oA, oT, oC, h1⟩)
        | (go_at_call 33; (with_reducible refine (eqMachine_same _ _ _ _ _ _ zs ts cs clk stp _ _ _ _ _ _ _ sz st sc (RA8.out.below (below_drew_trans h1)) (RT8.out.below (below_drew_trans h1)) (RC8.out.below (below_drew_trans h1)) oA.rd oT.rd oC.rd).mono ?_); rintro e w10 ⟨rfl, h2⟩))
    have h12 := below_trans (below_drew_trans h1) h2
    have HB10 := Lib.hid (below_trans HB8.out h12)
    have HY10 := Lib.hid (HY8.out.below h12); have HQ10 := Lib.hid (HQ8.out.below h12)
    have SA10 := Lib.hid (SA8.out.below h12); have ST10 := Lib.hid (ST8.out.below h12); have SC10 := Lib.hid (SC8.out.below h12)
    clear h1 h2 h12 HX8 HP8 oA oT oC HY8 HQ8 HB8 RA8 RT8 RC8 SA8 ST8 SC8
    go_upto_region 16 with fail
    go_region_held3 (fun w' => (∀ j : Nat, w'.cell? ⟨kq, j, none⟩ = (#[.slice (some ⟨q1, 0, none⟩) zs2.length zs2.length, .slice (some ⟨q2, 0, none⟩) ts2.length ts2.length, .int .i64 clk2, .int .i64 stp2, .slice (some ⟨q3, 0, none⟩) cs2.length cs2.length] : Array Value)[j]?) ∧ (∀ j : Nat, w'.cell? ⟨(w.heap.size + 1), j, none⟩ = (#[.slice A2 zs2.length ca2, .slice B2 ts2.length cb2, .int .i64 clk2, .int .i64 stp2, .slice O2 cs2.length co2] : Array Value)[j]?))
      (first | exact ⟨HQ10.out.cell, HY10.out.cell⟩ | exact ⟨(HQ10.out.below (below_drew_trans h1)).cell, (HY10.out.below (below_drew_trans h1)).cell⟩ | exact ⟨(HQ10.out.below (below_trans (below_drew_trans h1) h2)).cell, (HY10.out.below (below_trans (below_drew_trans h1) h2)).cell⟩)
      (first
        | (go_at_call 31; (with_reducible refine (toMachine_any _ _ _ _ _ _ zs2 ts2 cs2 clk2 stp2 _ sz2 st2 sc2 (HA2.out.below HB10.out).drew (HT2.out.below HB10.out).drewR (HC2.out.below HB10.out).drewR).mono ?_); rintro e w11 ⟨d1, d2, d3, rfl, _, _, _, oA, oT, oC, h1⟩)
        | (go_at_call 33; (with_reducible refine (eqMachine_same _ _ _ _ _ _ zs2 ts2 cs2 clk2 stp2 _ _ _ _ _ _ _ sz2 st2 sc2 (SA10.out.below (below_drew_trans h1)) (ST10.out.below (below_drew_trans h1)) (SC10.out.below (below_drew_trans h1)) oA.rd oT.rd oC.rd).mono ?_); rintro e w12 ⟨rfl, h2⟩))
    have HB12 := Lib.hid (below_trans (below_trans HB10.out (below_drew_trans h1)) h2)
    clear h1 h2
    go_wp2
    go_ret
    exact ⟨rfl, HB12.out⟩
end Go.Proofs.Ytiogebflfnicgaa
