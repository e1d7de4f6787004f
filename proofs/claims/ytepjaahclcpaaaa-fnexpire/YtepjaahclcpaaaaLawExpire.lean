/-
  The walk of the law FnExpire.
-/
import Derived.Test.YtepjaahclcpaaaaPkE
import Derived.Test.YtepjaahclcpaaaaDrawB
import Derived.Test.YtepjaahclcpaaaaAtS
import Derived.Deep.DeepCutAuto
import Derived.Deep.RegionLaw
namespace Go.Proofs.Ytepjaahclcpaaaa
open Go.RowKit

set_option maxHeartbeats 4000000 in
set_option maxRecDepth 100000 in
theorem lawExpire_walk (A1 : Option Addr) (c1 n1 : Nat) (A2 : Option Addr) (c2 n2 : Nat) (w : World) (hm1 : n1 ≤ maxLen) (hA1 : RdB w A1 n1) (_hm2 : n2 ≤ maxLen) (hA2 : RdB w A2 n2) :
    Calls Try.prog 4 #[.slice A1 n1 c1, .slice A2 n2 c2] w fun e w' => e = .returned (.bool true) ∧ Below w.heap.size w w' := by
  have HA1 := Lib.hid hA1; have HA2 := Lib.hid hA2; have HM := Lib.hid hm1; clear hA1 hA2 _hm2
  by_cases hb1 : 1048576 < n1
  · go_enter Try.func4, Try.ntmps4
    go_wp2
    go_ret
    exact ⟨rfl, Below.refl _ _⟩
  have hd1 : decide (1048576 < n1) = false := decide_eq_false hb1
  by_cases hb2 : 1048576 < n2
  · go_enter Try.func4, Try.ntmps4
    go_wp2
    go_ret
    exact ⟨rfl, Below.refl _ _⟩
  have hd2 : decide (1048576 < n2) = false := decide_eq_false hb2
  have hs1 : n1 ≤ 1048576 := by omega
  have hs2 : n2 ≤ 1048576 := by omega
  go_enter Try.func4, Try.ntmps4
  have HB0 : Hid (Below w.heap.size w w) := Below.refl _ _
  go_wp2_with fail
  refine (at_any A2 n2 c2 0 50 _ hs2 (by decide) (by decide) (by decide) (HA2.out.below HB0.out)).mono ?_
  rintro e w1 ⟨v, hv0, hv1, rfl, hb⟩
  have HB1 := Lib.hid (below_trans HB0.out hb)
  clear HB0 
  clear hb
  obtain ⟨m, hm⟩ : ∃ m : Int, 1 + v = m := ⟨_, rfl⟩
  have qa : IntKind.i64.wrap (1 + v) = m := by rw [hm]; exact IntWalk.i64_in _ (by omega)
  have qb : IntKind.i64.wrap (m - 1) = v := by rw [IntWalk.i64_in (m - 1) (by omega)]; omega
  have HM1 : Hid (1 ≤ m ∧ m ≤ 50 ∧ v < m) := by unfold Hid; omega
  have HV0 := Lib.hid hv0
  clear HA2 hs2 hm hv0 hv1
  go_wp2_with fail
  refine (at_any A1 n1 c1 0 4 _ hs1 (by decide) (by decide) (by decide) (HA1.out.below HB1.out)).mono ?_
  rintro e w2 ⟨r, hr0, hr1, rfl, hb⟩
  have HB2 := Lib.hid (below_trans HB1.out hb)
  clear HB1 
  clear hb
  have HNW : Hid (newB r = (⟨r, 0, 0, 0, 0, 0, false, false, 0, 0, 0, 0, 0, 0, 0⟩, 0)) := by unfold Hid newB; rw [if_pos (inB_iff.2 (by omega))]
  as_aux_lemma =>
    go_wp2_with fail
    refine (implNewThread_any r _ r 0 0 0 0 0 false false 0 0 0 0 0 0 0 0 HNW.out).mono ?_
    rintro e w3 ⟨rfl, hb⟩
    have HZ3 : Hid (w.heap.size ≤ w3.heap.size) := (below_trans HB2.out hb).size
    have hbt := below_trans hb (below_alloc w3 (.cells #[.int .i64 r, .int .i64 0, .int .i64 0, .int .i64 0, .int .i64 0, .int .i64 0, .bool false, .bool false, .int .i64 0, .int .i64 0, .int .i64 0, .int .i64 0, .int .i64 0, .int .i64 0, .int .i64 0] 25))
    have HB3 := Lib.hid (below_trans HB2.out hbt)
    clear hb HB2 
    clear hbt
    have bT_3 := Lib.hid (BoxT.new w3 #[.int .i64 r, .int .i64 0, .int .i64 0, .int .i64 0, .int .i64 0, .int .i64 0, .bool false, .bool false, .int .i64 0, .int .i64 0, .int .i64 0, .int .i64 0, .int .i64 0, .int .i64 0, .int .i64 0])
    have HU : Hid (tilB 3 m = true) := inB_iff.2 ⟨by have := HM1.out; omega, by show m ≤ 1000000; have := HM1.out; omega⟩
    have HNT : Hid (thB r 0 0 0 0 0 false false 0 0 0 0 0 0 0 = true) := th_idle_ok hr0 hr1 (by decide) (by decide) (by decide) (by decide)
    have HT1 : Hid (thB r 1 3 5 0 m false false 0 0 0 0 0 0 0 = true) := th_call_ok hr0 hr1 (by decide) (by decide) HU.out (by decide) (by decide)
    have HT2 : Hid (thB r 2 3 5 0 m false false 0 0 0 0 0 0 0 = true) := th_park_ok hr0 hr1 (by decide) (by decide) HU.out (by decide) (by decide) (by decide)
    have HT3 : Hid (thB r 1 3 5 0 m false true 0 0 0 0 0 0 0 = true) := th_call_ok hr0 hr1 (by decide) (by decide) HU.out (by decide) (by decide)
    have HG1 : Hid (gvB false m v = false) := by have := HM1.out; unfold Hid gvB; simp; omega
    have HG2 : Hid (gvB false m m = true) := by have := HM1.out; unfold Hid gvB; simp; omega
    have HI1 : Hid (inB v 0 1000000 = true) := inB_iff.2 (by have := HM1.out; have := HV0.out; omega)
    have HI2 : Hid (inB m 0 1000000 = true) := inB_iff.2 (by have := HM1.out; omega)
    have HBG : Hid (begB r 0 0 0 0 0 false false 0 0 0 0 0 0 0 3 5 m = (⟨r, 1, 3, 5, 0, m, false, false, 0, 0, 0, 0, 0, 0, 0⟩, 0)) := begB_ok _ _ _ _ _ _ _ _ _ _ _ _ _ _ 3 5 m HNT.out (by rw [HU.out]; rfl)
    have HE1 : Hid (parkB r 1 3 5 0 m false false 0 0 0 0 0 0 0 = (⟨r, 2, 3, 5, 0, m, false, false, 0, 0, 0, 0, 0, 0, 0⟩, 0)) := parkB_parks _ _ _ _ _ _ _ _ _ _ _ _ _ _ _ HT1.out (by decide) (by decide) rfl
    have HE2 : Hid (givB r 2 3 5 0 m false false 0 0 0 0 0 0 0 v = (false, 0)) := (givB_ok _ _ _ _ _ _ _ _ _ _ _ _ _ _ _ v HT2.out HI1.out).trans (by rw [HG1.out])
    have HE3 : Hid (givB r 2 3 5 0 m false false 0 0 0 0 0 0 0 m = (true, 0)) := (givB_ok _ _ _ _ _ _ _ _ _ _ _ _ _ _ _ m HT2.out HI2.out).trans (by rw [HG2.out])
    have HE4 : Hid (expB r 2 3 5 0 m false false 0 0 0 0 0 0 0 v = (⟨r, 2, 3, 5, 0, m, false, false, 0, 0, 0, 0, 0, 0, 0⟩, 0)) := expB_waits _ _ _ _ _ _ _ _ _ _ _ _ _ _ _ v HT2.out HI1.out HG1.out
    have HE5 : Hid (expB r 2 3 5 0 m false false 0 0 0 0 0 0 0 m = (⟨r, 1, 3, 5, 0, m, false, false, 0, 0, 0, 0, 0, 0, 0⟩, 0)) := expB_over _ _ _ _ _ _ _ _ _ _ _ _ _ _ _ m HT2.out HI2.out HG2.out
    have HE6 : Hid (canB r 2 3 5 0 m false false 0 0 0 0 0 0 0 = (⟨r, 1, 3, 5, 0, m, false, true, 0, 0, 0, 0, 0, 0, 0⟩, 0)) := canB_ok _ _ _ _ _ _ _ _ _ _ _ _ _ _ _ HT2.out (by decide)
    have HE7 : Hid (givB r 1 3 5 0 m false true 0 0 0 0 0 0 0 0 = (true, 0)) := (givB_ok _ _ _ _ _ _ _ _ _ _ _ _ _ _ _ 0 HT3.out (by decide)).trans rfl
    clear HU HNT HT1 HT2 HT3 HG1 HG2 HI1 HI2 HM1 HV0 HNW hr0 hr1 qa
    go_wp2_with (refine wpList_load_row rfl 25 _ rfl (w3.heap.size) rfl 25 _ (0, 0) _ bT_3.out Try.underlying25 rfl info_th ?_)
    refine (implBegin_any r 0 0 0 0 0 false false 0 0 0 0 0 0 0 3 5 m _ r 1 3 5 0 m false false 0 0 0 0 0 0 0 0 HBG.out).mono ?_
    rintro e w4 ⟨rfl, hb⟩
    have HBx := Lib.hid (below_trans HB3.out hb)
    have bTx := Lib.hid (bT_3.out.below hb)
    clear hb HB3 bT_3 HBG
    have HB4 := Lib.hid (below_row HBx.out HZ3.out #[.int .i64 r, .int .i64 1, .int .i64 3, .int .i64 5, .int .i64 0, .int .i64 m, .bool false, .bool false, .int .i64 0, .int .i64 0, .int .i64 0, .int .i64 0, .int .i64 0, .int .i64 0, .int .i64 0])
    have bT_4 := Lib.hid (bTx.out.row #[.int .i64 r, .int .i64 1, .int .i64 3, .int .i64 5, .int .i64 0, .int .i64 m, .bool false, .bool false, .int .i64 0, .int .i64 0, .int .i64 0, .int .i64 0, .int .i64 0, .int .i64 0, .int .i64 0])
    clear HBx HZ3
    as_aux_lemma =>
      go_wp2_with (first | (refine wpList_store_row rfl 25 _ _ rfl (w3.heap.size) _ rfl rfl 25 _ bTx.out info_th rfl (one15 _ _ _ _ _ _ _ _ _ _ _ _ _ _ _) ?_) | (refine wpList_load_row rfl 25 _ rfl (w3.heap.size) rfl 25 _ (0, 0) _ bT_4.out Try.underlying25 rfl info_th ?_))
      refine (implPark_any r 1 3 5 0 m false false 0 0 0 0 0 0 0 _ r 2 3 5 0 m false false 0 0 0 0 0 0 0 0 HE1.out).mono ?_
      rintro e w5 ⟨rfl, hb⟩
      have hbt := below_trans hb (below_alloc w5 (.cells #[.int .i64 r, .int .i64 2, .int .i64 3, .int .i64 5, .int .i64 0, .int .i64 m, .bool false, .bool false, .int .i64 0, .int .i64 0, .int .i64 0, .int .i64 0, .int .i64 0, .int .i64 0, .int .i64 0] 25))
      have HB5 := Lib.hid (below_trans HB4.out hbt)
      have bT_5 := Lib.hid (bT_4.out.below hbt)
      clear hb HB4 bT_4
      clear hbt
      have bP_5 := Lib.hid (BoxT.new w5 #[.int .i64 r, .int .i64 2, .int .i64 3, .int .i64 5, .int .i64 0, .int .i64 m, .bool false, .bool false, .int .i64 0, .int .i64 0, .int .i64 0, .int .i64 0, .int .i64 0, .int .i64 0, .int .i64 0])
      clear bTx
      as_aux_lemma =>
        go_wp2_with (refine wpList_load_row rfl 25 _ rfl (w5.heap.size) rfl 25 _ (0, 0) _ bP_5.out Try.underlying25 rfl info_th ?_)
        refine (implGives_any r 2 3 5 0 m false false 0 0 0 0 0 0 0 v _ false 0 HE2.out).mono ?_
        rintro e w6 ⟨rfl, hb⟩
        have HB6 := Lib.hid (below_trans HB5.out hb)
        have bT_6 := Lib.hid (bT_5.out.below hb)
        have bP_6 := Lib.hid (bP_5.out.below hb)
        clear HB5 bT_5 bP_5
        clear hb
        go_wp2_with (refine wpList_load_row rfl 25 _ rfl (w5.heap.size) rfl 25 _ (0, 0) _ bP_6.out Try.underlying25 rfl info_th ?_)
        refine (implGives_any r 2 3 5 0 m false false 0 0 0 0 0 0 0 m _ true 0 HE3.out).mono ?_
        rintro e w7 ⟨rfl, hb⟩
        have HB7 := Lib.hid (below_trans HB6.out hb)
        have bT_7 := Lib.hid (bT_6.out.below hb)
        have bP_7 := Lib.hid (bP_6.out.below hb)
        clear HB6 bT_6 bP_6
        clear hb
        as_aux_lemma =>
          go_wp2_with (refine wpList_load_row rfl 25 _ rfl (w5.heap.size) rfl 25 _ (0, 0) _ bP_7.out Try.underlying25 rfl info_th ?_)
          refine (implExpire_any r 2 3 5 0 m false false 0 0 0 0 0 0 0 v _ r 2 3 5 0 m false false 0 0 0 0 0 0 0 0 HE4.out).mono ?_
          rintro e w8 ⟨rfl, hb⟩
          have hbt := below_trans hb (below_alloc w8 (.cells #[.int .i64 r, .int .i64 2, .int .i64 3, .int .i64 5, .int .i64 0, .int .i64 m, .bool false, .bool false, .int .i64 0, .int .i64 0, .int .i64 0, .int .i64 0, .int .i64 0, .int .i64 0, .int .i64 0] 25))
          have HB8 := Lib.hid (below_trans HB7.out hbt)
          have bT_8 := Lib.hid (bT_7.out.below hbt)
          have bP_8 := Lib.hid (bP_7.out.below hbt)
          clear hb HB7 bT_7 bP_7
          clear hbt
          have bX1_8 := Lib.hid (BoxT.new w8 #[.int .i64 r, .int .i64 2, .int .i64 3, .int .i64 5, .int .i64 0, .int .i64 m, .bool false, .bool false, .int .i64 0, .int .i64 0, .int .i64 0, .int .i64 0, .int .i64 0, .int .i64 0, .int .i64 0])
          go_wp2_with (refine wpList_load_row rfl 25 _ rfl (w5.heap.size) rfl 25 _ (0, 0) _ bP_8.out Try.underlying25 rfl info_th ?_)
          refine (implExpire_any r 2 3 5 0 m false false 0 0 0 0 0 0 0 m _ r 1 3 5 0 m false false 0 0 0 0 0 0 0 0 HE5.out).mono ?_
          rintro e w9 ⟨rfl, hb⟩
          have hbt := below_trans hb (below_alloc w9 (.cells #[.int .i64 r, .int .i64 1, .int .i64 3, .int .i64 5, .int .i64 0, .int .i64 m, .bool false, .bool false, .int .i64 0, .int .i64 0, .int .i64 0, .int .i64 0, .int .i64 0, .int .i64 0, .int .i64 0] 25))
          have HB9 := Lib.hid (below_trans HB8.out hbt)
          have bT_9 := Lib.hid (bT_8.out.below hbt)
          have bP_9 := Lib.hid (bP_8.out.below hbt)
          have bX1_9 := Lib.hid (bX1_8.out.below hbt)
          clear hb HB8 bT_8 bP_8 bX1_8
          clear hbt
          have bY1_9 := Lib.hid (BoxT.new w9 #[.int .i64 r, .int .i64 1, .int .i64 3, .int .i64 5, .int .i64 0, .int .i64 m, .bool false, .bool false, .int .i64 0, .int .i64 0, .int .i64 0, .int .i64 0, .int .i64 0, .int .i64 0, .int .i64 0])
          as_aux_lemma =>
            go_wp2_with (refine wpList_load_row rfl 25 _ rfl (w5.heap.size) rfl 25 _ (0, 0) _ bP_9.out Try.underlying25 rfl info_th ?_)
            refine (implCancel_any r 2 3 5 0 m false false 0 0 0 0 0 0 0 _ r 1 3 5 0 m false true 0 0 0 0 0 0 0 0 HE6.out).mono ?_
            rintro e w10 ⟨rfl, hb⟩
            have hbt := below_trans hb (below_alloc w10 (.cells #[.int .i64 r, .int .i64 1, .int .i64 3, .int .i64 5, .int .i64 0, .int .i64 m, .bool false, .bool true, .int .i64 0, .int .i64 0, .int .i64 0, .int .i64 0, .int .i64 0, .int .i64 0, .int .i64 0] 25))
            have HB10 := Lib.hid (below_trans HB9.out hbt)
            have bT_10 := Lib.hid (bT_9.out.below hbt)
            have bP_10 := Lib.hid (bP_9.out.below hbt)
            have bX1_10 := Lib.hid (bX1_9.out.below hbt)
            have bY1_10 := Lib.hid (bY1_9.out.below hbt)
            clear hb HB9 bT_9 bP_9 bX1_9 bY1_9
            clear hbt
            have bC_10 := Lib.hid (BoxT.new w10 #[.int .i64 r, .int .i64 1, .int .i64 3, .int .i64 5, .int .i64 0, .int .i64 m, .bool false, .bool true, .int .i64 0, .int .i64 0, .int .i64 0, .int .i64 0, .int .i64 0, .int .i64 0, .int .i64 0])
            go_wp2_with (refine wpList_load_row rfl 25 _ rfl (w10.heap.size) rfl 25 _ (0, 0) _ bC_10.out Try.underlying25 rfl info_th ?_)
            refine (implGives_any r 1 3 5 0 m false true 0 0 0 0 0 0 0 0 _ true 0 HE7.out).mono ?_
            rintro e w11 ⟨rfl, hb⟩
            have HB11 := Lib.hid (below_trans HB10.out hb)
            have bT_11 := Lib.hid (bT_10.out.below hb)
            have bP_11 := Lib.hid (bP_10.out.below hb)
            have bX1_11 := Lib.hid (bX1_10.out.below hb)
            have bY1_11 := Lib.hid (bY1_10.out.below hb)
            have bC_11 := Lib.hid (bC_10.out.below hb)
            clear HB10 bT_10 bP_10 bX1_10 bY1_10 bC_10
            clear hb
            clear HE1 HE2 HE3 HE4 HE5 HE6 HE7 qb
            as_aux_lemma =>
              go_wp2_with fail
              refine (ThreadDrawn_any A1 n1 c1 _ HM.out (HA1.out.below HB11.out)).mono ?_
              rintro e w12 ⟨id, st, op, arg, pc, til, per, can, r0, r1, r2, r3, r4, code, res, hth, rfl, hb⟩
              have HTX := Lib.hid hth; clear hth
              have hbt := below_trans hb (below_alloc w12 (.cells #[.int .i64 id, .int .i64 st, .int .i64 op, .int .i64 arg, .int .i64 pc, .int .i64 til, .bool per, .bool can, .int .i64 r0, .int .i64 r1, .int .i64 r2, .int .i64 r3, .int .i64 r4, .int .i64 code, .int .i64 res] 25))
              have HB12 := Lib.hid (below_trans HB11.out hbt)
              have bT_12 := Lib.hid (bT_11.out.below hbt)
              have bP_12 := Lib.hid (bP_11.out.below hbt)
              have bX1_12 := Lib.hid (bX1_11.out.below hbt)
              have bY1_12 := Lib.hid (bY1_11.out.below hbt)
              have bC_12 := Lib.hid (bC_11.out.below hbt)
              clear hb HB11 bT_11 bP_11 bX1_11 bY1_11 bC_11
              clear hbt
              have bX_12 := Lib.hid (BoxT.new w12 #[.int .i64 id, .int .i64 st, .int .i64 op, .int .i64 arg, .int .i64 pc, .int .i64 til, .bool per, .bool can, .int .i64 r0, .int .i64 r1, .int .i64 r2, .int .i64 r3, .int .i64 r4, .int .i64 code, .int .i64 res])
              obtain ⟨⟨⟨x1_0, x1_1, x1_2, x1_3, x1_4, x1_5, x1_6, x1_7, x1_8, x1_9, x1_10, x1_11, x1_12, x1_13, x1_14⟩, e1⟩, hX1⟩ : ∃ p, canB id st op arg pc til per can r0 r1 r2 r3 r4 code res = p := ⟨_, rfl⟩
              have HX1 := Lib.hid hX1; clear hX1
              go_wp2_with (refine wpList_load_row rfl 25 _ rfl (w12.heap.size) rfl 25 _ (0, 0) _ bX_12.out Try.underlying25 rfl info_th ?_)
              refine (implCancel_any id st op arg pc til per can r0 r1 r2 r3 r4 code res _ x1_0 x1_1 x1_2 x1_3 x1_4 x1_5 x1_6 x1_7 x1_8 x1_9 x1_10 x1_11 x1_12 x1_13 x1_14 e1 HX1.out).mono ?_
              rintro e w13 ⟨rfl, hb⟩
              have hbt := below_trans hb (below_alloc w13 (.cells #[.int .i64 x1_0, .int .i64 x1_1, .int .i64 x1_2, .int .i64 x1_3, .int .i64 x1_4, .int .i64 x1_5, .bool x1_6, .bool x1_7, .int .i64 x1_8, .int .i64 x1_9, .int .i64 x1_10, .int .i64 x1_11, .int .i64 x1_12, .int .i64 x1_13, .int .i64 x1_14] 25))
              have HB13 := Lib.hid (below_trans HB12.out hbt)
              have bT_13 := Lib.hid (bT_12.out.below hbt)
              have bP_13 := Lib.hid (bP_12.out.below hbt)
              have bX1_13 := Lib.hid (bX1_12.out.below hbt)
              have bY1_13 := Lib.hid (bY1_12.out.below hbt)
              have bC_13 := Lib.hid (bC_12.out.below hbt)
              have bX_13 := Lib.hid (bX_12.out.below hbt)
              clear hb HB12 bT_12 bP_12 bX1_12 bY1_12 bC_12 bX_12
              clear hbt
              have bU_13 := Lib.hid (BoxT.new w13 #[.int .i64 x1_0, .int .i64 x1_1, .int .i64 x1_2, .int .i64 x1_3, .int .i64 x1_4, .int .i64 x1_5, .bool x1_6, .bool x1_7, .int .i64 x1_8, .int .i64 x1_9, .int .i64 x1_10, .int .i64 x1_11, .int .i64 x1_12, .int .i64 x1_13, .int .i64 x1_14])
              as_aux_lemma =>
                go_wp2_with (refine wpList_load_row rfl 25 _ rfl (w12.heap.size) rfl 25 _ (0, 0) _ bX_13.out Try.underlying25 rfl info_th ?_)
                refine (specCancel_any id st op arg pc til per can r0 r1 r2 r3 r4 code res _ x1_0 x1_1 x1_2 x1_3 x1_4 x1_5 x1_6 x1_7 x1_8 x1_9 x1_10 x1_11 x1_12 x1_13 x1_14 e1 HX1.out).mono ?_
                rintro e w14 ⟨rfl, hb⟩
                have hbt := below_trans hb (below_alloc w14 (.cells #[.int .i64 x1_0, .int .i64 x1_1, .int .i64 x1_2, .int .i64 x1_3, .int .i64 x1_4, .int .i64 x1_5, .bool x1_6, .bool x1_7, .int .i64 x1_8, .int .i64 x1_9, .int .i64 x1_10, .int .i64 x1_11, .int .i64 x1_12, .int .i64 x1_13, .int .i64 x1_14] 25))
                have HB14 := Lib.hid (below_trans HB13.out hbt)
                have bT_14 := Lib.hid (bT_13.out.below hbt)
                have bP_14 := Lib.hid (bP_13.out.below hbt)
                have bX1_14 := Lib.hid (bX1_13.out.below hbt)
                have bY1_14 := Lib.hid (bY1_13.out.below hbt)
                have bC_14 := Lib.hid (bC_13.out.below hbt)
                have bX_14 := Lib.hid (bX_13.out.below hbt)
                have bU_14 := Lib.hid (bU_13.out.below hbt)
                clear hb HB13 bT_13 bP_13 bX1_13 bY1_13 bC_13 bX_13 bU_13
                clear hbt
                have bV_14 := Lib.hid (BoxT.new w14 #[.int .i64 x1_0, .int .i64 x1_1, .int .i64 x1_2, .int .i64 x1_3, .int .i64 x1_4, .int .i64 x1_5, .bool x1_6, .bool x1_7, .int .i64 x1_8, .int .i64 x1_9, .int .i64 x1_10, .int .i64 x1_11, .int .i64 x1_12, .int .i64 x1_13, .int .i64 x1_14])
                clear HX1 HTX
                as_aux_lemma =>
                  have hcX1 := bX1_14.out.cell
                  have hcP := bP_14.out.cell
                  have hcY1 := bY1_14.out.cell
                  have hcC := bC_14.out.cell
                  have hcU := bU_14.out.cell
                  have hcV := bV_14.out.cell
                  have hq1 : ∀ wx : World, (binOp .eql 25 (.agg #[.int .i64 r, .int .i64 2, .int .i64 3, .int .i64 5, .int .i64 0, .int .i64 m, .bool false, .bool false, .int .i64 0, .int .i64 0, .int .i64 0, .int .i64 0, .int .i64 0, .int .i64 0, .int .i64 0]) (.agg #[.int .i64 r, .int .i64 2, .int .i64 3, .int .i64 5, .int .i64 0, .int .i64 m, .bool false, .bool false, .int .i64 0, .int .i64 0, .int .i64 0, .int .i64 0, .int .i64 0, .int .i64 0, .int .i64 0])).run Try.prog wx = .ok (.bool true) wx := fun wx => by rw [run_eql_thread r 2 3 5 0 m false false 0 0 0 0 0 0 0 r 2 3 5 0 m false false 0 0 0 0 0 0 0 wx, eqTh_refl]
                  have hq2 : ∀ wx : World, (binOp .eql 25 (.agg #[.int .i64 x1_0, .int .i64 x1_1, .int .i64 x1_2, .int .i64 x1_3, .int .i64 x1_4, .int .i64 x1_5, .bool x1_6, .bool x1_7, .int .i64 x1_8, .int .i64 x1_9, .int .i64 x1_10, .int .i64 x1_11, .int .i64 x1_12, .int .i64 x1_13, .int .i64 x1_14]) (.agg #[.int .i64 x1_0, .int .i64 x1_1, .int .i64 x1_2, .int .i64 x1_3, .int .i64 x1_4, .int .i64 x1_5, .bool x1_6, .bool x1_7, .int .i64 x1_8, .int .i64 x1_9, .int .i64 x1_10, .int .i64 x1_11, .int .i64 x1_12, .int .i64 x1_13, .int .i64 x1_14])).run Try.prog wx = .ok (.bool true) wx := fun wx => by rw [run_eql_thread x1_0 x1_1 x1_2 x1_3 x1_4 x1_5 x1_6 x1_7 x1_8 x1_9 x1_10 x1_11 x1_12 x1_13 x1_14 x1_0 x1_1 x1_2 x1_3 x1_4 x1_5 x1_6 x1_7 x1_8 x1_9 x1_10 x1_11 x1_12 x1_13 x1_14 wx, eqTh_refl]
                  have hw3 : waitB 3 = true := by decide
                  have hw4 : waitB 4 = false := by decide
                  go_wp2_with (go_at_call 24; refine (implIsWaiting_any _ _).mono ?_; rintro e w' ⟨rfl, rfl⟩)
                  go_ret
                  exact ⟨rfl, HB14.out⟩
end Go.Proofs.Ytepjaahclcpaaaa
