/-
  The walk of the law FnPark.
-/
import Derived.Test.YtepjaahclcpaaaaPkE
import Derived.Test.YtepjaahclcpaaaaPkF
import Derived.Test.YtepjaahclcpaaaaDrawB
import Derived.Test.YtepjaahclcpaaaaAtS
import Derived.Test.YtepjaahclcpaaaaBoxG
import Derived.Deep.DeepCutAuto
import Derived.Deep.RegionLaw
namespace Go.Proofs.Ytepjaahclcpaaaa
open Go.RowKit

theorem at_zero (A : Option Addr) (n c : Nat) (q : Int) (w : World) (hn : n ≤ 1048576) (hq1 : 1 < q) (hq2 : q ≤ 1000000) (hA : RdB w A n) :
    Calls Try.prog 12 #[.slice A n c, .int .i64 0, .int .i64 q] w fun e w' => ∃ r : Int, 0 ≤ r ∧ r < q ∧ e = .returned (.int .i64 r) ∧ Below w.heap.size w w' := at_any A n c 0 q w hn (by decide) hq1 hq2 hA
theorem tilB_two {u : Int} (h0 : 0 ≤ u) (h1 : u < 20) : tilB 2 u = true := inB_iff.2 ⟨h0, by show u ≤ 1000000; omega⟩

set_option maxHeartbeats 4000000 in
set_option maxRecDepth 100000 in
theorem lawPark_walk (A1 : Option Addr) (c1 n1 : Nat) (A2 : Option Addr) (c2 n2 : Nat) (w : World) (hm1 : n1 ≤ maxLen) (hA1 : RdB w A1 n1) (_hm2 : n2 ≤ maxLen) (hA2 : RdB w A2 n2) :
    Calls Try.prog 3 #[.slice A1 n1 c1, .slice A2 n2 c2] w fun e w' => e = .returned (.bool true) ∧ Below w.heap.size w w' := by
  have HA1 := Lib.hid hA1; have HA2 := Lib.hid hA2; have HM := Lib.hid hm1; clear hA1 hA2 _hm2
  by_cases hb1 : 1048576 < n1
  · go_enter Try.func3, Try.ntmps3
    go_wp2
    go_ret
    exact ⟨rfl, Below.refl _ _⟩
  have hd1 : decide (1048576 < n1) = false := decide_eq_false hb1
  by_cases hb2 : 1048576 < n2
  · go_enter Try.func3, Try.ntmps3
    go_wp2
    go_ret
    exact ⟨rfl, Below.refl _ _⟩
  have hd2 : decide (1048576 < n2) = false := decide_eq_false hb2
  have hs1 : n1 ≤ 1048576 := by omega
  have hs2 : n2 ≤ 1048576 := by omega
  go_enter Try.func3, Try.ntmps3
  have HB0 : Hid (Below w.heap.size w w) := Below.refl _ _
  go_wp2_with fail
  refine (at_any A1 n1 c1 0 4 _ hs1 (by decide) (by decide) (by decide) (HA1.out.below HB0.out)).mono ?_
  rintro e w1 ⟨r, hr0, hr1, rfl, hb⟩
  have HB1 := Lib.hid (below_trans HB0.out hb)
  clear HB0 
  clear hb
  have HNW : Hid (newB r = (⟨r, 0, 0, 0, 0, 0, false, false, 0, 0, 0, 0, 0, 0, 0⟩, 0)) := by unfold Hid newB; rw [if_pos (inB_iff.2 (by omega))]
  go_wp2_with fail
  refine (implNewThread_any r _ r 0 0 0 0 0 false false 0 0 0 0 0 0 0 0 HNW.out).mono ?_
  rintro e w2 ⟨rfl, hb⟩
  have HZ2 : Hid (w.heap.size ≤ w2.heap.size) := (below_trans HB1.out hb).size
  have hbt := below_trans hb (below_alloc w2 (.cells #[.int .i64 r, .int .i64 0, .int .i64 0, .int .i64 0, .int .i64 0, .int .i64 0, .bool false, .bool false, .int .i64 0, .int .i64 0, .int .i64 0, .int .i64 0, .int .i64 0, .int .i64 0, .int .i64 0] 25))
  have HB2 := Lib.hid (below_trans HB1.out hbt)
  clear hb HB1 
  clear hbt
  have bT_2 := Lib.hid (BoxT.new w2 #[.int .i64 r, .int .i64 0, .int .i64 0, .int .i64 0, .int .i64 0, .int .i64 0, .bool false, .bool false, .int .i64 0, .int .i64 0, .int .i64 0, .int .i64 0, .int .i64 0, .int .i64 0, .int .i64 0])
  have HNT : Hid (thB r 0 0 0 0 0 false false 0 0 0 0 0 0 0 = true) := th_idle_ok hr0 hr1 (by decide) (by decide) (by decide) (by decide)
  have HA22 := Lib.hid (HA2.out.below HB2.out)
  go_wp2_with fail
  generalize w2.alloc (.cells #[.int .i64 r, .int .i64 0, .int .i64 0, .int .i64 0, .int .i64 0, .int .i64 0, .bool false, .bool false, .int .i64 0, .int .i64 0, .int .i64 0, .int .i64 0, .int .i64 0, .int .i64 0, .int .i64 0] 25) = w3 at HB2 bT_2 HA22 ⊢
  have hzt : w.heap.size ≤ w2.heap.size := HZ2.out
  go_cut [7] (fun s7 wx => s7 = .int .i64 0 ∧ ∃ u : Int, 0 ≤ u ∧ u < 20 ∧ BoxT wx w2.heap.size #[.int .i64 r, .int .i64 1, .int .i64 2, .int .i64 0, .int .i64 0, .int .i64 u, .bool false, .bool false, .int .i64 0, .int .i64 0, .int .i64 0, .int .i64 0, .int .i64 0, .int .i64 0, .int .i64 0] ∧ Below w.heap.size w wx)
  case first =>
    have hx3 := bT_2.out.cell
    have HBd : Hid (∀ u : World, Below w3.drew.heap.size w3.drew u → Below w3.heap.size w3 u) := fun u h => below_drew_trans h
    have HA2d : Hid (RdB w3.drew A2 n2) := HA22.out
    go_region_law (first
      | (go_simp; go_at_call 12; (with_reducible refine (at_zero A2 n2 c2 20 w3.drew hs2 (by decide) (by decide) HA2d.out).mono ?_); rintro e w4 ⟨u, hu0, hu1, rfl, hb4⟩; have bT_4 := Lib.hid (bT_2.out.below (HBd.out _ hb4)); have HB4 := Lib.hid (below_trans HB2.out (HBd.out _ hb4)); have hx4 := bT_4.out.cell; clear hb4)
      | (go_simp; go_at_call 13; (with_reducible refine (implBegin_ok r 0 0 0 0 0 false false 0 0 0 0 0 0 0 2 0 u w4 HNT.out (by decide) (by decide) (tilB_two hu0 hu1) rfl).mono ?_); rintro e w5 ⟨rfl, hb5⟩; have bT_5 := Lib.hid (bT_4.out.below hb5); have HB5 := Lib.hid (below_trans HB4.out hb5); have hc5 := bT_5.out.cell; have hf5 := bT_5.out.froz; clear hb5))
    all_goals
      rw [row15 bT_5.out]
      go_wp2_with fail
      go_meet
      exact ⟨rfl, u, hu0, hu1, bT_5.out.row _, below_row HB5.out hzt _⟩
  case rest =>
  obtain ⟨rfl, u, hu0, hu1, hbx, hbw⟩ := hcut
  clear HB2 bT_2 HA22 HNT HNW HA2 hs2
  have HB3 := Lib.hid hbw; have bT_3 := Lib.hid hbx; clear hbw hbx
  have HU := Lib.hid (tilB_two hu0 hu1)
  have HT1 : Hid (thB r 1 2 0 0 u false false 0 0 0 0 0 0 0 = true) := th_call_ok hr0 hr1 (by decide) (by decide) HU.out (by decide) (by decide)
  have HT2 : Hid (thB r 2 2 0 0 u false false 0 0 0 0 0 0 0 = true) := th_park_ok hr0 hr1 (by decide) (by decide) HU.out (by decide) (by decide) (by decide)
  have HT3 : Hid (thB r 1 2 0 0 u true false 0 0 0 0 0 0 0 = true) := th_call_ok hr0 hr1 (by decide) (by decide) HU.out (by decide) (by decide)
  have HE1 : Hid (parkB r 1 2 0 0 u false false 0 0 0 0 0 0 0 = (⟨r, 2, 2, 0, 0, u, false, false, 0, 0, 0, 0, 0, 0, 0⟩, 0)) := parkB_parks _ _ _ _ _ _ _ _ _ _ _ _ _ _ _ HT1.out (by decide) (by decide) rfl
  have HE2 : Hid (unpB r 2 2 0 0 u false false 0 0 0 0 0 0 0 = (⟨r, 1, 2, 0, 0, u, false, false, 0, 0, 0, 0, 0, 0, 0⟩, 0)) := unpB_parked _ _ _ _ _ _ _ _ _ _ _ _ _ _ _ HT2.out (by decide)
  have HE3 : Hid (unpB r 1 2 0 0 u false false 0 0 0 0 0 0 0 = (⟨r, 1, 2, 0, 0, u, true, false, 0, 0, 0, 0, 0, 0, 0⟩, 0)) := unpB_other _ _ _ _ _ _ _ _ _ _ _ _ _ _ _ HT1.out (by decide)
  have HE4 : Hid (parkB r 1 2 0 0 u true false 0 0 0 0 0 0 0 = (⟨r, 1, 2, 0, 0, u, false, false, 0, 0, 0, 0, 0, 0, 0⟩, 0)) := parkB_permit _ _ _ _ _ _ _ _ _ _ _ _ _ _ _ HT3.out (by decide) (by decide) rfl
  have HE5 : Hid (wakB r 2 2 0 0 u false false 0 0 0 0 0 0 0 = (⟨r, 1, 2, 0, 0, u, false, false, 0, 0, 0, 0, 0, 0, 0⟩, 0)) := wakB_ok _ _ _ _ _ _ _ _ _ _ _ _ _ _ _ HT2.out (by decide)
  clear HU HT1 HT2 HT3 hr0 hr1 hu0 hu1
  as_aux_lemma =>
    go_wp2_with (refine wpList_load_row rfl 25 _ rfl (w2.heap.size) rfl 25 _ (0, 0) _ bT_3.out Try.underlying25 rfl info_th ?_)
    refine (implPark_any r 1 2 0 0 u false false 0 0 0 0 0 0 0 _ r 2 2 0 0 u false false 0 0 0 0 0 0 0 0 HE1.out).mono ?_
    rintro e w4 ⟨rfl, hb⟩
    have hbt := below_trans hb (below_alloc w4 (.cells #[.int .i64 r, .int .i64 2, .int .i64 2, .int .i64 0, .int .i64 0, .int .i64 u, .bool false, .bool false, .int .i64 0, .int .i64 0, .int .i64 0, .int .i64 0, .int .i64 0, .int .i64 0, .int .i64 0] 25))
    have HB4 := Lib.hid (below_trans HB3.out hbt)
    have bT_4 := Lib.hid (bT_3.out.below hbt)
    clear hb HB3 bT_3
    clear hbt
    have bP_4 := Lib.hid (BoxT.new w4 #[.int .i64 r, .int .i64 2, .int .i64 2, .int .i64 0, .int .i64 0, .int .i64 u, .bool false, .bool false, .int .i64 0, .int .i64 0, .int .i64 0, .int .i64 0, .int .i64 0, .int .i64 0, .int .i64 0])
    go_wp2_with (refine wpList_load_row rfl 25 _ rfl (w4.heap.size) rfl 25 _ (0, 0) _ bP_4.out Try.underlying25 rfl info_th ?_)
    refine (implUnpark_any r 2 2 0 0 u false false 0 0 0 0 0 0 0 _ r 1 2 0 0 u false false 0 0 0 0 0 0 0 0 HE2.out).mono ?_
    rintro e w5 ⟨rfl, hb⟩
    have hbt := below_trans hb (below_alloc w5 (.cells #[.int .i64 r, .int .i64 1, .int .i64 2, .int .i64 0, .int .i64 0, .int .i64 u, .bool false, .bool false, .int .i64 0, .int .i64 0, .int .i64 0, .int .i64 0, .int .i64 0, .int .i64 0, .int .i64 0] 25))
    have HB5 := Lib.hid (below_trans HB4.out hbt)
    have bT_5 := Lib.hid (bT_4.out.below hbt)
    have bP_5 := Lib.hid (bP_4.out.below hbt)
    clear hb HB4 bT_4 bP_4
    clear hbt
    have bQ_5 := Lib.hid (BoxT.new w5 #[.int .i64 r, .int .i64 1, .int .i64 2, .int .i64 0, .int .i64 0, .int .i64 u, .bool false, .bool false, .int .i64 0, .int .i64 0, .int .i64 0, .int .i64 0, .int .i64 0, .int .i64 0, .int .i64 0])
    as_aux_lemma =>
      go_wp2_with (refine wpList_load_row rfl 25 _ rfl (w2.heap.size) rfl 25 _ (0, 0) _ bT_5.out Try.underlying25 rfl info_th ?_)
      refine (implUnpark_any r 1 2 0 0 u false false 0 0 0 0 0 0 0 _ r 1 2 0 0 u true false 0 0 0 0 0 0 0 0 HE3.out).mono ?_
      rintro e w6 ⟨rfl, hb⟩
      have hbt := below_trans hb (below_alloc w6 (.cells #[.int .i64 r, .int .i64 1, .int .i64 2, .int .i64 0, .int .i64 0, .int .i64 u, .bool true, .bool false, .int .i64 0, .int .i64 0, .int .i64 0, .int .i64 0, .int .i64 0, .int .i64 0, .int .i64 0] 25))
      have HB6 := Lib.hid (below_trans HB5.out hbt)
      have bT_6 := Lib.hid (bT_5.out.below hbt)
      have bP_6 := Lib.hid (bP_5.out.below hbt)
      have bQ_6 := Lib.hid (bQ_5.out.below hbt)
      clear hb HB5 bT_5 bP_5 bQ_5
      clear hbt
      have bR_6 := Lib.hid (BoxT.new w6 #[.int .i64 r, .int .i64 1, .int .i64 2, .int .i64 0, .int .i64 0, .int .i64 u, .bool true, .bool false, .int .i64 0, .int .i64 0, .int .i64 0, .int .i64 0, .int .i64 0, .int .i64 0, .int .i64 0])
      go_wp2_with (refine wpList_load_row rfl 25 _ rfl (w6.heap.size) rfl 25 _ (0, 0) _ bR_6.out Try.underlying25 rfl info_th ?_)
      refine (implPark_any r 1 2 0 0 u true false 0 0 0 0 0 0 0 _ r 1 2 0 0 u false false 0 0 0 0 0 0 0 0 HE4.out).mono ?_
      rintro e w7 ⟨rfl, hb⟩
      have hbt := below_trans hb (below_alloc w7 (.cells #[.int .i64 r, .int .i64 1, .int .i64 2, .int .i64 0, .int .i64 0, .int .i64 u, .bool false, .bool false, .int .i64 0, .int .i64 0, .int .i64 0, .int .i64 0, .int .i64 0, .int .i64 0, .int .i64 0] 25))
      have HB7 := Lib.hid (below_trans HB6.out hbt)
      have bT_7 := Lib.hid (bT_6.out.below hbt)
      have bP_7 := Lib.hid (bP_6.out.below hbt)
      have bQ_7 := Lib.hid (bQ_6.out.below hbt)
      have bR_7 := Lib.hid (bR_6.out.below hbt)
      clear hb HB6 bT_6 bP_6 bQ_6 bR_6
      clear hbt
      have bS_7 := Lib.hid (BoxT.new w7 #[.int .i64 r, .int .i64 1, .int .i64 2, .int .i64 0, .int .i64 0, .int .i64 u, .bool false, .bool false, .int .i64 0, .int .i64 0, .int .i64 0, .int .i64 0, .int .i64 0, .int .i64 0, .int .i64 0])
      as_aux_lemma =>
        go_wp2_with (refine wpList_load_row rfl 25 _ rfl (w7.heap.size) rfl 25 _ (0, 0) _ bS_7.out Try.underlying25 rfl info_th ?_)
        refine (implPark_any r 1 2 0 0 u false false 0 0 0 0 0 0 0 _ r 2 2 0 0 u false false 0 0 0 0 0 0 0 0 HE1.out).mono ?_
        rintro e w8 ⟨rfl, hb⟩
        have hbt := below_trans hb (below_alloc w8 (.cells #[.int .i64 r, .int .i64 2, .int .i64 2, .int .i64 0, .int .i64 0, .int .i64 u, .bool false, .bool false, .int .i64 0, .int .i64 0, .int .i64 0, .int .i64 0, .int .i64 0, .int .i64 0, .int .i64 0] 25))
        have HB8 := Lib.hid (below_trans HB7.out hbt)
        have bT_8 := Lib.hid (bT_7.out.below hbt)
        have bP_8 := Lib.hid (bP_7.out.below hbt)
        have bQ_8 := Lib.hid (bQ_7.out.below hbt)
        have bR_8 := Lib.hid (bR_7.out.below hbt)
        have bS_8 := Lib.hid (bS_7.out.below hbt)
        clear hb HB7 bT_7 bP_7 bQ_7 bR_7 bS_7
        clear hbt
        have bU_8 := Lib.hid (BoxT.new w8 #[.int .i64 r, .int .i64 2, .int .i64 2, .int .i64 0, .int .i64 0, .int .i64 u, .bool false, .bool false, .int .i64 0, .int .i64 0, .int .i64 0, .int .i64 0, .int .i64 0, .int .i64 0, .int .i64 0])
        go_wp2_with (refine wpList_load_row rfl 25 _ rfl (w8.heap.size) rfl 25 _ (0, 0) _ bU_8.out Try.underlying25 rfl info_th ?_)
        refine (implWake_any r 2 2 0 0 u false false 0 0 0 0 0 0 0 _ r 1 2 0 0 u false false 0 0 0 0 0 0 0 0 HE5.out).mono ?_
        rintro e w9 ⟨rfl, hb⟩
        have hbt := below_trans hb (below_alloc w9 (.cells #[.int .i64 r, .int .i64 1, .int .i64 2, .int .i64 0, .int .i64 0, .int .i64 u, .bool false, .bool false, .int .i64 0, .int .i64 0, .int .i64 0, .int .i64 0, .int .i64 0, .int .i64 0, .int .i64 0] 25))
        have HB9 := Lib.hid (below_trans HB8.out hbt)
        have bT_9 := Lib.hid (bT_8.out.below hbt)
        have bP_9 := Lib.hid (bP_8.out.below hbt)
        have bQ_9 := Lib.hid (bQ_8.out.below hbt)
        have bR_9 := Lib.hid (bR_8.out.below hbt)
        have bS_9 := Lib.hid (bS_8.out.below hbt)
        have bU_9 := Lib.hid (bU_8.out.below hbt)
        clear hb HB8 bT_8 bP_8 bQ_8 bR_8 bS_8 bU_8
        clear hbt
        have bW_9 := Lib.hid (BoxT.new w9 #[.int .i64 r, .int .i64 1, .int .i64 2, .int .i64 0, .int .i64 0, .int .i64 u, .bool false, .bool false, .int .i64 0, .int .i64 0, .int .i64 0, .int .i64 0, .int .i64 0, .int .i64 0, .int .i64 0])
        clear HE1 HE2 HE3 HE4 HE5
        as_aux_lemma =>
          go_wp2_with fail
          refine (ThreadDrawn_any A1 n1 c1 _ HM.out (HA1.out.below HB9.out)).mono ?_
          rintro e w10 ⟨id, st, op, arg, pc, til, per, can, r0, r1, r2, r3, r4, code, res, hth, rfl, hb⟩
          have HTX := Lib.hid hth; clear hth
          have hbt := below_trans hb (below_alloc w10 (.cells #[.int .i64 id, .int .i64 st, .int .i64 op, .int .i64 arg, .int .i64 pc, .int .i64 til, .bool per, .bool can, .int .i64 r0, .int .i64 r1, .int .i64 r2, .int .i64 r3, .int .i64 r4, .int .i64 code, .int .i64 res] 25))
          have HB10 := Lib.hid (below_trans HB9.out hbt)
          have bT_10 := Lib.hid (bT_9.out.below hbt)
          have bP_10 := Lib.hid (bP_9.out.below hbt)
          have bQ_10 := Lib.hid (bQ_9.out.below hbt)
          have bR_10 := Lib.hid (bR_9.out.below hbt)
          have bS_10 := Lib.hid (bS_9.out.below hbt)
          have bU_10 := Lib.hid (bU_9.out.below hbt)
          have bW_10 := Lib.hid (bW_9.out.below hbt)
          clear hb HB9 bT_9 bP_9 bQ_9 bR_9 bS_9 bU_9 bW_9
          clear hbt
          have bX_10 := Lib.hid (BoxT.new w10 #[.int .i64 id, .int .i64 st, .int .i64 op, .int .i64 arg, .int .i64 pc, .int .i64 til, .bool per, .bool can, .int .i64 r0, .int .i64 r1, .int .i64 r2, .int .i64 r3, .int .i64 r4, .int .i64 code, .int .i64 res])
          obtain ⟨⟨⟨x1_0, x1_1, x1_2, x1_3, x1_4, x1_5, x1_6, x1_7, x1_8, x1_9, x1_10, x1_11, x1_12, x1_13, x1_14⟩, e1⟩, hX1⟩ : ∃ p, parkB id st op arg pc til per can r0 r1 r2 r3 r4 code res = p := ⟨_, rfl⟩
          obtain ⟨⟨⟨x2_0, x2_1, x2_2, x2_3, x2_4, x2_5, x2_6, x2_7, x2_8, x2_9, x2_10, x2_11, x2_12, x2_13, x2_14⟩, e2⟩, hX2⟩ : ∃ p, unpB id st op arg pc til per can r0 r1 r2 r3 r4 code res = p := ⟨_, rfl⟩
          have HX1 := Lib.hid hX1; have HX2 := Lib.hid hX2; clear hX1 hX2
          go_wp2_with (refine wpList_load_row rfl 25 _ rfl (w10.heap.size) rfl 25 _ (0, 0) _ bX_10.out Try.underlying25 rfl info_th ?_)
          refine (implPark_any id st op arg pc til per can r0 r1 r2 r3 r4 code res _ x1_0 x1_1 x1_2 x1_3 x1_4 x1_5 x1_6 x1_7 x1_8 x1_9 x1_10 x1_11 x1_12 x1_13 x1_14 e1 HX1.out).mono ?_
          rintro e w11 ⟨rfl, hb⟩
          have hbt := below_trans hb (below_alloc w11 (.cells #[.int .i64 x1_0, .int .i64 x1_1, .int .i64 x1_2, .int .i64 x1_3, .int .i64 x1_4, .int .i64 x1_5, .bool x1_6, .bool x1_7, .int .i64 x1_8, .int .i64 x1_9, .int .i64 x1_10, .int .i64 x1_11, .int .i64 x1_12, .int .i64 x1_13, .int .i64 x1_14] 25))
          have HB11 := Lib.hid (below_trans HB10.out hbt)
          have bT_11 := Lib.hid (bT_10.out.below hbt)
          have bP_11 := Lib.hid (bP_10.out.below hbt)
          have bQ_11 := Lib.hid (bQ_10.out.below hbt)
          have bR_11 := Lib.hid (bR_10.out.below hbt)
          have bS_11 := Lib.hid (bS_10.out.below hbt)
          have bU_11 := Lib.hid (bU_10.out.below hbt)
          have bW_11 := Lib.hid (bW_10.out.below hbt)
          have bX_11 := Lib.hid (bX_10.out.below hbt)
          clear hb HB10 bT_10 bP_10 bQ_10 bR_10 bS_10 bU_10 bW_10 bX_10
          clear hbt
          have bY_11 := Lib.hid (BoxT.new w11 #[.int .i64 x1_0, .int .i64 x1_1, .int .i64 x1_2, .int .i64 x1_3, .int .i64 x1_4, .int .i64 x1_5, .bool x1_6, .bool x1_7, .int .i64 x1_8, .int .i64 x1_9, .int .i64 x1_10, .int .i64 x1_11, .int .i64 x1_12, .int .i64 x1_13, .int .i64 x1_14])
          as_aux_lemma =>
            go_wp2_with (refine wpList_load_row rfl 25 _ rfl (w10.heap.size) rfl 25 _ (0, 0) _ bX_11.out Try.underlying25 rfl info_th ?_)
            refine (specPark_any id st op arg pc til per can r0 r1 r2 r3 r4 code res _ x1_0 x1_1 x1_2 x1_3 x1_4 x1_5 x1_6 x1_7 x1_8 x1_9 x1_10 x1_11 x1_12 x1_13 x1_14 e1 HX1.out).mono ?_
            rintro e w12 ⟨rfl, hb⟩
            have hbt := below_trans hb (below_alloc w12 (.cells #[.int .i64 x1_0, .int .i64 x1_1, .int .i64 x1_2, .int .i64 x1_3, .int .i64 x1_4, .int .i64 x1_5, .bool x1_6, .bool x1_7, .int .i64 x1_8, .int .i64 x1_9, .int .i64 x1_10, .int .i64 x1_11, .int .i64 x1_12, .int .i64 x1_13, .int .i64 x1_14] 25))
            have HB12 := Lib.hid (below_trans HB11.out hbt)
            have bT_12 := Lib.hid (bT_11.out.below hbt)
            have bP_12 := Lib.hid (bP_11.out.below hbt)
            have bQ_12 := Lib.hid (bQ_11.out.below hbt)
            have bR_12 := Lib.hid (bR_11.out.below hbt)
            have bS_12 := Lib.hid (bS_11.out.below hbt)
            have bU_12 := Lib.hid (bU_11.out.below hbt)
            have bW_12 := Lib.hid (bW_11.out.below hbt)
            have bX_12 := Lib.hid (bX_11.out.below hbt)
            have bY_12 := Lib.hid (bY_11.out.below hbt)
            clear hb HB11 bT_11 bP_11 bQ_11 bR_11 bS_11 bU_11 bW_11 bX_11 bY_11
            clear hbt
            have bV_12 := Lib.hid (BoxT.new w12 #[.int .i64 x1_0, .int .i64 x1_1, .int .i64 x1_2, .int .i64 x1_3, .int .i64 x1_4, .int .i64 x1_5, .bool x1_6, .bool x1_7, .int .i64 x1_8, .int .i64 x1_9, .int .i64 x1_10, .int .i64 x1_11, .int .i64 x1_12, .int .i64 x1_13, .int .i64 x1_14])
            go_wp2_with (refine wpList_load_row rfl 25 _ rfl (w10.heap.size) rfl 25 _ (0, 0) _ bX_12.out Try.underlying25 rfl info_th ?_)
            refine (implUnpark_any id st op arg pc til per can r0 r1 r2 r3 r4 code res _ x2_0 x2_1 x2_2 x2_3 x2_4 x2_5 x2_6 x2_7 x2_8 x2_9 x2_10 x2_11 x2_12 x2_13 x2_14 e2 HX2.out).mono ?_
            rintro e w13 ⟨rfl, hb⟩
            have hbt := below_trans hb (below_alloc w13 (.cells #[.int .i64 x2_0, .int .i64 x2_1, .int .i64 x2_2, .int .i64 x2_3, .int .i64 x2_4, .int .i64 x2_5, .bool x2_6, .bool x2_7, .int .i64 x2_8, .int .i64 x2_9, .int .i64 x2_10, .int .i64 x2_11, .int .i64 x2_12, .int .i64 x2_13, .int .i64 x2_14] 25))
            have HB13 := Lib.hid (below_trans HB12.out hbt)
            have bT_13 := Lib.hid (bT_12.out.below hbt)
            have bP_13 := Lib.hid (bP_12.out.below hbt)
            have bQ_13 := Lib.hid (bQ_12.out.below hbt)
            have bR_13 := Lib.hid (bR_12.out.below hbt)
            have bS_13 := Lib.hid (bS_12.out.below hbt)
            have bU_13 := Lib.hid (bU_12.out.below hbt)
            have bW_13 := Lib.hid (bW_12.out.below hbt)
            have bX_13 := Lib.hid (bX_12.out.below hbt)
            have bY_13 := Lib.hid (bY_12.out.below hbt)
            have bV_13 := Lib.hid (bV_12.out.below hbt)
            clear hb HB12 bT_12 bP_12 bQ_12 bR_12 bS_12 bU_12 bW_12 bX_12 bY_12 bV_12
            clear hbt
            have bZ_13 := Lib.hid (BoxT.new w13 #[.int .i64 x2_0, .int .i64 x2_1, .int .i64 x2_2, .int .i64 x2_3, .int .i64 x2_4, .int .i64 x2_5, .bool x2_6, .bool x2_7, .int .i64 x2_8, .int .i64 x2_9, .int .i64 x2_10, .int .i64 x2_11, .int .i64 x2_12, .int .i64 x2_13, .int .i64 x2_14])
            as_aux_lemma =>
              go_wp2_with (refine wpList_load_row rfl 25 _ rfl (w10.heap.size) rfl 25 _ (0, 0) _ bX_13.out Try.underlying25 rfl info_th ?_)
              refine (specUnpark_any id st op arg pc til per can r0 r1 r2 r3 r4 code res _ x2_0 x2_1 x2_2 x2_3 x2_4 x2_5 x2_6 x2_7 x2_8 x2_9 x2_10 x2_11 x2_12 x2_13 x2_14 e2 HX2.out).mono ?_
              rintro e w14 ⟨rfl, hb⟩
              have hbt := below_trans hb (below_alloc w14 (.cells #[.int .i64 x2_0, .int .i64 x2_1, .int .i64 x2_2, .int .i64 x2_3, .int .i64 x2_4, .int .i64 x2_5, .bool x2_6, .bool x2_7, .int .i64 x2_8, .int .i64 x2_9, .int .i64 x2_10, .int .i64 x2_11, .int .i64 x2_12, .int .i64 x2_13, .int .i64 x2_14] 25))
              have HB14 := Lib.hid (below_trans HB13.out hbt)
              have bT_14 := Lib.hid (bT_13.out.below hbt)
              have bP_14 := Lib.hid (bP_13.out.below hbt)
              have bQ_14 := Lib.hid (bQ_13.out.below hbt)
              have bR_14 := Lib.hid (bR_13.out.below hbt)
              have bS_14 := Lib.hid (bS_13.out.below hbt)
              have bU_14 := Lib.hid (bU_13.out.below hbt)
              have bW_14 := Lib.hid (bW_13.out.below hbt)
              have bX_14 := Lib.hid (bX_13.out.below hbt)
              have bY_14 := Lib.hid (bY_13.out.below hbt)
              have bV_14 := Lib.hid (bV_13.out.below hbt)
              have bZ_14 := Lib.hid (bZ_13.out.below hbt)
              clear hb HB13 bT_13 bP_13 bQ_13 bR_13 bS_13 bU_13 bW_13 bX_13 bY_13 bV_13 bZ_13
              clear hbt
              have bD_14 := Lib.hid (BoxT.new w14 #[.int .i64 x2_0, .int .i64 x2_1, .int .i64 x2_2, .int .i64 x2_3, .int .i64 x2_4, .int .i64 x2_5, .bool x2_6, .bool x2_7, .int .i64 x2_8, .int .i64 x2_9, .int .i64 x2_10, .int .i64 x2_11, .int .i64 x2_12, .int .i64 x2_13, .int .i64 x2_14])
              clear HX1 HX2 HTX
              as_aux_lemma =>
                have hcP : (w14.alloc (.cells #[.int .i64 x2_0, .int .i64 x2_1, .int .i64 x2_2, .int .i64 x2_3, .int .i64 x2_4, .int .i64 x2_5, .bool x2_6, .bool x2_7, .int .i64 x2_8, .int .i64 x2_9, .int .i64 x2_10, .int .i64 x2_11, .int .i64 x2_12, .int .i64 x2_13, .int .i64 x2_14] 25)).cell? ⟨w4.heap.size, 1, none⟩ = some (.int .i64 2) := bP_14.out.cell 1
                have hcR : (w14.alloc (.cells #[.int .i64 x2_0, .int .i64 x2_1, .int .i64 x2_2, .int .i64 x2_3, .int .i64 x2_4, .int .i64 x2_5, .bool x2_6, .bool x2_7, .int .i64 x2_8, .int .i64 x2_9, .int .i64 x2_10, .int .i64 x2_11, .int .i64 x2_12, .int .i64 x2_13, .int .i64 x2_14] 25)).cell? ⟨w6.heap.size, 6, none⟩ = some (.bool true) := bR_14.out.cell 6
                have hq1 : ∀ wx : World, (binOp .eql 25 (.agg #[.int .i64 r, .int .i64 1, .int .i64 2, .int .i64 0, .int .i64 0, .int .i64 u, .bool false, .bool false, .int .i64 0, .int .i64 0, .int .i64 0, .int .i64 0, .int .i64 0, .int .i64 0, .int .i64 0]) (.agg #[.int .i64 r, .int .i64 1, .int .i64 2, .int .i64 0, .int .i64 0, .int .i64 u, .bool false, .bool false, .int .i64 0, .int .i64 0, .int .i64 0, .int .i64 0, .int .i64 0, .int .i64 0, .int .i64 0])).run Try.prog wx = .ok (.bool true) wx := fun wx => by rw [run_eql_thread r 1 2 0 0 u false false 0 0 0 0 0 0 0 r 1 2 0 0 u false false 0 0 0 0 0 0 0 wx, eqTh_refl]
                have hq2 : ∀ wx : World, (binOp .eql 25 (.agg #[.int .i64 r, .int .i64 2, .int .i64 2, .int .i64 0, .int .i64 0, .int .i64 u, .bool false, .bool false, .int .i64 0, .int .i64 0, .int .i64 0, .int .i64 0, .int .i64 0, .int .i64 0, .int .i64 0]) (.agg #[.int .i64 r, .int .i64 2, .int .i64 2, .int .i64 0, .int .i64 0, .int .i64 u, .bool false, .bool false, .int .i64 0, .int .i64 0, .int .i64 0, .int .i64 0, .int .i64 0, .int .i64 0, .int .i64 0])).run Try.prog wx = .ok (.bool true) wx := fun wx => by rw [run_eql_thread r 2 2 0 0 u false false 0 0 0 0 0 0 0 r 2 2 0 0 u false false 0 0 0 0 0 0 0 wx, eqTh_refl]
                have hq3 : ∀ wx : World, (binOp .eql 25 (.agg #[.int .i64 x1_0, .int .i64 x1_1, .int .i64 x1_2, .int .i64 x1_3, .int .i64 x1_4, .int .i64 x1_5, .bool x1_6, .bool x1_7, .int .i64 x1_8, .int .i64 x1_9, .int .i64 x1_10, .int .i64 x1_11, .int .i64 x1_12, .int .i64 x1_13, .int .i64 x1_14]) (.agg #[.int .i64 x1_0, .int .i64 x1_1, .int .i64 x1_2, .int .i64 x1_3, .int .i64 x1_4, .int .i64 x1_5, .bool x1_6, .bool x1_7, .int .i64 x1_8, .int .i64 x1_9, .int .i64 x1_10, .int .i64 x1_11, .int .i64 x1_12, .int .i64 x1_13, .int .i64 x1_14])).run Try.prog wx = .ok (.bool true) wx := fun wx => by rw [run_eql_thread x1_0 x1_1 x1_2 x1_3 x1_4 x1_5 x1_6 x1_7 x1_8 x1_9 x1_10 x1_11 x1_12 x1_13 x1_14 x1_0 x1_1 x1_2 x1_3 x1_4 x1_5 x1_6 x1_7 x1_8 x1_9 x1_10 x1_11 x1_12 x1_13 x1_14 wx, eqTh_refl]
                have hq4 : ∀ wx : World, (binOp .eql 25 (.agg #[.int .i64 x2_0, .int .i64 x2_1, .int .i64 x2_2, .int .i64 x2_3, .int .i64 x2_4, .int .i64 x2_5, .bool x2_6, .bool x2_7, .int .i64 x2_8, .int .i64 x2_9, .int .i64 x2_10, .int .i64 x2_11, .int .i64 x2_12, .int .i64 x2_13, .int .i64 x2_14]) (.agg #[.int .i64 x2_0, .int .i64 x2_1, .int .i64 x2_2, .int .i64 x2_3, .int .i64 x2_4, .int .i64 x2_5, .bool x2_6, .bool x2_7, .int .i64 x2_8, .int .i64 x2_9, .int .i64 x2_10, .int .i64 x2_11, .int .i64 x2_12, .int .i64 x2_13, .int .i64 x2_14])).run Try.prog wx = .ok (.bool true) wx := fun wx => by rw [run_eql_thread x2_0 x2_1 x2_2 x2_3 x2_4 x2_5 x2_6 x2_7 x2_8 x2_9 x2_10 x2_11 x2_12 x2_13 x2_14 x2_0 x2_1 x2_2 x2_3 x2_4 x2_5 x2_6 x2_7 x2_8 x2_9 x2_10 x2_11 x2_12 x2_13 x2_14 wx, eqTh_refl]
                go_upto_region 16 with fail
                simp only [List.append_eq, List.cons_append, List.nil_append]
                have HIct : Hid ((Try.prog.info? 25).map (·.size) = some (#[.int .i64 r, .int .i64 1, .int .i64 2, .int .i64 0, .int .i64 0, .int .i64 u, .bool false, .bool false, .int .i64 0, .int .i64 0, .int .i64 0, .int .i64 0, .int .i64 0, .int .i64 0, .int .i64 0] : Array Value).size) := info_th
                generalize (#[.int .i64 r, .int .i64 1, .int .i64 2, .int .i64 0, .int .i64 0, .int .i64 u, .bool false, .bool false, .int .i64 0, .int .i64 0, .int .i64 0, .int .i64 0, .int .i64 0, .int .i64 0, .int .i64 0] : Array Value) = ct at bT_14 bQ_14 bS_14 bW_14 hq1 HIct ⊢
                have HIcp : Hid ((Try.prog.info? 25).map (·.size) = some (#[.int .i64 r, .int .i64 2, .int .i64 2, .int .i64 0, .int .i64 0, .int .i64 u, .bool false, .bool false, .int .i64 0, .int .i64 0, .int .i64 0, .int .i64 0, .int .i64 0, .int .i64 0, .int .i64 0] : Array Value).size) := info_th
                generalize (#[.int .i64 r, .int .i64 2, .int .i64 2, .int .i64 0, .int .i64 0, .int .i64 u, .bool false, .bool false, .int .i64 0, .int .i64 0, .int .i64 0, .int .i64 0, .int .i64 0, .int .i64 0, .int .i64 0] : Array Value) = cp at bP_14 bU_14 hq2 HIcp ⊢
                have HIcx : Hid ((Try.prog.info? 25).map (·.size) = some (#[.int .i64 x1_0, .int .i64 x1_1, .int .i64 x1_2, .int .i64 x1_3, .int .i64 x1_4, .int .i64 x1_5, .bool x1_6, .bool x1_7, .int .i64 x1_8, .int .i64 x1_9, .int .i64 x1_10, .int .i64 x1_11, .int .i64 x1_12, .int .i64 x1_13, .int .i64 x1_14] : Array Value).size) := info_th
                generalize (#[.int .i64 x1_0, .int .i64 x1_1, .int .i64 x1_2, .int .i64 x1_3, .int .i64 x1_4, .int .i64 x1_5, .bool x1_6, .bool x1_7, .int .i64 x1_8, .int .i64 x1_9, .int .i64 x1_10, .int .i64 x1_11, .int .i64 x1_12, .int .i64 x1_13, .int .i64 x1_14] : Array Value) = cx at bY_14 bV_14 hq3 HIcx ⊢
                generalize (#[.int .i64 r, .int .i64 1, .int .i64 2, .int .i64 0, .int .i64 0, .int .i64 u, .bool true, .bool false, .int .i64 0, .int .i64 0, .int .i64 0, .int .i64 0, .int .i64 0, .int .i64 0, .int .i64 0] : Array Value) = cr at bR_14   ⊢
                generalize (#[.int .i64 id, .int .i64 st, .int .i64 op, .int .i64 arg, .int .i64 pc, .int .i64 til, .bool per, .bool can, .int .i64 r0, .int .i64 r1, .int .i64 r2, .int .i64 r3, .int .i64 r4, .int .i64 code, .int .i64 res] : Array Value) = cd at bX_14   ⊢
                go_wp2_with (first | (refine wpList_load_row_g rfl 25 _ rfl (w2.heap.size) rfl 25 _ (0, 0) _ bT_14.out Try.underlying25 rfl HIct.out ?_) | (refine wpList_load_row_g rfl 25 _ rfl (w5.heap.size) rfl 25 _ (0, 0) _ bQ_14.out Try.underlying25 rfl HIct.out ?_) | (refine wpList_load_row_g rfl 25 _ rfl (w7.heap.size) rfl 25 _ (0, 0) _ bS_14.out Try.underlying25 rfl HIct.out ?_) | (refine wpList_load_row_g rfl 25 _ rfl (w9.heap.size) rfl 25 _ (0, 0) _ bW_14.out Try.underlying25 rfl HIct.out ?_) | (refine wpList_load_row_g rfl 25 _ rfl (w4.heap.size) rfl 25 _ (0, 0) _ bP_14.out Try.underlying25 rfl HIcp.out ?_) | (refine wpList_load_row_g rfl 25 _ rfl (w8.heap.size) rfl 25 _ (0, 0) _ bU_14.out Try.underlying25 rfl HIcp.out ?_) | (refine wpList_load_row_g rfl 25 _ rfl (w11.heap.size) rfl 25 _ (0, 0) _ bY_14.out Try.underlying25 rfl HIcx.out ?_) | (refine wpList_load_row_g rfl 25 _ rfl (w12.heap.size) rfl 25 _ (0, 0) _ bV_14.out Try.underlying25 rfl HIcx.out ?_) | (refine wpList_load_row_g rfl 25 _ rfl (w13.heap.size) rfl 25 _ (0, 0) _ bZ_14.out Try.underlying25 rfl info_th ?_) | (refine wpList_load_row_g rfl 25 _ rfl (w14.heap.size) rfl 25 _ (0, 0) _ bD_14.out Try.underlying25 rfl info_th ?_))
                go_ret
                exact ⟨rfl, HB14.out⟩
end Go.Proofs.Ytepjaahclcpaaaa
