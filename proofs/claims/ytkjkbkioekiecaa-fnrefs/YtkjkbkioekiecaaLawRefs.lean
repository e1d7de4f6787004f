/-
  The walk of the law FnRefs.
-/
import Derived.Test.YtkjkbkioekiecaaNodesB
import Derived.Test.YtkjkbkioekiecaaAtS
namespace Go.Proofs.Ytkjkbkioekiecaa
open Go.RowKit

theorem half_even (k : Int) (h : 0 ≤ k) : halfI (2 * k) = k ∧ bringsB (2 * k) = false := by
  unfold halfI bringsB
  rw [Int.tdiv_eq_ediv_of_nonneg (by omega), Int.tmod_eq_emod_of_nonneg (by omega)]
  exact ⟨by omega, by simp⟩
theorem half_odd (k : Int) (h : 0 ≤ k) : halfI (2 * k + 1) = k ∧ bringsB (2 * k + 1) = true := by
  unfold halfI bringsB
  rw [Int.tdiv_eq_ediv_of_nonneg (by omega), Int.tmod_eq_emod_of_nonneg (by omega)]
  exact ⟨by omega, by simp⟩
theorem refB_even {k : Int} (h : 1 ≤ k ∧ k ≤ 399) : refB k false = (2 * k, 0) ∧ nodeB (2 * k) = (k, false, 0) := by
  refine ⟨by rw [refB_in (inB_iff.2 h)]; simp [bitI], ?_⟩
  rw [nodeB_in (inB_iff.2 (by omega)), (half_even k (by omega)).1, (half_even k (by omega)).2]
theorem refB_odd {k : Int} (h : 1 ≤ k ∧ k ≤ 399) : refB k true = (2 * k + 1, 0) ∧ nodeB (2 * k + 1) = (k, true, 0) := by
  refine ⟨by rw [refB_in (inB_iff.2 h)]; simp [bitI], ?_⟩
  rw [nodeB_in (inB_iff.2 (by omega)), (half_odd k (by omega)).1, (half_odd k (by omega)).2]

set_option maxHeartbeats 1000000 in
set_option maxRecDepth 100000 in
theorem lawRefs_walk (A : Option Addr) (c n : Nat) (w : World) (_hm : n ≤ maxLen) (hA : RdB w A n) :
    Calls Try.prog 3 #[.slice A n c] w fun e w' => e = .returned (.bool true) ∧ Below w.heap.size w w' := by
  have HA := Lib.hid hA; clear hA
  by_cases hb1 : 1048576 < n
  · go_enter Try.func3, Try.ntmps3
    go_wp2
    go_ret
    exact ⟨rfl, Below.refl _ _⟩
  have hd1 : decide (1048576 < n) = false := decide_eq_false hb1
  have hs1 : n ≤ 1048576 := by omega
  go_enter Try.func3, Try.ntmps3
  go_wp2_with fail
  refine (at_any A n c 0 399 _ hs1 (by decide) (by decide) (by decide) HA.out).mono ?_
  rintro e w1 ⟨v, hv0, hv1, rfl, hb⟩
  have HB1 := Lib.hid hb; clear hb
  obtain ⟨k, hk⟩ : ∃ k, 1 + v = k := ⟨_, rfl⟩
  have hk1 : 1 ≤ k ∧ k ≤ 399 := by omega
  have hkw : IntKind.i64.wrap (1 + v) = k := by rw [hk]; exact IntWalk.i64_in _ (by omega)
  have HE := Lib.hid (refB_even hk1); have HO := Lib.hid (refB_odd hk1)
  have hne : (2 * k + 1 != 2 * k) = true := by simp; omega
  have hne' : (2 * k != 2 * k + 1) = true := by simp; omega
  clear hk
  go_wp2_with fail
  refine (at_any A n c 1 2 _ hs1 (by decide) (by decide) (by decide) (HA.out.below HB1.out)).mono ?_
  rintro e w2 ⟨u, hu0, hu1, rfl, hb⟩
  have HB2 := Lib.hid (below_trans HB1.out hb); clear hb HB1
  by_cases hu : u = 1
  · subst hu
    go_wp2_with fail
    refine (implNodeRef_any k true _ _ _ HO.out.1).mono ?_
    rintro e w' ⟨rfl, rfl⟩
    go_wp2_with fail
    refine (implNodeAt_any _ _ _ _ _ HO.out.2).mono ?_
    rintro e w' ⟨rfl, rfl⟩
    go_wp2_with fail
    refine (implNodeRef_any k false _ _ _ HE.out.1).mono ?_
    rintro e w' ⟨rfl, rfl⟩
    go_wp2_with (go_at_call 13; refine (implItemWaits_any _ _ _).mono ?_; rintro e w' ⟨rfl, rfl⟩)
    go_ret
    exact ⟨rfl, HB2.out⟩
  · obtain rfl : u = 0 := by omega
    go_wp2_with fail
    refine (implNodeRef_any k false _ _ _ HE.out.1).mono ?_
    rintro e w' ⟨rfl, rfl⟩
    go_wp2_with fail
    refine (implNodeAt_any _ _ _ _ _ HE.out.2).mono ?_
    rintro e w' ⟨rfl, rfl⟩
    go_wp2_with fail
    refine (implNodeRef_any k true _ _ _ HO.out.1).mono ?_
    rintro e w' ⟨rfl, rfl⟩
    go_wp2_with (go_at_call 13; refine (implItemWaits_any _ _ _).mono ?_; rintro e w' ⟨rfl, rfl⟩)
    go_ret
    exact ⟨rfl, HB2.out⟩
end Go.Proofs.Ytkjkbkioekiecaa
