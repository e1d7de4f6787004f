/-
  Contracts: lists that are compared (the model's l01Same, the library's slices.Equal, the laws' sameInts), SameArena of both (chapter 2).
-/
import Derived.Test.YtiogebflfnicgaaAddB
namespace Go.Proofs.Ytiogebflfnicgaa
open Go.RowKit

set_option maxHeartbeats 1000000 in
theorem l01Same_any (A B : Option Addr) (c d : Nat) (xs ys : List Int) (w : World) (hn : xs.length ≤ maxLen) (hm : ys.length ≤ maxLen) (hA : Rd w A xs) (hB : Rd w B ys) :
    Calls Try.prog 50 #[.slice A xs.length c, .slice B ys.length d] w fun e w' => e = .returned (.bool (decide (xs = ys))) ∧ ∃ n, w' = w.drewN n := by
  unfold maxLen at hn hm
  by_cases hl : xs.length = ys.length
  · have hl' : ((xs.length : Int) != (ys.length : Int)) = false := by simp [hl]
    have HL := Lib.hid hl; clear hl
    have HA := Lib.hid hA; have HB := Lib.hid hB; clear hA hB
    go_enter Try.func50, Try.ntmps50
    go_wp2
    go_loopw [5] (fun i wr => ∃ k : Nat, k ≤ xs.length ∧ i = .int .i64 k ∧ (∀ j, j < k → xs.getD j 0 = ys.getD j 0) ∧ ∃ n, wr = w.drewN n) (fun i _ => xs.length - (intOf i).toNat)
    case atStart => exact ⟨0, Nat.zero_le _, rfl, fun j hj => absurd hj (by omega), 0, rfl⟩
    case round =>
      obtain ⟨k, hk, rfl, hsame, n, rfl⟩ := hrel
      have HS := Lib.hid hsame; clear hsame
      by_cases hlt : k < xs.length
      · have hlt' : k < ys.length := by have := HL.out; omega
        obtain ⟨b, o, rfl, hcell⟩ := HA.out k hlt
        obtain ⟨b', o', rfl, hcell'⟩ := HB.out k hlt'
        generalize hx : xs.getD k 0 = x at *
        generalize hy : ys.getD k 0 = y at *
        have HX := Lib.hid hx; have HY := Lib.hid hy; clear hx hy
        by_cases hxy : x = y
        · subst hxy
          go_wp2
          go_region
          all_goals
            go_wp2
            go_roundw
            case rel => exact ⟨k + 1, by omega, by go_num, fun j hj => by
              by_cases e : j < k
              · exact HS.out j e
              · obtain rfl : j = k := by omega
                rw [HX.out, HY.out], n + 1, rfl⟩
            case measure => simp [intOf]; omega
        · have hne : (x != y) = true := by simp [hxy]
          have HN : Hid (decide (xs = ys) = false) := by
            apply decide_eq_false
            rintro rfl
            exact hxy (HX.out.symm.trans HY.out)
          clear hxy
          go_wp2
          go_region
          all_goals
            go_wp2
            go_ret
            exact ⟨ret_bool HN.out.symm, n + 1, rfl⟩
      · have HN : Hid (decide (xs = ys) = true) := by
          apply decide_eq_true
          apply List.ext_getElem? 
          intro j
          by_cases hj : j < xs.length
          · have h1 := HS.out j (by omega)
            have hj' : j < ys.length := by have := HL.out; omega
            simp only [List.getD, List.getElem?_eq_getElem hj, List.getElem?_eq_getElem hj', Option.getD_some] at h1
            rw [List.getElem?_eq_getElem hj, List.getElem?_eq_getElem hj', h1]
          · rw [List.getElem?_eq_none (by omega), List.getElem?_eq_none (by have := HL.out; omega)]
        go_wp2
        go_ret
        exact ⟨ret_bool HN.out.symm, n, rfl⟩
  · have hl' : ((xs.length : Int) != (ys.length : Int)) = true := by simp; omega
    have HN : Hid (decide (xs = ys) = false) := by
      apply decide_eq_false
      rintro rfl
      exact hl rfl
    clear hl
    go_enter Try.func50, Try.ntmps50
    go_wp2
    go_ret
    exact ⟨ret_bool HN.out.symm, 0, rfl⟩

set_option maxHeartbeats 1000000 in
theorem slicesEqual_any (A B : Option Addr) (c d : Nat) (xs ys : List Int) (w : World) (hn : xs.length ≤ maxLen) (hm : ys.length ≤ maxLen) (hA : Rd w A xs) (hB : Rd w B ys) :
    Calls Try.prog 146 #[.slice A xs.length c, .slice B ys.length d] w fun e w' => e = .returned (.bool (decide (xs = ys))) ∧ ∃ n, w' = w.drewN n := by
  unfold maxLen at hn hm
  by_cases hl : xs.length = ys.length
  · have hl' : ((xs.length : Int) != (ys.length : Int)) = false := by simp [hl]
    have HL := Lib.hid hl; clear hl
    have HA := Lib.hid hA; have HB := Lib.hid hB; clear hA hB
    go_enter Try.func146, Try.ntmps146
    go_wp2
    go_loopw [13] (fun i wr => ∃ k : Nat, k ≤ xs.length ∧ i = .int .i64 k ∧ (∀ j, j < k → xs.getD j 0 = ys.getD j 0) ∧ ∃ n, wr = w.drewN n) (fun i _ => xs.length - (intOf i).toNat)
    case atStart => exact ⟨0, Nat.zero_le _, rfl, fun j hj => absurd hj (by omega), 0, rfl⟩
    case round =>
      obtain ⟨k, hk, rfl, hsame, n, rfl⟩ := hrel
      have HS := Lib.hid hsame; clear hsame
      by_cases hlt : k < xs.length
      · have hlt' : k < ys.length := by have := HL.out; omega
        obtain ⟨b, o, rfl, hcell⟩ := HA.out k hlt
        obtain ⟨b', o', rfl, hcell'⟩ := HB.out k hlt'
        generalize hx : xs.getD k 0 = x at *
        generalize hy : ys.getD k 0 = y at *
        have HX := Lib.hid hx; have HY := Lib.hid hy; clear hx hy
        by_cases hxy : x = y
        · subst hxy
          go_wp2
          go_region
          all_goals
            go_wp2
            go_roundw
            case rel => exact ⟨k + 1, by omega, by go_num, fun j hj => by
              by_cases e : j < k
              · exact HS.out j e
              · obtain rfl : j = k := by omega
                rw [HX.out, HY.out], n + 1, rfl⟩
            case measure => simp [intOf]; omega
        · have hne : (x != y) = true := by simp [hxy]
          have HN : Hid (decide (xs = ys) = false) := by
            apply decide_eq_false
            rintro rfl
            exact hxy (HX.out.symm.trans HY.out)
          clear hxy
          go_wp2
          go_region
          all_goals
            go_wp2
            go_ret
            exact ⟨ret_bool HN.out.symm, n + 1, rfl⟩
      · have HN : Hid (decide (xs = ys) = true) := by
          apply decide_eq_true
          apply List.ext_getElem? 
          intro j
          by_cases hj : j < xs.length
          · have h1 := HS.out j (by omega)
            have hj' : j < ys.length := by have := HL.out; omega
            simp only [List.getD, List.getElem?_eq_getElem hj, List.getElem?_eq_getElem hj', Option.getD_some] at h1
            rw [List.getElem?_eq_getElem hj, List.getElem?_eq_getElem hj', h1]
          · rw [List.getElem?_eq_none (by omega), List.getElem?_eq_none (by have := HL.out; omega)]
        go_wp2
        go_ret
        exact ⟨ret_bool HN.out.symm, n, rfl⟩
  · have hl' : ((xs.length : Int) != (ys.length : Int)) = true := by simp; omega
    have HN : Hid (decide (xs = ys) = false) := by
      apply decide_eq_false
      rintro rfl
      exact hl rfl
    clear hl
    go_enter Try.func146, Try.ntmps146
    go_wp2
    go_ret
    exact ⟨ret_bool HN.out.symm, 0, rfl⟩


set_option maxHeartbeats 1000000 in
theorem same_any (A B : Option Addr) (c d : Nat) (xs ys : List Int) (w : World) (hn : xs.length ≤ maxLen) (hm : ys.length ≤ maxLen) (hA : Rd w A xs) (hB : Rd w B ys) :
    Calls Try.prog 121 #[.slice A xs.length c, .slice B ys.length d] w fun e w' => e = .returned (.bool (decide (xs = ys))) ∧ ∃ n, w' = w.drewN n := by
  have HA := Lib.hid hA; have HB := Lib.hid hB; clear hA hB
  generalize hq : decide (xs = ys) = q
  have HQ := Lib.hid hq; clear hq
  go_enter Try.func121, Try.ntmps121
  go_wp2_with fail
  refine (slicesEqual_any _ _ _ _ xs ys _ hn hm HA.out HB.out).mono ?_
  rintro e w' ⟨rfl, n, rfl⟩
  rw [HQ.out]
  go_wp2
  go_ret
  exact ⟨rfl, n, rfl⟩

set_option maxHeartbeats 1000000 in
theorem specSameArena_any (A B : Option Addr) (c d : Nat) (xs ys : List Int) (w : World) (hn : xs.length ≤ maxLen) (hm : ys.length ≤ maxLen) (hA : Rd w A xs) (hB : Rd w B ys) :
    Calls Try.prog 74 #[.agg #[.slice A xs.length c], .agg #[.slice B ys.length d]] w fun e w' => e = .returned (.bool (decide (xs = ys))) ∧ Below w.heap.size w w' := by
  have HA := Lib.hid hA; have HB := Lib.hid hB; clear hA hB
  generalize hq : decide (xs = ys) = q
  have HQ := Lib.hid hq; clear hq
  go_enter Try.func74, Try.ntmps74
  go_wp2_with fail
  refine (l01Same_any _ _ _ _ xs ys _ hn hm (HA.out.below (below_alloc2 _ _ _)) (HB.out.below (below_alloc2 _ _ _))).mono ?_
  rintro e w' ⟨rfl, n, rfl⟩
  rw [HQ.out]
  go_wp2
  go_ret
  exact ⟨rfl, below_trans (below_alloc2 _ _ _) (below_drewN _)⟩

set_option maxHeartbeats 1000000 in
theorem implSameArena_any (A B : Option Addr) (c d : Nat) (xs ys : List Int) (w : World) (hn : xs.length ≤ maxLen) (hm : ys.length ≤ maxLen) (hA : Rd w A xs) (hB : Rd w B ys) :
    Calls Try.prog 80 #[.agg #[.slice A xs.length c], .agg #[.slice B ys.length d]] w fun e w' => e = .returned (.bool (decide (xs = ys))) ∧ Below w.heap.size w w' := by
  have HA := Lib.hid (hA.below (below_alloc2 w (.cells #[.slice A xs.length c] 60) (.cells #[.slice B ys.length d] 60)))
  have HB := Lib.hid (hB.below (below_alloc2 w (.cells #[.slice A xs.length c] 60) (.cells #[.slice B ys.length d] 60)))
  clear hA hB
  generalize hq : decide (xs = ys) = q
  have HQ := Lib.hid hq; clear hq
  have HX : Hid (∀ w2, Below ((w.alloc (.cells #[.slice A xs.length c] 60)).alloc (.cells #[.slice B ys.length d] 60)).heap.size ((w.alloc (.cells #[.slice A xs.length c] 60)).alloc (.cells #[.slice B ys.length d] 60)) w2 → w2.cell? ⟨w.heap.size, 0, none⟩ = some (.slice A xs.length c) ∧ w2.cell? ⟨w.heap.size + 1, 0, none⟩ = some (.slice B ys.length d)) :=
    fun w2 hb => ⟨cell_keep hb (by simp), cell_keep hb (by simp)⟩
  go_enter Try.func80, Try.ntmps80
  go_wp2_with fail
  go_region_held3 (fun w' => w'.cell? ⟨w.heap.size, 0, none⟩ = some (.slice A xs.length c) ∧ w'.cell? ⟨w.heap.size + 1, 0, none⟩ = some (.slice B ys.length d))
    (first | exact HX.out _ (Below.refl _ _).drew | exact HX.out _ (Below.refl _ _) | exact HX.out _ (below_drew_trans hb1) | exact HX.out _ (below_trans (below_drew_trans hb1) (below_drewN _)))
    (first
      | (go_at_call 120; refine (list_any _ _ _ _).mono ?_; rintro e w1 ⟨rfl, hb1⟩)
      | (go_at_call 121; refine (same_any _ _ _ _ xs ys _ hn hm (HA.out.drew.below hb1) (HB.out.drew.below hb1)).mono ?_; rintro e w' ⟨rfl, n, rfl⟩))
  have HB1 := Lib.hid (below_trans (below_trans (below_alloc2 _ _ _) (below_drew_trans hb1)) (below_drewN n))
  clear hb1
  rw [HQ.out]
  go_wp2
  go_ret
  exact ⟨rfl, HB1.out⟩
end Go.Proofs.Ytiogebflfnicgaa
