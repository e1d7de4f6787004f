/-
  How many cells are not what they were: turned.
-/
import Derived.Test.YtkjkbkioekiecaaSrcB
import Derived.Test.YtkjkbkioekiecaaAtS
namespace Go.Proofs.Ytkjkbkioekiecaa
open Go.RowKit

/-- How many of the first k places differ. -/
def diffTo (xs ys : List Int) : Nat → Nat
  | 0 => 0
  | k + 1 => diffTo xs ys k + if xs.getD k 0 = ys.getD k 0 then 0 else 1
theorem diffTo_le (xs ys : List Int) (k : Nat) : diffTo xs ys k ≤ k := by
  induction k with
  | zero => exact Nat.le_refl _
  | succ k ih => unfold diffTo; split <;> omega
theorem diffTo_set (xs : List Int) (i : Nat) (v : Int) (k : Nat) : (k ≤ i → diffTo xs (xs.set i v) k = 0) ∧ diffTo xs (xs.set i v) k ≤ 1 := by
  induction k with
  | zero => exact ⟨fun _ => rfl, Nat.zero_le _⟩
  | succ k ih =>
    have hs : diffTo xs (xs.set i v) (k + 1) = diffTo xs (xs.set i v) k + (if xs.getD k 0 = (xs.set i v).getD k 0 then 0 else 1) := rfl
    by_cases h : i = k
    · refine ⟨fun hk => by omega, ?_⟩
      rw [hs, ih.1 (by omega)]
      split <;> omega
    · have e : xs.getD k 0 = (xs.set i v).getD k 0 := by
        simp only [List.getD]
        rw [List.getElem?_set_ne h]
      rw [if_pos e] at hs
      exact ⟨fun hk => by rw [hs, ih.1 (by omega)], by rw [hs]; exact ih.2⟩

set_option maxHeartbeats 2000000 in
theorem turned_any (A B : Option Addr) (c d : Nat) (xs ys : List Int) (w : World) (hl : xs.length = ys.length) (hn : xs.length ≤ 1048576) (hA : Rd w A xs) (hB : Rd w B ys) :
    Calls Try.prog 20 #[.agg #[.slice A xs.length c], .agg #[.slice B ys.length d]] w fun e w' => e = .returned (.int .i64 (diffTo xs ys xs.length : Nat)) ∧ Below w.heap.size w w' := by
  have hnl : ((ys.length : Int) != (xs.length : Int)) = false := by simp [hl]
  have hm : ys.length ≤ 1048576 := by omega
  have HL := Lib.hid hl; clear hl
  have HA := Lib.hid (hA.below (below_alloc2 w (.cells #[.slice A xs.length c] 32) (.cells #[.slice B ys.length d] 32)))
  have HB := Lib.hid (hB.below (below_alloc2 w (.cells #[.slice A xs.length c] 32) (.cells #[.slice B ys.length d] 32)))
  have HX : Hid (∀ k, ((w.alloc (.cells #[.slice A xs.length c] 32)).alloc (.cells #[.slice B ys.length d] 32)).drewN k |>.cell? ⟨w.heap.size, 0, none⟩ |> (· = some (.slice A xs.length c))) := fun k => by
    show ((w.alloc _).alloc _).cell? ⟨w.heap.size, 0, none⟩ = _
    exact cell_keep (below_alloc _ _) (by simp)
  clear hA hB
  go_enter Try.func20, Try.ntmps20
  go_wp2
  go_loopw [5, 6] (fun m i wr => ∃ k q : Nat, k ≤ xs.length ∧ i = .int .i64 k ∧ m = .int .i64 (diffTo xs ys k : Nat) ∧ wr = ((w.alloc (.cells #[.slice A xs.length c] 32)).alloc (.cells #[.slice B ys.length d] 32)).drewN q)
    (fun _ i _ => xs.length - (intOf i).toNat)
  case atStart => exact ⟨0, 0, Nat.zero_le _, rfl, rfl, rfl⟩
  case round =>
    obtain ⟨k, q, hk, rfl, rfl, rfl⟩ := hrel
    have hdl := diffTo_le xs ys k
    by_cases hlt : k < xs.length
    · have hlt' : k < ys.length := by have := HL.out; omega
      obtain ⟨b, o, rfl, hcell⟩ := HA.out k hlt
      obtain ⟨b', o', rfl, hcell'⟩ := HB.out k hlt'
      have HD : Hid (diffTo xs ys (k + 1) = diffTo xs ys k + if xs.getD k 0 = ys.getD k 0 then 0 else 1) := rfl
      generalize hx : xs.getD k 0 = x at *
      generalize hy : ys.getD k 0 = y at *
      generalize hdd : diffTo xs ys k = dd at *
      clear hx hy hdd
      by_cases hxy : x = y
      · subst hxy
        rw [if_pos rfl, Nat.add_zero] at HD
        go_wp2
        go_region
        all_goals
          go_wp2
          go_roundw
          case rel => exact ⟨k + 1, q + 1, by omega, by go_num, by rw [HD.out]; go_num, rfl⟩
          case measure => simp [intOf]; omega
      · have hne : (x != y) = true := by simp [hxy]
        rw [if_neg hxy] at HD
        clear hxy
        go_wp2
        go_region
        all_goals
          go_wp2
          go_roundw
          case rel => exact ⟨k + 1, q + 1, by omega, by go_num, by rw [HD.out]; go_num, rfl⟩
          case measure => simp [intOf]; omega
    · obtain rfl : k = xs.length := by omega
      go_wp2
      go_ret
      exact ⟨rfl, below_trans (below_alloc2 _ _ _) (below_drewN _)⟩
end Go.Proofs.Ytkjkbkioekiecaa
