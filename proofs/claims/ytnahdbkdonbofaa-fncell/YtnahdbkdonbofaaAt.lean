/-
  The laws' choices out of bytes: at; how many cells are not what they were: turned.
-/
import Derived.Test.YtnahdbkdonbofaaSrcB
namespace Go.Proofs.Ytnahdbkdonbofaa
open Go.RowKit

set_option maxHeartbeats 1000000 in
theorem at_any (A : Option Addr) (n c k : Nat) (q : Int) (w : World) (hn : n ≤ 1048576) (hk : k ≤ 1000000) (hq1 : 1 < q) (hq2 : q ≤ 1000000) (hA : RdB w A n) :
    Calls Try.prog 18 #[.slice A n c, .int .i64 (k : Nat), .int .i64 q] w fun e w' => ∃ r : Int, 0 ≤ r ∧ r < q ∧ e = .returned (.int .i64 r) ∧ Below w.heap.size w w' := by
  have hqz : (q == 0) = false := by simp; omega
  by_cases hz : n = 0
  · subst hz
    go_enter Try.func18, Try.ntmps18
    go_wp2
    go_ret
    refine ⟨(k : Int) * 7 % q, Int.emod_nonneg _ (by omega), Int.emod_lt_of_pos _ (by omega), ?_, Below.refl _ _⟩
    rfl
  · have hnz : ((n : Int) == 0) = false := by simp; omega
    obtain ⟨p1, hp1, ht1⟩ : ∃ p1 : Nat, p1 < n ∧ (k : Int).tmod (n : Int) = (p1 : Int) := ⟨k % n, Nat.mod_lt _ (by omega), by rw [Int.tmod_eq_emod_of_nonneg (by omega)]; rfl⟩
    obtain ⟨p2, hp2, ht2⟩ : ∃ p2 : Nat, p2 < n ∧ ((k : Int) + 1).tmod (n : Int) = (p2 : Int) := ⟨(k + 1) % n, Nat.mod_lt _ (by omega), by rw [Int.tmod_eq_emod_of_nonneg (by omega)]; rfl⟩
    obtain ⟨p3, hp3, ht3⟩ : ∃ p3 : Int, (0 ≤ p3 ∧ p3 ≤ k) ∧ (k : Int).tdiv (n : Int) = p3 := ⟨_, by rw [Int.tdiv_eq_ediv_of_nonneg (by omega)]; exact ⟨Int.ediv_nonneg (by omega) (by omega), Int.ediv_le_self _ (by omega)⟩, rfl⟩
    obtain ⟨b, o, u, rfl, hc1, hu0, hu1⟩ := hA p1 hp1
    obtain ⟨b', o', u', hbo, hc2, hv0, hv1⟩ := hA p2 hp2
    simp only [Option.some.injEq, Addr.mk.injEq, and_true] at hbo
    obtain ⟨rfl, rfl⟩ := hbo
    have q0 : IntKind.i64.wrap ((k : Int) + 1) = (k : Int) + 1 := IntWalk.i64_in _ (by omega)
    have q1 : IntKind.i64.wrap (u * 31) = u * 31 := IntWalk.i64_in _ (by omega)
    have q2 : IntKind.i64.wrap (u * 31 + u') = u * 31 + u' := IntWalk.i64_in _ (by omega)
    have q3 : IntKind.i64.wrap p3 = p3 := IntWalk.i64_in _ (by omega)
    have q4 : IntKind.i64.wrap (u * 31 + u' + p3) = u * 31 + u' + p3 := IntWalk.i64_in _ (by omega)
    have q5 : IntKind.i64.wrap u = u := IntWalk.i64_in _ (by omega)
    have q6 : IntKind.i64.wrap u' = u' := IntWalk.i64_in _ (by omega)
    have q7 : (u * 31 + u' + p3).tmod q = (u * 31 + u' + p3) % q := Int.tmod_eq_emod_of_nonneg (by omega)
    clear hA
    go_enter Try.func18, Try.ntmps18
    go_wp2
    go_quiet (fail)
    go_wp2
    go_ret
    refine ⟨(u * 31 + u' + p3) % q, Int.emod_nonneg _ (by omega), Int.emod_lt_of_pos _ (by omega), ?_, below_drewN _⟩
    rfl

/-- How many of the first k places differ. -/
def diffTo (xs ys : List Int) : Nat → Nat
  | 0 => 0
  | k + 1 => diffTo xs ys k + if xs.getD k 0 = ys.getD k 0 then 0 else 1
theorem diffTo_le (xs ys : List Int) (k : Nat) : diffTo xs ys k ≤ k := by
  induction k with
  | zero => exact Nat.le_refl _
  | succ k ih => unfold diffTo; split <;> omega
theorem diffTo_set (xs : List Int) (i : Nat) (v : Int) (k : Nat) : (k ≤ i → diffTo xs (xs.set i v) k = 0) ∧ diffTo xs (xs.set i v) k ≤ 1 := by
  induction k with
  | zero => exact ⟨fun _ => rfl, Nat.zero_le _⟩
  | succ k ih =>
    have hs : diffTo xs (xs.set i v) (k + 1) = diffTo xs (xs.set i v) k + (if xs.getD k 0 = (xs.set i v).getD k 0 then 0 else 1) := rfl
    by_cases h : i = k
    · refine ⟨fun hk => by omega, ?_⟩
      rw [hs, ih.1 (by omega)]
      split <;> omega
    · have e : xs.getD k 0 = (xs.set i v).getD k 0 := by
        simp only [List.getD]
        rw [List.getElem?_set_ne h]
      rw [if_pos e] at hs
      exact ⟨fun hk => by rw [hs, ih.1 (by omega)], by rw [hs]; exact ih.2⟩

set_option maxHeartbeats 2000000 in
theorem turned_any (A B : Option Addr) (c d : Nat) (xs ys : List Int) (w : World) (hl : xs.length = ys.length) (hn : xs.length ≤ 1048576) (hA : Rd w A xs) (hB : Rd w B ys) :
    Calls Try.prog 23 #[.agg #[.slice A xs.length c], .agg #[.slice B ys.length d]] w fun e w' => e = .returned (.int .i64 (diffTo xs ys xs.length : Nat)) ∧ Below w.heap.size w w' := by
  have hnl : ((ys.length : Int) != (xs.length : Int)) = false := by simp [hl]
  have hm : ys.length ≤ 1048576 := by omega
  have HL := Lib.hid hl; clear hl
  have HA := Lib.hid (hA.below (below_alloc2 w (.cells #[.slice A xs.length c] 25) (.cells #[.slice B ys.length d] 25)))
  have HB := Lib.hid (hB.below (below_alloc2 w (.cells #[.slice A xs.length c] 25) (.cells #[.slice B ys.length d] 25)))
  have HX : Hid (∀ k, ((w.alloc (.cells #[.slice A xs.length c] 25)).alloc (.cells #[.slice B ys.length d] 25)).drewN k |>.cell? ⟨w.heap.size, 0, none⟩ |> (· = some (.slice A xs.length c))) := fun k => by
    show ((w.alloc _).alloc _).cell? ⟨w.heap.size, 0, none⟩ = _
    exact cell_keep (below_alloc _ _) (by simp)
  clear hA hB
  go_enter Try.func23, Try.ntmps23
  go_wp2
  go_loopw [5, 6] (fun m i wr => ∃ k q : Nat, k ≤ xs.length ∧ i = .int .i64 k ∧ m = .int .i64 (diffTo xs ys k : Nat) ∧ wr = ((w.alloc (.cells #[.slice A xs.length c] 25)).alloc (.cells #[.slice B ys.length d] 25)).drewN q)
    (fun _ i _ => xs.length - (intOf i).toNat)
  case atStart => exact ⟨0, 0, Nat.zero_le _, rfl, rfl, rfl⟩
  case round =>
    obtain ⟨k, q, hk, rfl, rfl, rfl⟩ := hrel
    have hdl := diffTo_le xs ys k
    by_cases hlt : k < xs.length
    · have hlt' : k < ys.length := by have := HL.out; omega
      obtain ⟨b, o, rfl, hcell⟩ := HA.out k hlt
      obtain ⟨b', o', rfl, hcell'⟩ := HB.out k hlt'
      have HD : Hid (diffTo xs ys (k + 1) = diffTo xs ys k + if xs.getD k 0 = ys.getD k 0 then 0 else 1) := rfl
      generalize hx : xs.getD k 0 = x at *
      generalize hy : ys.getD k 0 = y at *
      generalize hdd : diffTo xs ys k = dd at *
      clear hx hy hdd
      by_cases hxy : x = y
      · subst hxy
        rw [if_pos rfl, Nat.add_zero] at HD
        go_wp2
        go_region
        all_goals
          go_wp2
          go_roundw
          case rel => exact ⟨k + 1, q + 1, by omega, by go_num, by rw [HD.out]; go_num, rfl⟩
          case measure => simp [intOf]; omega
      · have hne : (x != y) = true := by simp [hxy]
        rw [if_neg hxy] at HD
        clear hxy
        go_wp2
        go_region
        all_goals
          go_wp2
          go_roundw
          case rel => exact ⟨k + 1, q + 1, by omega, by go_num, by rw [HD.out]; go_num, rfl⟩
          case measure => simp [intOf]; omega
    · obtain rfl : k = xs.length := by omega
      go_wp2
      go_ret
      exact ⟨rfl, below_trans (below_alloc2 _ _ _) (below_drewN _)⟩
end Go.Proofs.Ytnahdbkdonbofaa
