/-
  Contracts: the model's ArenaOK, the faults of a cell, LoadCell of both (chapter 2).
-/
import Derived.Test.YtiogebflfnicgaaArena
namespace Go.Proofs.Ytiogebflfnicgaa
open Go.RowKit

set_option maxHeartbeats 1000000 in
theorem specArenaOK_any (A : Option Addr) (c : Nat) (zs : List Int) (w : World) (hn : zs.length ≤ 1048576) (hA : Rd w A zs) :
    Calls Try.prog 110 #[.agg #[.slice A zs.length c]] w fun e w' => e = .returned (.bool (arenaB zs)) ∧ Below w.heap.size w w' := by
  have HA := Lib.hid (hA.below (below_alloc w (.cells #[.slice A zs.length c] 60))); clear hA
  go_enter Try.func110, Try.ntmps110
  go_wp2
  go_loop [3] (fun i => ∃ k : Nat, k ≤ zs.length ∧ i = .int .i64 k ∧ ∀ j, j < k → wordB (zs.getD j 0) = true) (fun i => zs.length - (intOf i).toNat)
  case atStart => exact ⟨0, Nat.zero_le _, rfl, fun j hj => absurd hj (by omega)⟩
  case round =>
    obtain ⟨k, hk, rfl, hall⟩ := hrel
    have HL := Lib.hid hall; clear hall
    by_cases hlt : k < zs.length
    · obtain ⟨b, o, rfl, hcell⟩ := HA.out k hlt
      generalize hx : zs.getD k 0 = x at *
      have HX := Lib.hid hx; clear hx
      cases hw : wordB x
      · have HN := Lib.hid (arenaB_false (zs := zs) (.inr (.inr (.inr (wordsB_false hlt (by rw [HX.out]; exact hw))))))
        go_wp2_with (go_at_call 138; refine (l01Word_any _ _).mono ?_; rintro e w' ⟨rfl, rfl⟩)
        go_ret
        exact ⟨ret_bool HN.out.symm, below_alloc _ _⟩
      · go_wp2_with (go_at_call 138; refine (l01Word_any _ _).mono ?_; rintro e w' ⟨rfl, rfl⟩)
        go_round
        case rel => exact ⟨k + 1, by omega, by go_num, fun j hj => by
          by_cases e : j < k
          · exact HL.out j e
          · obtain rfl : j = k := by omega
            rw [HX.out]; exact hw⟩
        case measure => simp [intOf]; omega
    · have HW := Lib.hid ((wordsB_iff zs).2 fun j hj => HL.out j (by omega))
      cases hi : inB (zs.length : Int) 1 400
      · have HN : Hid (arenaB zs = false) := by
          have := inB_false hi
          by_cases h1 : zs.length < 1
          · exact arenaB_false (.inl h1)
          · exact arenaB_false (.inr (.inl (by omega)))
        go_wp2_with (go_at_call 39; refine (l01In_any _ _ _ _).mono ?_; rintro e w' ⟨rfl, rfl⟩)
        go_ret
        exact ⟨ret_bool HN.out.symm, below_alloc _ _⟩
      · have hb := inB_true hi
        have hp : 0 < zs.length := by omega
        obtain ⟨b, o, rfl, hcell⟩ := HA.out 0 hp
        rw [Nat.add_zero] at hcell
        generalize hx : zs.getD 0 0 = x at *
        have HX := Lib.hid hx; clear hx
        cases h3 : (x == 0)
        · have HN := Lib.hid (arenaB_false (zs := zs) (.inr (.inr (.inl (by rw [HX.out]; exact h3)))))
          go_wp2_with (go_at_call 39; refine (l01In_any _ _ _ _).mono ?_; rintro e w' ⟨rfl, rfl⟩)
          go_ret
          exact ⟨ret_bool HN.out.symm, below_alloc _ _⟩
        · have HN := Lib.hid (arenaB_true (zs := zs) (by omega) (by omega) (by rw [HX.out]; exact h3) HW.out)
          go_wp2_with (go_at_call 39; refine (l01In_any _ _ _ _).mono ?_; rintro e w' ⟨rfl, rfl⟩)
          go_ret
          exact ⟨ret_bool HN.out.symm, below_alloc _ _⟩

theorem cellCode_bad {zs : List Int} {p : Int} (h : arenaB zs = false) : cellCode zs p = 1 := by simp [cellCode, h]
theorem cellCode_range {zs : List Int} {p : Int} (h : arenaB zs = true) (h' : ¬ (1 ≤ p ∧ p < zs.length)) : cellCode zs p = 4 := by
  unfold cellCode; rw [if_pos h, if_neg h']
theorem cellCode_ok {zs : List Int} {p : Int} (h : arenaB zs = true) (h' : 1 ≤ p ∧ p < zs.length) : cellCode zs p = 0 := by
  unfold cellCode; rw [if_pos h, if_pos h']
theorem cellCode_zero {zs : List Int} {p : Int} (h : cellCode zs p = 0) : arenaB zs = true ∧ 1 ≤ p ∧ p < zs.length := by
  unfold cellCode at h
  by_cases h1 : arenaB zs = true
  · rw [if_pos h1] at h
    by_cases h2 : 1 ≤ p ∧ p < zs.length
    · exact ⟨h1, h2⟩
    · rw [if_neg h2] at h; cases h
  · rw [if_neg h1] at h; cases h

end Go.Proofs.Ytiogebflfnicgaa
