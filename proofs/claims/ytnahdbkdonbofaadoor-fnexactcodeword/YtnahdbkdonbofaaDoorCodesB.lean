/-
  Contracts of CodeOf, the program's and the model's (chapter 1).
-/
import Derived.Test.YtnahdbkdonbofaaDoorCodes
namespace Go.Proofs.YtnahdbkdonbofaaDoor
open Go.RowKit

/-- k is the first place whose word is s. -/
def firstAt (s : ByteArray) : Nat → Nat → Option Nat
  | _, 0 => none
  | k, n + 1 => if wordStr k = s then some k else firstAt s (k + 1) n
def codeOf (s : ByteArray) : Int := match firstAt s 0 20 with | some k => k | none => -1
theorem firstAt_skip {s : ByteArray} : ∀ (n k : Nat), (∀ j, j < k → wordStr j ≠ s) → k ≤ n → firstAt s 0 n = firstAt s k (n - k) := by
  intro n k
  induction k with
  | zero => intro _ _; simp
  | succ k ih =>
    intro h hk
    rw [ih (fun j hj => h j (by omega)) (by omega)]
    obtain ⟨m, hm⟩ : ∃ m, n - k = m + 1 := ⟨n - k - 1, by omega⟩
    rw [hm, show n - (k + 1) = m by omega, firstAt, if_neg (h k (by omega))]
theorem codeOf_hit {s : ByteArray} {k : Nat} (h : ∀ j, j < k → wordStr j ≠ s) (hk : k < 20) (he : wordStr k = s) : codeOf s = k := by
  unfold codeOf
  rw [firstAt_skip 20 k h (by omega)]
  obtain ⟨m, hm⟩ : ∃ m, 20 - k = m + 1 := ⟨20 - k - 1, by omega⟩
  rw [hm, firstAt, if_pos he]
theorem codeOf_miss {s : ByteArray} (h : ∀ j, j < 20 → wordStr j ≠ s) : codeOf s = -1 := by
  unfold codeOf
  rw [firstAt_skip 20 20 h (by omega)]
  rfl
theorem str_ne {x s : ByteArray} (h : x ≠ s) : (x.toList == s.toList) = false := by
  rw [beq_eq_false_iff_ne, ByteArray.toList_eq, ByteArray.toList_eq]
  exact fun e => h (ByteArray.ext (Array.toList_inj.mp e))
theorem wordOf_nat {k : Nat} (h : k < 20) : wordOf k = wordStr k := by
  unfold wordOf; rw [if_pos (by omega), Int.toNat_natCast]

set_option maxHeartbeats 1000000 in
theorem specCodeOf_any (s : ByteArray) (w : World) : Calls Tryd.prog 7 #[.string s] w fun e w' => e = .returned (.int .i64 (codeOf s)) ∧ Below w.heap.size w w' := by
  go_enter Tryd.func7, Tryd.ntmps7
  go_wp2
  go_loopw [3] (fun i wr => ∃ k : Nat, k ≤ 20 ∧ i = .int .i64 k ∧ (∀ j, j < k → wordStr j ≠ s) ∧ Below w.heap.size w wr) (fun i _ => 20 - (intOf i).toNat)
  case atStart => exact ⟨0, by omega, rfl, fun j hj => absurd hj (by omega), Below.refl _ _⟩
  case round =>
    obtain ⟨k, hk, rfl, hall, hb⟩ := hrel
    have HL := Lib.hid hall; have HB := Lib.hid hb; clear hall hb
    by_cases hlt : k < 20
    · have HW := Lib.hid (wordOf_nat hlt)
      go_wp2_with fail
      refine (specCodeWord_any _ _).mono ?_
      rintro e w1 ⟨rfl, hb⟩
      have HB1 := Lib.hid (HB.out.trans (hb.mono HB.out.size)); clear hb
      rw [HW.out]
      generalize hx : wordStr k = x
      have HX := Lib.hid hx; clear hx
      by_cases he : x = s
      · have hb1 : (x.toList == s.toList) = true := by rw [he]; exact beq_self_eq_true _
        have HC := Lib.hid (codeOf_hit HL.out hlt (HX.out.trans he))
        clear he
        go_wp2
        go_ret
        exact ⟨ret_int HC.out.symm, HB1.out⟩
      · have hb1 := str_ne he
        go_wp2
        go_roundw
        case rel => exact ⟨k + 1, by omega, by go_num, fun j hj => by
          by_cases e : j < k
          · exact HL.out j e
          · obtain rfl : j = k := by omega
            rw [HX.out]; exact he, HB1.out⟩
        case measure => simp [intOf]; omega
    · have HC := Lib.hid (codeOf_miss (s := s) fun j hj => HL.out j (by omega))
      go_wp2
      go_ret
      exact ⟨ret_int HC.out.symm, HB.out⟩

theorem twentyN {k : Nat} (h : k < 20) : k = 0 ∨ k = 1 ∨ k = 2 ∨ k = 3 ∨ k = 4 ∨ k = 5 ∨ k = 6 ∨ k = 7 ∨ k = 8 ∨ k = 9 ∨ k = 10 ∨ k = 11 ∨ k = 12 ∨ k = 13 ∨ k = 14 ∨ k = 15 ∨ k = 16 ∨ k = 17 ∨ k = 18 ∨ k = 19 := by omega
theorem wordCells_get (k : Nat) (h : k < 20) : wordCells[k]? = some (.string (wordStr k)) := by
  rcases twentyN h with rfl | rfl | rfl | rfl | rfl | rfl | rfl | rfl | rfl | rfl | rfl | rfl | rfl | rfl | rfl | rfl | rfl | rfl | rfl | rfl
  all_goals rfl

/-- The table as block 0 holds it, whole. -/
def TabW (w : World) : Prop := ∃ t fr, w.heap[0]? = some (.cells wordCells t fr)
theorem TabW.tab {w : World} (h : TabW w) : Tab w := by
  obtain ⟨t, fr, h⟩ := h
  intro k hk
  rw [cell_of_row w 0 k wordCells t fr h]
  exact wordCells_get k hk

theorem index_run (k : Nat) (h : k < 20) (w : World) : (Instr.index 27 (.agg wordCells) (.int .i64 (k : Int))).run Tryd.prog w = .ok (.string (wordStr k)) w := by
  rcases twentyN h with rfl | rfl | rfl | rfl | rfl | rfl | rfl | rfl | rfl | rfl | rfl | rfl | rfl | rfl | rfl | rfl | rfl | rfl | rfl | rfl
  all_goals kernel_rfl

set_option maxHeartbeats 1000000 in
theorem implCodeOf_any (s : ByteArray) (w : World) (ht : TabW w) : Calls Tryd.prog 8 #[.string s] w fun e w' => e = .returned (.int .i64 (codeOf s)) ∧ w = w' := by
  obtain ⟨tt, fr, hg⟩ := ht
  have HG := Lib.hid hg; clear hg
  go_enter Tryd.func8, Tryd.ntmps8
  go_wp2_with (refine wpList_load_row rfl 27 _ rfl 0 rfl tt wordCells fr _ HG.out Tryd.underlying27 rfl (by kernel_rfl) ?_)
  go_loop [6] (fun i => ∃ k : Nat, k ≤ 20 ∧ i = .int .i64 k ∧ ∀ j, j < k → wordStr j ≠ s) (fun i => 20 - (intOf i).toNat)
  case atStart => exact ⟨0, by omega, rfl, fun j hj => absurd hj (by omega)⟩
  case round =>
    obtain ⟨k, hk, rfl, hall⟩ := hrel
    have HL := Lib.hid hall; clear hall
    by_cases hlt : k < 20
    · have hix := fun wx => index_run k hlt wx
      generalize hx : wordStr k = x at hix
      have HX := Lib.hid hx; clear hx
      by_cases he : x = s
      · have hb1 : (x.toList == s.toList) = true := by rw [he]; exact beq_self_eq_true _
        have HC := Lib.hid (codeOf_hit HL.out hlt (HX.out.trans he))
        clear he
        go_wp2
        go_ret
        exact ⟨ret_int HC.out.symm, rfl⟩
      · have hb1 := str_ne he
        go_wp2
        go_round
        case rel => exact ⟨k + 1, by omega, by go_num, fun j hj => by
          by_cases e : j < k
          · exact HL.out j e
          · obtain rfl : j = k := by omega
            rw [HX.out]; exact he⟩
        case measure => simp [intOf]; omega
    · have HC := Lib.hid (codeOf_miss (s := s) fun j hj => HL.out j (by omega))
      go_wp2
      go_ret
      exact ⟨ret_int HC.out.symm, rfl⟩
end Go.Proofs.YtnahdbkdonbofaaDoor
