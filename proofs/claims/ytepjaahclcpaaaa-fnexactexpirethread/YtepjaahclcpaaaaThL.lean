/-
  Threads: contracts of the laws' own helpers: toIntA5, toThread, eqIntA5, eqThread.
-/
import Derived.Test.YtepjaahclcpaaaaThB
namespace Go.Proofs.Ytepjaahclcpaaaa
open Go.RowKit

def five (a0 a1 a2 a3 a4 : Int) : Array Value := #[.int .i64 a0, .int .i64 a1, .int .i64 a2, .int .i64 a3, .int .i64 a4]
/-- How far an array is copied. -/
def CopyRel (w : World) (a0 a1 a2 a3 a4 : Int) (i : Value) (wr : World) : Prop :=
  (i = .int .i64 0 ∧ wr = w.alloc (.cells #[.int .i64 0, .int .i64 0, .int .i64 0, .int .i64 0, .int .i64 0] 23)) ∨
  (i = .int .i64 1 ∧ wr = w.alloc (.cells #[.int .i64 a0, .int .i64 0, .int .i64 0, .int .i64 0, .int .i64 0] 23)) ∨
  (i = .int .i64 2 ∧ wr = w.alloc (.cells #[.int .i64 a0, .int .i64 a1, .int .i64 0, .int .i64 0, .int .i64 0] 23)) ∨
  (i = .int .i64 3 ∧ wr = w.alloc (.cells #[.int .i64 a0, .int .i64 a1, .int .i64 a2, .int .i64 0, .int .i64 0] 23)) ∨
  (i = .int .i64 4 ∧ wr = w.alloc (.cells #[.int .i64 a0, .int .i64 a1, .int .i64 a2, .int .i64 a3, .int .i64 0] 23)) ∨
  (i = .int .i64 5 ∧ wr = w.alloc (.cells #[.int .i64 a0, .int .i64 a1, .int .i64 a2, .int .i64 a3, .int .i64 a4] 23))

set_option maxHeartbeats 1000000 in
theorem toIntA5_exact (a0 a1 a2 a3 a4 : Int) (w : World) : Calls Try.prog 55 #[.agg #[.int .i64 a0, .int .i64 a1, .int .i64 a2, .int .i64 a3, .int .i64 a4]] w fun e w' => e = .returned (.agg #[.int .i64 a0, .int .i64 a1, .int .i64 a2, .int .i64 a3, .int .i64 a4]) ∧
    ((w.alloc (.cells #[.int .i64 a0, .int .i64 a1, .int .i64 a2, .int .i64 a3, .int .i64 a4] 23)).alloc (.cells #[.int .i64 a0, .int .i64 a1, .int .i64 a2, .int .i64 a3, .int .i64 a4] 23)).alloc (.cells #[.int .i64 a0, .int .i64 a1, .int .i64 a2, .int .i64 a3, .int .i64 a4] 23) = w' := by
  go_enter Try.func55, Try.ntmps55
  go_wp2
  go_loopw [4] (fun i wr => CopyRel ((w.alloc (.cells #[.int .i64 a0, .int .i64 a1, .int .i64 a2, .int .i64 a3, .int .i64 a4] 23)).alloc (.cells #[.int .i64 0, .int .i64 0, .int .i64 0, .int .i64 0, .int .i64 0] 23)) a0 a1 a2 a3 a4 i wr) (fun i _ => 5 - (intOf i).toNat)
  case atStart => exact .inl ⟨rfl, rfl⟩
  case round =>
    rcases hrel with ⟨rfl, rfl⟩ | ⟨rfl, rfl⟩ | ⟨rfl, rfl⟩ | ⟨rfl, rfl⟩ | ⟨rfl, rfl⟩ | ⟨rfl, rfl⟩
    · go_wp2
      go_roundw
      case rel => exact .inr (.inl ⟨rfl, rfl⟩)
      case measure => simp [intOf]
    · go_wp2
      go_roundw
      case rel => exact .inr (.inr (.inl ⟨rfl, rfl⟩))
      case measure => simp [intOf]
    · go_wp2
      go_roundw
      case rel => exact .inr (.inr (.inr (.inl ⟨rfl, rfl⟩)))
      case measure => simp [intOf]
    · go_wp2
      go_roundw
      case rel => exact .inr (.inr (.inr (.inr (.inl ⟨rfl, rfl⟩))))
      case measure => simp [intOf]
    · go_wp2
      go_roundw
      case rel => exact .inr (.inr (.inr (.inr (.inr ⟨rfl, rfl⟩))))
      case measure => simp [intOf]
    · go_wp2
      exact bodyPost_ret (v := .agg #[.int .i64 a0, .int .i64 a1, .int .i64 a2, .int .i64 a3, .int .i64 a4]) (by simp [results, Try.results55, go_sem]) rfl ⟨rfl, rfl⟩

/-- How far two arrays are compared. -/
def EqRel (w : World) (i : Value) (wr : World) : Prop := ∃ q : Nat, wr = w.drewN q ∧ (i = .int .i64 0 ∨ i = .int .i64 1 ∨ i = .int .i64 2 ∨ i = .int .i64 3 ∨ i = .int .i64 4 ∨ i = .int .i64 5)

set_option maxHeartbeats 1000000 in
theorem eqIntA5_same (a0 a1 a2 a3 a4 : Int) (w : World) : Calls Try.prog 56 #[.agg #[.int .i64 a0, .int .i64 a1, .int .i64 a2, .int .i64 a3, .int .i64 a4], .agg #[.int .i64 a0, .int .i64 a1, .int .i64 a2, .int .i64 a3, .int .i64 a4]] w fun e w' => e = .returned (.bool true) ∧ Below w.heap.size w w' := by
  go_enter Try.func56, Try.ntmps56
  go_wp2
  go_loopw [5] (fun i wr => EqRel ((w.alloc (.cells #[.int .i64 a0, .int .i64 a1, .int .i64 a2, .int .i64 a3, .int .i64 a4] 23)).alloc (.cells #[.int .i64 a0, .int .i64 a1, .int .i64 a2, .int .i64 a3, .int .i64 a4] 23)) i wr) (fun i _ => 5 - (intOf i).toNat)
  case atStart => exact ⟨0, rfl, .inl rfl⟩
  case round =>
    obtain ⟨q, rfl, hi⟩ := hrel
    rcases hi with rfl | rfl | rfl | rfl | rfl | rfl
    · go_wp2
      go_region
      all_goals
        go_wp2
        go_roundw
        case rel => exact ⟨q + 1, rfl, .inr (.inl rfl)⟩
        case measure => simp [intOf]
    · go_wp2
      go_region
      all_goals
        go_wp2
        go_roundw
        case rel => exact ⟨q + 1, rfl, .inr (.inr (.inl rfl))⟩
        case measure => simp [intOf]
    · go_wp2
      go_region
      all_goals
        go_wp2
        go_roundw
        case rel => exact ⟨q + 1, rfl, .inr (.inr (.inr (.inl rfl)))⟩
        case measure => simp [intOf]
    · go_wp2
      go_region
      all_goals
        go_wp2
        go_roundw
        case rel => exact ⟨q + 1, rfl, .inr (.inr (.inr (.inr (.inl rfl))))⟩
        case measure => simp [intOf]
    · go_wp2
      go_region
      all_goals
        go_wp2
        go_roundw
        case rel => exact ⟨q + 1, rfl, .inr (.inr (.inr (.inr (.inr rfl))))⟩
        case measure => simp [intOf]
    · go_wp2
      go_ret
      exact ⟨rfl, below_trans (below_alloc2 _ _ _) (below_drewN _)⟩
end Go.Proofs.Ytepjaahclcpaaaa
