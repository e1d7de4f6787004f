/-
  NodeRef, NodeAt, ItemWaits: the program's and the model's.
-/
import Derived.Test.YtjddmdhoeampcaaNodes
namespace Go.Proofs.Ytjddmdhoeampcaa
open Go.RowKit

theorem refB_in {n : Int} {b : Bool} (h : inB n 1 399 = true) : refB n b = (2 * n + bitI b, 0) := by unfold refB; rw [if_pos h]
theorem refB_out {n : Int} {b : Bool} (h : inB n 1 399 = false) : refB n b = (0, 4) := by unfold refB; rw [h]; rfl
theorem nodeB_in {r : Int} (h : inB r 2 799 = true) : nodeB r = (halfI r, bringsR r, 0) := by unfold nodeB; rw [if_pos h]; rfl
theorem nodeB_out {r : Int} (h : inB r 2 799 = false) : nodeB r = (0, false, 4) := by unfold nodeB; rw [h]; rfl

set_option maxHeartbeats 400000 in
theorem implNodeRef_any (n : Int) (b : Bool) (w : World) (x c : Int) (hX : refB n b = (x, c)) : Calls Try.prog 97 #[.int .i64 n, .bool b] w fun e w' => e = .returned (.tuple #[.int .i64 x, .int .i64 c]) ∧ w = w' := by
  have hb := bitI_bounds b
  cases h : inB n 1 399
  · rw [refB_out h] at hX
    cases hX
    have hn := inB_false h
    clear h hb
    by_cases h1 : 1 ≤ n
    · have h2 : 400 ≤ n := by omega
      clear hn
      go_enter Try.func97, Try.ntmps97
      go_wp2
      refine bodyPost_ret (v := .tuple #[.int .i64 0, .int .i64 4]) (by simp [results, Try.results97, go_sem]) rfl ⟨rfl, rfl⟩
    · have h2 : n < 1 := by omega
      clear hn h1
      go_enter Try.func97, Try.ntmps97
      go_wp2
      refine bodyPost_ret (v := .tuple #[.int .i64 0, .int .i64 4]) (by simp [results, Try.results97, go_sem]) rfl ⟨rfl, rfl⟩
  · rw [refB_in h] at hX
    cases hX
    obtain ⟨h1, h2⟩ := inB_true h
    have q1 : IntKind.i64.wrap (2 * n) = 2 * n := IntWalk.i64_in _ (by omega)
    have q2 : IntKind.i64.wrap (2 * n + bitI b) = 2 * n + bitI b := IntWalk.i64_in _ (by omega)
    clear h hb
    go_enter Try.func97, Try.ntmps97
    go_wp2_with (go_at_call 112; refine (kindBit_any _ _).mono ?_; rintro e w' ⟨rfl, rfl⟩)
    refine bodyPost_ret (v := .tuple #[.int .i64 (2 * n + bitI b), .int .i64 0]) (by simp [results, Try.results97, go_sem]) rfl ⟨rfl, rfl⟩

set_option maxHeartbeats 400000 in
theorem l04Ref_any (n : Int) (b : Bool) (w : World) (hn : 0 ≤ n ∧ n ≤ 1000000) : Calls Try.prog 125 #[.int .i64 n, .bool b] w fun e w' => e = .returned (.int .i64 (2 * n + bitI b)) ∧ w = w' := by
  have hb := bitI_bounds b
  have q1 : IntKind.i64.wrap (2 * n) = 2 * n := IntWalk.i64_in _ (by omega)
  have q2 : IntKind.i64.wrap (2 * n + bitI b) = 2 * n + bitI b := IntWalk.i64_in _ (by omega)
  go_enter Try.func125, Try.ntmps125
  go_wp2_with (go_at_call 77; refine (bitOf_any _ _).mono ?_; rintro e w' ⟨rfl, rfl⟩)
  go_ret
  exact ⟨rfl, rfl⟩
end Go.Proofs.Ytjddmdhoeampcaa
