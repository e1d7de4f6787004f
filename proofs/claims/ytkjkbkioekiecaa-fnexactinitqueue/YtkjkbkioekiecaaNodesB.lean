/-
  NodeRef, NodeAt, ItemWaits: the program's and the model's.
-/
import Derived.Test.YtkjkbkioekiecaaNodes
namespace Go.Proofs.Ytkjkbkioekiecaa
open Go.RowKit

theorem refB_in {n : Int} {b : Bool} (h : inB n 1 399 = true) : refB n b = (2 * n + bitI b, 0) := by unfold refB; rw [if_pos h]
theorem refB_out {n : Int} {b : Bool} (h : inB n 1 399 = false) : refB n b = (0, 4) := by unfold refB; rw [h]; rfl
theorem nodeB_in {r : Int} (h : inB r 2 799 = true) : nodeB r = (halfI r, bringsB r, 0) := by unfold nodeB; rw [if_pos h]; rfl
theorem nodeB_out {r : Int} (h : inB r 2 799 = false) : nodeB r = (0, false, 4) := by unfold nodeB; rw [h]; rfl

set_option maxHeartbeats 400000 in
theorem implNodeRef_any (n : Int) (b : Bool) (w : World) (x c : Int) (hX : refB n b = (x, c)) : Calls Try.prog 11 #[.int .i64 n, .bool b] w fun e w' => e = .returned (.tuple #[.int .i64 x, .int .i64 c]) ∧ w = w' := by
  have hb := bitI_bounds b
  cases h : inB n 1 399
  · rw [refB_out h] at hX
    cases hX
    have hn := inB_false h
    clear h hb
    by_cases h1 : 1 ≤ n
    · have h2 : 400 ≤ n := by omega
      clear hn
      go_enter Try.func11, Try.ntmps11
      go_wp2
      refine bodyPost_ret (v := .tuple #[.int .i64 0, .int .i64 4]) (by simp [results, Try.results11, go_sem]) rfl ⟨rfl, rfl⟩
    · have h2 : n < 1 := by omega
      clear hn h1
      go_enter Try.func11, Try.ntmps11
      go_wp2
      refine bodyPost_ret (v := .tuple #[.int .i64 0, .int .i64 4]) (by simp [results, Try.results11, go_sem]) rfl ⟨rfl, rfl⟩
  · rw [refB_in h] at hX
    cases hX
    obtain ⟨h1, h2⟩ := inB_true h
    have q1 : IntKind.i64.wrap (2 * n) = 2 * n := IntWalk.i64_in _ (by omega)
    have q2 : IntKind.i64.wrap (2 * n + bitI b) = 2 * n + bitI b := IntWalk.i64_in _ (by omega)
    clear h hb
    go_enter Try.func11, Try.ntmps11
    go_wp2_with (go_at_call 35; refine (kindBit_any _ _).mono ?_; rintro e w' ⟨rfl, rfl⟩)
    refine bodyPost_ret (v := .tuple #[.int .i64 (2 * n + bitI b), .int .i64 0]) (by simp [results, Try.results11, go_sem]) rfl ⟨rfl, rfl⟩

set_option maxHeartbeats 400000 in
theorem l04Ref_any (n : Int) (b : Bool) (w : World) (hn : 0 ≤ n ∧ n ≤ 1000000) : Calls Try.prog 56 #[.int .i64 n, .bool b] w fun e w' => e = .returned (.int .i64 (2 * n + bitI b)) ∧ w = w' := by
  have hb := bitI_bounds b
  have q1 : IntKind.i64.wrap (2 * n) = 2 * n := IntWalk.i64_in _ (by omega)
  have q2 : IntKind.i64.wrap (2 * n + bitI b) = 2 * n + bitI b := IntWalk.i64_in _ (by omega)
  go_enter Try.func56, Try.ntmps56
  go_wp2_with (go_at_call 71; refine (l01Bit_any _ _).mono ?_; rintro e w' ⟨rfl, rfl⟩)
  go_ret
  exact ⟨rfl, rfl⟩
set_option maxHeartbeats 400000 in
theorem specNodeRef_any (n : Int) (b : Bool) (w : World) (x c : Int) (hX : refB n b = (x, c)) : Calls Try.prog 23 #[.int .i64 n, .bool b] w fun e w' => e = .returned (.tuple #[.int .i64 x, .int .i64 c]) ∧ w = w' := by
  cases h : inB n 1 399
  · rw [refB_out h] at hX
    cases hX
    go_enter Try.func23, Try.ntmps23
    go_wp2_with (go_at_call 55; refine (l01In_any _ _ _ _).mono ?_; rintro e w' ⟨rfl, rfl⟩)
    refine bodyPost_ret (v := .tuple #[.int .i64 0, .int .i64 4]) (by simp [results, Try.results23, go_sem]) rfl ⟨rfl, rfl⟩
  · rw [refB_in h] at hX
    cases hX
    have hn : Hid (0 ≤ n ∧ n ≤ 1000000) := by have := inB_true h; exact Lib.hid (by omega)
    go_enter Try.func23, Try.ntmps23
    go_wp2_with (first | (go_at_call 55; refine (l01In_any _ _ _ _).mono ?_; rintro e w' ⟨rfl, rfl⟩) | (go_at_call 56; refine (l04Ref_any _ _ _ hn.out).mono ?_; rintro e w' ⟨rfl, rfl⟩))
    refine bodyPost_ret (v := .tuple #[.int .i64 (2 * n + bitI b), .int .i64 0]) (by simp [results, Try.results23, go_sem]) rfl ⟨rfl, rfl⟩
set_option maxHeartbeats 400000 in
theorem implNodeAt_any (r : Int) (w : World) (x : Int) (b : Bool) (c : Int) (hX : nodeB r = (x, b, c)) : Calls Try.prog 12 #[.int .i64 r] w fun e w' => e = .returned (.tuple #[.int .i64 x, .bool b, .int .i64 c]) ∧ w = w' := by
  cases h : inB r 2 799
  · rw [nodeB_out h] at hX
    cases hX
    have hn := inB_false h
    clear h
    by_cases h1 : 2 ≤ r
    · have h2 : 800 ≤ r := by omega
      clear hn
      go_enter Try.func12, Try.ntmps12
      go_wp2
      refine bodyPost_ret (v := .tuple #[.int .i64 0, .bool false, .int .i64 4]) (by simp [results, Try.results12, go_sem]) rfl ⟨rfl, rfl⟩
    · have h2 : r < 2 := by omega
      clear hn h1
      go_enter Try.func12, Try.ntmps12
      go_wp2
      refine bodyPost_ret (v := .tuple #[.int .i64 0, .bool false, .int .i64 4]) (by simp [results, Try.results12, go_sem]) rfl ⟨rfl, rfl⟩
  · rw [nodeB_in h] at hX
    cases hX
    obtain ⟨h1, h2⟩ := inB_true h
    have hn : Hid (-1000000000000 ≤ r ∧ r ≤ 1000000000000) := Lib.hid (by omega)
    clear h
    go_enter Try.func12, Try.ntmps12
    go_wp2_with (first | (go_at_call 36; refine (itemOf_any _ _ hn.out).mono ?_; rintro e w' ⟨rfl, rfl⟩) | (go_at_call 37; refine (brings_any _ _).mono ?_; rintro e w' ⟨rfl, rfl⟩))
    refine bodyPost_ret (v := .tuple #[.int .i64 (halfI r), .bool (bringsB r), .int .i64 0]) (by simp [results, Try.results12, go_sem]) rfl ⟨rfl, rfl⟩
set_option maxHeartbeats 400000 in
theorem specNodeAt_any (r : Int) (w : World) (x : Int) (b : Bool) (c : Int) (hX : nodeB r = (x, b, c)) : Calls Try.prog 24 #[.int .i64 r] w fun e w' => e = .returned (.tuple #[.int .i64 x, .bool b, .int .i64 c]) ∧ w = w' := by
  cases h : inB r 2 799
  · rw [nodeB_out h] at hX
    cases hX
    go_enter Try.func24, Try.ntmps24
    go_wp2_with (go_at_call 55; refine (l01In_any _ _ _ _).mono ?_; rintro e w' ⟨rfl, rfl⟩)
    refine bodyPost_ret (v := .tuple #[.int .i64 0, .bool false, .int .i64 4]) (by simp [results, Try.results24, go_sem]) rfl ⟨rfl, rfl⟩
  · rw [nodeB_in h] at hX
    cases hX
    have e1 := wrap_half r (by have := inB_true h; omega)
    have e2 := wrap_rest r
    unfold halfI bringsB
    by_cases hm : r.tmod 2 = 1
    all_goals
      go_enter Try.func24, Try.ntmps24
      go_wp2_with (go_at_call 55; refine (l01In_any _ _ _ _).mono ?_; rintro e w' ⟨rfl, rfl⟩)
      refine bodyPost_ret (v := .tuple #[.int .i64 (r.tdiv 2), .bool (decide (r.tmod 2 = 1)), .int .i64 0]) (by simp [results, Try.results24, go_sem, hm]) rfl ⟨rfl, rfl⟩

set_option maxHeartbeats 400000 in
theorem implItemWaits_any (b : Bool) (n : Int) (w : World) : Calls Try.prog 13 #[.bool b, .int .i64 n] w fun e w' => e = .returned (.bool (waitsB b n)) ∧ w = w' := by
  cases b
  · by_cases h : n = 0
    · subst h
      go_enter Try.func13, Try.ntmps13
      go_wp2
      go_ret
      exact ⟨rfl, rfl⟩
    · go_enter Try.func13, Try.ntmps13
      go_wp2
      go_ret
      exact ⟨by simp [waitsB, h], rfl⟩
  · by_cases h : 0 < n
    all_goals
      go_enter Try.func13, Try.ntmps13
      go_wp2
      go_ret
      exact ⟨by simp [waitsB, h], rfl⟩

set_option maxHeartbeats 400000 in
theorem specItemWaits_any (b : Bool) (n : Int) (w : World) : Calls Try.prog 25 #[.bool b, .int .i64 n] w fun e w' => e = .returned (.bool (waitsB b n)) ∧ w = w' := by
  cases b
  · by_cases h : n = 0
    · subst h
      go_enter Try.func25, Try.ntmps25
      go_wp2
      go_ret
      exact ⟨rfl, rfl⟩
    · go_enter Try.func25, Try.ntmps25
      go_wp2
      go_ret
      exact ⟨by simp [waitsB, h], rfl⟩
  · by_cases h : 0 < n
    all_goals
      go_enter Try.func25, Try.ntmps25
      go_wp2
      go_ret
      exact ⟨by simp [waitsB, h], rfl⟩


theorem lawNodeRef_walk (n : Int) (b : Bool) (w : World) (_hn : (Lit.int .i64 n).wf = true) :
    Calls Try.prog 5 #[.int .i64 n, .bool b] w fun e w' => e = .returned (.bool true) ∧ Below w.heap.size w w' := by
  obtain ⟨⟨x, c⟩, hX⟩ : ∃ p, refB n b = p := ⟨_, rfl⟩
  have HX := Lib.hid hX; clear hX _hn
  go_enter Try.func5, Try.ntmps5
  go_wp2_with (first | (go_at_call 23; refine (specNodeRef_any n b _ x c HX.out).mono ?_; rintro e w' ⟨rfl, rfl⟩) | (go_at_call 11; refine (implNodeRef_any n b _ x c HX.out).mono ?_; rintro e w' ⟨rfl, rfl⟩))
  go_ret
  exact ⟨rfl, Below.refl _ _⟩
theorem lawNodeAt_walk (n : Int) (w : World) (_hn : (Lit.int .i64 n).wf = true) :
    Calls Try.prog 6 #[.int .i64 n] w fun e w' => e = .returned (.bool true) ∧ Below w.heap.size w w' := by
  obtain ⟨⟨x, b, c⟩, hX⟩ : ∃ p, nodeB n = p := ⟨_, rfl⟩
  have HX := Lib.hid hX; clear hX _hn
  cases b
  all_goals
    go_enter Try.func6, Try.ntmps6
    go_wp2_with (first | (go_at_call 24; refine (specNodeAt_any n _ x _ c HX.out).mono ?_; rintro e w' ⟨rfl, rfl⟩) | (go_at_call 12; refine (implNodeAt_any n _ x _ c HX.out).mono ?_; rintro e w' ⟨rfl, rfl⟩))
    go_ret
    exact ⟨rfl, Below.refl _ _⟩
theorem lawItemWaits_walk (b : Bool) (n : Int) (w : World) (_hn : (Lit.int .i64 n).wf = true) :
    Calls Try.prog 7 #[.bool b, .int .i64 n] w fun e w' => e = .returned (.bool true) ∧ Below w.heap.size w w' := by
  cases h : waitsB b n
  all_goals
    go_enter Try.func7, Try.ntmps7
    go_wp2_with (first | (go_at_call 25; refine (specItemWaits_any _ _ _).mono ?_; rintro e w' ⟨rfl, rfl⟩) | (go_at_call 13; refine (implItemWaits_any _ _ _).mono ?_; rintro e w' ⟨rfl, rfl⟩))
    go_ret
    exact ⟨rfl, Below.refl _ _⟩
end Go.Proofs.Ytkjkbkioekiecaa
