/-
  LeafOf, the program's and the model's, and the walk of its exact law.
-/
import Derived.Test.YtjddmdhoeampcaaBaseX
import Derived.Laws.BitsLemmas
namespace Go.Proofs.Ytjddmdhoeampcaa
open Go.RowKit

theorem and_one (n : Int) : bits .and .i64 n 1 = n % 2 := by
  have h1 : (BitVec.ofInt 64 1).toNat = 2 ^ 1 - 1 := by decide
  have key : (BitVec.ofInt 64 n &&& BitVec.ofInt 64 1).toNat = (n % ((2 ^ 64 : Nat) : Int)).toNat % 2 ^ 1 := by
    rw [BitVec.toNat_and, BitVec.toNat_ofInt, h1, Nat.and_two_pow_sub_one_eq_mod]
  show IntKind.i64.wrap ((BitVec.ofInt 64 n &&& BitVec.ofInt 64 1).toNat : Nat) = n % 2
  rw [key, IntKind.wrap_i64]
  omega

/-- What LeafOf answers. -/
def leafB (a b : Int) : Int × Int := if inB a 0 1000000000 = true ∧ inB b 0 1000000000 = true then (a % 2 + 2 * (b % 2), 0) else (0, 4)
theorem leafB_in {a b : Int} (h : inB a 0 1000000000 = true) (g : inB b 0 1000000000 = true) : leafB a b = (a % 2 + 2 * (b % 2), 0) := by unfold leafB; rw [if_pos ⟨h, g⟩]
theorem leafB_out1 {a b : Int} (h : inB a 0 1000000000 = false) : leafB a b = (0, 4) := by unfold leafB; rw [if_neg (by simp [h])]
theorem leafB_out2 {a b : Int} (h : inB b 0 1000000000 = false) : leafB a b = (0, 4) := by unfold leafB; rw [if_neg (by simp [h])]

set_option maxHeartbeats 400000 in
theorem lastBit_any (n : Int) (w : World) : Calls Try.prog 53 #[.int .i64 n] w fun e w' => e = .returned (.int .i64 (n % 2)) ∧ w = w' := by
  have h := and_one n
  go_enter Try.func53, Try.ntmps53
  go_wp2
  go_ret
  exact ⟨rfl, rfl⟩

set_option maxHeartbeats 400000 in
theorem treeBitOK_any (n : Int) (w : World) : Calls Try.prog 52 #[.int .i64 n] w fun e w' => e = .returned (.bool (inB n 0 1000000000)) ∧ w = w' := by
  by_cases h1 : 0 ≤ n <;> by_cases h2 : n ≤ 1000000000
  all_goals
    go_enter Try.func52, Try.ntmps52
    go_wp2
    go_ret
    exact ⟨ret_bool (by simp [inB]; omega), rfl⟩

set_option maxHeartbeats 400000 in
theorem l07Leaf_any (a b : Int) (w : World) (ha : 0 ≤ a) (hb : 0 ≤ b) : Calls Try.prog 51 #[.int .i64 a, .int .i64 b] w fun e w' => e = .returned (.int .i64 (a % 2 + 2 * (b % 2))) ∧ w = w' := by
  have e1 : a.tmod 2 = a % 2 := Int.tmod_eq_emod_of_nonneg ha
  have e2 : b.tmod 2 = b % 2 := Int.tmod_eq_emod_of_nonneg hb
  have q1 : IntKind.i64.wrap (a % 2) = a % 2 := IntWalk.i64_in _ (by omega)
  have q2 : IntKind.i64.wrap (b % 2) = b % 2 := IntWalk.i64_in _ (by omega)
  have q3 : IntKind.i64.wrap (2 * (b % 2)) = 2 * (b % 2) := IntWalk.i64_in _ (by omega)
  have q4 : IntKind.i64.wrap (a % 2 + 2 * (b % 2)) = a % 2 + 2 * (b % 2) := IntWalk.i64_in _ (by omega)
  go_enter Try.func51, Try.ntmps51
  go_wp2
  go_ret
  exact ⟨rfl, rfl⟩

set_option maxHeartbeats 400000 in
theorem implLeafOf_any (a b : Int) (w : World) (x c : Int) (hX : leafB a b = (x, c)) : Calls Try.prog 21 #[.int .i64 a, .int .i64 b] w fun e w' => e = .returned (.tuple #[.int .i64 x, .int .i64 c]) ∧ w = w' := by
  cases h : inB a 0 1000000000
  · rw [leafB_out1 h] at hX
    cases hX
    go_enter Try.func21, Try.ntmps21
    go_wp2_with (go_at_call 52; refine (treeBitOK_any _ _).mono ?_; rintro e w' ⟨rfl, rfl⟩)
    refine bodyPost_ret (v := .tuple #[.int .i64 0, .int .i64 4]) (by simp [results, Try.results21, go_sem]) rfl ⟨rfl, rfl⟩
  cases g : inB b 0 1000000000
  · rw [leafB_out2 g] at hX
    cases hX
    go_enter Try.func21, Try.ntmps21
    go_wp2_with (go_at_call 52; refine (treeBitOK_any _ _).mono ?_; rintro e w' ⟨rfl, rfl⟩)
    refine bodyPost_ret (v := .tuple #[.int .i64 0, .int .i64 4]) (by simp [results, Try.results21, go_sem]) rfl ⟨rfl, rfl⟩
  rw [leafB_in h g] at hX
  cases hX
  have q3 : IntKind.i64.wrap (2 * (b % 2)) = 2 * (b % 2) := IntWalk.i64_in _ (by omega)
  have q4 : IntKind.i64.wrap (a % 2 + 2 * (b % 2)) = a % 2 + 2 * (b % 2) := IntWalk.i64_in _ (by omega)
  go_enter Try.func21, Try.ntmps21
  go_wp2_with (first | (go_at_call 52; refine (treeBitOK_any _ _).mono ?_; rintro e w' ⟨rfl, rfl⟩) | (go_at_call 53; refine (lastBit_any _ _).mono ?_; rintro e w' ⟨rfl, rfl⟩))
  refine bodyPost_ret (v := .tuple #[.int .i64 (a % 2 + 2 * (b % 2)), .int .i64 0]) (by simp [results, Try.results21, go_sem]) rfl ⟨rfl, rfl⟩

set_option maxHeartbeats 400000 in
theorem specLeafOf_any (a b : Int) (w : World) (x c : Int) (hX : leafB a b = (x, c)) : Calls Try.prog 20 #[.int .i64 a, .int .i64 b] w fun e w' => e = .returned (.tuple #[.int .i64 x, .int .i64 c]) ∧ w = w' := by
  cases h : inB a 0 1000000000
  · rw [leafB_out1 h] at hX
    cases hX
    go_enter Try.func20, Try.ntmps20
    go_wp2_with (go_at_call 50; refine (l01In_any _ _ _ _).mono ?_; rintro e w' ⟨rfl, rfl⟩)
    refine bodyPost_ret (v := .tuple #[.int .i64 0, .int .i64 4]) (by simp [results, Try.results20, go_sem]) rfl ⟨rfl, rfl⟩
  cases g : inB b 0 1000000000
  · rw [leafB_out2 g] at hX
    cases hX
    go_enter Try.func20, Try.ntmps20
    go_wp2_with (go_at_call 50; refine (l01In_any _ _ _ _).mono ?_; rintro e w' ⟨rfl, rfl⟩)
    refine bodyPost_ret (v := .tuple #[.int .i64 0, .int .i64 4]) (by simp [results, Try.results20, go_sem]) rfl ⟨rfl, rfl⟩
  rw [leafB_in h g] at hX
  cases hX
  have h0 := (inB_true h).1
  have g0 := (inB_true g).1
  have H0 := Lib.hid h0; have G0 := Lib.hid g0; clear h0 g0
  go_enter Try.func20, Try.ntmps20
  go_wp2_with (first | (go_at_call 50; refine (l01In_any _ _ _ _).mono ?_; rintro e w' ⟨rfl, rfl⟩) | (go_at_call 51; refine (l07Leaf_any _ _ _ H0.out G0.out).mono ?_; rintro e w' ⟨rfl, rfl⟩))
  refine bodyPost_ret (v := .tuple #[.int .i64 (a % 2 + 2 * (b % 2)), .int .i64 0]) (by simp [results, Try.results20, go_sem]) rfl ⟨rfl, rfl⟩

set_option maxHeartbeats 400000 in
theorem lawLeafOf_walk (n m : Int) (w : World) (_hn : (Lit.int .i64 n).wf = true) (_hm : (Lit.int .i64 m).wf = true) :
    Calls Try.prog 5 #[.int .i64 n, .int .i64 m] w fun e w' => e = .returned (.bool true) ∧ Below w.heap.size w w' := by
  obtain ⟨⟨x, c⟩, hX⟩ : ∃ p, leafB n m = p := ⟨_, rfl⟩
  have HX := Lib.hid hX; clear hX _hn _hm
  go_enter Try.func5, Try.ntmps5
  go_wp2_with (first | (go_at_call 20; refine (specLeafOf_any n m _ x c HX.out).mono ?_; rintro e w' ⟨rfl, rfl⟩) | (go_at_call 21; refine (implLeafOf_any n m _ x c HX.out).mono ?_; rintro e w' ⟨rfl, rfl⟩))
  go_ret
  exact ⟨rfl, Below.refl _ _⟩
end Go.Proofs.Ytjddmdhoeampcaa
