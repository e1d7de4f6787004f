/-
  The laws' choices out of bytes: at.
-/
import Derived.Test.YtepjaahclcpaaaaSrc
namespace Go.Proofs.Ytepjaahclcpaaaa
open Go.RowKit

set_option maxHeartbeats 1000000 in
theorem at_any (A : Option Addr) (n c k : Nat) (q : Int) (w : World) (hn : n ≤ 1048576) (hk : k ≤ 1000000) (hq1 : 1 < q) (hq2 : q ≤ 1000000) (hA : RdB w A n) :
    Calls Try.prog 12 #[.slice A n c, .int .i64 (k : Nat), .int .i64 q] w fun e w' => ∃ r : Int, 0 ≤ r ∧ r < q ∧ e = .returned (.int .i64 r) ∧ Below w.heap.size w w' := by
  have hqz : (q == 0) = false := by simp; omega
  by_cases hz : n = 0
  · subst hz
    go_enter Try.func12, Try.ntmps12
    go_wp2
    go_ret
    refine ⟨(k : Int) * 7 % q, Int.emod_nonneg _ (by omega), Int.emod_lt_of_pos _ (by omega), ?_, Below.refl _ _⟩
    rfl
  · have hnz : ((n : Int) == 0) = false := by simp; omega
    obtain ⟨p1, hp1, ht1⟩ : ∃ p1 : Nat, p1 < n ∧ (k : Int).tmod (n : Int) = (p1 : Int) := ⟨k % n, Nat.mod_lt _ (by omega), by rw [Int.tmod_eq_emod_of_nonneg (by omega)]; rfl⟩
    obtain ⟨p2, hp2, ht2⟩ : ∃ p2 : Nat, p2 < n ∧ ((k : Int) + 1).tmod (n : Int) = (p2 : Int) := ⟨(k + 1) % n, Nat.mod_lt _ (by omega), by rw [Int.tmod_eq_emod_of_nonneg (by omega)]; rfl⟩
    obtain ⟨p3, hp3, ht3⟩ : ∃ p3 : Int, (0 ≤ p3 ∧ p3 ≤ k) ∧ (k : Int).tdiv (n : Int) = p3 := ⟨_, by rw [Int.tdiv_eq_ediv_of_nonneg (by omega)]; exact ⟨Int.ediv_nonneg (by omega) (by omega), Int.ediv_le_self _ (by omega)⟩, rfl⟩
    obtain ⟨b, o, u, rfl, hc1, hu0, hu1⟩ := hA p1 hp1
    obtain ⟨b', o', u', hbo, hc2, hv0, hv1⟩ := hA p2 hp2
    simp only [Option.some.injEq, Addr.mk.injEq, and_true] at hbo
    obtain ⟨rfl, rfl⟩ := hbo
    have q0 : IntKind.i64.wrap ((k : Int) + 1) = (k : Int) + 1 := IntWalk.i64_in _ (by omega)
    have q1 : IntKind.i64.wrap (u * 31) = u * 31 := IntWalk.i64_in _ (by omega)
    have q2 : IntKind.i64.wrap (u * 31 + u') = u * 31 + u' := IntWalk.i64_in _ (by omega)
    have q3 : IntKind.i64.wrap p3 = p3 := IntWalk.i64_in _ (by omega)
    have q4 : IntKind.i64.wrap (u * 31 + u' + p3) = u * 31 + u' + p3 := IntWalk.i64_in _ (by omega)
    have q5 : IntKind.i64.wrap u = u := IntWalk.i64_in _ (by omega)
    have q6 : IntKind.i64.wrap u' = u' := IntWalk.i64_in _ (by omega)
    have q7 : (u * 31 + u' + p3).tmod q = (u * 31 + u' + p3) % q := Int.tmod_eq_emod_of_nonneg (by omega)
    clear hA
    go_enter Try.func12, Try.ntmps12
    go_wp2
    go_quiet (fail)
    go_wp2
    go_ret
    refine ⟨(u * 31 + u' + p3) % q, Int.emod_nonneg _ (by omega), Int.emod_lt_of_pos _ (by omega), ?_, below_drewN _⟩
    rfl

end Go.Proofs.Ytepjaahclcpaaaa
