/-
  The source of choices: next, l00Source.
-/
import Derived.Test.YtepjaahclcpaaaaDoorSrc
namespace Go.Proofs.YtepjaahclcpaaaaDoor
open Go.RowKit

set_option maxHeartbeats 1000000 in
theorem next_small (g B : Nat) (A : Option Addr) (n c : Nat) (m q : Int) (w : World) (hm : m ≤ 1000000000000) (hn : n ≤ maxLen) (hq1 : 1 < q) (hq2 : q ≤ 256) (hS : Src w g B A n c m) :
    Calls Tryd.prog 29 #[.pointer (some ⟨g, 0, none⟩), .int .i64 q] w fun e w' => ∃ r : Int, 0 ≤ r ∧ r < q ∧ e = .returned (.int .i64 r) ∧ Src w' g B A n c (m + 1) ∧ w.grownBy w' (some g) := by
  have HS := Lib.hid hS; clear hS
  go_enter Tryd.func29, Tryd.ntmps29
  go_wp2_with fail
  refine (byte_any g B A n c m _ hm hn HS.out).mono ?_
  rintro e w1 ⟨r, hr0, hr1, rfl, hS1, hg1⟩
  have HS1 := Lib.hid hS1; have HG1 := Lib.hid hg1; clear hS1 hg1
  have hqz : (q == 0) = false := by simp; omega
  go_wp2
  go_ret
  refine ⟨r % q, ?_, ?_, ?_, HS1.out, HG1.out⟩
  · exact Int.emod_nonneg _ (by omega)
  · exact Int.emod_lt_of_pos _ (by omega)
  · rfl

set_option maxHeartbeats 1000000 in
theorem l00Source_any (A : Option Addr) (n c : Nat) (w : World) (hn : n ≤ maxLen) (hA : RdB w A n) :
    Calls Tryd.prog 12 #[.slice A n c] w fun e w' => e = .returned (.pointer (some ⟨w.heap.size, 0, none⟩)) ∧ Src w' w.heap.size w.heap.size A n c 0 ∧ Below w.heap.size w w' := by
  unfold maxLen at hn
  have HA := Lib.hid hA; clear hA
  go_enter Tryd.func12, Tryd.ntmps12
  go_wp2
  go_ret
  refine ⟨rfl, ?_, below_alloc _ _⟩
  refine ⟨by simp, ⟨0, (n : Int) % 1000, by simp, by simp, by omega, by omega, by omega, by omega⟩, fun i => by simp, HA.out.below (below_alloc _ _), ?_, Nat.le_refl _⟩
  intro a ha hp
  obtain ⟨b, o, u, hb, hc, _⟩ := HA.out 0 hp
  rw [ha] at hb
  have := block_lt_of_cell hc
  cases hb
  exact this
end Go.Proofs.YtepjaahclcpaaaaDoor
