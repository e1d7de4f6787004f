/-
  References of nodes: NodeRef, NodeAt, ItemWaits, the program's and the model's; the walks of their exact laws.
-/
import Derived.Test.YtjddmdhoeampcaaBaseX
namespace Go.Proofs.Ytjddmdhoeampcaa
open Go.RowKit

def bitI (b : Bool) : Int := if b then 1 else 0
theorem bitI_bounds (b : Bool) : 0 ≤ bitI b ∧ bitI b ≤ 1 := by cases b <;> decide
/-- What NodeRef answers. -/
def refB (n : Int) (b : Bool) : Int × Int := if inB n 1 399 then (2 * n + bitI b, 0) else (0, 4)
/-- What NodeAt answers. -/
def nodeB (r : Int) : Int × Bool × Int := if inB r 2 799 then (r.tdiv 2, decide (r.tmod 2 = 1), 0) else (0, false, 4)
/-- What ItemWaits answers. -/
def waitsB (b : Bool) (x : Int) : Bool := if b then decide (0 < x) else decide (x = 0)

set_option maxHeartbeats 400000 in
theorem kindBit_any (b : Bool) (w : World) : Calls Try.prog 112 #[.bool b] w fun e w' => e = .returned (.int .i64 (bitI b)) ∧ w = w' := by
  cases b
  all_goals
    go_enter Try.func112, Try.ntmps112
    go_wp2
    go_ret
    exact ⟨rfl, rfl⟩

set_option maxHeartbeats 400000 in
theorem bitOf_any (b : Bool) (w : World) : Calls Try.prog 77 #[.bool b] w fun e w' => e = .returned (.int .i64 (bitI b)) ∧ w = w' := by
  cases b
  all_goals
    go_enter Try.func77, Try.ntmps77
    go_wp2
    go_ret
    exact ⟨rfl, rfl⟩

theorem half_bounds (n : Int) (h : -1000000000000 ≤ n ∧ n ≤ 1000000000000) : -1000000000000 ≤ n.tdiv 2 ∧ n.tdiv 2 ≤ 1000000000000 := by
  by_cases hn : 0 ≤ n
  · rw [Int.tdiv_eq_ediv_of_nonneg hn]; omega
  · have := Int.neg_tdiv n 2
    have h2 : (-n).tdiv 2 = (-n) / 2 := Int.tdiv_eq_ediv_of_nonneg (by omega)
    omega
theorem wrap_half (n : Int) (h : -1000000000000 ≤ n ∧ n ≤ 1000000000000) : IntKind.i64.wrap (n.tdiv 2) = n.tdiv 2 :=
  IntWalk.i64_in _ (by have := half_bounds n h; omega)
theorem rest_bounds (n : Int) : -1 ≤ n.tmod 2 ∧ n.tmod 2 ≤ 1 := by
  by_cases hn : 0 ≤ n
  · rw [Int.tmod_eq_emod_of_nonneg hn]; omega
  · have := Int.neg_tmod n 2
    have h2 : (-n).tmod 2 = (-n) % 2 := Int.tmod_eq_emod_of_nonneg (by omega)
    omega
theorem wrap_rest (n : Int) : IntKind.i64.wrap (n.tmod 2) = n.tmod 2 :=
  IntWalk.i64_in _ (by have := rest_bounds n; omega)

/-- Half a reference: where a node's first cell is. -/
def halfI (n : Int) : Int := n.tdiv 2
/-- A reference that brings. -/
def bringsR (n : Int) : Bool := decide (n.tmod 2 = 1)
theorem half_word {n : Int} (h : wordB n = true) : -500000000 ≤ halfI n ∧ halfI n ≤ 500000000 := by
  rw [wordB_iff] at h
  unfold halfI
  by_cases hn : 0 ≤ n
  · rw [Int.tdiv_eq_ediv_of_nonneg hn]; omega
  · have := Int.neg_tdiv n 2
    have h2 : (-n).tdiv 2 = (-n) / 2 := Int.tdiv_eq_ediv_of_nonneg (by omega)
    omega

end Go.Proofs.Ytjddmdhoeampcaa
