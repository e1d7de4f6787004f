/-
  Contracts: writeFault, StoreCell of the program; l01Load, l01Store, StoreCell of the model (chapter 2).
-/
import Derived.Test.YtkjkbkioekiecaaAppend
import Derived.Test.YtkjkbkioekiecaaLoad
namespace Go.Proofs.Ytkjkbkioekiecaa
open Go.RowKit

def writeCode (zs : List Int) (p v : Int) : Int := if cellCode zs p = 0 then (if wordB v = true then 0 else 4) else cellCode zs p
def storeZs (zs : List Int) (p v : Int) : List Int := if writeCode zs p v = 0 then zs.set p.toNat v else []
theorem writeCode_zero {zs : List Int} {p v : Int} (h : writeCode zs p v = 0) : cellCode zs p = 0 ∧ wordB v = true := by
  unfold writeCode at h
  by_cases h1 : cellCode zs p = 0
  · rw [if_pos h1] at h
    cases hw : wordB v
    · rw [hw] at h; simp at h
    · exact ⟨h1, rfl⟩
  · rw [if_neg h1] at h; exact absurd h h1

/-- What a struct result of the model's and the program's looks like: an arena and a code. -/
theorem ret_agg_int {k : IntKind} {v : Value} {a b : Int} (h : a = b) : Ending.returned (.tuple #[.agg #[v], .int k a]) = .returned (.tuple #[.agg #[v], .int k b]) := by rw [h]

set_option maxHeartbeats 1000000 in
theorem writeFault_any (A : Option Addr) (c : Nat) (zs : List Int) (p v : Int) (w : World) (hn : zs.length ≤ 1048576) (hA : Rd w A zs) :
    Calls Try.prog 128 #[.agg #[.slice A zs.length c], .int .i64 p, .int .i64 v] w fun e w' => e = .returned (.int .i64 (writeCode zs p v)) ∧ Below w.heap.size w w' := by
  have HA := Lib.hid (hA.below (below_alloc w (.cells #[.slice A zs.length c] 32))); clear hA
  cases hz : (cellCode zs p != 0)
  · have h0 : cellCode zs p = 0 := by simpa using hz
    cases hw : wordB v
    · have HC : Hid (writeCode zs p v = 4) := by unfold writeCode; rw [if_pos h0, hw]; rfl
      clear h0
      go_enter Try.func128, Try.ntmps128
      go_wp2_with fail
      refine (cellFault_any _ _ zs _ _ hn HA.out).mono ?_
      rintro e w' ⟨rfl, hb⟩
      have HB := Lib.hid hb; clear hb
      go_wp2_with (go_at_call 102; refine (wordOK_any _ _).mono ?_; rintro e w' ⟨rfl, rfl⟩)
      go_ret
      exact ⟨ret_int HC.out.symm, below_trans (below_alloc _ _) HB.out⟩
    · have HC : Hid (writeCode zs p v = 0) := by unfold writeCode; rw [if_pos h0, hw]; rfl
      clear h0
      go_enter Try.func128, Try.ntmps128
      go_wp2_with fail
      refine (cellFault_any _ _ zs _ _ hn HA.out).mono ?_
      rintro e w' ⟨rfl, hb⟩
      have HB := Lib.hid hb; clear hb
      go_wp2_with (go_at_call 102; refine (wordOK_any _ _).mono ?_; rintro e w' ⟨rfl, rfl⟩)
      go_ret
      exact ⟨ret_int HC.out.symm, below_trans (below_alloc _ _) HB.out⟩
  · have HC : Hid (writeCode zs p v = cellCode zs p) := by unfold writeCode; rw [if_neg (by simpa using hz)]; rfl
    go_enter Try.func128, Try.ntmps128
    go_wp2_with fail
    refine (cellFault_any _ _ zs _ _ hn HA.out).mono ?_
    rintro e w' ⟨rfl, hb⟩
    have HB := Lib.hid hb; clear hb
    go_wp2
    go_ret
    exact ⟨ret_int HC.out.symm, below_trans (below_alloc _ _) HB.out⟩

end Go.Proofs.Ytkjkbkioekiecaa
