/-
  The program's load of a cell that may not be there, ownerAt, cameOf.
-/
import Derived.Test.YtjddmdhoeampcaaStoreB
import Derived.Test.YtjddmdhoeampcaaCas
namespace Go.Proofs.Ytjddmdhoeampcaa
open Go.RowKit

set_option maxHeartbeats 1000000 in
theorem cload_any (A : Option Addr) (c : Nat) (zs : List Int) (p : Int) (w : World) (_hn : zs.length ≤ 1048576) (h0 : zs.getD 0 0 = 0) (hA : Rd w A zs) :
    Calls Try.prog 49 #[.agg #[.slice A zs.length c], .int .i64 p] w fun e w' => e = .returned (.int .i64 (loadZ zs p)) ∧ Below w.heap.size w w' := by
  have HA := Lib.hid (hA.below (below_alloc w (.cells #[.slice A zs.length c] 26))); clear hA
  by_cases hp : p < 0
  · have HV : Hid (loadZ zs p = 0) := by unfold loadZ; rw [if_neg (by rw [inB_iff]; omega)]; rfl
    have hd : decide (p < 0) = true := decide_eq_true hp
    clear h0
    go_enter Try.func49, Try.ntmps49
    go_wp2
    go_ret
    exact ⟨ret_int HV.out.symm, below_alloc _ _⟩
  · have hd : decide (p < 0) = false := decide_eq_false hp
    by_cases hq : (zs.length : Int) ≤ p
    · have HV : Hid (loadZ zs p = 0) := by unfold loadZ; rw [if_neg (by rw [inB_iff]; omega)]; rfl
      have hd2 : decide ((zs.length : Int) ≤ p) = true := decide_eq_true hq
      clear h0
      go_enter Try.func49, Try.ntmps49
      go_wp2
      go_ret
      exact ⟨ret_int HV.out.symm, below_alloc _ _⟩
    · obtain ⟨k, rfl⟩ := Int.eq_ofNat_of_zero_le (by omega : 0 ≤ p)
      have hk : k < zs.length := by omega
      have HV : Hid (loadZ zs k = zs.getD k 0) := by
        unfold loadZ
        by_cases hz : k = 0
        · subst hz; rw [if_neg (by rw [inB_iff]; omega)]; exact h0.symm
        · rw [if_pos (by rw [inB_iff]; omega), Int.toNat_natCast]; rfl
      have hd2 : decide ((zs.length : Int) ≤ (k : Int)) = false := decide_eq_false hq
      obtain ⟨b, o, rfl, hcell⟩ := HA.out k hk
      clear h0
      generalize hx : zs.getD k 0 = x at *
      clear hx
      go_enter Try.func49, Try.ntmps49
      go_wp2
      go_ret
      exact ⟨ret_int HV.out.symm, below_alloc _ _⟩

/-- What is loaded of a right arena is a word. -/
theorem loadZ_in {zs : List Int} (h : wordsB zs = true) (p : Int) : -1000000000 ≤ loadZ zs p ∧ loadZ zs p ≤ 1000000000 := by
  unfold loadZ
  split
  · rename_i hi
    rw [inB_iff] at hi
    exact (wordB_iff _).1 ((wordsB_iff zs).1 h p.toNat (by omega))
  · omega

end Go.Proofs.Ytjddmdhoeampcaa
