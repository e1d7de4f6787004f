/-
  The program's load of a cell that may not be there, ownerAt, cameOf.
-/
import Derived.Test.YtndaeciadcgkbaaStoreB
import Derived.Test.YtndaeciadcgkbaaCas
namespace Go.Proofs.Ytndaeciadcgkbaa
open Go.RowKit

set_option maxHeartbeats 1000000 in
theorem cload_any (A : Option Addr) (c : Nat) (zs : List Int) (p : Int) (w : World) (_hn : zs.length ≤ 1048576) (h0 : zs.getD 0 0 = 0) (hA : Rd w A zs) :
    Calls Try.prog 43 #[.agg #[.slice A zs.length c], .int .i64 p] w fun e w' => e = .returned (.int .i64 (loadZ zs p)) ∧ Below w.heap.size w w' := by
  have HA := Lib.hid (hA.below (below_alloc w (.cells #[.slice A zs.length c] 26))); clear hA
  by_cases hp : p < 0
  · have HV : Hid (loadZ zs p = 0) := by unfold loadZ; rw [if_neg (by rw [inB_iff]; omega)]; rfl
    have hd : decide (p < 0) = true := decide_eq_true hp
    clear h0
    go_enter Try.func43, Try.ntmps43
    go_wp2
    go_ret
    exact ⟨ret_int HV.out.symm, below_alloc _ _⟩
  · have hd : decide (p < 0) = false := decide_eq_false hp
    by_cases hq : (zs.length : Int) ≤ p
    · have HV : Hid (loadZ zs p = 0) := by unfold loadZ; rw [if_neg (by rw [inB_iff]; omega)]; rfl
      have hd2 : decide ((zs.length : Int) ≤ p) = true := decide_eq_true hq
      clear h0
      go_enter Try.func43, Try.ntmps43
      go_wp2
      go_ret
      exact ⟨ret_int HV.out.symm, below_alloc _ _⟩
    · obtain ⟨k, rfl⟩ := Int.eq_ofNat_of_zero_le (by omega : 0 ≤ p)
      have hk : k < zs.length := by omega
      have HV : Hid (loadZ zs k = zs.getD k 0) := by
        unfold loadZ
        by_cases hz : k = 0
        · subst hz; rw [if_neg (by rw [inB_iff]; omega)]; exact h0.symm
        · rw [if_pos (by rw [inB_iff]; omega), Int.toNat_natCast]; rfl
      have hd2 : decide ((zs.length : Int) ≤ (k : Int)) = false := decide_eq_false hq
      obtain ⟨b, o, rfl, hcell⟩ := HA.out k hk
      clear h0
      generalize hx : zs.getD k 0 = x at *
      clear hx
      go_enter Try.func43, Try.ntmps43
      go_wp2
      go_ret
      exact ⟨ret_int HV.out.symm, below_alloc _ _⟩

/-- What is loaded of a right arena is a word. -/
theorem loadZ_word {zs : List Int} (h : wordsB zs = true) (p : Int) : -1000000000 ≤ loadZ zs p ∧ loadZ zs p ≤ 1000000000 := by
  unfold loadZ
  split
  · rename_i hi
    rw [inB_iff] at hi
    exact (wordB_iff _).1 ((wordsB_iff zs).1 h p.toNat (by omega))
  · omega

set_option maxHeartbeats 1000000 in
theorem ownerAt_any (A : Option Addr) (c : Nat) (zs : List Int) (r x : Int) (w : World) (hn : zs.length ≤ 1048576) (h0 : zs.getD 0 0 = 0) (hx : loadZ zs (r + 2) = x) (hr : -1000000000000 ≤ r ∧ r ≤ 1000000000000) (hb : -1000000000000 ≤ x ∧ x ≤ 1000000000000) (hA : Rd w A zs) :
    Calls Try.prog 45 #[.agg #[.slice A zs.length c], .int .i64 r] w fun e w' => e = .returned (.int .i64 (x - 1)) ∧ Below w.heap.size w w' := by
  have HA := Lib.hid (hA.below (below_alloc w (.cells #[.slice A zs.length c] 26))); clear hA
  have hq : IntKind.i64.wrap (x - 1) = x - 1 := IntWalk.i64_in _ (by omega)
  have hw2 : IntKind.i64.wrap (r + 2) = r + 2 := IntWalk.i64_in _ (by omega)
  have HX := Lib.hid hx; have H0 := Lib.hid h0; clear hx h0 hb hr
  go_enter Try.func45, Try.ntmps45
  go_wp2_with fail
  refine (cload_any _ _ zs _ _ hn H0.out HA.out).mono ?_
  rintro e w1 ⟨rfl, hb⟩
  rw [HX.out]
  have HB := Lib.hid (below_trans (below_alloc _ _) hb); clear hb
  go_wp2
  go_ret
  exact ⟨rfl, HB.out⟩

theorem cameOf_any (r : Int) (w : World) (hr : -1000000000000 ≤ r ∧ r ≤ 1000000000000) :
    Calls Try.prog 44 #[.int .i64 r] w fun e w' => e = .returned (.int .i64 (r + 1)) ∧ w = w' := by
  have hw2 : IntKind.i64.wrap (r + 1) = r + 1 := IntWalk.i64_in _ (by omega)
  go_enter Try.func44, Try.ntmps44
  go_wp2
  go_ret
  exact ⟨rfl, rfl⟩
end Go.Proofs.Ytndaeciadcgkbaa
