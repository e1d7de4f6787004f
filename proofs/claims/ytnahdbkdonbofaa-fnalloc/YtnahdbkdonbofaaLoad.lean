/-
  Contracts: LoadCell, the program's and the model's (chapter 2).
-/
import Derived.Test.YtnahdbkdonbofaaArenaB
namespace Go.Proofs.Ytnahdbkdonbofaa
open Go.RowKit

def loadVal (zs : List Int) (p : Int) : Int := if cellCode zs p = 0 then zs.getD p.toNat 0 else 0
theorem cellCode_cases (zs : List Int) (p : Int) : cellCode zs p = 0 ∨ cellCode zs p = 1 ∨ cellCode zs p = 4 := by
  unfold cellCode
  by_cases h1 : arenaB zs = true
  · rw [if_pos h1]
    by_cases h2 : 1 ≤ p ∧ p < zs.length
    · rw [if_pos h2]; exact .inl rfl
    · rw [if_neg h2]; exact .inr (.inr rfl)
  · rw [if_neg h1]; exact .inr (.inl rfl)
theorem ret_int2 {k k' : IntKind} {a b a' b' : Int} (h : a = b) (h' : a' = b') : Ending.returned (.tuple #[.int k a, .int k' a']) = .returned (.tuple #[.int k b, .int k' b']) := by rw [h, h']

set_option maxHeartbeats 1000000 in
theorem implLoadCell_any (A : Option Addr) (c : Nat) (zs : List Int) (p : Int) (w : World) (hn : zs.length ≤ 1048576) (hA : Rd w A zs) :
    Calls Try.prog 21 #[.agg #[.slice A zs.length c], .int .i64 p] w fun e w' => e = .returned (.tuple #[.int .i64 (loadVal zs p), .int .i64 (cellCode zs p)]) ∧ Below w.heap.size w w' := by
  have HA := Lib.hid (hA.below (below_alloc w (.cells #[.slice A zs.length c] 25))); clear hA
  cases hz : (cellCode zs p != 0)
  · have h0 : cellCode zs p = 0 := by simpa using hz
    obtain ⟨_, h1, h2⟩ := cellCode_zero h0
    have HV : Hid (loadVal zs p = zs.getD p.toNat 0) := by unfold loadVal; rw [if_pos h0]; rfl
    have HC := Lib.hid h0; clear h0
    obtain ⟨k, rfl⟩ := Int.eq_ofNat_of_zero_le (by omega : 0 ≤ p)
    have hk : k < zs.length := by omega
    go_enter Try.func21, Try.ntmps21
    go_wp2_with fail
    refine (cellFault_any _ _ zs _ _ hn HA.out).mono ?_
    rintro e w' ⟨rfl, hb⟩
    have HB := Lib.hid hb
    obtain ⟨hc, hf⟩ := bcell hb
    obtain ⟨b, o, rfl, hcell⟩ := (HA.out.below hb) k hk
    clear hb
    rw [Int.toNat_natCast] at HV
    generalize hx : zs.getD k 0 = x at *
    clear hx
    go_wp2
    go_ret2
    exact ⟨ret_int2 HV.out.symm HC.out.symm, below_trans (below_alloc _ _) HB.out⟩
  · have HV : Hid (loadVal zs p = 0) := by unfold loadVal; rw [if_neg (by simpa using hz)]; rfl
    go_enter Try.func21, Try.ntmps21
    go_wp2_with fail
    refine (cellFault_any _ _ zs _ _ hn HA.out).mono ?_
    rintro e w' ⟨rfl, hb⟩
    have HB := Lib.hid hb
    obtain ⟨hc, hf⟩ := bcell hb
    clear hb
    go_wp2
    go_ret2
    exact ⟨ret_int2 HV.out.symm rfl, below_trans (below_alloc _ _) HB.out⟩

set_option maxHeartbeats 1000000 in
theorem specLoadCell_any (A : Option Addr) (c : Nat) (zs : List Int) (p : Int) (w : World) (hn : zs.length ≤ 1048576) (hA : Rd w A zs) :
    Calls Try.prog 41 #[.agg #[.slice A zs.length c], .int .i64 p] w fun e w' => e = .returned (.tuple #[.int .i64 (loadVal zs p), .int .i64 (cellCode zs p)]) ∧ Below w.heap.size w w' := by
  have HA := Lib.hid (hA.below (below_alloc w (.cells #[.slice A zs.length c] 25))); clear hA
  cases hz : (cellCode zs p != 0)
  · have h0 : cellCode zs p = 0 := by simpa using hz
    obtain ⟨_, h1, h2⟩ := cellCode_zero h0
    have HV : Hid (loadVal zs p = zs.getD p.toNat 0) := by unfold loadVal; rw [if_pos h0]; rfl
    have HC := Lib.hid h0; clear h0
    obtain ⟨k, rfl⟩ := Int.eq_ofNat_of_zero_le (by omega : 0 ≤ p)
    have hk : k < zs.length := by omega
    go_enter Try.func41, Try.ntmps41
    go_wp2_with fail
    refine (l01Ask_any _ _ zs _ _ hn HA.out).mono ?_
    rintro e w' ⟨rfl, hb⟩
    have HB := Lib.hid hb
    obtain ⟨hc, hf⟩ := bcell hb
    obtain ⟨b, o, rfl, hcell⟩ := (HA.out.below hb) k hk
    clear hb
    rw [Int.toNat_natCast] at HV
    generalize hx : zs.getD k 0 = x at *
    clear hx
    go_wp2
    go_ret2
    exact ⟨ret_int2 HV.out.symm HC.out.symm, below_trans (below_alloc _ _) HB.out⟩
  · have HV : Hid (loadVal zs p = 0) := by unfold loadVal; rw [if_neg (by simpa using hz)]; rfl
    go_enter Try.func41, Try.ntmps41
    go_wp2_with fail
    refine (l01Ask_any _ _ zs _ _ hn HA.out).mono ?_
    rintro e w' ⟨rfl, hb⟩
    have HB := Lib.hid hb
    obtain ⟨hc, hf⟩ := bcell hb
    clear hb
    go_wp2
    go_ret2
    exact ⟨ret_int2 HV.out.symm rfl, below_trans (below_alloc _ _) HB.out⟩
end Go.Proofs.Ytnahdbkdonbofaa
