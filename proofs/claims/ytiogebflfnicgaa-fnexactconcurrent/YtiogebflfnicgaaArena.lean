/-
  Contracts of the arena's functions that read: the program's and the model's (chapter 2).
-/
import Derived.Test.YtiogebflfnicgaaBaseW
import Derived.Test.YtiogebflfnicgaaBaseX
import Derived.Test.YtiogebflfnicgaaHelpB
namespace Go.Proofs.Ytiogebflfnicgaa
open Go.RowKit

def arenaB (zs : List Int) : Bool := decide (1 ≤ zs.length) && decide (zs.length ≤ 400) && (zs.getD 0 0 == 0) && wordsB zs
def cellCode (zs : List Int) (at_ : Int) : Int := if arenaB zs = true then (if 1 ≤ at_ ∧ at_ < zs.length then 0 else 4) else 1

theorem arenaB_false {zs : List Int} (h : zs.length < 1 ∨ 400 < zs.length ∨ (zs.getD 0 0 == 0) = false ∨ wordsB zs = false) : arenaB zs = false := by
  unfold arenaB
  rcases h with h | h | h | h
  · rw [decide_eq_false (by omega : ¬ 1 ≤ zs.length)]; rfl
  · rw [decide_eq_false (by omega : ¬ zs.length ≤ 400), Bool.and_false]; rfl
  · rw [h, Bool.and_false]; rfl
  · rw [h, Bool.and_false]
theorem arenaB_true {zs : List Int} (h1 : 1 ≤ zs.length) (h2 : zs.length ≤ 400) (h3 : (zs.getD 0 0 == 0) = true) (h4 : wordsB zs = true) : arenaB zs = true := by
  unfold arenaB
  rw [decide_eq_true h1, decide_eq_true h2, h3, h4]; rfl
theorem arenaB_parts {zs : List Int} (h : arenaB zs = true) : 1 ≤ zs.length ∧ zs.length ≤ 400 ∧ zs.getD 0 0 = 0 ∧ wordsB zs = true := by
  unfold arenaB at h
  rw [Bool.and_eq_true, Bool.and_eq_true, Bool.and_eq_true] at h
  exact ⟨of_decide_eq_true h.1.1.1, of_decide_eq_true h.1.1.2, by simpa using h.1.2, h.2⟩

set_option maxHeartbeats 1000000 in
theorem implArenaOK_any (A : Option Addr) (c : Nat) (zs : List Int) (w : World) (hn : zs.length ≤ 1048576) (hA : Rd w A zs) :
    Calls Try.prog 116 #[.agg #[.slice A zs.length c]] w fun e w' => e = .returned (.bool (arenaB zs)) ∧ Below w.heap.size w w' := by
  by_cases h1 : zs.length < 1
  · have HN := Lib.hid (arenaB_false (zs := zs) (.inl h1))
    have hd : decide (zs.length < 1) = true := decide_eq_true h1
    clear hA
    go_enter Try.func116, Try.ntmps116
    go_wp2
    go_ret
    exact ⟨ret_bool HN.out.symm, below_alloc _ _⟩
  by_cases h2 : 400 < zs.length
  · have HN := Lib.hid (arenaB_false (zs := zs) (.inr (.inl h2)))
    clear hA
    go_enter Try.func116, Try.ntmps116
    go_wp2
    go_ret
    exact ⟨ret_bool HN.out.symm, below_alloc _ _⟩
  have hp : 0 < zs.length := by omega
  obtain ⟨b, o, rfl, hcell⟩ := hA 0 hp
  have HA := Lib.hid hA; clear hA
  have hcell' : (w.alloc (.cells #[.slice (some ⟨b, o, none⟩) zs.length c] 60)).cell? ⟨b, o, none⟩ = some (.int .i64 (zs.getD 0 0)) := by
    rw [(below_alloc w _).cell (p := ⟨b, o, none⟩) (block_lt_of_cell hcell)]; exact hcell
  generalize hx : zs.getD 0 0 = x at *
  have HX := Lib.hid hx; clear hx
  have hd1 : decide (zs.length < 1) = false := decide_eq_false (by omega)
  have hd2 : decide (400 < zs.length) = false := decide_eq_false (by omega)
  cases h3 : (x == 0)
  · have HN := Lib.hid (arenaB_false (zs := zs) (.inr (.inr (.inl (by rw [HX.out]; exact h3)))))
    go_enter Try.func116, Try.ntmps116
    go_wp2
    go_ret
    exact ⟨ret_bool HN.out.symm, below_alloc _ _⟩
  · have HN : Hid (arenaB zs = wordsB zs) := by
      cases hw : wordsB zs
      · exact arenaB_false (.inr (.inr (.inr hw)))
      · exact arenaB_true (by omega) (by omega) (by rw [HX.out]; exact h3) hw
    go_enter Try.func116, Try.ntmps116
    go_wp2_with (go_at_call 140; refine (wordsOK_any _ _ zs _ hn (HA.out.below (below_alloc _ _))).mono ?_; rintro e w' ⟨rfl, rfl⟩)
    go_ret
    exact ⟨ret_bool HN.out.symm, below_alloc _ _⟩
end Go.Proofs.Ytiogebflfnicgaa
