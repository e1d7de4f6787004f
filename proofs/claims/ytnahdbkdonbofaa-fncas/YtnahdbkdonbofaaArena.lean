/-
  Contracts of the arena's functions that read: the program's and the model's (chapter 2).
-/
import Derived.Test.YtnahdbkdonbofaaHelpB
namespace Go.Proofs.Ytnahdbkdonbofaa
open Go.RowKit

def inB (n lo hi : Int) : Bool := decide (lo ≤ n) && decide (n ≤ hi)
def wordB (v : Int) : Bool := inB v (-1000000000) 1000000000
def wordsB (zs : List Int) : Bool := zs.all wordB
def arenaB (zs : List Int) : Bool := decide (1 ≤ zs.length) && decide (zs.length ≤ 400) && (zs.getD 0 0 == 0) && wordsB zs
def cellCode (zs : List Int) (at_ : Int) : Int := if arenaB zs = true then (if 1 ≤ at_ ∧ at_ < zs.length then 0 else 4) else 1

theorem inB_true {n lo hi : Int} (h : inB n lo hi = true) : lo ≤ n ∧ n ≤ hi := by simpa [inB] using h
theorem inB_false {n lo hi : Int} (h : inB n lo hi = false) : ¬ (lo ≤ n ∧ n ≤ hi) := by simp [inB] at h; omega
theorem wordB_iff (v : Int) : wordB v = true ↔ -1000000000 ≤ v ∧ v ≤ 1000000000 := by simp [wordB, inB]
theorem wordsB_iff (zs : List Int) : wordsB zs = true ↔ ∀ j, j < zs.length → wordB (zs.getD j 0) = true := by
  unfold wordsB
  rw [List.all_eq_true]
  constructor
  · intro h j hj
    simp only [List.getD, List.getElem?_eq_getElem hj, Option.getD_some]
    exact h _ (List.getElem_mem _)
  · intro h x hx
    obtain ⟨j, hj, rfl⟩ := List.getElem_of_mem hx
    have := h j hj
    simpa only [List.getD, List.getElem?_eq_getElem hj, Option.getD_some] using this
theorem wordsB_false {zs : List Int} {k : Nat} (h : k < zs.length) (hk : wordB (zs.getD k 0) = false) : wordsB zs = false := by
  cases hw : wordsB zs
  · rfl
  · rw [(wordsB_iff zs).1 hw k h] at hk; cases hk
theorem arenaB_false {zs : List Int} (h : zs.length < 1 ∨ 400 < zs.length ∨ (zs.getD 0 0 == 0) = false ∨ wordsB zs = false) : arenaB zs = false := by
  unfold arenaB
  rcases h with h | h | h | h
  · rw [decide_eq_false (by omega : ¬ 1 ≤ zs.length)]; rfl
  · rw [decide_eq_false (by omega : ¬ zs.length ≤ 400), Bool.and_false]; rfl
  · rw [h, Bool.and_false]; rfl
  · rw [h, Bool.and_false]
theorem arenaB_true {zs : List Int} (h1 : 1 ≤ zs.length) (h2 : zs.length ≤ 400) (h3 : (zs.getD 0 0 == 0) = true) (h4 : wordsB zs = true) : arenaB zs = true := by
  unfold arenaB
  rw [decide_eq_true h1, decide_eq_true h2, h3, h4]; rfl
theorem arenaB_parts {zs : List Int} (h : arenaB zs = true) : 1 ≤ zs.length ∧ zs.length ≤ 400 ∧ zs.getD 0 0 = 0 ∧ wordsB zs = true := by
  unfold arenaB at h
  rw [Bool.and_eq_true, Bool.and_eq_true, Bool.and_eq_true] at h
  exact ⟨of_decide_eq_true h.1.1.1, of_decide_eq_true h.1.1.2, by simpa using h.1.2, h.2⟩

set_option maxHeartbeats 400000 in
theorem wordOK_any (n : Int) (w : World) : Calls Try.prog 61 #[.int .i64 n] w fun e w' => e = .returned (.bool (wordB n)) ∧ w = w' := by
  unfold wordB inB
  by_cases h1 : -1000000000 ≤ n <;> by_cases h2 : n ≤ 1000000000
  all_goals
    go_enter Try.func61, Try.ntmps61
    go_wp2
    go_ret
    exact ⟨by simp [h1, h2], rfl⟩

set_option maxHeartbeats 400000 in
theorem l01In_any (n lo hi : Int) (w : World) : Calls Try.prog 62 #[.int .i64 n, .int .i64 lo, .int .i64 hi] w fun e w' => e = .returned (.bool (inB n lo hi)) ∧ w = w' := by
  unfold inB
  by_cases h1 : lo ≤ n <;> by_cases h2 : n ≤ hi
  all_goals
    go_enter Try.func62, Try.ntmps62
    go_wp2
    go_ret
    exact ⟨by simp [h1, h2], rfl⟩

set_option maxHeartbeats 400000 in
theorem l01Word_any (n : Int) (w : World) : Calls Try.prog 55 #[.int .i64 n] w fun e w' => e = .returned (.bool (wordB n)) ∧ w = w' := by
  unfold wordB
  go_enter Try.func55, Try.ntmps55
  go_wp2_with (go_at_call 62; refine (l01In_any _ _ _ _).mono ?_; rintro e w' ⟨rfl, rfl⟩)
  go_ret
  exact ⟨rfl, rfl⟩

set_option maxHeartbeats 1000000 in
theorem wordsOK_any (A : Option Addr) (c : Nat) (zs : List Int) (w : World) (hn : zs.length ≤ 1048576) (hA : Rd w A zs) :
    Calls Try.prog 58 #[.slice A zs.length c] w fun e w' => e = .returned (.bool (wordsB zs)) ∧ w = w' := by
  have HA := Lib.hid hA; clear hA
  go_enter Try.func58, Try.ntmps58
  go_wp2
  go_loop [7] (fun i => ∃ k : Nat, k ≤ zs.length ∧ i = .int .i64 k ∧ ∀ j, j < k → wordB (zs.getD j 0) = true) (fun i => zs.length - (intOf i).toNat)
  case atStart => exact ⟨0, Nat.zero_le _, rfl, fun j hj => absurd hj (by omega)⟩
  case round =>
    obtain ⟨k, hk, rfl, hall⟩ := hrel
    have HL := Lib.hid hall; clear hall
    by_cases hlt : k < zs.length
    · obtain ⟨b, o, rfl, hcell⟩ := HA.out k hlt
      generalize hx : zs.getD k 0 = x at *
      have HX := Lib.hid hx; clear hx
      cases hw : wordB x
      · have HN := Lib.hid (wordsB_false hlt (by rw [HX.out]; exact hw))
        go_wp2_with (go_at_call 61; refine (wordOK_any _ _).mono ?_; rintro e w' ⟨rfl, rfl⟩)
        go_ret
        exact ⟨ret_bool HN.out.symm, rfl⟩
      · go_wp2_with (go_at_call 61; refine (wordOK_any _ _).mono ?_; rintro e w' ⟨rfl, rfl⟩)
        go_round
        case rel => exact ⟨k + 1, by omega, by go_num, fun j hj => by
          by_cases e : j < k
          · exact HL.out j e
          · obtain rfl : j = k := by omega
            rw [HX.out]; exact hw⟩
        case measure => simp [intOf]; omega
    · have HN := Lib.hid ((wordsB_iff zs).2 fun j hj => HL.out j (by omega))
      go_wp2
      go_ret
      exact ⟨ret_bool HN.out.symm, rfl⟩

set_option maxHeartbeats 1000000 in
theorem implArenaOK_any (A : Option Addr) (c : Nat) (zs : List Int) (w : World) (hn : zs.length ≤ 1048576) (hA : Rd w A zs) :
    Calls Try.prog 24 #[.agg #[.slice A zs.length c]] w fun e w' => e = .returned (.bool (arenaB zs)) ∧ Below w.heap.size w w' := by
  by_cases h1 : zs.length < 1
  · have HN := Lib.hid (arenaB_false (zs := zs) (.inl h1))
    have hd : decide (zs.length < 1) = true := decide_eq_true h1
    clear hA
    go_enter Try.func24, Try.ntmps24
    go_wp2
    go_ret
    exact ⟨ret_bool HN.out.symm, below_alloc _ _⟩
  by_cases h2 : 400 < zs.length
  · have HN := Lib.hid (arenaB_false (zs := zs) (.inr (.inl h2)))
    clear hA
    go_enter Try.func24, Try.ntmps24
    go_wp2
    go_ret
    exact ⟨ret_bool HN.out.symm, below_alloc _ _⟩
  have hp : 0 < zs.length := by omega
  obtain ⟨b, o, rfl, hcell⟩ := hA 0 hp
  have HA := Lib.hid hA; clear hA
  have hcell' : (w.alloc (.cells #[.slice (some ⟨b, o, none⟩) zs.length c] 25)).cell? ⟨b, o, none⟩ = some (.int .i64 (zs.getD 0 0)) := by
    rw [(below_alloc w _).cell (p := ⟨b, o, none⟩) (block_lt_of_cell hcell)]; exact hcell
  generalize hx : zs.getD 0 0 = x at *
  have HX := Lib.hid hx; clear hx
  have hd1 : decide (zs.length < 1) = false := decide_eq_false (by omega)
  have hd2 : decide (400 < zs.length) = false := decide_eq_false (by omega)
  cases h3 : (x == 0)
  · have HN := Lib.hid (arenaB_false (zs := zs) (.inr (.inr (.inl (by rw [HX.out]; exact h3)))))
    go_enter Try.func24, Try.ntmps24
    go_wp2
    go_ret
    exact ⟨ret_bool HN.out.symm, below_alloc _ _⟩
  · have HN : Hid (arenaB zs = wordsB zs) := by
      cases hw : wordsB zs
      · exact arenaB_false (.inr (.inr (.inr hw)))
      · exact arenaB_true (by omega) (by omega) (by rw [HX.out]; exact h3) hw
    go_enter Try.func24, Try.ntmps24
    go_wp2_with (go_at_call 58; refine (wordsOK_any _ _ zs _ hn (HA.out.below (below_alloc _ _))).mono ?_; rintro e w' ⟨rfl, rfl⟩)
    go_ret
    exact ⟨ret_bool HN.out.symm, below_alloc _ _⟩
end Go.Proofs.Ytnahdbkdonbofaa
