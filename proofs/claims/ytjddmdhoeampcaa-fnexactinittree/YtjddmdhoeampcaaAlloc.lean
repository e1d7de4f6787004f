/-
  Contracts: joined, allocFault, AllocCells of the program (chapter 2).
-/
import Derived.Test.YtjddmdhoeampcaaSame
namespace Go.Proofs.Ytjddmdhoeampcaa
open Go.RowKit

theorem splice_back (zs ls : List Int) : splice (ints (zs ++ List.replicate ls.length 0)) zs.length (ints ls) = ints (zs ++ ls) := by
  simp [splice, ints, List.drop_append]

set_option maxHeartbeats 1000000 in
theorem joined_any (A B : Option Addr) (c d : Nat) (zs ls : List Int) (w : World) (hn : zs.length ≤ 1048576) (hm : ls.length ≤ 1048576) (hp : 0 < ls.length) (hA : Rd w A zs) (hB : Rd w B ls) :
    Calls Try.prog 109 #[.slice A zs.length c, .slice B ls.length d] w fun e w' => e = .returned (.slice (some ⟨w.heap.size, 0, none⟩) (zs.length + ls.length) (zs.length + ls.length)) ∧
      NewA w.heap.size w' (some ⟨w.heap.size, 0, none⟩) (zs.length + ls.length) (zs ++ ls) ∧ Below w.heap.size w w' := by
  have HA := Lib.hid hA; have HBB := Lib.hid hB; clear hA hB
  have hne : ls ≠ [] := by rintro rfl; simp at hp
  go_enter Try.func109, Try.ntmps109
  go_wp2_with fail
  refine (grown_any _ _ ls.length zs _ hn hm HA.out).mono ?_
  rintro e w1 ⟨rfl, hown, hb⟩
  have HO := Lib.hid (own_full hown); have HB := Lib.hid hb
  have HC := Lib.hid (rd_cells (HBB.out.below hb) hp)
  clear hown hb
  have hlt : ¬ (zs.length + ls.length = zs.length) := by omega
  go_wp2_with (with_reducible refine wpList_copy_splice rfl (.tmp 13) (.tmp 14) 117 117 rfl 3 Try.underlying117 Try.sizeInt _ _ _ _ _ _ rfl rfl w.heap.size zs.length (ints (zs ++ List.replicate ls.length 0)) 3 HO.out.1 (ints ls) ?_ ?_ ?_ (ints_one _) w.heap.size w HB.out (Nat.le_refl _) ?_)
  · rw [length_ints]; simp
  · intro _
    exact HC.out
  · rw [length_ints, length_ints]; simp
  intro w2 HG2 hB2
  have HB2 := Lib.hid hB2; clear hB2
  go_wp2
  go_ret
  refine ⟨rfl, ?_, HB2.out⟩
  have := HG2.out
  rw [splice_back] at this
  have h2 := own_of_full (n := zs.length + ls.length) this (Nat.le_refl _) (by simp [length_ints]) (by unfold maxLen; omega)
  unfold NewA
  rw [List.length_append]
  exact h2

def faultCode (zs ls : List Int) : Int :=
  if 4096 < ls.length then 2 else if arenaB zs = false then 1 else if ls.length < 1 ∨ 8 < ls.length then 8 else if wordsB ls = false then 4 else 0
def allocCode (zs ls : List Int) : Int := if faultCode zs ls = 0 then (if 400 < zs.length + ls.length then 7 else 0) else faultCode zs ls
def allocZs (zs ls : List Int) : List Int := if faultCode zs ls = 0 then (if 400 < zs.length + ls.length then zs else zs ++ ls) else []
def allocAt (zs ls : List Int) : Int := if faultCode zs ls = 0 then (if 400 < zs.length + ls.length then 0 else zs.length) else 0
theorem allocZs_len (zs ls : List Int) : (allocZs zs ls).length ≤ zs.length + ls.length := by
  unfold allocZs; split
  · split <;> simp
  · simp
theorem allocZs_small (zs ls : List Int) (h : zs.length ≤ 1048576) : (allocZs zs ls).length ≤ 1048576 := by
  unfold allocZs; split
  · split
    · exact h
    · simp; omega
  · simp
theorem faultCode_zero {zs ls : List Int} (h : faultCode zs ls = 0) : ls.length ≤ 4096 ∧ arenaB zs = true ∧ 1 ≤ ls.length ∧ ls.length ≤ 8 ∧ wordsB ls = true := by
  unfold faultCode at h
  by_cases h1 : 4096 < ls.length
  · rw [if_pos h1] at h; cases h
  rw [if_neg h1] at h
  by_cases h2 : arenaB zs = false
  · rw [if_pos h2] at h; cases h
  rw [if_neg h2] at h
  by_cases h3 : ls.length < 1 ∨ 8 < ls.length
  · rw [if_pos h3] at h; cases h
  rw [if_neg h3] at h
  by_cases h4 : wordsB ls = false
  · rw [if_pos h4] at h; cases h
  exact ⟨by omega, by simpa using h2, by omega, by omega, by simpa using h4⟩

set_option maxHeartbeats 1000000 in
theorem allocFault_any (A B : Option Addr) (c d : Nat) (zs ls : List Int) (w : World) (hn : zs.length ≤ 1048576) (hm : ls.length ≤ 1048576) (hA : Rd w A zs) (hB : Rd w B ls) :
    Calls Try.prog 107 #[.agg #[.slice A zs.length c], .slice B ls.length d] w fun e w' => e = .returned (.int .i64 (faultCode zs ls)) ∧ Below w.heap.size w w' := by
  have HA := Lib.hid (hA.below (below_alloc w (.cells #[.slice A zs.length c] 26)))
  have HBB := Lib.hid (hB.below (below_alloc w (.cells #[.slice A zs.length c] 26)))
  clear hA hB
  by_cases h1 : 4096 < ls.length
  · have HC : Hid (faultCode zs ls = 2) := by unfold faultCode; rw [if_pos h1]; rfl
    go_enter Try.func107, Try.ntmps107
    go_wp2
    go_ret
    exact ⟨ret_int HC.out.symm, below_alloc _ _⟩
  cases ha : arenaB zs
  · have HC : Hid (faultCode zs ls = 1) := by unfold faultCode; rw [if_neg h1, if_pos ha]; rfl
    have HH := Lib.hid ha; clear ha
    go_enter Try.func107, Try.ntmps107
    go_wp2_with fail
    refine (implArenaOK_any _ _ zs _ hn HA.out).mono ?_
    rintro e w1 ⟨rfl, hb⟩
    rw [HH.out]
    have HB1 := Lib.hid (below_trans (below_alloc _ _) hb); clear hb
    go_wp2
    go_ret
    exact ⟨ret_int HC.out.symm, HB1.out⟩
  have HH := Lib.hid ha
  have hna : ¬ arenaB zs = false := by rw [ha]; decide
  by_cases h3 : ls.length < 1
  · have HC : Hid (faultCode zs ls = 8) := by unfold faultCode; rw [if_neg h1, if_neg hna, if_pos (.inl h3)]; rfl
    have hd : decide (ls.length < 1) = true := decide_eq_true h3
    clear ha hna
    go_enter Try.func107, Try.ntmps107
    go_wp2_with fail
    refine (implArenaOK_any _ _ zs _ hn HA.out).mono ?_
    rintro e w1 ⟨rfl, hb⟩
    rw [HH.out]
    have HB1 := Lib.hid (below_trans (below_alloc _ _) hb); clear hb
    go_wp2
    go_ret
    exact ⟨ret_int HC.out.symm, HB1.out⟩
  have hd1 : decide (ls.length < 1) = false := decide_eq_false h3
  by_cases h4 : 8 < ls.length
  · have HC : Hid (faultCode zs ls = 8) := by unfold faultCode; rw [if_neg h1, if_neg hna, if_pos (.inr h4)]; rfl
    clear ha hna
    go_enter Try.func107, Try.ntmps107
    go_wp2_with fail
    refine (implArenaOK_any _ _ zs _ hn HA.out).mono ?_
    rintro e w1 ⟨rfl, hb⟩
    rw [HH.out]
    have HB1 := Lib.hid (below_trans (below_alloc _ _) hb); clear hb
    go_wp2
    go_ret
    exact ⟨ret_int HC.out.symm, HB1.out⟩
  have hd2 : decide (8 < ls.length) = false := decide_eq_false h4
  have hn8 : ¬ (ls.length < 1 ∨ 8 < ls.length) := by omega
  cases hw : wordsB ls
  · have HC : Hid (faultCode zs ls = 4) := by unfold faultCode; rw [if_neg h1, if_neg hna, if_neg hn8, if_pos hw]; rfl
    have HW := Lib.hid hw
    clear ha hna hn8 hw
    go_enter Try.func107, Try.ntmps107
    go_wp2_with fail
    refine (implArenaOK_any _ _ zs _ hn HA.out).mono ?_
    rintro e w1 ⟨rfl, hb⟩
    rw [HH.out]
    have HB1 := Lib.hid (below_trans (below_alloc _ _) hb)
    have HBB1 := Lib.hid (HBB.out.below hb); clear hb
    go_wp2_with fail
    refine (wordsOK_any _ _ ls _ hm HBB1.out).mono ?_
    rintro e w' ⟨rfl, rfl⟩
    rw [HW.out]
    go_wp2
    go_ret
    exact ⟨ret_int HC.out.symm, HB1.out⟩
  · have HC : Hid (faultCode zs ls = 0) := by unfold faultCode; rw [if_neg h1, if_neg hna, if_neg hn8, if_neg (by rw [hw]; decide)]; rfl
    have HW := Lib.hid hw
    clear ha hna hn8 hw
    go_enter Try.func107, Try.ntmps107
    go_wp2_with fail
    refine (implArenaOK_any _ _ zs _ hn HA.out).mono ?_
    rintro e w1 ⟨rfl, hb⟩
    rw [HH.out]
    have HB1 := Lib.hid (below_trans (below_alloc _ _) hb)
    have HBB1 := Lib.hid (HBB.out.below hb); clear hb
    go_wp2_with fail
    refine (wordsOK_any _ _ ls _ hm HBB1.out).mono ?_
    rintro e w' ⟨rfl, rfl⟩
    rw [HW.out]
    go_wp2
    go_ret
    exact ⟨ret_int HC.out.symm, HB1.out⟩
end Go.Proofs.Ytjddmdhoeampcaa
