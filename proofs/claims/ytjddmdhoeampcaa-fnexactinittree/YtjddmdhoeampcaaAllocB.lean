/-
  Contract: AllocCells of the program (chapter 2).
-/
import Derived.Test.YtjddmdhoeampcaaAlloc
namespace Go.Proofs.Ytjddmdhoeampcaa
open Go.RowKit

set_option maxHeartbeats 1000000 in
theorem implAllocCells_any (A B : Option Addr) (c d : Nat) (zs ls : List Int) (w : World) (hn : zs.length ≤ 1048576) (hm : ls.length ≤ 1048576) (hA : Rd w A zs) (hB : Rd w B ls) :
    Calls Try.prog 93 #[.agg #[.slice A zs.length c], .slice B ls.length d] w fun e w' => ∃ C k, e = .returned (.tuple #[.agg #[.slice C (allocZs zs ls).length k], .int .i64 (allocAt zs ls), .int .i64 (allocCode zs ls)]) ∧
      NewA w.heap.size w' C k (allocZs zs ls) ∧ Below w.heap.size w w' := by
  have HA := Lib.hid (hA.below (below_alloc2 w (.cells #[.slice A zs.length c] 26) (.cells #[.slice none 0 0] 26)))
  have HBB := Lib.hid (hB.below (below_alloc2 w (.cells #[.slice A zs.length c] 26) (.cells #[.slice none 0 0] 26)))
  clear hA hB
  cases hz : (faultCode zs ls != 0)
  · have h0 : faultCode zs ls = 0 := by simpa using hz
    obtain ⟨_, _, hp1, hp8, _⟩ := faultCode_zero h0
    by_cases hf : 400 < zs.length + ls.length
    · have HV : Hid (allocZs zs ls = zs) := by unfold allocZs; rw [if_pos h0, if_pos hf]; rfl
      have HD : Hid (allocAt zs ls = 0) := by unfold allocAt; rw [if_pos h0, if_pos hf]; rfl
      have HC : Hid (allocCode zs ls = 7) := by unfold allocCode; rw [if_pos h0, if_pos hf]; rfl
      have hf' : (400 : Int) < (zs.length : Int) + (ls.length : Int) := by omega
      clear h0
      go_enter Try.func93, Try.ntmps93
      go_wp2_with fail
      refine (allocFault_any _ _ _ _ zs ls _ hn hm HA.out HBB.out).mono ?_
      rintro e w1 ⟨rfl, hb⟩
      have HB := Lib.hid (below_trans (below_alloc2 _ _ _) hb)
      have HA1 := Lib.hid (HA.out.below hb)
      have hz1 : w.heap.size + 1 < w1.heap.size := by have := hb.size; simp at this; omega
      have hx1 : w1.cell? ⟨w.heap.size, 0, none⟩ = some (.slice A zs.length c) := cell_keep hb (by simp)
      have hr1 : w1.cell? ⟨w.heap.size + 1, 0, none⟩ = some (.slice none 0 0) := cell_keep hb (by simp)
      have hf1 : w1.frozen? ⟨w.heap.size + 1, 0, none⟩ = false := frozen_keep hb (by simp) (by simp)
      clear hb
      go_wp2_with fail
      refine (copyArena_any _ _ zs _ hn HA1.out).mono ?_
      rintro e w2 ⟨C, k, rfl, hnew, hb⟩
      have HB2 := Lib.hid (below_trans HB.out hb)
      have hr2 : w2.cell? ⟨w.heap.size + 1, 0, none⟩ = some (.slice none 0 0) := cell_keep hb hr1
      have hf2 : w2.frozen? ⟨w.heap.size + 1, 0, none⟩ = false := frozen_keep hb hz1 hf1
      have HO := Lib.hid hnew
      clear hb hnew hx1 hr1 hf1
      go_wp2
      refine bodyPost_ret (v := .tuple #[.agg #[.slice C zs.length k], .int .i64 0, .int .i64 7]) (by simp [results, Try.results93, go_sem, hr2]) rfl ⟨C, k, ?_, ?_, HB2.out.setCell (by simp) _⟩
      · rw [HV.out]; exact ret_agg_int_int HC.out.symm HD.out.symm
      · rw [HV.out]; exact (HO.out.setCell (by simp <;> omega) _).base (by omega)
    · have HV : Hid (allocZs zs ls = zs ++ ls) := by unfold allocZs; rw [if_pos h0, if_neg hf]; rfl
      have HD : Hid (allocAt zs ls = zs.length) := by unfold allocAt; rw [if_pos h0, if_neg hf]; rfl
      have HC : Hid (allocCode zs ls = 0) := by unfold allocCode; rw [if_pos h0, if_neg hf]; rfl
      have HL : Hid ((zs ++ ls).length = zs.length + ls.length) := by rw [List.length_append]; rfl
      have hf' : ¬ (400 : Int) < (zs.length : Int) + (ls.length : Int) := by omega
      clear h0
      go_enter Try.func93, Try.ntmps93
      go_wp2_with fail
      refine (allocFault_any _ _ _ _ zs ls _ hn hm HA.out HBB.out).mono ?_
      rintro e w1 ⟨rfl, hb⟩
      have HB := Lib.hid (below_trans (below_alloc2 _ _ _) hb)
      have HA1 := Lib.hid (HA.out.below hb)
      have HB1 := Lib.hid (HBB.out.below hb)
      have hz1 : w.heap.size + 1 < w1.heap.size := by have := hb.size; simp at this; omega
      have hx1 : w1.cell? ⟨w.heap.size, 0, none⟩ = some (.slice A zs.length c) := cell_keep hb (by simp)
      have hr1 : w1.cell? ⟨w.heap.size + 1, 0, none⟩ = some (.slice none 0 0) := cell_keep hb (by simp)
      have hf1 : w1.frozen? ⟨w.heap.size + 1, 0, none⟩ = false := frozen_keep hb (by simp) (by simp)
      clear hb
      go_wp2_with fail
      go_region_held3 (fun w' => w'.cell? ⟨w.heap.size, 0, none⟩ = some (.slice A zs.length c))
        (first | exact hx1 | exact cell_keep hr0 hx1 | exact cell_keep hr2 (cell_keep hr0 hx1) | exact (World.cell?_setCell_other _ _ _ _ (by simp)).trans (cell_keep hr2 (cell_keep hr0 hx1)))
        (first
          | (go_at_call 105; refine (list_any _ _ _ _).mono ?_; rintro e w2 ⟨rfl, hr0⟩)
          | (go_at_call 109; refine (joined_any _ _ _ _ zs ls _ hn hm hp1 (HA1.out.drew.below hr0) (HB1.out.drew.below hr0)).mono ?_; rintro e w3 ⟨rfl, hnew, hr2⟩; have hc3 : w3.cell? ⟨w.heap.size + 1, 0, none⟩ = some (.slice none 0 0) := cell_keep hr2 (cell_keep hr0 hr1); have hf3 : w3.frozen? ⟨w.heap.size + 1, 0, none⟩ = false := frozen_keep hr2 (Nat.lt_of_lt_of_le hz1 hr0.size) (frozen_keep hr0 hz1 hf1)))
      have hb2 := below_drew_trans (below_trans hr0 hr2)
      have HB3 := Lib.hid (below_trans HB.out hb2)
      have HO := Lib.hid hnew
      have hz2 : w.heap.size + 1 < w2.heap.size := Nat.lt_of_lt_of_le hz1 hr0.size
      clear hr0 hr2 hb2 hnew hx1 hr1 hf1
      go_wp2
      refine bodyPost_ret (v := .tuple #[.agg #[.slice (some ⟨w2.heap.size, 0, none⟩) (zs.length + ls.length) (zs.length + ls.length)], .int .i64 zs.length, .int .i64 0]) (by simp [results, Try.results93, go_sem, hc3]) rfl ⟨some ⟨w2.heap.size, 0, none⟩, zs.length + ls.length, ?_, ?_, HB3.out.setCell (by simp) _⟩
      · rw [HV.out, HL.out]; exact ret_agg_int_int HC.out.symm HD.out.symm
      · rw [HV.out]; exact (HO.out.setCell (by simp <;> omega) _).base (by omega)
  · have hne0 : faultCode zs ls ≠ 0 := by simpa using hz
    have HV : Hid (allocZs zs ls = []) := by unfold allocZs; rw [if_neg hne0]; rfl
    have HD : Hid (allocAt zs ls = 0) := by unfold allocAt; rw [if_neg hne0]; rfl
    have HC : Hid (allocCode zs ls = faultCode zs ls) := by unfold allocCode; rw [if_neg hne0]; rfl
    clear hne0
    go_enter Try.func93, Try.ntmps93
    go_wp2_with fail
    refine (allocFault_any _ _ _ _ zs ls _ hn hm HA.out HBB.out).mono ?_
    rintro e w1 ⟨rfl, hb⟩
    have HB := Lib.hid (below_trans (below_alloc2 _ _ _) hb)
    have hr1 : w1.cell? ⟨w.heap.size + 1, 0, none⟩ = some (.slice none 0 0) := cell_keep hb (by simp)
    have hf1 : w1.frozen? ⟨w.heap.size + 1, 0, none⟩ = false := frozen_keep hb (by simp) (by simp)
    clear hb
    go_wp2
    refine bodyPost_ret (v := .tuple #[.agg #[.slice none 0 0], .int .i64 0, .int .i64 (faultCode zs ls)]) (by simp [results, Try.results93, go_sem, hr1]) rfl ⟨none, 0, ?_, ?_, HB.out.setCell (by simp) _⟩
    · rw [HV.out]; exact ret_agg_int_int HC.out.symm HD.out.symm
    · rw [HV.out]; exact NewA.nil _ _
end Go.Proofs.Ytjddmdhoeampcaa
