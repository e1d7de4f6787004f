/-
  Contract: AllocCells of the model (chapter 2).
-/
import Derived.Test.YtnahdbkdonbofaaAllocC
namespace Go.Proofs.Ytnahdbkdonbofaa
open Go.RowKit

theorem not_fault {zs ls : List Int} {k : Int} (h : faultCode zs ls = k) (hk : k ≠ 0) : allocZs zs ls = [] ∧ allocAt zs ls = 0 ∧ allocCode zs ls = k := by
  have h0 : faultCode zs ls ≠ 0 := by rw [h]; exact hk
  refine ⟨?_, ?_, ?_⟩
  · unfold allocZs; rw [if_neg h0]
  · unfold allocAt; rw [if_neg h0]
  · unfold allocCode; rw [if_neg h0, h]

set_option maxHeartbeats 2000000 in
theorem specAllocCells_any (A B : Option Addr) (c d : Nat) (zs ls : List Int) (w : World) (hn : zs.length ≤ 1048576) (hm : ls.length ≤ 1048576) (hA : Rd w A zs) (hB : Rd w B ls) :
    Calls Try.prog 30 #[.agg #[.slice A zs.length c], .slice B ls.length d] w fun e w' => ∃ C k, e = .returned (.tuple #[.agg #[.slice C (allocZs zs ls).length k], .int .i64 (allocAt zs ls), .int .i64 (allocCode zs ls)]) ∧
      NewA w.heap.size w' C k (allocZs zs ls) ∧ Below w.heap.size w w' := by
  have HA := Lib.hid (hA.below (below_alloc2 w (.cells #[.slice A zs.length c] 25) (.cells #[.slice none 0 0] 25)))
  have HBB := Lib.hid (hB.below (below_alloc2 w (.cells #[.slice A zs.length c] 25) (.cells #[.slice none 0 0] 25)))
  clear hA hB
  by_cases h1 : 4096 < ls.length
  · obtain ⟨hv, hat, hco⟩ := not_fault (zs := zs) (ls := ls) (k := 2) (by unfold faultCode; rw [if_pos h1]) (by decide)
    have HV := Lib.hid hv; have HD := Lib.hid hat; have HC := Lib.hid hco; clear hv hat hco
    go_enter Try.func30, Try.ntmps30
    go_wp2
    refine bodyPost_ret (v := .tuple #[.agg #[.slice none 0 0], .int .i64 0, .int .i64 2]) (by simp [results, Try.results30, go_sem]) rfl ⟨none, 0, ?_, ?_, below_alloc2 _ _ _⟩
    · rw [HV.out]; exact ret_agg_int_int HC.out.symm HD.out.symm
    · rw [HV.out]; exact NewA.nil _ _
  cases ha : arenaB zs
  · obtain ⟨hv, hat, hco⟩ := not_fault (zs := zs) (ls := ls) (k := 1) (by unfold faultCode; rw [if_neg h1, if_pos ha]) (by decide)
    have HV := Lib.hid hv; have HD := Lib.hid hat; have HC := Lib.hid hco; clear hv hat hco
    have HH := Lib.hid ha; clear ha
    go_enter Try.func30, Try.ntmps30
    go_wp2_with fail
    refine (specArenaOK_any _ _ zs _ hn HA.out).mono ?_
    rintro e w1 ⟨rfl, hb⟩
    rw [HH.out]
    have HB1 := Lib.hid (below_trans (below_alloc2 _ _ _) hb)
    have hr1 : w1.cell? ⟨w.heap.size + 1, 0, none⟩ = some (.slice none 0 0) := cell_keep hb (by simp)
    have hf1 : w1.frozen? ⟨w.heap.size + 1, 0, none⟩ = false := frozen_keep hb (by simp) (by simp)
    clear hb
    go_wp2
    refine bodyPost_ret (v := .tuple #[.agg #[.slice none 0 0], .int .i64 0, .int .i64 1]) (by simp [results, Try.results30, go_sem, hr1]) rfl ⟨none, 0, ?_, ?_, HB1.out.setCell (by simp) _⟩
    · rw [HV.out]; exact ret_agg_int_int HC.out.symm HD.out.symm
    · rw [HV.out]; exact NewA.nil _ _
  have HH := Lib.hid ha
  have hna : ¬ arenaB zs = false := by rw [ha]; decide
  have hz1 : 1 ≤ zs.length := (arenaB_parts ha).1
  clear ha
  cases hi : inB (ls.length : Int) 1 8
  · have hib := inB_false hi
    obtain ⟨hv, hat, hco⟩ := not_fault (zs := zs) (ls := ls) (k := 8) (by unfold faultCode; rw [if_neg h1, if_neg hna, if_pos (by omega)]) (by decide)
    have HV := Lib.hid hv; have HD := Lib.hid hat; have HC := Lib.hid hco; clear hv hat hco hna hib
    go_enter Try.func30, Try.ntmps30
    go_wp2_with fail
    refine (specArenaOK_any _ _ zs _ hn HA.out).mono ?_
    rintro e w1 ⟨rfl, hb⟩
    rw [HH.out]
    have HB1 := Lib.hid (below_trans (below_alloc2 _ _ _) hb)
    have hr1 : w1.cell? ⟨w.heap.size + 1, 0, none⟩ = some (.slice none 0 0) := cell_keep hb (by simp)
    have hf1 : w1.frozen? ⟨w.heap.size + 1, 0, none⟩ = false := frozen_keep hb (by simp) (by simp)
    clear hb
    go_wp2_with (go_at_call 62; refine (l01In_any _ _ _ _).mono ?_; rintro e w' ⟨rfl, rfl⟩)
    refine bodyPost_ret (v := .tuple #[.agg #[.slice none 0 0], .int .i64 0, .int .i64 8]) (by simp [results, Try.results30, go_sem, hr1]) rfl ⟨none, 0, ?_, ?_, HB1.out.setCell (by simp) _⟩
    · rw [HV.out]; exact ret_agg_int_int HC.out.symm HD.out.symm
    · rw [HV.out]; exact NewA.nil _ _
  have hib := inB_true hi
  have hn8 : ¬ (ls.length < 1 ∨ 8 < ls.length) := by omega
  go_enter Try.func30, Try.ntmps30
  go_wp2_with fail
  refine (specArenaOK_any _ _ zs _ hn HA.out).mono ?_
  rintro e w1 ⟨rfl, hb⟩
  rw [HH.out]
  have HB1 := Lib.hid (below_trans (below_alloc2 _ _ _) hb)
  have HA1 := Lib.hid (HA.out.below hb)
  have HBB1 := Lib.hid (HBB.out.below hb)
  have hx1 : w1.cell? ⟨w.heap.size, 0, none⟩ = some (.slice A zs.length c) := cell_keep hb (by simp)
  have hr1 : w1.cell? ⟨w.heap.size + 1, 0, none⟩ = some (.slice none 0 0) := cell_keep hb (by simp)
  have hf1 : w1.frozen? ⟨w.heap.size + 1, 0, none⟩ = false := frozen_keep hb (by simp) (by simp)
  have hz2 : w.heap.size + 1 < w1.heap.size := by have := hb.size; simp at this; omega
  clear hb
  go_wp2_with (go_at_call 62; refine (l01In_any _ _ _ _).mono ?_; rintro e w' ⟨rfl, rfl⟩)
  go_loop [7] (fun i => ∃ k : Nat, k ≤ ls.length ∧ i = .int .i64 k ∧ ∀ j, j < k → wordB (ls.getD j 0) = true) (fun i => ls.length - (intOf i).toNat)
  case atStart => exact ⟨0, Nat.zero_le _, rfl, fun j hj => absurd hj (by omega)⟩
  case round =>
    obtain ⟨k, hk, rfl, hall⟩ := hrel
    have HL := Lib.hid hall; clear hall
    by_cases hlt : k < ls.length
    · obtain ⟨b, o, rfl, hcell⟩ := HBB1.out k hlt
      generalize hx : ls.getD k 0 = x at *
      have HX := Lib.hid hx; clear hx
      cases hw : wordB x
      · have hwf := wordsB_false hlt (by rw [HX.out]; exact hw)
        obtain ⟨hv, hat, hco⟩ := not_fault (zs := zs) (ls := ls) (k := 4) (by unfold faultCode; rw [if_neg h1, if_neg hna, if_neg hn8, if_pos hwf]) (by decide)
        have HV := Lib.hid hv; have HD := Lib.hid hat; have HC := Lib.hid hco; clear hv hat hco hwf
        go_wp2_with (go_at_call 55; refine (l01Word_any _ _).mono ?_; rintro e w' ⟨rfl, rfl⟩)
        refine bodyPost_ret (v := .tuple #[.agg #[.slice none 0 0], .int .i64 0, .int .i64 4]) (by simp [results, Try.results30, go_sem, hr1]) rfl ⟨none, 0, ?_, ?_, HB1.out.setCell (by simp) _⟩
        · rw [HV.out]; exact ret_agg_int_int HC.out.symm HD.out.symm
        · rw [HV.out]; exact NewA.nil _ _
      · go_wp2_with (go_at_call 55; refine (l01Word_any _ _).mono ?_; rintro e w' ⟨rfl, rfl⟩)
        go_round
        case rel => exact ⟨k + 1, by omega, by go_num, fun j hj => by
          by_cases e : j < k
          · exact HL.out j e
          · obtain rfl : j = k := by omega
            rw [HX.out]; exact hw⟩
        case measure => simp [intOf]; omega
    · have hw := (wordsB_iff ls).2 fun j hj => HL.out j (by omega)
      have hf0 : faultCode zs ls = 0 := by unfold faultCode; rw [if_neg h1, if_neg hna, if_neg hn8, if_neg (by rw [hw]; decide)]
      clear hw hna hn8
      by_cases hfull : 400 < zs.length + ls.length
      · have HV : Hid (allocZs zs ls = zs) := by unfold allocZs; rw [if_pos hf0, if_pos hfull]; rfl
        have HD : Hid (allocAt zs ls = 0) := by unfold allocAt; rw [if_pos hf0, if_pos hfull]; rfl
        have HC : Hid (allocCode zs ls = 7) := by unfold allocCode; rw [if_pos hf0, if_pos hfull]; rfl
        clear hf0
        go_wp2_with fail
        refine (l01Alloc_any _ _ _ _ zs ls _ hn hm HA1.out HBB1.out).mono ?_
        rw [if_pos hfull, if_pos hfull]
        rintro e w2 ⟨C, q, rfl, hnew, hb⟩
        have HB2 := Lib.hid (below_trans HB1.out hb)
        have hr2 : w2.cell? ⟨w.heap.size + 1, 0, none⟩ = some (.slice none 0 0) := cell_keep hb hr1
        have hf2 : w2.frozen? ⟨w.heap.size + 1, 0, none⟩ = false := frozen_keep hb hz2 hf1
        have hz3 : w.heap.size + 1 < w2.heap.size := by have := hb.size; omega
        have HO := Lib.hid hnew
        clear hb hnew hx1 hr1 hf1
        go_wp2
        refine bodyPost_ret (v := .tuple #[.agg #[.slice C zs.length q], .int .i64 0, .int .i64 7]) (by simp [results, Try.results30, go_sem, hr2, hz3]) rfl ⟨C, q, ?_, ?_, below_trans (HB2.out.setCell (by simp) _) (below_alloc _ _)⟩
        · rw [HV.out]; exact ret_agg_int_int HC.out.symm HD.out.symm
        · rw [HV.out]; exact ((HO.out.setCell (by simp <;> omega) _).below (below_alloc _ _)).base (by omega)
      · have HV : Hid (allocZs zs ls = zs ++ ls) := by unfold allocZs; rw [if_pos hf0, if_neg hfull]; rfl
        have HD : Hid (allocAt zs ls = zs.length) := by unfold allocAt; rw [if_pos hf0, if_neg hfull]; rfl
        have HC : Hid (allocCode zs ls = 0) := by unfold allocCode; rw [if_pos hf0, if_neg hfull]; rfl
        have HL2 : Hid ((zs ++ ls).length = zs.length + ls.length) := List.length_append
        have hnz : ((zs.length : Int) == 0) = false := by simp; intro h; rw [h] at hz1; simp at hz1
        clear hf0
        go_wp2_with fail
        refine (l01Alloc_any _ _ _ _ zs ls _ hn hm HA1.out HBB1.out).mono ?_
        rw [if_neg hfull, if_neg hfull]
        rintro e w2 ⟨C, q, rfl, hnew, hb⟩
        have HB2 := Lib.hid (below_trans HB1.out hb)
        have hr2 : w2.cell? ⟨w.heap.size + 1, 0, none⟩ = some (.slice none 0 0) := cell_keep hb hr1
        have hf2 : w2.frozen? ⟨w.heap.size + 1, 0, none⟩ = false := frozen_keep hb hz2 hf1
        have hz3 : w.heap.size + 1 < w2.heap.size := by have := hb.size; omega
        have HO := Lib.hid hnew
        clear hb hnew hx1 hr1 hf1
        rw [HL2.out]
        go_wp2
        refine bodyPost_ret (v := .tuple #[.agg #[.slice C (zs.length + ls.length) q], .int .i64 zs.length, .int .i64 0]) (by simp [results, Try.results30, go_sem, hr2, hz3]) rfl ⟨C, q, ?_, ?_, below_trans (HB2.out.setCell (by simp) _) (below_alloc _ _)⟩
        · rw [HV.out, HL2.out]; exact ret_agg_int_int HC.out.symm HD.out.symm
        · rw [HV.out]; exact ((HO.out.setCell (by simp <;> omega) _).below (below_alloc _ _)).base (by omega)
end Go.Proofs.Ytnahdbkdonbofaa
