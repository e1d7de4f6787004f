/-
  InitStack: the program's and the model's contract.
-/
import Derived.Test.YtodniogcpeadpaaInitV
namespace Go.Proofs.Ytodniogcpeadpaa
open Go.RowKit

theorem allocOnlyK (A B : Option Addr) (c d : Nat) (zs : List Int) (w : World) (h7 : zs.length = 7) (hA : Rd w A zs) (hB : Rd w B [0]) :
    Calls Try.prog 34 #[.agg #[.slice A zs.length c], .slice B 1 d] w fun e w' => ∃ C k, e = .returned (.tuple #[.agg #[.slice C (zs ++ [0]).length k], .int .i64 7]) ∧
      NewA w.heap.size w' C k (zs ++ [0]) ∧ Below w.heap.size w w' := by
  have h := l01Alloc_any A B c d zs [0] w (by omega) (by decide) hA hB
  have hf : ¬ 400 < zs.length + [(0 : Int)].length := by simp; omega
  rw [if_neg hf, if_neg hf, show (zs.length : Int) = 7 by omega] at h
  exact h

set_option maxHeartbeats 1000000 in
set_option maxRecDepth 100000 in
theorem specInitK_any (A : Option Addr) (c : Nat) (zs : List Int) (w : World) (hn : zs.length ≤ 1048576) (hA : Rd w A zs) :
    Calls Try.prog 15 #[.agg #[.slice A zs.length c]] w fun e w' => ∃ B d, e = .returned (.tuple #[.agg #[.slice B (laidZs zs 7 [0]).length d], .int .i64 (laidCode zs 7)]) ∧
      NewA w.heap.size w' B d (laidZs zs 7 [0]) ∧ Below w.heap.size w w' := by
  have HA := Lib.hid (hA.below (below_alloc2 w (.cells #[.slice A zs.length c] 29) (.cells #[.slice none 0 0] 29))); clear hA
  cases ha : arenaB zs
  · obtain ⟨hv, hc⟩ := laid_bad (n := 7) (ls := [0]) ha
    have HV := Lib.hid hv; have HC := Lib.hid hc; clear hv hc
    go_enter Try.func15, Try.ntmps15
    go_wp2_with fail
    refine (specArenaOK_any _ _ zs _ hn HA.out).mono ?_
    rintro e w1 ⟨rfl, hb⟩
    have HB := Lib.hid (below_trans (below_alloc2 _ _ _) hb)
    have hr1 : w1.cell? ⟨w.heap.size + 1, 0, none⟩ = some (.slice none 0 0) := cell_keep hb (by simp)
    have hf1 : w1.frozen? ⟨w.heap.size + 1, 0, none⟩ = false := frozen_keep hb (by simp) (by simp)
    clear hb
    rw [ha]
    go_wp2
    refine bodyPost_ret (v := .tuple #[.agg #[.slice none 0 0], .int .i64 1]) (by simp [results, Try.results15, go_sem, hr1]) rfl ⟨none, 0, ?_, ?_, HB.out.setCell (by simp) _⟩
    · rw [HV.out, HC.out]; rfl
    · rw [HV.out]; exact NewA.nil _ _
  · have HR := Lib.hid ha
    by_cases hl : zs.length = 7
    · obtain ⟨hv, hc⟩ := laid_ok (ls := [0]) ha hl
      have HV := Lib.hid hv; have HC := Lib.hid hc; clear hv hc ha
      have hne : ((zs.length : Int) != 7) = false := by simp; omega
      have HN := Lib.hid hl; clear hl
      go_enter Try.func15, Try.ntmps15
      go_wp2_with fail
      refine (specArenaOK_any _ _ zs _ hn HA.out).mono ?_
      rintro e w1 ⟨rfl, hb⟩
      have HB := Lib.hid (below_trans (below_alloc2 _ _ _) hb)
      have HA1 := Lib.hid (HA.out.below hb)
      have hz1 : w.heap.size + 1 < w1.heap.size := by have := hb.size; simp at this; omega
      have hx1 : w1.cell? ⟨w.heap.size, 0, none⟩ = some (.slice A zs.length c) := cell_keep hb (by simp)
      have hr1 : w1.cell? ⟨w.heap.size + 1, 0, none⟩ = some (.slice none 0 0) := cell_keep hb (by simp)
      have hf1 : w1.frozen? ⟨w.heap.size + 1, 0, none⟩ = false := frozen_keep hb (by simp) (by simp)
      clear hb HA
      rw [HR.out]
      go_wp2_with fail
      refine (allocOnlyK _ _ _ _ zs _ HN.out (HA1.out.below (below_alloc _ _)) (rd_lit [0] _ _ rfl)).mono ?_
      rintro e w3 ⟨C, k, rfl, hnew, hb⟩
      have HB3 := Lib.hid (below_trans (below_trans HB.out (below_alloc _ _)) hb)
      have hz3 : w.heap.size + 1 < w3.heap.size := by have := hb.size; simp only [size_alloc] at this; omega
      have hr3 : w3.cell? ⟨w.heap.size + 1, 0, none⟩ = some (.slice none 0 0) := cell_keep hb (cell_keep (below_alloc _ _) hr1)
      have hf3 : w3.frozen? ⟨w.heap.size + 1, 0, none⟩ = false := frozen_keep hb (by rw [size_alloc]; omega) (frozen_keep (below_alloc _ _) hz1 hf1)
      have HO : Hid (NewA (w.heap.size + 2) w3 C k (zs ++ [0])) := hnew.base (by rw [size_alloc]; omega)
      clear hb hnew hr1 hf1 hz1 HB HA1 hx1
      generalize hM : zs ++ [0] = M at *
      clear hM
      go_wp2
      refine bodyPost_ret (v := .tuple #[.agg #[.slice C M.length k], .int .i64 0]) (by simp [results, Try.results15, go_sem, hr3, hz3]) rfl ⟨C, k, ?_, ?_, ?_⟩
      · rw [HV.out, HC.out]
      · rw [HV.out]
        exact ((HO.out.setCell (by simp) _).below (below_alloc _ _)).base (by omega)
      · exact below_trans (HB3.out.setCell (by simp) _) (below_alloc _ _)
    · obtain ⟨hv, hc⟩ := laid_size (ls := [0]) ha hl
      have hne : ((zs.length : Int) != 7) = true := by simp; omega
      have HV := Lib.hid hv; have HC := Lib.hid hc; clear hv hc
      go_enter Try.func15, Try.ntmps15
      go_wp2_with fail
      refine (specArenaOK_any _ _ zs _ hn HA.out).mono ?_
      rintro e w1 ⟨rfl, hb⟩
      have HB := Lib.hid (below_trans (below_alloc2 _ _ _) hb)
      have hx1 : w1.cell? ⟨w.heap.size, 0, none⟩ = some (.slice A zs.length c) := cell_keep hb (by simp)
      have hr1 : w1.cell? ⟨w.heap.size + 1, 0, none⟩ = some (.slice none 0 0) := cell_keep hb (by simp)
      have hf1 : w1.frozen? ⟨w.heap.size + 1, 0, none⟩ = false := frozen_keep hb (by simp) (by simp)
      clear hb HA
      rw [HR.out]
      go_wp2
      refine bodyPost_ret (v := .tuple #[.agg #[.slice none 0 0], .int .i64 8]) (by simp [results, Try.results15, go_sem, hr1]) rfl ⟨none, 0, ?_, ?_, HB.out.setCell (by simp) _⟩
      · rw [HV.out, HC.out]; rfl
      · rw [HV.out]; exact NewA.nil _ _

set_option maxHeartbeats 1000000 in
theorem implInitK_any (A : Option Addr) (c : Nat) (zs : List Int) (w : World) (hn : zs.length ≤ 1048576) (hA : Rd w A zs) :
    Calls Try.prog 16 #[.agg #[.slice A zs.length c]] w fun e w' => ∃ B d, e = .returned (.tuple #[.agg #[.slice B (laidZs zs 7 [0]).length d], .int .i64 (laidCode zs 7)]) ∧
      NewA w.heap.size w' B d (laidZs zs 7 [0]) ∧ Below w.heap.size w w' := by
  have HA := Lib.hid (hA.below (below_alloc2 w (.cells #[.slice A zs.length c] 29) (.cells #[.slice none 0 0] 29))); clear hA
  go_enter Try.func16, Try.ntmps16
  go_wp2_with fail
  refine (implLaid_any _ _ _ _ zs [0] 7 _ hn (by decide) (by decide) (by decide) (by decide) (HA.out.below (below_alloc _ _)) (rd_lit [0] _ _ (by simp))).mono ?_
  rintro e w3 ⟨C, k, rfl, hnew, hb⟩
  have HB3 := Lib.hid (below_trans (below_trans (below_alloc2 w (.cells #[.slice A zs.length c] 29) (.cells #[.slice none 0 0] 29)) (below_alloc _ _)) hb)
  have hr3 : w3.cell? ⟨w.heap.size + 1, 0, none⟩ = some (.slice none 0 0) := cell_keep hb (cell_keep (below_alloc _ _) (by simp))
  have hf3 : w3.frozen? ⟨w.heap.size + 1, 0, none⟩ = false := frozen_keep hb (by simp) (frozen_keep (below_alloc _ _) (by simp) (by simp))
  have HO : Hid (NewA (w.heap.size + 2) w3 C k (laidZs zs 7 [0])) := hnew.base (by simp)
  clear hb hnew HA
  generalize hM : laidZs zs 7 [0] = M at *
  generalize hm : laidCode zs 7 = m at *
  have HM := Lib.hid hM; have Hm := Lib.hid hm; clear hM hm
  go_wp2
  refine bodyPost_ret (v := .tuple #[.agg #[.slice C M.length k], .int .i64 m]) (by simp [results, Try.results16, go_sem, hr3]) rfl ⟨C, k, by rw [HM.out, Hm.out], ?_, ?_⟩
  · rw [HM.out]; exact (HO.out.setCell (by simp) _).base (by omega)
  · exact HB3.out.setCell (by simp) _
end Go.Proofs.Ytodniogcpeadpaa
