/-
  InitQueue: the model's contract.
-/
import Derived.Test.YtndaeciadcgkbaaInitS
namespace Go.Proofs.Ytndaeciadcgkbaa
open Go.RowKit

set_option maxHeartbeats 1000000 in
theorem specInit_any (A : Option Addr) (c : Nat) (zs : List Int) (w : World) (hn : zs.length ≤ 1048576) (hA : Rd w A zs) :
    Calls Try.prog 8 #[.agg #[.slice A zs.length c]] w fun e w' => ∃ B d, e = .returned (.tuple #[.agg #[.slice B (initZs zs).length d], .int .i64 (initCode zs)]) ∧
      NewA w.heap.size w' B d (initZs zs) ∧ Below w.heap.size w w' := by
  have HA := Lib.hid (hA.below (below_alloc2 w (.cells #[.slice A zs.length c] 26) (.cells #[.slice none 0 0] 26))); clear hA
  cases ha : arenaB zs
  · obtain ⟨hv, hc⟩ := init_bad ha
    have HV := Lib.hid hv; have HC := Lib.hid hc; clear hv hc
    go_enter Try.func8, Try.ntmps8
    go_wp2_with fail
    refine (specArenaOK_any _ _ zs _ hn HA.out).mono ?_
    rintro e w1 ⟨rfl, hb⟩
    have HB := Lib.hid (below_trans (below_alloc2 _ _ _) hb)
    have hr1 : w1.cell? ⟨w.heap.size + 1, 0, none⟩ = some (.slice none 0 0) := cell_keep hb (by simp)
    have hf1 : w1.frozen? ⟨w.heap.size + 1, 0, none⟩ = false := by rw [hb.frozen (p := ⟨w.heap.size + 1, 0, none⟩) (by simp)]; simp
    clear hb
    rw [ha]
    go_wp2
    refine bodyPost_ret (v := .tuple #[.agg #[.slice none 0 0], .int .i64 1]) (by simp [results, Try.results8, go_sem, hr1]) rfl ⟨none, 0, ?_, ?_, HB.out.setCell (by simp) _⟩
    · rw [HV.out, HC.out]; rfl
    · rw [HV.out]; exact NewA.nil _ _
  · have HR := Lib.hid ha
    by_cases hl : zs.length = 1
    · obtain rfl := arena_one ha hl
      clear hl
      go_enter Try.func8, Try.ntmps8
      go_wp2_with fail
      refine (specArenaOK_any _ _ [0] _ hn HA.out).mono ?_
      rintro e w1 ⟨rfl, hb⟩
      have HB := Lib.hid (below_trans (below_alloc2 _ _ _) hb)
      have HA1 := Lib.hid (HA.out.below hb)
      have hz1 : w.heap.size + 1 < w1.heap.size := by have := hb.size; simp at this; omega
      have hx1 : w1.cell? ⟨w.heap.size, 0, none⟩ = some (.slice A 1 c) := cell_keep hb (by simp)
      have hr1 : w1.cell? ⟨w.heap.size + 1, 0, none⟩ = some (.slice none 0 0) := cell_keep hb (by simp)
      have hf1 : w1.frozen? ⟨w.heap.size + 1, 0, none⟩ = false := by rw [hb.frozen (p := ⟨w.heap.size + 1, 0, none⟩) (by simp)]; simp
      clear hb HA
      rw [HR.out]
      go_wp2_with fail
      refine (l04Init_any _ _ _ HA1.out).mono ?_
      rintro e w3 ⟨C, k, rfl, hnew, hb⟩
      have HB3 := Lib.hid (below_trans HB.out hb)
      have hr3 : w3.cell? ⟨w.heap.size + 1, 0, none⟩ = some (.slice none 0 0) := cell_keep hb hr1
      have hf3 : w3.frozen? ⟨w.heap.size + 1, 0, none⟩ = false := by rw [hb.frozen (p := ⟨w.heap.size + 1, 0, none⟩) hz1]; exact hf1
      have HO : Hid (NewA (w.heap.size + 2) w3 C k [0, 6, 6, -1, 0, 0]) := hnew.base (by omega)
      clear hb hnew hr1 hf1 hx1
      go_wp2
      refine bodyPost_ret (v := .tuple #[.agg #[.slice C 6 k], .int .i64 0]) (by simp [results, Try.results8, go_sem, hr3]) rfl ⟨C, k, ?_, ?_, HB3.out.setCell (by simp) _⟩
      · rw [init_ok.1, init_ok.2]; rfl
      · rw [init_ok.1]
        exact (HO.out.setCell (by simp) _).base (by omega)
    · obtain ⟨hv, hc⟩ := init_size ha hl
      have hne : ((zs.length : Int) != 1) = true := by simp; omega
      have HV := Lib.hid hv; have HC := Lib.hid hc; clear hv hc
      go_enter Try.func8, Try.ntmps8
      go_wp2_with fail
      refine (specArenaOK_any _ _ zs _ hn HA.out).mono ?_
      rintro e w1 ⟨rfl, hb⟩
      have HB := Lib.hid (below_trans (below_alloc2 _ _ _) hb)
      have hx1 : w1.cell? ⟨w.heap.size, 0, none⟩ = some (.slice A zs.length c) := cell_keep hb (by simp)
      have hr1 : w1.cell? ⟨w.heap.size + 1, 0, none⟩ = some (.slice none 0 0) := cell_keep hb (by simp)
      have hf1 : w1.frozen? ⟨w.heap.size + 1, 0, none⟩ = false := by rw [hb.frozen (p := ⟨w.heap.size + 1, 0, none⟩) (by simp)]; simp
      clear hb HA
      rw [HR.out]
      go_wp2
      refine bodyPost_ret (v := .tuple #[.agg #[.slice none 0 0], .int .i64 8]) (by simp [results, Try.results8, go_sem, hr1]) rfl ⟨none, 0, ?_, ?_, HB.out.setCell (by simp) _⟩
      · rw [HV.out, HC.out]; rfl
      · rw [HV.out]; exact NewA.nil _ _
end Go.Proofs.Ytndaeciadcgkbaa
