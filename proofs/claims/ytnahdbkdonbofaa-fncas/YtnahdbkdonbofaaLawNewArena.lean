/-
  The walk of the law FnExactNewArena.
-/
import Derived.Test.YtnahdbkdonbofaaAllocD
import Derived.Test.YtnahdbkdonbofaaLawArenaOK
namespace Go.Proofs.Ytnahdbkdonbofaa
open Go.RowKit

set_option maxHeartbeats 1000000 in
theorem specNewArena_any (w : World) :
    Calls Try.prog 33 #[] w fun e w' => ∃ B d, e = .returned (.agg #[.slice B ([0] : List Int).length d]) ∧ NewA w.heap.size w' B d [0] ∧ Below w.heap.size w w' := by
  have hO : Hid (NewA (w.heap.size + 1) ((w.alloc (.cells #[.slice (some ⟨w.heap.size + 1, 0, none⟩) 1 1] 25)).alloc (.cells #[.int .i64 0] 3)) (some ⟨w.heap.size + 1, 0, none⟩) 1 [0]) := by
    have h := World.ownsRow_lit (base := w.heap.size + 1) (e := 3) (size := 1) (w.alloc (.cells #[.slice (some ⟨w.heap.size + 1, 0, none⟩) 1 1] 25)) #[.int .i64 0] 1 (by simp) (by unfold maxLen; omega) rfl
    exact Lib.hid (by simpa [NewA, ints] using h)
  go_enter Try.func33, Try.ntmps33
  go_wp2
  refine bodyPost_ret (v := .agg #[.slice (some ⟨w.heap.size + 1, 0, none⟩) 1 1]) (by simp [results, Try.results33, go_sem]) rfl ⟨some ⟨w.heap.size + 1, 0, none⟩, 1, rfl, ?_, ?_⟩
  · exact hO.out.base (by omega)
  · exact below_alloc2 _ _ _

set_option maxHeartbeats 1000000 in
theorem implNewArena_any (w : World) :
    Calls Try.prog 34 #[] w fun e w' => ∃ B d, e = .returned (.agg #[.slice B ([0] : List Int).length d]) ∧ NewA w.heap.size w' B d [0] ∧ Below w.heap.size w w' := by
  have hO : Hid (NewA (w.heap.size + 1) ((w.alloc (.cells #[.slice (some ⟨w.heap.size + 1, 0, none⟩) 1 1] 25)).alloc (.cells #[.int .i64 0] 3)) (some ⟨w.heap.size + 1, 0, none⟩) 1 [0]) := by
    have h := World.ownsRow_lit (base := w.heap.size + 1) (e := 3) (size := 1) (w.alloc (.cells #[.slice (some ⟨w.heap.size + 1, 0, none⟩) 1 1] 25)) #[.int .i64 0] 1 (by simp) (by unfold maxLen; omega) rfl
    exact Lib.hid (by simpa [NewA, ints] using h)
  go_enter Try.func34, Try.ntmps34
  go_wp2
  refine bodyPost_ret (v := .agg #[.slice (some ⟨w.heap.size + 1, 0, none⟩) 1 1]) (by simp [results, Try.results34, go_sem]) rfl ⟨some ⟨w.heap.size + 1, 0, none⟩, 1, rfl, ?_, ?_⟩
  · exact hO.out.base (by omega)
  · exact below_alloc2 _ _ _

set_option maxHeartbeats 2000000 in
theorem lawNewArena_walk (w : World) :
    Calls Try.prog 8 #[] w fun e w' => e = .returned (.bool true) ∧ Below w.heap.size w w' := by
  have hR : ([0] : List Int).length ≤ 1048576 := by decide
  have HRm : Hid (([0] : List Int).length ≤ maxLen) := Nat.le_trans hR (by unfold maxLen; omega)
  go_enter Try.func8, Try.ntmps8
  go_wp2_with fail
  refine (specNewArena_any _).mono ?_
  rintro e w1 ⟨B, d, rfl, hnew, hb⟩
  have hbt := hb
  have hz1 : w.heap.size + 0 ≤ w1.heap.size := by have := hb.size; (try simp only [size_alloc] at this); omega
  have HW1 := Lib.hid (show NewA (w.heap.size) w1 (B) (d) ([0]) from by first | exact hnew | simpa using hnew | (unfold NewA; simpa using hnew))
  have HEW : Hid (∀ k, Value.ownBlock (.slice (B) ([0]).length (d)) = some k → w.heap.size ≤ k ∧ k < w1.heap.size) := fun k hk => World.ownsRow.lt HW1.out k hk
  have HB1 := Lib.hid hbt
  clear hb hbt hnew
  go_wp2_with fail
  refine (implNewArena_any _).mono ?_
  rintro e w2 ⟨B5, d5, rfl, hnew, hb⟩
  have hbt := below_trans (below_alloc _ _) hb
  have hw2 : w2.cell? ⟨w1.heap.size, 0, none⟩ = some (.slice B 1 d) := cell_keep hb (by simp)
  have hz2 : w1.heap.size + 1 ≤ w2.heap.size := by have := hb.size; (try simp only [size_alloc] at this); omega
  have hqw2 : w1.heap.size < w2.heap.size := by omega
  have HW2 := Lib.hid (NewA.below HW1.out hbt)
  have HG2 := Lib.hid (show NewA (w1.heap.size + 1) w2 (B5) (d5) ([0]) from by first | exact hnew | simpa using hnew | (unfold NewA; simpa using hnew))
  have HEG : Hid (∀ k, Value.ownBlock (.slice (B5) ([0]).length (d5)) = some k → w1.heap.size + 1 ≤ k ∧ k < w2.heap.size) := fun k hk => World.ownsRow.lt HG2.out k hk
  have HB2 := Lib.hid (below_trans HB1.out hbt)
  clear HW1 HB1 hb hbt hnew
  go_wp2_with fail
  refine (eqArena_same _ _ _ _ [0] _ HRm.out (HG2.out.rd.below (below_alloc _ _)) (HW2.out.rd.below (below_alloc _ _))).mono ?_
  rintro e w3 ⟨rfl, hb⟩
  have hbt := below_trans (below_alloc _ _) hb
  have hw3 : w3.cell? ⟨w1.heap.size, 0, none⟩ = some (.slice B 1 d) := cell_keep hbt hw2
  have hg3 : w3.cell? ⟨w2.heap.size, 0, none⟩ = some (.slice B5 1 d5) := cell_keep hb (by simp)
  have hz3 : w2.heap.size + 1 ≤ w3.heap.size := by have := hb.size; (try simp only [size_alloc] at this); omega
  have hqw3 : w1.heap.size < w3.heap.size := by omega
  have hqg3 : w2.heap.size < w3.heap.size := by omega
  have HW3 := Lib.hid (NewA.below HW2.out hbt)
  have HG3 := Lib.hid (NewA.below HG2.out hbt)
  have HB3 := Lib.hid (below_trans HB2.out hbt)
  clear hw2 HW2 HG2 HB2 hb hbt hqw2
  go_wp2_with fail
  refine (markArena_any _ _ (w1.heap.size + 1) [0] 1 _ hR (by decide) (by decide) HG3.out).mono ?_
  rintro e w4 ⟨rfl, hown, hgr⟩
  have hw4 : w4.cell? ⟨w1.heap.size, 0, none⟩ = some (.slice B 1 d) := hgr.cell hw3 (fun h => by have := HEG.out _ h.symm; (try dsimp only at this); omega)
  have hg4 : w4.cell? ⟨w2.heap.size, 0, none⟩ = some (.slice B5 1 d5) := hgr.cell hg3 (fun h => by have := HEG.out _ h.symm; (try dsimp only at this); omega)
  have hz4 : w3.heap.size ≤ w4.heap.size := hgr.size
  have hqw4 : w1.heap.size < w4.heap.size := by omega
  have hqg4 : w2.heap.size < w4.heap.size := by omega
  have HW4 := Lib.hid (NewA.kept HW3.out hgr (ranges_ne HEW.out HEG.out (by omega)))
  have HG4 := Lib.hid (show NewA (w1.heap.size + 1) w4 (B5) (d5) (upFrom 1 ([0] : List Int).length) from by unfold NewA; rw [upFrom_length]; exact hown)
  have HB4 := Lib.hid (HB3.out.grown hgr (by omega) (fun k hk => by have := HEG.out k hk; omega))
  clear hw3 hg3 HW3 HG3 HB3 hgr hown hqw3 hqg3
  go_wp2_with fail
  refine (heldArena_any _ 1 _ 1 _ hR (by decide) (by decide) HG4.out.rd).mono ?_
  rintro e w5 ⟨rfl, hb⟩
  have hbt := hb
  have hw5 : w5.cell? ⟨w1.heap.size, 0, none⟩ = some (.slice B 1 d) := cell_keep hbt hw4
  have hg5 : w5.cell? ⟨w2.heap.size, 0, none⟩ = some (.slice B5 1 d5) := cell_keep hbt hg4
  have hz5 : w4.heap.size + 0 ≤ w5.heap.size := by have := hb.size; (try simp only [size_alloc] at this); omega
  have hqw5 : w1.heap.size < w5.heap.size := by omega
  have hqg5 : w2.heap.size < w5.heap.size := by omega
  have HW5 := Lib.hid (NewA.below HW4.out hbt)
  have HG5 := Lib.hid (NewA.below HG4.out hbt)
  have HB5 := Lib.hid (below_trans HB4.out hbt)
  clear hw4 hg4 HW4 HG4 HB4 hb hbt hqw4 hqg4
  go_wp2_with fail
  refine (implNewArena_any _).mono ?_
  rintro e w6 ⟨B14, d14, rfl, hnew, hb⟩
  have hbt := hb
  have hw6 : w6.cell? ⟨w1.heap.size, 0, none⟩ = some (.slice B 1 d) := cell_keep hbt hw5
  have hg6 : w6.cell? ⟨w2.heap.size, 0, none⟩ = some (.slice B5 1 d5) := cell_keep hbt hg5
  have hz6 : w5.heap.size + 0 ≤ w6.heap.size := by have := hb.size; (try simp only [size_alloc] at this); omega
  have hqw6 : w1.heap.size < w6.heap.size := by omega
  have hqg6 : w2.heap.size < w6.heap.size := by omega
  have HW6 := Lib.hid (NewA.below HW5.out hbt)
  have HG6 := Lib.hid (NewA.below HG5.out hbt)
  have HH6 := Lib.hid (show NewA (w5.heap.size) w6 (B14) (d14) ([0]) from by first | exact hnew | simpa using hnew | (unfold NewA; simpa using hnew))
  have HEH : Hid (∀ k, Value.ownBlock (.slice (B14) ([0]).length (d14)) = some k → w5.heap.size ≤ k ∧ k < w6.heap.size) := fun k hk => World.ownsRow.lt HH6.out k hk
  have HB6 := Lib.hid (below_trans HB5.out hbt)
  clear hw5 hg5 HW5 HG5 HB5 hb hbt hnew hqw5 hqg5
  go_wp2_with fail
  refine (eqArena_same _ _ _ _ [0] _ HRm.out (HH6.out.rd.below (below_alloc _ _)) (HW6.out.rd.below (below_alloc _ _))).mono ?_
  rintro e w7 ⟨rfl, hb⟩
  have hbt := below_trans (below_alloc _ _) hb
  have hw7 : w7.cell? ⟨w1.heap.size, 0, none⟩ = some (.slice B 1 d) := cell_keep hbt hw6
  have hg7 : w7.cell? ⟨w2.heap.size, 0, none⟩ = some (.slice B5 1 d5) := cell_keep hbt hg6
  have hh7 : w7.cell? ⟨w6.heap.size, 0, none⟩ = some (.slice B14 1 d14) := cell_keep hb (by simp)
  have hz7 : w6.heap.size + 1 ≤ w7.heap.size := by have := hb.size; (try simp only [size_alloc] at this); omega
  have hqw7 : w1.heap.size < w7.heap.size := by omega
  have hqg7 : w2.heap.size < w7.heap.size := by omega
  have hqh7 : w6.heap.size < w7.heap.size := by omega
  have HW7 := Lib.hid (NewA.below HW6.out hbt)
  have HG7 := Lib.hid (NewA.below HG6.out hbt)
  have HH7 := Lib.hid (NewA.below HH6.out hbt)
  have HB7 := Lib.hid (below_trans HB6.out hbt)
  clear hw6 hg6 HW6 HG6 HH6 HB6 hb hbt hqw6 hqg6
  go_wp2_with fail
  refine (heldArena_any _ 1 _ 1 _ hR (by decide) (by decide) HG7.out.rd).mono ?_
  rintro e w8 ⟨rfl, hb⟩
  have hbt := hb
  have hw8 : w8.cell? ⟨w1.heap.size, 0, none⟩ = some (.slice B 1 d) := cell_keep hbt hw7
  have hg8 : w8.cell? ⟨w2.heap.size, 0, none⟩ = some (.slice B5 1 d5) := cell_keep hbt hg7
  have hh8 : w8.cell? ⟨w6.heap.size, 0, none⟩ = some (.slice B14 1 d14) := cell_keep hbt hh7
  have hz8 : w7.heap.size + 0 ≤ w8.heap.size := by have := hb.size; (try simp only [size_alloc] at this); omega
  have hqw8 : w1.heap.size < w8.heap.size := by omega
  have hqg8 : w2.heap.size < w8.heap.size := by omega
  have hqh8 : w6.heap.size < w8.heap.size := by omega
  have HW8 := Lib.hid (NewA.below HW7.out hbt)
  have HG8 := Lib.hid (NewA.below HG7.out hbt)
  have HH8 := Lib.hid (NewA.below HH7.out hbt)
  have HB8 := Lib.hid (below_trans HB7.out hbt)
  clear hw7 hg7 hh7 HW7 HG7 HH7 HB7 hb hbt hqw7 hqg7 hqh7
  go_wp2
  go_ret
  exact ⟨rfl, HB8.out⟩
end Go.Proofs.Ytnahdbkdonbofaa
