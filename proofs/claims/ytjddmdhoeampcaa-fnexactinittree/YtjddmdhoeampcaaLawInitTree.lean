/-
  The walk of the law FnExactInitTree.
-/
import Derived.Test.YtjddmdhoeampcaaInitR
import Derived.Test.YtjddmdhoeampcaaLawArenaOK
namespace Go.Proofs.Ytjddmdhoeampcaa
open Go.RowKit

set_option maxHeartbeats 2000000 in
theorem lawInitTree_walk (A : Option Addr) (c : Nat) (zs : List Int)  (w : World) (hn : zs.length ≤ maxLen) (hA : Rd w A zs)  :
    Calls Try.prog 3 #[.agg #[.slice A zs.length c]] w fun e w' => e = .returned (.bool true) ∧ Below w.heap.size w w' := by
  have HA := Lib.hid hA; clear hA 
  by_cases hbig : leftB 1048576 zs.length < 0
  · go_enter Try.func3, Try.ntmps3
    go_wp2_with fail
    refine (szArena_any _ _ _ _ _ hn (by decide) (by decide)).mono ?_
    rintro e w1 ⟨rfl, hb⟩
    have HB := Lib.hid hb; clear hb
    go_wp2
    go_ret
    exact ⟨rfl, below_trans (below_alloc _ _) HB.out⟩
  have hs := leftB_small hbig
  have hR : (laidZs zs 8 [0, 0, 0, 0, 1, 2, 3]).length ≤ 1048576 := Nat.le_trans (laidZs_len zs 8 [0, 0, 0, 0, 1, 2, 3]) (by decide)
  have HRm : Hid ((laidZs zs 8 [0, 0, 0, 0, 1, 2, 3]).length ≤ maxLen) := Nat.le_trans (laidZs_len zs 8 [0, 0, 0, 0, 1, 2, 3]) (by unfold maxLen; simp)
  go_enter Try.func3, Try.ntmps3
  go_wp2_with fail
  refine (szArena_any _ _ _ _ _ hn (by decide) (by decide)).mono ?_
  rintro e w1 ⟨rfl, hb⟩
  have hbt := below_trans (below_alloc _ _) hb
  have ha1 : w1.cell? ⟨w.heap.size, 0, none⟩ = some (.slice A zs.length c) := cell_keep hb (by simp)
  have hz1 : w.heap.size + 1 ≤ w1.heap.size := by have := hb.size; (try simp only [size_alloc] at this); omega
  have hqa1 : w.heap.size < w1.heap.size := by omega
  have HB1 := Lib.hid hbt
  clear hb hbt
  go_wp2_with fail
  refine (toArena_any _ _ zs _ hs (HA.out.below HB1.out)).mono ?_
  rintro e w2 ⟨g, rfl, hown, hb⟩
  have hbt := hb
  have ha2 : w2.cell? ⟨w.heap.size, 0, none⟩ = some (.slice A zs.length c) := cell_keep hbt ha1
  have hz2 : w1.heap.size + 0 ≤ w2.heap.size := by have := hb.size; (try simp only [size_alloc] at this); omega
  have hqa2 : w.heap.size < w2.heap.size := by omega
  have HT2 := Lib.hid (show NewA (w1.heap.size) w2 (some ⟨g, 0, none⟩) (zs.length) (zs) from by first | exact hown | simpa using hown | (unfold NewA; simpa using hown))
  have HET : Hid (∀ k, Value.ownBlock (.slice (some ⟨g, 0, none⟩) (zs).length (zs.length)) = some k → w1.heap.size ≤ k ∧ k < w2.heap.size) := fun k hk => World.ownsRow.lt HT2.out k hk
  have HB2 := Lib.hid (below_trans HB1.out hbt)
  clear ha1 HB1 hb hbt hown hqa1
  go_wp2_with fail
  refine (specInitR_any _ _ zs  _ hs HT2.out.rd).mono ?_
  rintro e w3 ⟨B, d, rfl, hnew, hb⟩
  have hbt := hb
  have ha3 : w3.cell? ⟨w.heap.size, 0, none⟩ = some (.slice A zs.length c) := cell_keep hbt ha2
  have hz3 : w2.heap.size + 0 ≤ w3.heap.size := by have := hb.size; (try simp only [size_alloc] at this); omega
  have hqa3 : w.heap.size < w3.heap.size := by omega
  have HT3 := Lib.hid (NewA.below HT2.out hbt)
  have HW3 := Lib.hid (show NewA (w2.heap.size) w3 (B) (d) (laidZs zs 8 [0, 0, 0, 0, 1, 2, 3]) from by first | exact hnew | simpa using hnew | (unfold NewA; simpa using hnew))
  have HEW : Hid (∀ k, Value.ownBlock (.slice (B) (laidZs zs 8 [0, 0, 0, 0, 1, 2, 3]).length (d)) = some k → w2.heap.size ≤ k ∧ k < w3.heap.size) := fun k hk => World.ownsRow.lt HW3.out k hk
  have HB3 := Lib.hid (below_trans HB2.out hbt)
  clear ha2 HT2 HB2 hb hbt hnew hqa2
  clear HT3 HET
  go_wp2_with fail
  refine (toArena_any _ _ zs _ hs (HA.out.below (below_trans HB3.out (below_alloc _ _)))).mono ?_
  rintro e w4 ⟨g4, rfl, hown, hb⟩
  have hbt := below_trans (below_alloc _ _) hb
  have ha4 : w4.cell? ⟨w.heap.size, 0, none⟩ = some (.slice A zs.length c) := cell_keep hbt ha3
  have hw4 : w4.cell? ⟨w3.heap.size, 0, none⟩ = some (.slice B (laidZs zs 8 [0, 0, 0, 0, 1, 2, 3]).length d) := cell_keep hb (by simp)
  have hz4 : w3.heap.size + 1 ≤ w4.heap.size := by have := hb.size; (try simp only [size_alloc] at this); omega
  have hqa4 : w.heap.size < w4.heap.size := by omega
  have hqw4 : w3.heap.size < w4.heap.size := by omega
  have HW4 := Lib.hid (NewA.below HW3.out hbt)
  have HX4 := Lib.hid (show NewA (w3.heap.size + 1) w4 (some ⟨g4, 0, none⟩) (zs.length) (zs) from by first | exact hown | simpa using hown | (unfold NewA; simpa using hown))
  have HEX : Hid (∀ k, Value.ownBlock (.slice (some ⟨g4, 0, none⟩) (zs).length (zs.length)) = some k → w3.heap.size + 1 ≤ k ∧ k < w4.heap.size) := fun k hk => World.ownsRow.lt HX4.out k hk
  have HB4 := Lib.hid (below_trans HB3.out hbt)
  clear ha3 HW3 HB3 hb hbt hown hqa3
  go_wp2_with fail
  refine (implInitR_any _ _ zs  _ hs (HX4.out.rd.below (below_alloc _ _))).mono ?_
  rintro e w5 ⟨B5, d5, rfl, hnew, hb⟩
  have hbt := below_trans (below_alloc _ _) hb
  have ha5 : w5.cell? ⟨w.heap.size, 0, none⟩ = some (.slice A zs.length c) := cell_keep hbt ha4
  have hw5 : w5.cell? ⟨w3.heap.size, 0, none⟩ = some (.slice B (laidZs zs 8 [0, 0, 0, 0, 1, 2, 3]).length d) := cell_keep hbt hw4
  have hx5 : w5.cell? ⟨w4.heap.size, 0, none⟩ = some (.slice (some ⟨g4, 0, none⟩) zs.length zs.length) := cell_keep hb (by simp)
  have hz5 : w4.heap.size + 1 ≤ w5.heap.size := by have := hb.size; (try simp only [size_alloc] at this); omega
  have hqa5 : w.heap.size < w5.heap.size := by omega
  have hqw5 : w3.heap.size < w5.heap.size := by omega
  have hqx5 : w4.heap.size < w5.heap.size := by omega
  have HW5 := Lib.hid (NewA.below HW4.out hbt)
  have HX5 := Lib.hid (NewA.below HX4.out hbt)
  have HG5 := Lib.hid (show NewA (w4.heap.size + 1) w5 (B5) (d5) (laidZs zs 8 [0, 0, 0, 0, 1, 2, 3]) from by first | exact hnew | simpa using hnew | (unfold NewA; simpa using hnew))
  have HEG : Hid (∀ k, Value.ownBlock (.slice (B5) (laidZs zs 8 [0, 0, 0, 0, 1, 2, 3]).length (d5)) = some k → w4.heap.size + 1 ≤ k ∧ k < w5.heap.size) := fun k hk => World.ownsRow.lt HG5.out k hk
  have HB5 := Lib.hid (below_trans HB4.out hbt)
  clear ha4 hw4 HW4 HX4 HB4 hb hbt hnew hqa4 hqw4
  go_wp2_with fail
  refine (eqArena_same _ _ _ _ (laidZs zs 8 [0, 0, 0, 0, 1, 2, 3]) _ HRm.out (HG5.out.rd.below (below_alloc _ _)) (HW5.out.rd.below (below_alloc _ _))).mono ?_
  rintro e w6 ⟨rfl, hb⟩
  have hbt := below_trans (below_alloc _ _) hb
  have ha6 : w6.cell? ⟨w.heap.size, 0, none⟩ = some (.slice A zs.length c) := cell_keep hbt ha5
  have hw6 : w6.cell? ⟨w3.heap.size, 0, none⟩ = some (.slice B (laidZs zs 8 [0, 0, 0, 0, 1, 2, 3]).length d) := cell_keep hbt hw5
  have hx6 : w6.cell? ⟨w4.heap.size, 0, none⟩ = some (.slice (some ⟨g4, 0, none⟩) zs.length zs.length) := cell_keep hbt hx5
  have hg6 : w6.cell? ⟨w5.heap.size, 0, none⟩ = some (.slice B5 (laidZs zs 8 [0, 0, 0, 0, 1, 2, 3]).length d5) := cell_keep hb (by simp)
  have hz6 : w5.heap.size + 1 ≤ w6.heap.size := by have := hb.size; (try simp only [size_alloc] at this); omega
  have hqa6 : w.heap.size < w6.heap.size := by omega
  have hqw6 : w3.heap.size < w6.heap.size := by omega
  have hqx6 : w4.heap.size < w6.heap.size := by omega
  have hqg6 : w5.heap.size < w6.heap.size := by omega
  have HW6 := Lib.hid (NewA.below HW5.out hbt)
  have HX6 := Lib.hid (NewA.below HX5.out hbt)
  have HG6 := Lib.hid (NewA.below HG5.out hbt)
  have HB6 := Lib.hid (below_trans HB5.out hbt)
  clear ha5 hw5 hx5 HW5 HX5 HG5 HB5 hb hbt hqa5 hqw5 hqx5
  go_wp2_with fail
  go_region_held3 (fun w' => w'.cell? ⟨w.heap.size, 0, none⟩ = some (.slice A zs.length c) ∧ w'.cell? ⟨w4.heap.size, 0, none⟩ = some (.slice (some ⟨g4, 0, none⟩) zs.length zs.length))
    (first | exact ⟨ha6, hx6⟩ | exact ⟨cell_keep hb6 ha6, cell_keep hb6 hx6⟩ | exact ⟨cell_keep hb7 (cell_keep hb6 ha6), cell_keep hb7 (cell_keep hb6 hx6)⟩)
    (first
      | (go_at_call 13; refine (toArena_any _ _ zs _ hs (HA.out.below HB6.out.drew)).mono ?_; rintro e w7 ⟨g7, rfl, hown6, hb6⟩)
      | (go_at_call 15; refine (eqArena_same _ _ _ _ zs _ hn (HX6.out.rd.drew.below hb6) (Rd.of_own hown6)).mono ?_; rintro e w8 ⟨rfl, hb7⟩))
  have hb := below_drew_trans (below_trans hb6 hb7)
  clear hb6 hb7 hown6
  clear hqa6 hqw6 hqx6 hqg6
  have hbt := hb
  have ha8 : w8.cell? ⟨w.heap.size, 0, none⟩ = some (.slice A zs.length c) := cell_keep hbt ha6
  have hw8 : w8.cell? ⟨w3.heap.size, 0, none⟩ = some (.slice B (laidZs zs 8 [0, 0, 0, 0, 1, 2, 3]).length d) := cell_keep hbt hw6
  have hx8 : w8.cell? ⟨w4.heap.size, 0, none⟩ = some (.slice (some ⟨g4, 0, none⟩) zs.length zs.length) := cell_keep hbt hx6
  have hg8 : w8.cell? ⟨w5.heap.size, 0, none⟩ = some (.slice B5 (laidZs zs 8 [0, 0, 0, 0, 1, 2, 3]).length d5) := cell_keep hbt hg6
  have hz8 : w6.heap.size + 0 ≤ w8.heap.size := by have := hb.size; (try simp only [size_alloc] at this); omega
  have hqa8 : w.heap.size < w8.heap.size := by omega
  have hqw8 : w3.heap.size < w8.heap.size := by omega
  have hqx8 : w4.heap.size < w8.heap.size := by omega
  have hqg8 : w5.heap.size < w8.heap.size := by omega
  have HW8 := Lib.hid (NewA.below HW6.out hbt)
  have HX8 := Lib.hid (NewA.below HX6.out hbt)
  have HG8 := Lib.hid (NewA.below HG6.out hbt)
  have HB8 := Lib.hid (below_trans HB6.out hbt)
  clear ha6 hw6 hx6 hg6 HW6 HX6 HG6 HB6 hb hbt
  go_wp2_with fail
  refine (markArena_any _ _ (w3.heap.size + 1) zs 1 _ hs (by decide) (by decide) HX8.out).mono ?_
  rintro e w9 ⟨rfl, hown, hgr⟩
  have ha9 : w9.cell? ⟨w.heap.size, 0, none⟩ = some (.slice A zs.length c) := hgr.cell ha8 (fun h => by have := HEX.out _ h.symm; (try dsimp only at this); omega)
  have hw9 : w9.cell? ⟨w3.heap.size, 0, none⟩ = some (.slice B (laidZs zs 8 [0, 0, 0, 0, 1, 2, 3]).length d) := hgr.cell hw8 (fun h => by have := HEX.out _ h.symm; (try dsimp only at this); omega)
  have hx9 : w9.cell? ⟨w4.heap.size, 0, none⟩ = some (.slice (some ⟨g4, 0, none⟩) zs.length zs.length) := hgr.cell hx8 (fun h => by have := HEX.out _ h.symm; (try dsimp only at this); omega)
  have hg9 : w9.cell? ⟨w5.heap.size, 0, none⟩ = some (.slice B5 (laidZs zs 8 [0, 0, 0, 0, 1, 2, 3]).length d5) := hgr.cell hg8 (fun h => by have := HEX.out _ h.symm; (try dsimp only at this); omega)
  have hz9 : w8.heap.size ≤ w9.heap.size := hgr.size
  have hqa9 : w.heap.size < w9.heap.size := by omega
  have hqw9 : w3.heap.size < w9.heap.size := by omega
  have hqx9 : w4.heap.size < w9.heap.size := by omega
  have hqg9 : w5.heap.size < w9.heap.size := by omega
  have HW9 := Lib.hid (NewA.kept HW8.out hgr (ranges_ne HEW.out HEX.out (by omega)))
  have HX9 := Lib.hid (show NewA (w3.heap.size + 1) w9 (some ⟨g4, 0, none⟩) (zs.length) (upFrom 1 zs.length) from by unfold NewA; rw [upFrom_length]; exact hown)
  have HG9 := Lib.hid (NewA.kept HG8.out hgr (ranges_ne HEG.out HEX.out (by omega)))
  have HB9 := Lib.hid (HB8.out.grown hgr (by omega) (fun k hk => by have := HEX.out k hk; omega))
  clear ha8 hw8 hx8 hg8 HW8 HX8 HG8 HB8 hgr hown hqa8 hqw8 hqx8 hqg8
  clear HX9 HEX
  go_wp2_with fail
  refine (eqArena_same _ _ _ _ (laidZs zs 8 [0, 0, 0, 0, 1, 2, 3]) _ HRm.out HG9.out.rd HW9.out.rd).mono ?_
  rintro e w10 ⟨rfl, hb⟩
  have hbt := hb
  have ha10 : w10.cell? ⟨w.heap.size, 0, none⟩ = some (.slice A zs.length c) := cell_keep hbt ha9
  have hw10 : w10.cell? ⟨w3.heap.size, 0, none⟩ = some (.slice B (laidZs zs 8 [0, 0, 0, 0, 1, 2, 3]).length d) := cell_keep hbt hw9
  have hx10 : w10.cell? ⟨w4.heap.size, 0, none⟩ = some (.slice (some ⟨g4, 0, none⟩) zs.length zs.length) := cell_keep hbt hx9
  have hg10 : w10.cell? ⟨w5.heap.size, 0, none⟩ = some (.slice B5 (laidZs zs 8 [0, 0, 0, 0, 1, 2, 3]).length d5) := cell_keep hbt hg9
  have hz10 : w9.heap.size + 0 ≤ w10.heap.size := by have := hb.size; (try simp only [size_alloc] at this); omega
  have hqa10 : w.heap.size < w10.heap.size := by omega
  have hqw10 : w3.heap.size < w10.heap.size := by omega
  have hqx10 : w4.heap.size < w10.heap.size := by omega
  have hqg10 : w5.heap.size < w10.heap.size := by omega
  have HW10 := Lib.hid (NewA.below HW9.out hbt)
  have HG10 := Lib.hid (NewA.below HG9.out hbt)
  have HB10 := Lib.hid (below_trans HB9.out hbt)
  clear ha9 hw9 hx9 hg9 HW9 HG9 HB9 hb hbt hqa9 hqw9 hqx9 hqg9
  go_wp2_with fail
  refine (markArena_any _ _ (w4.heap.size + 1) (laidZs zs 8 [0, 0, 0, 0, 1, 2, 3]) 1 _ hR (by decide) (by decide) HG10.out).mono ?_
  rintro e w11 ⟨rfl, hown, hgr⟩
  have ha11 : w11.cell? ⟨w.heap.size, 0, none⟩ = some (.slice A zs.length c) := hgr.cell ha10 (fun h => by have := HEG.out _ h.symm; (try dsimp only at this); omega)
  have hw11 : w11.cell? ⟨w3.heap.size, 0, none⟩ = some (.slice B (laidZs zs 8 [0, 0, 0, 0, 1, 2, 3]).length d) := hgr.cell hw10 (fun h => by have := HEG.out _ h.symm; (try dsimp only at this); omega)
  have hx11 : w11.cell? ⟨w4.heap.size, 0, none⟩ = some (.slice (some ⟨g4, 0, none⟩) zs.length zs.length) := hgr.cell hx10 (fun h => by have := HEG.out _ h.symm; (try dsimp only at this); omega)
  have hg11 : w11.cell? ⟨w5.heap.size, 0, none⟩ = some (.slice B5 (laidZs zs 8 [0, 0, 0, 0, 1, 2, 3]).length d5) := hgr.cell hg10 (fun h => by have := HEG.out _ h.symm; (try dsimp only at this); omega)
  have hz11 : w10.heap.size ≤ w11.heap.size := hgr.size
  have hqa11 : w.heap.size < w11.heap.size := by omega
  have hqw11 : w3.heap.size < w11.heap.size := by omega
  have hqx11 : w4.heap.size < w11.heap.size := by omega
  have hqg11 : w5.heap.size < w11.heap.size := by omega
  have HW11 := Lib.hid (NewA.kept HW10.out hgr (ranges_ne HEW.out HEG.out (by omega)))
  have HG11 := Lib.hid (show NewA (w4.heap.size + 1) w11 (B5) (d5) (upFrom 1 (laidZs zs 8 [0, 0, 0, 0, 1, 2, 3]).length) from by unfold NewA; rw [upFrom_length]; exact hown)
  have HB11 := Lib.hid (HB10.out.grown hgr (by omega) (fun k hk => by have := HEG.out k hk; omega))
  clear ha10 hw10 hx10 hg10 HW10 HG10 HB10 hgr hown hqa10 hqw10 hqx10 hqg10
  go_wp2_with fail
  refine (heldArena_any _ _ _ _ _ hR (by decide) (by decide) HG11.out.rd).mono ?_
  rintro e w12 ⟨rfl, hb⟩
  have hbt := hb
  have ha12 : w12.cell? ⟨w.heap.size, 0, none⟩ = some (.slice A zs.length c) := cell_keep hbt ha11
  have hw12 : w12.cell? ⟨w3.heap.size, 0, none⟩ = some (.slice B (laidZs zs 8 [0, 0, 0, 0, 1, 2, 3]).length d) := cell_keep hbt hw11
  have hx12 : w12.cell? ⟨w4.heap.size, 0, none⟩ = some (.slice (some ⟨g4, 0, none⟩) zs.length zs.length) := cell_keep hbt hx11
  have hg12 : w12.cell? ⟨w5.heap.size, 0, none⟩ = some (.slice B5 (laidZs zs 8 [0, 0, 0, 0, 1, 2, 3]).length d5) := cell_keep hbt hg11
  have hz12 : w11.heap.size + 0 ≤ w12.heap.size := by have := hb.size; (try simp only [size_alloc] at this); omega
  have hqa12 : w.heap.size < w12.heap.size := by omega
  have hqw12 : w3.heap.size < w12.heap.size := by omega
  have hqx12 : w4.heap.size < w12.heap.size := by omega
  have hqg12 : w5.heap.size < w12.heap.size := by omega
  have HW12 := Lib.hid (NewA.below HW11.out hbt)
  have HG12 := Lib.hid (NewA.below HG11.out hbt)
  have HB12 := Lib.hid (below_trans HB11.out hbt)
  clear ha11 hw11 hx11 hg11 HW11 HG11 HB11 hb hbt hqa11 hqw11 hqx11 hqg11
  go_wp2_with fail
  refine (toArena_any _ _ zs _ hs (HA.out.below HB12.out)).mono ?_
  rintro e w13 ⟨g13, rfl, hown, hb⟩
  have hbt := hb
  have ha13 : w13.cell? ⟨w.heap.size, 0, none⟩ = some (.slice A zs.length c) := cell_keep hbt ha12
  have hw13 : w13.cell? ⟨w3.heap.size, 0, none⟩ = some (.slice B (laidZs zs 8 [0, 0, 0, 0, 1, 2, 3]).length d) := cell_keep hbt hw12
  have hx13 : w13.cell? ⟨w4.heap.size, 0, none⟩ = some (.slice (some ⟨g4, 0, none⟩) zs.length zs.length) := cell_keep hbt hx12
  have hg13 : w13.cell? ⟨w5.heap.size, 0, none⟩ = some (.slice B5 (laidZs zs 8 [0, 0, 0, 0, 1, 2, 3]).length d5) := cell_keep hbt hg12
  have hz13 : w12.heap.size + 0 ≤ w13.heap.size := by have := hb.size; (try simp only [size_alloc] at this); omega
  have hqa13 : w.heap.size < w13.heap.size := by omega
  have hqw13 : w3.heap.size < w13.heap.size := by omega
  have hqx13 : w4.heap.size < w13.heap.size := by omega
  have hqg13 : w5.heap.size < w13.heap.size := by omega
  have HW13 := Lib.hid (NewA.below HW12.out hbt)
  have HG13 := Lib.hid (NewA.below HG12.out hbt)
  have HT13 := Lib.hid (show NewA (w12.heap.size) w13 (some ⟨g13, 0, none⟩) (zs.length) (zs) from by first | exact hown | simpa using hown | (unfold NewA; simpa using hown))
  have HET : Hid (∀ k, Value.ownBlock (.slice (some ⟨g13, 0, none⟩) (zs).length (zs.length)) = some k → w12.heap.size ≤ k ∧ k < w13.heap.size) := fun k hk => World.ownsRow.lt HT13.out k hk
  have HB13 := Lib.hid (below_trans HB12.out hbt)
  clear ha12 hw12 hx12 hg12 HW12 HG12 HB12 hb hbt hown hqa12 hqw12 hqx12 hqg12
  go_wp2_with fail
  refine (implInitR_any _ _ zs  _ hs HT13.out.rd).mono ?_
  rintro e w14 ⟨B14, d14, rfl, hnew, hb⟩
  have hbt := hb
  have ha14 : w14.cell? ⟨w.heap.size, 0, none⟩ = some (.slice A zs.length c) := cell_keep hbt ha13
  have hw14 : w14.cell? ⟨w3.heap.size, 0, none⟩ = some (.slice B (laidZs zs 8 [0, 0, 0, 0, 1, 2, 3]).length d) := cell_keep hbt hw13
  have hx14 : w14.cell? ⟨w4.heap.size, 0, none⟩ = some (.slice (some ⟨g4, 0, none⟩) zs.length zs.length) := cell_keep hbt hx13
  have hg14 : w14.cell? ⟨w5.heap.size, 0, none⟩ = some (.slice B5 (laidZs zs 8 [0, 0, 0, 0, 1, 2, 3]).length d5) := cell_keep hbt hg13
  have hz14 : w13.heap.size + 0 ≤ w14.heap.size := by have := hb.size; (try simp only [size_alloc] at this); omega
  have hqa14 : w.heap.size < w14.heap.size := by omega
  have hqw14 : w3.heap.size < w14.heap.size := by omega
  have hqx14 : w4.heap.size < w14.heap.size := by omega
  have hqg14 : w5.heap.size < w14.heap.size := by omega
  have HW14 := Lib.hid (NewA.below HW13.out hbt)
  have HG14 := Lib.hid (NewA.below HG13.out hbt)
  have HT14 := Lib.hid (NewA.below HT13.out hbt)
  have HH14 := Lib.hid (show NewA (w13.heap.size) w14 (B14) (d14) (laidZs zs 8 [0, 0, 0, 0, 1, 2, 3]) from by first | exact hnew | simpa using hnew | (unfold NewA; simpa using hnew))
  have HEH : Hid (∀ k, Value.ownBlock (.slice (B14) (laidZs zs 8 [0, 0, 0, 0, 1, 2, 3]).length (d14)) = some k → w13.heap.size ≤ k ∧ k < w14.heap.size) := fun k hk => World.ownsRow.lt HH14.out k hk
  have HB14 := Lib.hid (below_trans HB13.out hbt)
  clear ha13 hw13 hx13 hg13 HW13 HG13 HT13 HB13 hb hbt hnew hqa13 hqw13 hqx13 hqg13
  clear HT14 HET
  go_wp2_with fail
  refine (eqArena_same _ _ _ _ (laidZs zs 8 [0, 0, 0, 0, 1, 2, 3]) _ HRm.out (HH14.out.rd.below (below_alloc _ _)) (HW14.out.rd.below (below_alloc _ _))).mono ?_
  rintro e w15 ⟨rfl, hb⟩
  have hbt := below_trans (below_alloc _ _) hb
  have ha15 : w15.cell? ⟨w.heap.size, 0, none⟩ = some (.slice A zs.length c) := cell_keep hbt ha14
  have hw15 : w15.cell? ⟨w3.heap.size, 0, none⟩ = some (.slice B (laidZs zs 8 [0, 0, 0, 0, 1, 2, 3]).length d) := cell_keep hbt hw14
  have hx15 : w15.cell? ⟨w4.heap.size, 0, none⟩ = some (.slice (some ⟨g4, 0, none⟩) zs.length zs.length) := cell_keep hbt hx14
  have hg15 : w15.cell? ⟨w5.heap.size, 0, none⟩ = some (.slice B5 (laidZs zs 8 [0, 0, 0, 0, 1, 2, 3]).length d5) := cell_keep hbt hg14
  have hh15 : w15.cell? ⟨w14.heap.size, 0, none⟩ = some (.slice B14 (laidZs zs 8 [0, 0, 0, 0, 1, 2, 3]).length d14) := cell_keep hb (by simp)
  have hz15 : w14.heap.size + 1 ≤ w15.heap.size := by have := hb.size; (try simp only [size_alloc] at this); omega
  have hqa15 : w.heap.size < w15.heap.size := by omega
  have hqw15 : w3.heap.size < w15.heap.size := by omega
  have hqx15 : w4.heap.size < w15.heap.size := by omega
  have hqg15 : w5.heap.size < w15.heap.size := by omega
  have hqh15 : w14.heap.size < w15.heap.size := by omega
  have HW15 := Lib.hid (NewA.below HW14.out hbt)
  have HG15 := Lib.hid (NewA.below HG14.out hbt)
  have HH15 := Lib.hid (NewA.below HH14.out hbt)
  have HB15 := Lib.hid (below_trans HB14.out hbt)
  clear ha14 hw14 hx14 hg14 HW14 HG14 HH14 HB14 hb hbt hqa14 hqw14 hqx14 hqg14
  go_wp2_with fail
  refine (heldArena_any _ _ _ _ _ hR (by decide) (by decide) HG15.out.rd).mono ?_
  rintro e w16 ⟨rfl, hb⟩
  have hbt := hb
  have ha16 : w16.cell? ⟨w.heap.size, 0, none⟩ = some (.slice A zs.length c) := cell_keep hbt ha15
  have hw16 : w16.cell? ⟨w3.heap.size, 0, none⟩ = some (.slice B (laidZs zs 8 [0, 0, 0, 0, 1, 2, 3]).length d) := cell_keep hbt hw15
  have hx16 : w16.cell? ⟨w4.heap.size, 0, none⟩ = some (.slice (some ⟨g4, 0, none⟩) zs.length zs.length) := cell_keep hbt hx15
  have hg16 : w16.cell? ⟨w5.heap.size, 0, none⟩ = some (.slice B5 (laidZs zs 8 [0, 0, 0, 0, 1, 2, 3]).length d5) := cell_keep hbt hg15
  have hh16 : w16.cell? ⟨w14.heap.size, 0, none⟩ = some (.slice B14 (laidZs zs 8 [0, 0, 0, 0, 1, 2, 3]).length d14) := cell_keep hbt hh15
  have hz16 : w15.heap.size + 0 ≤ w16.heap.size := by have := hb.size; (try simp only [size_alloc] at this); omega
  have hqa16 : w.heap.size < w16.heap.size := by omega
  have hqw16 : w3.heap.size < w16.heap.size := by omega
  have hqx16 : w4.heap.size < w16.heap.size := by omega
  have hqg16 : w5.heap.size < w16.heap.size := by omega
  have hqh16 : w14.heap.size < w16.heap.size := by omega
  have HW16 := Lib.hid (NewA.below HW15.out hbt)
  have HG16 := Lib.hid (NewA.below HG15.out hbt)
  have HH16 := Lib.hid (NewA.below HH15.out hbt)
  have HB16 := Lib.hid (below_trans HB15.out hbt)
  clear ha15 hw15 hx15 hg15 hh15 HW15 HG15 HH15 HB15 hb hbt hqa15 hqw15 hqx15 hqg15 hqh15
  go_wp2
  go_ret
  exact ⟨rfl, HB16.out⟩
end Go.Proofs.Ytjddmdhoeampcaa
