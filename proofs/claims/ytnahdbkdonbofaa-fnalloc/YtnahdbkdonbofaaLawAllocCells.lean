/-
  The walk of the law FnExactAllocCells.
-/
import Derived.Test.YtnahdbkdonbofaaAllocD
import Derived.Test.YtnahdbkdonbofaaLawArenaOK
namespace Go.Proofs.Ytnahdbkdonbofaa
open Go.RowKit

theorem eqIntS_same (A B : Option Addr) (c d : Nat) (xs : List Int) (w : World) (hn : xs.length ≤ maxLen) (hA : Rd w A xs) (hB : Rd w B xs) :
    Calls Try.prog 43 #[.slice A xs.length c, .slice B xs.length d] w fun e w' => e = .returned (.bool true) ∧ Below w.heap.size w w' :=
  (eqIntS_any A B c d xs xs w hn hn hA hB).mono fun e w' ⟨he, n, hw⟩ => ⟨by rw [he, decide_eq_true rfl], by rw [hw]; exact below_drewN n⟩

set_option maxHeartbeats 2000000 in
theorem lawAllocCells_walk (A : Option Addr) (c : Nat) (zs : List Int) (A2 : Option Addr) (c2 : Nat) (ls : List Int) (w : World) (hn : zs.length ≤ maxLen) (hA : Rd w A zs) (hn2 : ls.length ≤ maxLen) (hA2 : Rd w A2 ls) :
    Calls Try.prog 14 #[.agg #[.slice A zs.length c], .slice A2 ls.length c2] w fun e w' => e = .returned (.bool true) ∧ Below w.heap.size w w' := by
  have HA := Lib.hid hA; have HA2 := Lib.hid hA2; clear hA hA2
  by_cases hbig0 : 1048576 < ls.length
  · go_enter Try.func14, Try.ntmps14
    go_wp2
    go_ret
    exact ⟨rfl, below_alloc _ _⟩
  have hs2 : ls.length ≤ 1048576 := by omega
  by_cases hbig : leftB 1048576 zs.length < 0
  · go_enter Try.func14, Try.ntmps14
    go_wp2_with fail
    refine (szArena_any _ _ _ _ _ hn (by decide) (by decide)).mono ?_
    rintro e w1 ⟨rfl, hb⟩
    have HB := Lib.hid hb; clear hb
    go_wp2
    go_ret
    exact ⟨rfl, below_trans (below_alloc _ _) HB.out⟩
  have hs := leftB_small hbig
  have hR : (allocZs zs ls).length ≤ 1048576 := allocZs_small zs ls hs
  have HRm : Hid ((allocZs zs ls).length ≤ maxLen) := Nat.le_trans hR (by unfold maxLen; omega)
  go_enter Try.func14, Try.ntmps14
  go_wp2_with fail
  refine (szArena_any _ _ _ _ _ hn (by decide) (by decide)).mono ?_
  rintro e w1 ⟨rfl, hb⟩
  have hbt := below_trans (below_alloc _ _) hb
  have ha1 : w1.cell? ⟨w.heap.size, 0, none⟩ = some (.slice A zs.length c) := cell_keep hb (by simp)
  have hz1 : w.heap.size + 1 ≤ w1.heap.size := by have := hb.size; (try simp only [size_alloc] at this); omega
  have hqa1 : w.heap.size < w1.heap.size := by omega
  have HB1 := Lib.hid hbt
  clear hb hbt
  go_wp2_with fail
  refine (toArena_any _ _ zs _ hs (HA.out.below HB1.out)).mono ?_
  rintro e w2 ⟨g, rfl, hown, hb⟩
  have hbt := hb
  have ha2 : w2.cell? ⟨w.heap.size, 0, none⟩ = some (.slice A zs.length c) := cell_keep hbt ha1
  have hz2 : w1.heap.size + 0 ≤ w2.heap.size := by have := hb.size; (try simp only [size_alloc] at this); omega
  have hqa2 : w.heap.size < w2.heap.size := by omega
  have HT2 := Lib.hid (show NewA (w1.heap.size) w2 (some ⟨g, 0, none⟩) (zs.length) (zs) from by first | exact hown | simpa using hown | (unfold NewA; simpa using hown))
  have HET : Hid (∀ k, Value.ownBlock (.slice (some ⟨g, 0, none⟩) (zs).length (zs.length)) = some k → w1.heap.size ≤ k ∧ k < w2.heap.size) := fun k hk => World.ownsRow.lt HT2.out k hk
  have HB2 := Lib.hid (below_trans HB1.out hbt)
  clear ha1 HB1 hb hbt hown hqa1
  go_wp2_with fail
  refine (toIntS_any _ _ ls _ hs2 (HA2.out.below HB2.out)).mono ?_
  rintro e w3 ⟨rfl, hown, hb⟩
  have hbt := hb
  have ha3 : w3.cell? ⟨w.heap.size, 0, none⟩ = some (.slice A zs.length c) := cell_keep hbt ha2
  have hz3 : w2.heap.size + 0 ≤ w3.heap.size := by have := hb.size; (try simp only [size_alloc] at this); omega
  have hqa3 : w.heap.size < w3.heap.size := by omega
  have HT3 := Lib.hid (NewA.below HT2.out hbt)
  have HU3 := Lib.hid (show NewA (w2.heap.size) w3 (some ⟨w2.heap.size, 0, none⟩) (ls.length) (ls) from by first | exact hown | simpa using hown | (unfold NewA; simpa using hown))
  have HEU : Hid (∀ k, Value.ownBlock (.slice (some ⟨w2.heap.size, 0, none⟩) (ls).length (ls.length)) = some k → w2.heap.size ≤ k ∧ k < w3.heap.size) := fun k hk => World.ownsRow.lt HU3.out k hk
  have HB3 := Lib.hid (below_trans HB2.out hbt)
  clear ha2 HT2 HB2 hb hbt hown hqa2
  go_wp2_with fail
  refine (specAllocCells_any _ _ _ _ zs ls _ hs hs2 HT3.out.rd HU3.out.rd).mono ?_
  rintro e w4 ⟨B, d, rfl, hnew, hb⟩
  have hbt := hb
  have ha4 : w4.cell? ⟨w.heap.size, 0, none⟩ = some (.slice A zs.length c) := cell_keep hbt ha3
  have hz4 : w3.heap.size + 0 ≤ w4.heap.size := by have := hb.size; (try simp only [size_alloc] at this); omega
  have hqa4 : w.heap.size < w4.heap.size := by omega
  have HT4 := Lib.hid (NewA.below HT3.out hbt)
  have HU4 := Lib.hid (NewA.below HU3.out hbt)
  have HW4 := Lib.hid (show NewA (w3.heap.size) w4 (B) (d) (allocZs zs ls) from by first | exact hnew | simpa using hnew | (unfold NewA; simpa using hnew))
  have HEW : Hid (∀ k, Value.ownBlock (.slice (B) (allocZs zs ls).length (d)) = some k → w3.heap.size ≤ k ∧ k < w4.heap.size) := fun k hk => World.ownsRow.lt HW4.out k hk
  have HB4 := Lib.hid (below_trans HB3.out hbt)
  clear ha3 HT3 HU3 HB3 hb hbt hnew hqa3
  clear HT4 HET HU4 HEU
  go_wp2_with fail
  refine (toArena_any _ _ zs _ hs (HA.out.below (below_trans HB4.out (below_alloc _ _)))).mono ?_
  rintro e w5 ⟨g4, rfl, hown, hb⟩
  have hbt := below_trans (below_alloc _ _) hb
  have ha5 : w5.cell? ⟨w.heap.size, 0, none⟩ = some (.slice A zs.length c) := cell_keep hbt ha4
  have hw5 : w5.cell? ⟨w4.heap.size, 0, none⟩ = some (.slice B (allocZs zs ls).length d) := cell_keep hb (by simp)
  have hz5 : w4.heap.size + 1 ≤ w5.heap.size := by have := hb.size; (try simp only [size_alloc] at this); omega
  have hqa5 : w.heap.size < w5.heap.size := by omega
  have hqw5 : w4.heap.size < w5.heap.size := by omega
  have HW5 := Lib.hid (NewA.below HW4.out hbt)
  have HX5 := Lib.hid (show NewA (w4.heap.size + 1) w5 (some ⟨g4, 0, none⟩) (zs.length) (zs) from by first | exact hown | simpa using hown | (unfold NewA; simpa using hown))
  have HEX : Hid (∀ k, Value.ownBlock (.slice (some ⟨g4, 0, none⟩) (zs).length (zs.length)) = some k → w4.heap.size + 1 ≤ k ∧ k < w5.heap.size) := fun k hk => World.ownsRow.lt HX5.out k hk
  have HB5 := Lib.hid (below_trans HB4.out hbt)
  clear ha4 HW4 HB4 hb hbt hown hqa4
  go_wp2_with fail
  refine (toIntS_any _ _ ls _ hs2 (HA2.out.below (below_trans HB5.out (below_alloc _ _)))).mono ?_
  rintro e w6 ⟨rfl, hown, hb⟩
  have hbt := below_trans (below_alloc _ _) hb
  have ha6 : w6.cell? ⟨w.heap.size, 0, none⟩ = some (.slice A zs.length c) := cell_keep hbt ha5
  have hw6 : w6.cell? ⟨w4.heap.size, 0, none⟩ = some (.slice B (allocZs zs ls).length d) := cell_keep hbt hw5
  have hx6 : w6.cell? ⟨w5.heap.size, 0, none⟩ = some (.slice (some ⟨g4, 0, none⟩) zs.length zs.length) := cell_keep hb (by simp)
  have hz6 : w5.heap.size + 1 ≤ w6.heap.size := by have := hb.size; (try simp only [size_alloc] at this); omega
  have hqa6 : w.heap.size < w6.heap.size := by omega
  have hqw6 : w4.heap.size < w6.heap.size := by omega
  have hqx6 : w5.heap.size < w6.heap.size := by omega
  have HW6 := Lib.hid (NewA.below HW5.out hbt)
  have HX6 := Lib.hid (NewA.below HX5.out hbt)
  have HY6 := Lib.hid (show NewA (w5.heap.size + 1) w6 (some ⟨w5.heap.size + 1, 0, none⟩) (ls.length) (ls) from by first | exact hown | simpa using hown | (unfold NewA; simpa using hown))
  have HEY : Hid (∀ k, Value.ownBlock (.slice (some ⟨w5.heap.size + 1, 0, none⟩) (ls).length (ls.length)) = some k → w5.heap.size + 1 ≤ k ∧ k < w6.heap.size) := fun k hk => World.ownsRow.lt HY6.out k hk
  have HB6 := Lib.hid (below_trans HB5.out hbt)
  clear ha5 hw5 HW5 HX5 HB5 hb hbt hown hqa5 hqw5
  go_wp2_with fail
  refine (implAllocCells_any _ _ _ _ zs ls _ hs hs2 HX6.out.rd HY6.out.rd).mono ?_
  rintro e w7 ⟨B5, d5, rfl, hnew, hb⟩
  have hbt := hb
  have ha7 : w7.cell? ⟨w.heap.size, 0, none⟩ = some (.slice A zs.length c) := cell_keep hbt ha6
  have hw7 : w7.cell? ⟨w4.heap.size, 0, none⟩ = some (.slice B (allocZs zs ls).length d) := cell_keep hbt hw6
  have hx7 : w7.cell? ⟨w5.heap.size, 0, none⟩ = some (.slice (some ⟨g4, 0, none⟩) zs.length zs.length) := cell_keep hbt hx6
  have hz7 : w6.heap.size + 0 ≤ w7.heap.size := by have := hb.size; (try simp only [size_alloc] at this); omega
  have hqa7 : w.heap.size < w7.heap.size := by omega
  have hqw7 : w4.heap.size < w7.heap.size := by omega
  have hqx7 : w5.heap.size < w7.heap.size := by omega
  have HW7 := Lib.hid (NewA.below HW6.out hbt)
  have HX7 := Lib.hid (NewA.below HX6.out hbt)
  have HY7 := Lib.hid (NewA.below HY6.out hbt)
  have HG7 := Lib.hid (show NewA (w6.heap.size) w7 (B5) (d5) (allocZs zs ls) from by first | exact hnew | simpa using hnew | (unfold NewA; simpa using hnew))
  have HEG : Hid (∀ k, Value.ownBlock (.slice (B5) (allocZs zs ls).length (d5)) = some k → w6.heap.size ≤ k ∧ k < w7.heap.size) := fun k hk => World.ownsRow.lt HG7.out k hk
  have HB7 := Lib.hid (below_trans HB6.out hbt)
  clear ha6 hw6 hx6 HW6 HX6 HY6 HB6 hb hbt hnew hqa6 hqw6 hqx6
  go_wp2_with fail
  refine (eqArena_same _ _ _ _ (allocZs zs ls) _ HRm.out (HG7.out.rd.below (below_alloc _ _)) (HW7.out.rd.below (below_alloc _ _))).mono ?_
  rintro e w8 ⟨rfl, hb⟩
  have hbt := below_trans (below_alloc _ _) hb
  have ha8 : w8.cell? ⟨w.heap.size, 0, none⟩ = some (.slice A zs.length c) := cell_keep hbt ha7
  have hw8 : w8.cell? ⟨w4.heap.size, 0, none⟩ = some (.slice B (allocZs zs ls).length d) := cell_keep hbt hw7
  have hx8 : w8.cell? ⟨w5.heap.size, 0, none⟩ = some (.slice (some ⟨g4, 0, none⟩) zs.length zs.length) := cell_keep hbt hx7
  have hg8 : w8.cell? ⟨w7.heap.size, 0, none⟩ = some (.slice B5 (allocZs zs ls).length d5) := cell_keep hb (by simp)
  have hz8 : w7.heap.size + 1 ≤ w8.heap.size := by have := hb.size; (try simp only [size_alloc] at this); omega
  have hqa8 : w.heap.size < w8.heap.size := by omega
  have hqw8 : w4.heap.size < w8.heap.size := by omega
  have hqx8 : w5.heap.size < w8.heap.size := by omega
  have hqg8 : w7.heap.size < w8.heap.size := by omega
  have HW8 := Lib.hid (NewA.below HW7.out hbt)
  have HX8 := Lib.hid (NewA.below HX7.out hbt)
  have HY8 := Lib.hid (NewA.below HY7.out hbt)
  have HG8 := Lib.hid (NewA.below HG7.out hbt)
  have HB8 := Lib.hid (below_trans HB7.out hbt)
  clear ha7 hw7 hx7 HW7 HX7 HY7 HG7 HB7 hb hbt hqa7 hqw7 hqx7
  go_wp2_with fail
  go_region_held3 (fun w' => w'.cell? ⟨w5.heap.size, 0, none⟩ = some (.slice (some ⟨g4, 0, none⟩) zs.length zs.length) ∧ w'.cell? ⟨w.heap.size, 0, none⟩ = some (.slice A zs.length c))
    (first | exact ⟨hx8, ha8⟩ | exact ⟨cell_keep hr0 (hx8), cell_keep hr0 (ha8)⟩ | exact ⟨cell_keep hr1 (cell_keep hr0 (hx8)), cell_keep hr1 (cell_keep hr0 (ha8))⟩)
    (first
      | (go_at_call 40; (with_reducible refine (toArena_any _ _ zs _ hs (HA.out.below HB8.out.drew)).mono ?_); rintro e u9_0 ⟨g7, rfl, hown1, hr0⟩)
      | (go_at_call 35; (with_reducible refine (eqArena_same _ _ _ _ zs _ hn (HX8.out.rd.drew.below hr0) (Rd.of_own hown1)).mono ?_); rintro e u9_1 ⟨rfl, hr1⟩))
  have hb := below_drew_trans (below_trans (hr0) hr1)
  clear hr0 hr1
  have hbt := hb
  have ha9 : u9_1.cell? ⟨w.heap.size, 0, none⟩ = some (.slice A zs.length c) := cell_keep hbt ha8
  have hw9 : u9_1.cell? ⟨w4.heap.size, 0, none⟩ = some (.slice B (allocZs zs ls).length d) := cell_keep hbt hw8
  have hx9 : u9_1.cell? ⟨w5.heap.size, 0, none⟩ = some (.slice (some ⟨g4, 0, none⟩) zs.length zs.length) := cell_keep hbt hx8
  have hg9 : u9_1.cell? ⟨w7.heap.size, 0, none⟩ = some (.slice B5 (allocZs zs ls).length d5) := cell_keep hbt hg8
  have hz9 : w8.heap.size + 0 ≤ u9_1.heap.size := by have := hb.size; (try simp only [size_alloc] at this); omega
  have hqa9 : w.heap.size < u9_1.heap.size := by omega
  have hqw9 : w4.heap.size < u9_1.heap.size := by omega
  have hqx9 : w5.heap.size < u9_1.heap.size := by omega
  have hqg9 : w7.heap.size < u9_1.heap.size := by omega
  have HW9 := Lib.hid (NewA.below HW8.out hbt)
  have HX9 := Lib.hid (NewA.below HX8.out hbt)
  have HY9 := Lib.hid (NewA.below HY8.out hbt)
  have HG9 := Lib.hid (NewA.below HG8.out hbt)
  have HB9 := Lib.hid (below_trans HB8.out hbt)
  clear ha8 hw8 hx8 hg8 HW8 HX8 HY8 HG8 HB8 hb hbt hqa8 hqw8 hqx8 hqg8
  clear hown1
  go_wp2_with fail
  refine (toIntS_any _ _ ls _ hs2 (HA2.out.below HB9.out)).mono ?_
  rintro e w10 ⟨rfl, hown, hb⟩
  have hbt := hb
  have ha10 : w10.cell? ⟨w.heap.size, 0, none⟩ = some (.slice A zs.length c) := cell_keep hbt ha9
  have hw10 : w10.cell? ⟨w4.heap.size, 0, none⟩ = some (.slice B (allocZs zs ls).length d) := cell_keep hbt hw9
  have hx10 : w10.cell? ⟨w5.heap.size, 0, none⟩ = some (.slice (some ⟨g4, 0, none⟩) zs.length zs.length) := cell_keep hbt hx9
  have hg10 : w10.cell? ⟨w7.heap.size, 0, none⟩ = some (.slice B5 (allocZs zs ls).length d5) := cell_keep hbt hg9
  have hz10 : u9_1.heap.size + 0 ≤ w10.heap.size := by have := hb.size; (try simp only [size_alloc] at this); omega
  have hqa10 : w.heap.size < w10.heap.size := by omega
  have hqw10 : w4.heap.size < w10.heap.size := by omega
  have hqx10 : w5.heap.size < w10.heap.size := by omega
  have hqg10 : w7.heap.size < w10.heap.size := by omega
  have HW10 := Lib.hid (NewA.below HW9.out hbt)
  have HX10 := Lib.hid (NewA.below HX9.out hbt)
  have HY10 := Lib.hid (NewA.below HY9.out hbt)
  have HG10 := Lib.hid (NewA.below HG9.out hbt)
  have HU10 := Lib.hid (show NewA (u9_1.heap.size) w10 (some ⟨u9_1.heap.size, 0, none⟩) (ls.length) (ls) from by first | exact hown | simpa using hown | (unfold NewA; simpa using hown))
  have HEU : Hid (∀ k, Value.ownBlock (.slice (some ⟨u9_1.heap.size, 0, none⟩) (ls).length (ls.length)) = some k → u9_1.heap.size ≤ k ∧ k < w10.heap.size) := fun k hk => World.ownsRow.lt HU10.out k hk
  have HB10 := Lib.hid (below_trans HB9.out hbt)
  clear ha9 hw9 hx9 hg9 HW9 HX9 HY9 HG9 HB9 hb hbt hown hqa9 hqw9 hqx9 hqg9
  go_wp2_with fail
  refine (eqIntS_same _ _ _ _ ls _ hn2 HY10.out.rd HU10.out.rd).mono ?_
  rintro e w11 ⟨rfl, hb⟩
  have hbt := hb
  have ha11 : w11.cell? ⟨w.heap.size, 0, none⟩ = some (.slice A zs.length c) := cell_keep hbt ha10
  have hw11 : w11.cell? ⟨w4.heap.size, 0, none⟩ = some (.slice B (allocZs zs ls).length d) := cell_keep hbt hw10
  have hx11 : w11.cell? ⟨w5.heap.size, 0, none⟩ = some (.slice (some ⟨g4, 0, none⟩) zs.length zs.length) := cell_keep hbt hx10
  have hg11 : w11.cell? ⟨w7.heap.size, 0, none⟩ = some (.slice B5 (allocZs zs ls).length d5) := cell_keep hbt hg10
  have hz11 : w10.heap.size + 0 ≤ w11.heap.size := by have := hb.size; (try simp only [size_alloc] at this); omega
  have hqa11 : w.heap.size < w11.heap.size := by omega
  have hqw11 : w4.heap.size < w11.heap.size := by omega
  have hqx11 : w5.heap.size < w11.heap.size := by omega
  have hqg11 : w7.heap.size < w11.heap.size := by omega
  have HW11 := Lib.hid (NewA.below HW10.out hbt)
  have HX11 := Lib.hid (NewA.below HX10.out hbt)
  have HY11 := Lib.hid (NewA.below HY10.out hbt)
  have HG11 := Lib.hid (NewA.below HG10.out hbt)
  have HU11 := Lib.hid (NewA.below HU10.out hbt)
  have HB11 := Lib.hid (below_trans HB10.out hbt)
  clear ha10 hw10 hx10 hg10 HW10 HX10 HY10 HG10 HU10 HB10 hb hbt hqa10 hqw10 hqx10 hqg10
  clear HU11 HEU
  go_wp2_with fail
  refine (markArena_any _ _ (w4.heap.size + 1) zs 1 _ hs (by decide) (by decide) HX11.out).mono ?_
  rintro e w12 ⟨rfl, hown, hgr⟩
  have ha12 : w12.cell? ⟨w.heap.size, 0, none⟩ = some (.slice A zs.length c) := hgr.cell ha11 (fun h => by have := HEX.out _ h.symm; (try dsimp only at this); omega)
  have hw12 : w12.cell? ⟨w4.heap.size, 0, none⟩ = some (.slice B (allocZs zs ls).length d) := hgr.cell hw11 (fun h => by have := HEX.out _ h.symm; (try dsimp only at this); omega)
  have hx12 : w12.cell? ⟨w5.heap.size, 0, none⟩ = some (.slice (some ⟨g4, 0, none⟩) zs.length zs.length) := hgr.cell hx11 (fun h => by have := HEX.out _ h.symm; (try dsimp only at this); omega)
  have hg12 : w12.cell? ⟨w7.heap.size, 0, none⟩ = some (.slice B5 (allocZs zs ls).length d5) := hgr.cell hg11 (fun h => by have := HEX.out _ h.symm; (try dsimp only at this); omega)
  have hz12 : w11.heap.size ≤ w12.heap.size := hgr.size
  have hqa12 : w.heap.size < w12.heap.size := by omega
  have hqw12 : w4.heap.size < w12.heap.size := by omega
  have hqx12 : w5.heap.size < w12.heap.size := by omega
  have hqg12 : w7.heap.size < w12.heap.size := by omega
  have HW12 := Lib.hid (NewA.kept HW11.out hgr (ranges_ne HEW.out HEX.out (by omega)))
  have HX12 := Lib.hid (show NewA (w4.heap.size + 1) w12 (some ⟨g4, 0, none⟩) (zs.length) (upFrom 1 zs.length) from by unfold NewA; rw [upFrom_length]; exact hown)
  have HY12 := Lib.hid (NewA.kept HY11.out hgr (ranges_ne HEY.out HEX.out (by omega)))
  have HG12 := Lib.hid (NewA.kept HG11.out hgr (ranges_ne HEG.out HEX.out (by omega)))
  have HB12 := Lib.hid (HB11.out.grown hgr (by omega) (fun k hk => by have := HEX.out k hk; omega))
  clear ha11 hw11 hx11 hg11 HW11 HX11 HY11 HG11 HB11 hgr hown hqa11 hqw11 hqx11 hqg11
  go_wp2_with fail
  refine (markIntS_any _ _ (w5.heap.size + 1) ls (1 + (zs.length : Int)) _ hs2 (by omega) (by omega) HY12.out).mono ?_
  rintro e w13 ⟨rfl, hown, hgr⟩
  have ha13 : w13.cell? ⟨w.heap.size, 0, none⟩ = some (.slice A zs.length c) := hgr.cell ha12 (fun h => by have := HEY.out _ h.symm; (try dsimp only at this); omega)
  have hw13 : w13.cell? ⟨w4.heap.size, 0, none⟩ = some (.slice B (allocZs zs ls).length d) := hgr.cell hw12 (fun h => by have := HEY.out _ h.symm; (try dsimp only at this); omega)
  have hx13 : w13.cell? ⟨w5.heap.size, 0, none⟩ = some (.slice (some ⟨g4, 0, none⟩) zs.length zs.length) := hgr.cell hx12 (fun h => by have := HEY.out _ h.symm; (try dsimp only at this); omega)
  have hg13 : w13.cell? ⟨w7.heap.size, 0, none⟩ = some (.slice B5 (allocZs zs ls).length d5) := hgr.cell hg12 (fun h => by have := HEY.out _ h.symm; (try dsimp only at this); omega)
  have hz13 : w12.heap.size ≤ w13.heap.size := hgr.size
  have hqa13 : w.heap.size < w13.heap.size := by omega
  have hqw13 : w4.heap.size < w13.heap.size := by omega
  have hqx13 : w5.heap.size < w13.heap.size := by omega
  have hqg13 : w7.heap.size < w13.heap.size := by omega
  have HW13 := Lib.hid (NewA.kept HW12.out hgr (ranges_ne HEW.out HEY.out (by omega)))
  have HX13 := Lib.hid (NewA.kept HX12.out hgr (ranges_ne HEX.out HEY.out (by omega)))
  have HY13 := Lib.hid (show NewA (w5.heap.size + 1) w13 (some ⟨w5.heap.size + 1, 0, none⟩) (ls.length) (upFrom (1 + (zs.length : Int)) ls.length) from by unfold NewA; rw [upFrom_length]; exact hown)
  have HG13 := Lib.hid (NewA.kept HG12.out hgr (ranges_ne HEG.out HEY.out (by omega)))
  have HB13 := Lib.hid (HB12.out.grown hgr (by omega) (fun k hk => by have := HEY.out k hk; omega))
  clear ha12 hw12 hx12 hg12 HW12 HX12 HY12 HG12 HB12 hgr hown hqa12 hqw12 hqx12 hqg12
  clear HX13 HEX HY13 HEY
  go_wp2_with fail
  refine (eqArena_same _ _ _ _ (allocZs zs ls) _ HRm.out HG13.out.rd HW13.out.rd).mono ?_
  rintro e w14 ⟨rfl, hb⟩
  have hbt := hb
  have ha14 : w14.cell? ⟨w.heap.size, 0, none⟩ = some (.slice A zs.length c) := cell_keep hbt ha13
  have hw14 : w14.cell? ⟨w4.heap.size, 0, none⟩ = some (.slice B (allocZs zs ls).length d) := cell_keep hbt hw13
  have hx14 : w14.cell? ⟨w5.heap.size, 0, none⟩ = some (.slice (some ⟨g4, 0, none⟩) zs.length zs.length) := cell_keep hbt hx13
  have hg14 : w14.cell? ⟨w7.heap.size, 0, none⟩ = some (.slice B5 (allocZs zs ls).length d5) := cell_keep hbt hg13
  have hz14 : w13.heap.size + 0 ≤ w14.heap.size := by have := hb.size; (try simp only [size_alloc] at this); omega
  have hqa14 : w.heap.size < w14.heap.size := by omega
  have hqw14 : w4.heap.size < w14.heap.size := by omega
  have hqx14 : w5.heap.size < w14.heap.size := by omega
  have hqg14 : w7.heap.size < w14.heap.size := by omega
  have HW14 := Lib.hid (NewA.below HW13.out hbt)
  have HG14 := Lib.hid (NewA.below HG13.out hbt)
  have HB14 := Lib.hid (below_trans HB13.out hbt)
  clear ha13 hw13 hx13 hg13 HW13 HG13 HB13 hb hbt hqa13 hqw13 hqx13 hqg13
  go_wp2_with fail
  refine (markArena_any _ _ w6.heap.size (allocZs zs ls) 1 _ hR (by decide) (by decide) HG14.out).mono ?_
  rintro e w15 ⟨rfl, hown, hgr⟩
  have ha15 : w15.cell? ⟨w.heap.size, 0, none⟩ = some (.slice A zs.length c) := hgr.cell ha14 (fun h => by have := HEG.out _ h.symm; (try dsimp only at this); omega)
  have hw15 : w15.cell? ⟨w4.heap.size, 0, none⟩ = some (.slice B (allocZs zs ls).length d) := hgr.cell hw14 (fun h => by have := HEG.out _ h.symm; (try dsimp only at this); omega)
  have hx15 : w15.cell? ⟨w5.heap.size, 0, none⟩ = some (.slice (some ⟨g4, 0, none⟩) zs.length zs.length) := hgr.cell hx14 (fun h => by have := HEG.out _ h.symm; (try dsimp only at this); omega)
  have hg15 : w15.cell? ⟨w7.heap.size, 0, none⟩ = some (.slice B5 (allocZs zs ls).length d5) := hgr.cell hg14 (fun h => by have := HEG.out _ h.symm; (try dsimp only at this); omega)
  have hz15 : w14.heap.size ≤ w15.heap.size := hgr.size
  have hqa15 : w.heap.size < w15.heap.size := by omega
  have hqw15 : w4.heap.size < w15.heap.size := by omega
  have hqx15 : w5.heap.size < w15.heap.size := by omega
  have hqg15 : w7.heap.size < w15.heap.size := by omega
  have HW15 := Lib.hid (NewA.kept HW14.out hgr (ranges_ne HEW.out HEG.out (by omega)))
  have HG15 := Lib.hid (show NewA (w6.heap.size) w15 (B5) (d5) (upFrom 1 (allocZs zs ls).length) from by unfold NewA; rw [upFrom_length]; exact hown)
  have HB15 := Lib.hid (HB14.out.grown hgr (by omega) (fun k hk => by have := HEG.out k hk; omega))
  clear ha14 hw14 hx14 hg14 HW14 HG14 HB14 hgr hown hqa14 hqw14 hqx14 hqg14
  go_wp2_with fail
  refine (heldArena_any _ _ _ _ _ hR (by decide) (by decide) HG15.out.rd).mono ?_
  rintro e w16 ⟨rfl, hb⟩
  have hbt := hb
  have ha16 : w16.cell? ⟨w.heap.size, 0, none⟩ = some (.slice A zs.length c) := cell_keep hbt ha15
  have hw16 : w16.cell? ⟨w4.heap.size, 0, none⟩ = some (.slice B (allocZs zs ls).length d) := cell_keep hbt hw15
  have hx16 : w16.cell? ⟨w5.heap.size, 0, none⟩ = some (.slice (some ⟨g4, 0, none⟩) zs.length zs.length) := cell_keep hbt hx15
  have hg16 : w16.cell? ⟨w7.heap.size, 0, none⟩ = some (.slice B5 (allocZs zs ls).length d5) := cell_keep hbt hg15
  have hz16 : w15.heap.size + 0 ≤ w16.heap.size := by have := hb.size; (try simp only [size_alloc] at this); omega
  have hqa16 : w.heap.size < w16.heap.size := by omega
  have hqw16 : w4.heap.size < w16.heap.size := by omega
  have hqx16 : w5.heap.size < w16.heap.size := by omega
  have hqg16 : w7.heap.size < w16.heap.size := by omega
  have HW16 := Lib.hid (NewA.below HW15.out hbt)
  have HG16 := Lib.hid (NewA.below HG15.out hbt)
  have HB16 := Lib.hid (below_trans HB15.out hbt)
  clear ha15 hw15 hx15 hg15 HW15 HG15 HB15 hb hbt hqa15 hqw15 hqx15 hqg15
  go_wp2_with fail
  refine (toArena_any _ _ zs _ hs (HA.out.below HB16.out)).mono ?_
  rintro e w17 ⟨g13, rfl, hown, hb⟩
  have hbt := hb
  have ha17 : w17.cell? ⟨w.heap.size, 0, none⟩ = some (.slice A zs.length c) := cell_keep hbt ha16
  have hw17 : w17.cell? ⟨w4.heap.size, 0, none⟩ = some (.slice B (allocZs zs ls).length d) := cell_keep hbt hw16
  have hx17 : w17.cell? ⟨w5.heap.size, 0, none⟩ = some (.slice (some ⟨g4, 0, none⟩) zs.length zs.length) := cell_keep hbt hx16
  have hg17 : w17.cell? ⟨w7.heap.size, 0, none⟩ = some (.slice B5 (allocZs zs ls).length d5) := cell_keep hbt hg16
  have hz17 : w16.heap.size + 0 ≤ w17.heap.size := by have := hb.size; (try simp only [size_alloc] at this); omega
  have hqa17 : w.heap.size < w17.heap.size := by omega
  have hqw17 : w4.heap.size < w17.heap.size := by omega
  have hqx17 : w5.heap.size < w17.heap.size := by omega
  have hqg17 : w7.heap.size < w17.heap.size := by omega
  have HW17 := Lib.hid (NewA.below HW16.out hbt)
  have HG17 := Lib.hid (NewA.below HG16.out hbt)
  have HT17 := Lib.hid (show NewA (w16.heap.size) w17 (some ⟨g13, 0, none⟩) (zs.length) (zs) from by first | exact hown | simpa using hown | (unfold NewA; simpa using hown))
  have HET : Hid (∀ k, Value.ownBlock (.slice (some ⟨g13, 0, none⟩) (zs).length (zs.length)) = some k → w16.heap.size ≤ k ∧ k < w17.heap.size) := fun k hk => World.ownsRow.lt HT17.out k hk
  have HB17 := Lib.hid (below_trans HB16.out hbt)
  clear ha16 hw16 hx16 hg16 HW16 HG16 HB16 hb hbt hown hqa16 hqw16 hqx16 hqg16
  go_wp2_with fail
  refine (toIntS_any _ _ ls _ hs2 (HA2.out.below HB17.out)).mono ?_
  rintro e w18 ⟨rfl, hown, hb⟩
  have hbt := hb
  have ha18 : w18.cell? ⟨w.heap.size, 0, none⟩ = some (.slice A zs.length c) := cell_keep hbt ha17
  have hw18 : w18.cell? ⟨w4.heap.size, 0, none⟩ = some (.slice B (allocZs zs ls).length d) := cell_keep hbt hw17
  have hx18 : w18.cell? ⟨w5.heap.size, 0, none⟩ = some (.slice (some ⟨g4, 0, none⟩) zs.length zs.length) := cell_keep hbt hx17
  have hg18 : w18.cell? ⟨w7.heap.size, 0, none⟩ = some (.slice B5 (allocZs zs ls).length d5) := cell_keep hbt hg17
  have hz18 : w17.heap.size + 0 ≤ w18.heap.size := by have := hb.size; (try simp only [size_alloc] at this); omega
  have hqa18 : w.heap.size < w18.heap.size := by omega
  have hqw18 : w4.heap.size < w18.heap.size := by omega
  have hqx18 : w5.heap.size < w18.heap.size := by omega
  have hqg18 : w7.heap.size < w18.heap.size := by omega
  have HW18 := Lib.hid (NewA.below HW17.out hbt)
  have HG18 := Lib.hid (NewA.below HG17.out hbt)
  have HT18 := Lib.hid (NewA.below HT17.out hbt)
  have HU18 := Lib.hid (show NewA (w17.heap.size) w18 (some ⟨w17.heap.size, 0, none⟩) (ls.length) (ls) from by first | exact hown | simpa using hown | (unfold NewA; simpa using hown))
  have HEU : Hid (∀ k, Value.ownBlock (.slice (some ⟨w17.heap.size, 0, none⟩) (ls).length (ls.length)) = some k → w17.heap.size ≤ k ∧ k < w18.heap.size) := fun k hk => World.ownsRow.lt HU18.out k hk
  have HB18 := Lib.hid (below_trans HB17.out hbt)
  clear ha17 hw17 hx17 hg17 HW17 HG17 HT17 HB17 hb hbt hown hqa17 hqw17 hqx17 hqg17
  go_wp2_with fail
  refine (implAllocCells_any _ _ _ _ zs ls _ hs hs2 HT18.out.rd HU18.out.rd).mono ?_
  rintro e w19 ⟨B14, d14, rfl, hnew, hb⟩
  have hbt := hb
  have ha19 : w19.cell? ⟨w.heap.size, 0, none⟩ = some (.slice A zs.length c) := cell_keep hbt ha18
  have hw19 : w19.cell? ⟨w4.heap.size, 0, none⟩ = some (.slice B (allocZs zs ls).length d) := cell_keep hbt hw18
  have hx19 : w19.cell? ⟨w5.heap.size, 0, none⟩ = some (.slice (some ⟨g4, 0, none⟩) zs.length zs.length) := cell_keep hbt hx18
  have hg19 : w19.cell? ⟨w7.heap.size, 0, none⟩ = some (.slice B5 (allocZs zs ls).length d5) := cell_keep hbt hg18
  have hz19 : w18.heap.size + 0 ≤ w19.heap.size := by have := hb.size; (try simp only [size_alloc] at this); omega
  have hqa19 : w.heap.size < w19.heap.size := by omega
  have hqw19 : w4.heap.size < w19.heap.size := by omega
  have hqx19 : w5.heap.size < w19.heap.size := by omega
  have hqg19 : w7.heap.size < w19.heap.size := by omega
  have HW19 := Lib.hid (NewA.below HW18.out hbt)
  have HG19 := Lib.hid (NewA.below HG18.out hbt)
  have HT19 := Lib.hid (NewA.below HT18.out hbt)
  have HU19 := Lib.hid (NewA.below HU18.out hbt)
  have HH19 := Lib.hid (show NewA (w18.heap.size) w19 (B14) (d14) (allocZs zs ls) from by first | exact hnew | simpa using hnew | (unfold NewA; simpa using hnew))
  have HEH : Hid (∀ k, Value.ownBlock (.slice (B14) (allocZs zs ls).length (d14)) = some k → w18.heap.size ≤ k ∧ k < w19.heap.size) := fun k hk => World.ownsRow.lt HH19.out k hk
  have HB19 := Lib.hid (below_trans HB18.out hbt)
  clear ha18 hw18 hx18 hg18 HW18 HG18 HT18 HU18 HB18 hb hbt hnew hqa18 hqw18 hqx18 hqg18
  clear HT19 HET HU19 HEU
  go_wp2_with fail
  refine (eqArena_same _ _ _ _ (allocZs zs ls) _ HRm.out (HH19.out.rd.below (below_alloc _ _)) (HW19.out.rd.below (below_alloc _ _))).mono ?_
  rintro e w20 ⟨rfl, hb⟩
  have hbt := below_trans (below_alloc _ _) hb
  have ha20 : w20.cell? ⟨w.heap.size, 0, none⟩ = some (.slice A zs.length c) := cell_keep hbt ha19
  have hw20 : w20.cell? ⟨w4.heap.size, 0, none⟩ = some (.slice B (allocZs zs ls).length d) := cell_keep hbt hw19
  have hx20 : w20.cell? ⟨w5.heap.size, 0, none⟩ = some (.slice (some ⟨g4, 0, none⟩) zs.length zs.length) := cell_keep hbt hx19
  have hg20 : w20.cell? ⟨w7.heap.size, 0, none⟩ = some (.slice B5 (allocZs zs ls).length d5) := cell_keep hbt hg19
  have hh20 : w20.cell? ⟨w19.heap.size, 0, none⟩ = some (.slice B14 (allocZs zs ls).length d14) := cell_keep hb (by simp)
  have hz20 : w19.heap.size + 1 ≤ w20.heap.size := by have := hb.size; (try simp only [size_alloc] at this); omega
  have hqa20 : w.heap.size < w20.heap.size := by omega
  have hqw20 : w4.heap.size < w20.heap.size := by omega
  have hqx20 : w5.heap.size < w20.heap.size := by omega
  have hqg20 : w7.heap.size < w20.heap.size := by omega
  have hqh20 : w19.heap.size < w20.heap.size := by omega
  have HW20 := Lib.hid (NewA.below HW19.out hbt)
  have HG20 := Lib.hid (NewA.below HG19.out hbt)
  have HH20 := Lib.hid (NewA.below HH19.out hbt)
  have HB20 := Lib.hid (below_trans HB19.out hbt)
  clear ha19 hw19 hx19 hg19 HW19 HG19 HH19 HB19 hb hbt hqa19 hqw19 hqx19 hqg19
  go_wp2_with fail
  refine (heldArena_any _ _ _ _ _ hR (by decide) (by decide) HG20.out.rd).mono ?_
  rintro e w21 ⟨rfl, hb⟩
  have hbt := hb
  have ha21 : w21.cell? ⟨w.heap.size, 0, none⟩ = some (.slice A zs.length c) := cell_keep hbt ha20
  have hw21 : w21.cell? ⟨w4.heap.size, 0, none⟩ = some (.slice B (allocZs zs ls).length d) := cell_keep hbt hw20
  have hx21 : w21.cell? ⟨w5.heap.size, 0, none⟩ = some (.slice (some ⟨g4, 0, none⟩) zs.length zs.length) := cell_keep hbt hx20
  have hg21 : w21.cell? ⟨w7.heap.size, 0, none⟩ = some (.slice B5 (allocZs zs ls).length d5) := cell_keep hbt hg20
  have hh21 : w21.cell? ⟨w19.heap.size, 0, none⟩ = some (.slice B14 (allocZs zs ls).length d14) := cell_keep hbt hh20
  have hz21 : w20.heap.size + 0 ≤ w21.heap.size := by have := hb.size; (try simp only [size_alloc] at this); omega
  have hqa21 : w.heap.size < w21.heap.size := by omega
  have hqw21 : w4.heap.size < w21.heap.size := by omega
  have hqx21 : w5.heap.size < w21.heap.size := by omega
  have hqg21 : w7.heap.size < w21.heap.size := by omega
  have hqh21 : w19.heap.size < w21.heap.size := by omega
  have HW21 := Lib.hid (NewA.below HW20.out hbt)
  have HG21 := Lib.hid (NewA.below HG20.out hbt)
  have HH21 := Lib.hid (NewA.below HH20.out hbt)
  have HB21 := Lib.hid (below_trans HB20.out hbt)
  clear ha20 hw20 hx20 hg20 hh20 HW20 HG20 HH20 HB20 hb hbt hqa20 hqw20 hqx20 hqg20 hqh20
  go_wp2
  go_ret
  exact ⟨rfl, HB21.out⟩
end Go.Proofs.Ytnahdbkdonbofaa
