/-
  The walk of the law FnCell.
-/
import Derived.Test.YtnahdbkdonbofaaGoodB
namespace Go.Proofs.Ytnahdbkdonbofaa
open Go.RowKit

set_option maxHeartbeats 4000000 in
set_option maxRecDepth 100000 in
theorem lawCell_walk (A : Option Addr) (c n : Nat) (A2 : Option Addr) (c2 n2 : Nat) (w : World) (hm : n ≤ maxLen) (hA : RdB w A n) (hm2 : n2 ≤ maxLen) (hA2 : RdB w A2 n2) :
    Calls Try.prog 3 #[.slice A n c, .slice A2 n2 c2] w fun e w' => e = .returned (.bool true) ∧ Below w.heap.size w w' := by
  have HA := Lib.hid hA; have HA2 := Lib.hid hA2; clear hA hA2
  by_cases hb1 : 1048576 < n
  · go_enter Try.func3, Try.ntmps3
    go_wp2
    go_ret
    exact ⟨rfl, Below.refl _ _⟩
  have hd1 : decide (1048576 < n) = false := decide_eq_false hb1
  by_cases hb2 : 1048576 < n2
  · go_enter Try.func3, Try.ntmps3
    go_wp2
    go_ret
    exact ⟨rfl, Below.refl _ _⟩
  have hd2 : decide (1048576 < n2) = false := decide_eq_false hb2
  have hs2 : n2 ≤ 1048576 := by omega
  go_enter Try.func3, Try.ntmps3
  go_wp2_with fail
  refine (ArenaDrawn_any A n c _ hm HA.out).mono ?_
  rintro e w1 ⟨zs, C, d, rfl, hgood, hl9, hnew, hb⟩
  have hbt := hb
  have hz1 : w.heap.size + 0 ≤ w1.heap.size := by have := hb.size; (try simp only [size_alloc] at this); omega
  have HD1 := Lib.hid (show NewA (w.heap.size) w1 (C) (d) (zs) from by first | exact hnew | simpa using hnew | (unfold NewA; simpa using hnew))
  have HED : Hid (∀ k, Value.ownBlock (.slice (C) (zs).length (d)) = some k → w.heap.size ≤ k ∧ k < w1.heap.size) := fun k hk => World.ownsRow.lt HD1.out k hk
  have HB1 := Lib.hid hbt
  clear hb hbt hnew
  have HGD := Lib.hid hgood; have HAR := Lib.hid (hgood.arena (by omega)); clear hgood
  obtain ⟨L, hL⟩ : ∃ L : List Int, L = zs ++ [1, 2, 3] := ⟨_, rfl⟩
  have hLl : L.length = zs.length + 3 := by rw [hL]; simp
  have hz1 : 1 ≤ zs.length := HGD.out.1
  have HLA : Hid (arenaB L = true) := by rw [hL]; exact arenaB_append HGD.out (by decide) (by simp; omega)
  have HL := Lib.hid hL; have HLl := Lib.hid hLl; clear hL hLl
  go_wp2_with fail
  refine (allocGoodL _ _ _ _ zs [1, 2, 3] _ HAR.out (by decide) (by decide) (by decide) (by simp; omega) (HD1.out.rd.below (below_alloc _ _)) (rd_lit [1, 2, 3] _ _ rfl) L HL.out).mono ?_
  rintro e w2 ⟨B, kk, rfl, hnew, hb⟩
  have hbt := below_trans (below_alloc _ _) hb
  have hz2 : w1.heap.size + 1 ≤ w2.heap.size := by have := hb.size; (try simp only [size_alloc] at this); omega
  have HD2 := Lib.hid (NewA.below HD1.out hbt)
  have HN2 := Lib.hid (show NewA (w1.heap.size + 1) w2 (B) (kk) (L) from by first | exact hnew | simpa using hnew | (unfold NewA; simpa using hnew))
  have HEN : Hid (∀ k, Value.ownBlock (.slice (B) (L).length (kk)) = some k → w1.heap.size + 1 ≤ k ∧ k < w2.heap.size) := fun k hk => World.ownsRow.lt HN2.out k hk
  have HB2 := Lib.hid (below_trans HB1.out hbt)
  clear HD1 HB1 hb hbt hnew
  clear HD2 HED
  go_wp2_with fail
  refine (at_any A2 n2 c2 0 900 _ hs2 (by decide) (by decide) (by decide) (HA2.out.below (below_trans HB2.out (below_alloc _ _)))).mono ?_
  rintro e w3 ⟨v, hv0, hv1, rfl, hb⟩
  have hbt := below_trans (below_alloc _ _) hb
  have ha3 : w3.cell? ⟨w2.heap.size, 0, none⟩ = some (.slice B L.length kk) := cell_keep hb (by simp)
  have hz3 : w2.heap.size + 1 ≤ w3.heap.size := by have := hb.size; (try simp only [size_alloc] at this); omega
  have hqa3 : w2.heap.size < w3.heap.size := by omega
  have HN3 := Lib.hid (NewA.below HN2.out hbt)
  have HB3 := Lib.hid (below_trans HB2.out hbt)
  clear HN2 HB2 hb hbt
  have HV : Hid (wordB v = true) := (wordB_iff v).2 (by omega)
  obtain ⟨M, hM⟩ : ∃ M : List Int, M = L.set (zs.length + 1) v := ⟨_, rfl⟩
  have HMl : Hid (M.length = L.length) := by rw [hM]; exact List.length_set
  have HMA : Hid (arenaB M = true) := by rw [hM]; exact arenaB_set HLA.out (by omega) HV.out
  have HM0 : Hid (M.getD zs.length 0 = 1) := by rw [hM, getD_set_ne (by omega), HL.out, getD_append (i := 0) (by omega)]; rfl
  have HM1 : Hid (M.getD (zs.length + 1) 0 = v) := by rw [hM]; exact getD_set_self (by have := HLl.out; omega)
  have HM2 : Hid (M.getD (zs.length + 2) 0 = 3) := by rw [hM, getD_set_ne (by omega), HL.out, getD_append (i := 2) (by omega)]; rfl
  have HDF : Hid (diffTo L M L.length ≤ 1) := by rw [hM]; exact (diffTo_set L (zs.length + 1) v L.length).2
  have HM := Lib.hid hM; clear hM
  have HMm : Hid (M.length ≤ maxLen) := by have h1 := HMl.out; have h2 := HLl.out; unfold maxLen; show M.length ≤ _; omega
  go_wp2_with fail
  refine (storeGoodL _ _ L ((zs.length : Int) + 1) v (zs.length + 1) _ (by omega) HLA.out (by omega) (by have := HLl.out; omega) HV.out HN3.out.rd M HM.out).mono ?_
  rintro e w4 ⟨B3, d3, rfl, hnew, hb⟩
  have hbt := hb
  have ha4 : w4.cell? ⟨w2.heap.size, 0, none⟩ = some (.slice B L.length kk) := cell_keep hbt ha3
  have hz4 : w3.heap.size + 0 ≤ w4.heap.size := by have := hb.size; (try simp only [size_alloc] at this); omega
  have hqa4 : w2.heap.size < w4.heap.size := by omega
  have HN4 := Lib.hid (NewA.below HN3.out hbt)
  have HX4 := Lib.hid (show NewA (w3.heap.size) w4 (B3) (d3) (M) from by first | exact hnew | simpa using hnew | (unfold NewA; simpa using hnew))
  have HEX : Hid (∀ k, Value.ownBlock (.slice (B3) (M).length (d3)) = some k → w3.heap.size ≤ k ∧ k < w4.heap.size) := fun k hk => World.ownsRow.lt HX4.out k hk
  have HB4 := Lib.hid (below_trans HB3.out hbt)
  clear ha3 HN3 HB3 hb hbt hnew hqa3
  go_wp2_with fail
  refine (storeGoodSL _ _ L ((zs.length : Int) + 1) v (zs.length + 1) _ (by omega) HLA.out (by omega) (by have := HLl.out; omega) HV.out (HN4.out.rd.below (below_alloc _ _)) M HM.out).mono ?_
  rintro e w5 ⟨B4, d4, rfl, hnew, hb⟩
  have hbt := below_trans (below_alloc _ _) hb
  have ha5 : w5.cell? ⟨w2.heap.size, 0, none⟩ = some (.slice B L.length kk) := cell_keep hbt ha4
  have hx5 : w5.cell? ⟨w4.heap.size, 0, none⟩ = some (.slice B3 M.length d3) := cell_keep hb (by simp)
  have hz5 : w4.heap.size + 1 ≤ w5.heap.size := by have := hb.size; (try simp only [size_alloc] at this); omega
  have hqa5 : w2.heap.size < w5.heap.size := by omega
  have hqx5 : w4.heap.size < w5.heap.size := by omega
  have HN5 := Lib.hid (NewA.below HN4.out hbt)
  have HX5 := Lib.hid (NewA.below HX4.out hbt)
  have HY5 := Lib.hid (show NewA (w4.heap.size + 1) w5 (B4) (d4) (M) from by first | exact hnew | simpa using hnew | (unfold NewA; simpa using hnew))
  have HEY : Hid (∀ k, Value.ownBlock (.slice (B4) (M).length (d4)) = some k → w4.heap.size + 1 ≤ k ∧ k < w5.heap.size) := fun k hk => World.ownsRow.lt HY5.out k hk
  have HB5 := Lib.hid (below_trans HB4.out hbt)
  clear ha4 HN4 HX4 HB4 hb hbt hnew hqa4
  go_wp2_with fail
  refine (loadGood _ _ M ((zs.length : Int) + 1) (v) (zs.length + 1) _ (by omega) HMA.out (by omega) (by have h1 := HMl.out; have h2 := HLl.out; omega) HM1.out (HX5.out.rd.below (below_alloc _ _))).mono ?_
  rintro e w6 ⟨rfl, hb⟩
  have hbt := below_trans (below_alloc _ _) hb
  have ha6 : w6.cell? ⟨w2.heap.size, 0, none⟩ = some (.slice B L.length kk) := cell_keep hbt ha5
  have hx6 : w6.cell? ⟨w4.heap.size, 0, none⟩ = some (.slice B3 M.length d3) := cell_keep hbt hx5
  have hy6 : w6.cell? ⟨w5.heap.size, 0, none⟩ = some (.slice B4 M.length d4) := cell_keep hb (by simp)
  have hz6 : w5.heap.size + 1 ≤ w6.heap.size := by have := hb.size; (try simp only [size_alloc] at this); omega
  have hqa6 : w2.heap.size < w6.heap.size := by omega
  have hqx6 : w4.heap.size < w6.heap.size := by omega
  have hqy6 : w5.heap.size < w6.heap.size := by omega
  have HN6 := Lib.hid (NewA.below HN5.out hbt)
  have HX6 := Lib.hid (NewA.below HX5.out hbt)
  have HY6 := Lib.hid (NewA.below HY5.out hbt)
  have HB6 := Lib.hid (below_trans HB5.out hbt)
  clear ha5 hx5 HN5 HX5 HY5 HB5 hb hbt hqa5 hqx5
  go_wp2_with fail
  refine (loadGood _ _ M ((zs.length : Int)) (1) (zs.length) _ (by omega) HMA.out (by omega) (by have h1 := HMl.out; have h2 := HLl.out; omega) HM0.out HX6.out.rd).mono ?_
  rintro e w7 ⟨rfl, hb⟩
  have hbt := hb
  have ha7 : w7.cell? ⟨w2.heap.size, 0, none⟩ = some (.slice B L.length kk) := cell_keep hbt ha6
  have hx7 : w7.cell? ⟨w4.heap.size, 0, none⟩ = some (.slice B3 M.length d3) := cell_keep hbt hx6
  have hy7 : w7.cell? ⟨w5.heap.size, 0, none⟩ = some (.slice B4 M.length d4) := cell_keep hbt hy6
  have hz7 : w6.heap.size + 0 ≤ w7.heap.size := by have := hb.size; (try simp only [size_alloc] at this); omega
  have hqa7 : w2.heap.size < w7.heap.size := by omega
  have hqx7 : w4.heap.size < w7.heap.size := by omega
  have hqy7 : w5.heap.size < w7.heap.size := by omega
  have HN7 := Lib.hid (NewA.below HN6.out hbt)
  have HX7 := Lib.hid (NewA.below HX6.out hbt)
  have HY7 := Lib.hid (NewA.below HY6.out hbt)
  have HB7 := Lib.hid (below_trans HB6.out hbt)
  clear ha6 hx6 hy6 HN6 HX6 HY6 HB6 hb hbt hqa6 hqx6 hqy6
  go_wp2_with fail
  refine (loadGood _ _ M ((zs.length : Int) + 2) (3) (zs.length + 2) _ (by omega) HMA.out (by omega) (by have h1 := HMl.out; have h2 := HLl.out; omega) HM2.out HX7.out.rd).mono ?_
  rintro e w8 ⟨rfl, hb⟩
  have hbt := hb
  have ha8 : w8.cell? ⟨w2.heap.size, 0, none⟩ = some (.slice B L.length kk) := cell_keep hbt ha7
  have hx8 : w8.cell? ⟨w4.heap.size, 0, none⟩ = some (.slice B3 M.length d3) := cell_keep hbt hx7
  have hy8 : w8.cell? ⟨w5.heap.size, 0, none⟩ = some (.slice B4 M.length d4) := cell_keep hbt hy7
  have hz8 : w7.heap.size + 0 ≤ w8.heap.size := by have := hb.size; (try simp only [size_alloc] at this); omega
  have hqa8 : w2.heap.size < w8.heap.size := by omega
  have hqx8 : w4.heap.size < w8.heap.size := by omega
  have hqy8 : w5.heap.size < w8.heap.size := by omega
  have HN8 := Lib.hid (NewA.below HN7.out hbt)
  have HX8 := Lib.hid (NewA.below HX7.out hbt)
  have HY8 := Lib.hid (NewA.below HY7.out hbt)
  have HB8 := Lib.hid (below_trans HB7.out hbt)
  clear ha7 hx7 hy7 HN7 HX7 HY7 HB7 hb hbt hqa7 hqx7 hqy7
  go_wp2_with fail
  refine (loadZero _ _ M _ HMA.out HX8.out.rd).mono ?_
  rintro e w9 ⟨rfl, hb⟩
  have hbt := hb
  have ha9 : w9.cell? ⟨w2.heap.size, 0, none⟩ = some (.slice B L.length kk) := cell_keep hbt ha8
  have hx9 : w9.cell? ⟨w4.heap.size, 0, none⟩ = some (.slice B3 M.length d3) := cell_keep hbt hx8
  have hy9 : w9.cell? ⟨w5.heap.size, 0, none⟩ = some (.slice B4 M.length d4) := cell_keep hbt hy8
  have hz9 : w8.heap.size + 0 ≤ w9.heap.size := by have := hb.size; (try simp only [size_alloc] at this); omega
  have hqa9 : w2.heap.size < w9.heap.size := by omega
  have hqx9 : w4.heap.size < w9.heap.size := by omega
  have hqy9 : w5.heap.size < w9.heap.size := by omega
  have HN9 := Lib.hid (NewA.below HN8.out hbt)
  have HX9 := Lib.hid (NewA.below HX8.out hbt)
  have HY9 := Lib.hid (NewA.below HY8.out hbt)
  have HB9 := Lib.hid (below_trans HB8.out hbt)
  clear ha8 hx8 hy8 HN8 HX8 HY8 HB8 hb hbt hqa8 hqx8 hqy8
  go_wp2_with fail
  refine (sameGood _ _ _ _ M _ HMm.out HX9.out.rd HY9.out.rd).mono ?_
  rintro e w10 ⟨rfl, hb⟩
  have hbt := hb
  have ha10 : w10.cell? ⟨w2.heap.size, 0, none⟩ = some (.slice B L.length kk) := cell_keep hbt ha9
  have hx10 : w10.cell? ⟨w4.heap.size, 0, none⟩ = some (.slice B3 M.length d3) := cell_keep hbt hx9
  have hy10 : w10.cell? ⟨w5.heap.size, 0, none⟩ = some (.slice B4 M.length d4) := cell_keep hbt hy9
  have hz10 : w9.heap.size + 0 ≤ w10.heap.size := by have := hb.size; (try simp only [size_alloc] at this); omega
  have hqa10 : w2.heap.size < w10.heap.size := by omega
  have hqx10 : w4.heap.size < w10.heap.size := by omega
  have hqy10 : w5.heap.size < w10.heap.size := by omega
  have HN10 := Lib.hid (NewA.below HN9.out hbt)
  have HX10 := Lib.hid (NewA.below HX9.out hbt)
  have HY10 := Lib.hid (NewA.below HY9.out hbt)
  have HB10 := Lib.hid (below_trans HB9.out hbt)
  clear ha9 hx9 hy9 HN9 HX9 HY9 HB9 hb hbt hqa9 hqx9 hqy9
  go_wp2_with fail
  refine (turned_any _ _ _ _ L M _ HMl.out.symm (by have := HLl.out; omega) HN10.out.rd HX10.out.rd).mono ?_
  rintro e w11 ⟨rfl, hb⟩
  have hbt := hb
  have ha11 : w11.cell? ⟨w2.heap.size, 0, none⟩ = some (.slice B L.length kk) := cell_keep hbt ha10
  have hx11 : w11.cell? ⟨w4.heap.size, 0, none⟩ = some (.slice B3 M.length d3) := cell_keep hbt hx10
  have hy11 : w11.cell? ⟨w5.heap.size, 0, none⟩ = some (.slice B4 M.length d4) := cell_keep hbt hy10
  have hz11 : w10.heap.size + 0 ≤ w11.heap.size := by have := hb.size; (try simp only [size_alloc] at this); omega
  have hqa11 : w2.heap.size < w11.heap.size := by omega
  have hqx11 : w4.heap.size < w11.heap.size := by omega
  have hqy11 : w5.heap.size < w11.heap.size := by omega
  have HN11 := Lib.hid (NewA.below HN10.out hbt)
  have HX11 := Lib.hid (NewA.below HX10.out hbt)
  have HY11 := Lib.hid (NewA.below HY10.out hbt)
  have HB11 := Lib.hid (below_trans HB10.out hbt)
  clear ha10 hx10 hy10 HN10 HX10 HY10 HB10 hb hbt hqa10 hqx10 hqy10
  have hdf : ((diffTo L M L.length : Nat) : Int) ≤ 1 := by have := HDF.out; omega
  generalize diffTo L M L.length = dd at *
  go_wp2_with fail
  refine (okGood _ _ M _ HMA.out HX11.out.rd).mono ?_
  rintro e w12 ⟨rfl, hb⟩
  have hbt := hb
  have ha12 : w12.cell? ⟨w2.heap.size, 0, none⟩ = some (.slice B L.length kk) := cell_keep hbt ha11
  have hx12 : w12.cell? ⟨w4.heap.size, 0, none⟩ = some (.slice B3 M.length d3) := cell_keep hbt hx11
  have hy12 : w12.cell? ⟨w5.heap.size, 0, none⟩ = some (.slice B4 M.length d4) := cell_keep hbt hy11
  have hz12 : w11.heap.size + 0 ≤ w12.heap.size := by have := hb.size; (try simp only [size_alloc] at this); omega
  have hqa12 : w2.heap.size < w12.heap.size := by omega
  have hqx12 : w4.heap.size < w12.heap.size := by omega
  have hqy12 : w5.heap.size < w12.heap.size := by omega
  have HN12 := Lib.hid (NewA.below HN11.out hbt)
  have HX12 := Lib.hid (NewA.below HX11.out hbt)
  have HY12 := Lib.hid (NewA.below HY11.out hbt)
  have HB12 := Lib.hid (below_trans HB11.out hbt)
  clear ha11 hx11 hy11 HN11 HX11 HY11 HB11 hb hbt hqa11 hqx11 hqy11
  go_wp2
  go_ret
  exact ⟨rfl, HB12.out⟩
end Go.Proofs.Ytnahdbkdonbofaa
