/-
  The walk of the law FnCas.
-/
import Derived.Test.YtnahdbkdonbofaaGoodB
namespace Go.Proofs.Ytnahdbkdonbofaa
open Go.RowKit

set_option maxHeartbeats 4000000 in
set_option maxRecDepth 100000 in
theorem lawCas_walk (A : Option Addr) (c n : Nat) (A2 : Option Addr) (c2 n2 : Nat) (w : World) (hm : n ≤ maxLen) (hA : RdB w A n) (hm2 : n2 ≤ maxLen) (hA2 : RdB w A2 n2) :
    Calls Try.prog 4 #[.slice A n c, .slice A2 n2 c2] w fun e w' => e = .returned (.bool true) ∧ Below w.heap.size w w' := by
  have HA := Lib.hid hA; have HA2 := Lib.hid hA2; clear hA hA2
  by_cases hb1 : 1048576 < n
  · go_enter Try.func4, Try.ntmps4
    go_wp2
    go_ret
    exact ⟨rfl, Below.refl _ _⟩
  have hd1 : decide (1048576 < n) = false := decide_eq_false hb1
  by_cases hb2 : 1048576 < n2
  · go_enter Try.func4, Try.ntmps4
    go_wp2
    go_ret
    exact ⟨rfl, Below.refl _ _⟩
  have hd2 : decide (1048576 < n2) = false := decide_eq_false hb2
  have hs2 : n2 ≤ 1048576 := by omega
  go_enter Try.func4, Try.ntmps4
  go_wp2_with fail
  refine (at_any A2 n2 c2 0 50 _ hs2 (by decide) (by decide) (by decide) HA2.out).mono ?_
  rintro e w1 ⟨old, ho0, ho1, rfl, hb⟩
  have hbt := hb
  have hz1 : w.heap.size + 0 ≤ w1.heap.size := by have := hb.size; (try simp only [size_alloc] at this); omega
  have HB1 := Lib.hid hbt
  clear hb hbt
  go_wp2_with fail
  refine (at_any A2 n2 c2 1 50 _ hs2 (by decide) (by decide) (by decide) (HA2.out.below HB1.out)).mono ?_
  rintro e w2 ⟨r, hr0, hr1, rfl, hb⟩
  have hbt := hb
  have hz2 : w1.heap.size + 0 ≤ w2.heap.size := by have := hb.size; (try simp only [size_alloc] at this); omega
  have HB2 := Lib.hid (below_trans HB1.out hbt)
  clear HB1 hb hbt
  have HVO : Hid (wordB old = true) := (wordB_iff old).2 (by omega)
  have HV : Hid (wordB (old + 1 + r) = true) := (wordB_iff _).2 (by omega)
  go_wp2_with fail
  refine (ArenaDrawn_any A n c _ hm (HA.out.below HB2.out)).mono ?_
  rintro e w3 ⟨zs, C, d, rfl, hgood, hl9, hnew, hb⟩
  have hbt := hb
  have hz3 : w2.heap.size + 0 ≤ w3.heap.size := by have := hb.size; (try simp only [size_alloc] at this); omega
  have HD3 := Lib.hid (show NewA (w2.heap.size) w3 (C) (d) (zs) from by first | exact hnew | simpa using hnew | (unfold NewA; simpa using hnew))
  have HED : Hid (∀ k, Value.ownBlock (.slice (C) (zs).length (d)) = some k → w2.heap.size ≤ k ∧ k < w3.heap.size) := fun k hk => World.ownsRow.lt HD3.out k hk
  have HB3 := Lib.hid (below_trans HB2.out hbt)
  clear HB2 hb hbt hnew
  have HGD := Lib.hid hgood; have HAR := Lib.hid (hgood.arena (by omega)); clear hgood
  obtain ⟨L, hL⟩ : ∃ L : List Int, L = zs ++ [old] := ⟨_, rfl⟩
  have hLl : L.length = zs.length + 1 := by rw [hL]; simp
  have hz1 : 1 ≤ zs.length := HGD.out.1
  have HWO : Hid (wordsB [old] = true) := Lib.hid (by have h1 := HVO.out; simp [wordsB, h1])
  have HLA : Hid (arenaB L = true) := by rw [hL]; exact arenaB_append HGD.out HWO.out (by simp; omega)
  have HL0 : Hid (L.getD zs.length 0 = old) := by rw [hL, getD_append (i := 0) (by omega)]; rfl
  have HL := Lib.hid hL; have HLl := Lib.hid hLl; clear hL hLl
  go_wp2_with fail
  refine (allocGoodL _ _ _ _ zs [old] _ HAR.out (by simp) (by simp) HWO.out (by simp; omega) (HD3.out.rd.below (below_alloc _ _)) (rd_lit [old] _ _ rfl) L HL.out).mono ?_
  rintro e w4 ⟨B, kk, rfl, hnew, hb⟩
  have hbt := below_trans (below_alloc _ _) hb
  have hz4 : w3.heap.size + 1 ≤ w4.heap.size := by have := hb.size; (try simp only [size_alloc] at this); omega
  have HD4 := Lib.hid (NewA.below HD3.out hbt)
  have HN4 := Lib.hid (show NewA (w3.heap.size + 1) w4 (B) (kk) (L) from by first | exact hnew | simpa using hnew | (unfold NewA; simpa using hnew))
  have HEN : Hid (∀ k, Value.ownBlock (.slice (B) (L).length (kk)) = some k → w3.heap.size + 1 ≤ k ∧ k < w4.heap.size) := fun k hk => World.ownsRow.lt HN4.out k hk
  have HB4 := Lib.hid (below_trans HB3.out hbt)
  clear HD3 HB3 hb hbt hnew
  clear HD4 HED
  obtain ⟨M, hM⟩ : ∃ M : List Int, M = L.set zs.length (old + 1 + r) := ⟨_, rfl⟩
  have HMl : Hid (M.length = L.length) := by rw [hM]; exact List.length_set
  have HMA : Hid (arenaB M = true) := by rw [hM]; exact arenaB_set HLA.out (by omega) HV.out
  have HM0 : Hid (M.getD zs.length 0 = old + 1 + r) := by rw [hM]; exact getD_set_self (by have := HLl.out; omega)
  have HM := Lib.hid hM; clear hM
  have HMm : Hid (M.length ≤ maxLen) := by have h1 := HMl.out; have h2 := HLl.out; unfold maxLen; show M.length ≤ _; omega
  go_wp2_with fail
  refine (casGoodL _ _ L (zs.length : Int) old (old + 1 + r) zs.length _ rfl HLA.out (by omega) (by have := HLl.out; omega) HV.out HL0.out (HN4.out.rd.below (below_alloc _ _)) M HM.out).mono ?_
  rintro e w5 ⟨B3, d3, rfl, hnew, hb⟩
  have hbt := below_trans (below_alloc _ _) hb
  have ha5 : w5.cell? ⟨w4.heap.size, 0, none⟩ = some (.slice B L.length kk) := cell_keep hb (by simp)
  have hz5 : w4.heap.size + 1 ≤ w5.heap.size := by have := hb.size; (try simp only [size_alloc] at this); omega
  have hqa5 : w4.heap.size < w5.heap.size := by omega
  have HN5 := Lib.hid (NewA.below HN4.out hbt)
  have HX5 := Lib.hid (show NewA (w4.heap.size + 1) w5 (B3) (d3) (M) from by first | exact hnew | simpa using hnew | (unfold NewA; simpa using hnew))
  have HEX : Hid (∀ k, Value.ownBlock (.slice (B3) (M).length (d3)) = some k → w4.heap.size + 1 ≤ k ∧ k < w5.heap.size) := fun k hk => World.ownsRow.lt HX5.out k hk
  have HB5 := Lib.hid (below_trans HB4.out hbt)
  clear HN4 HB4 hb hbt hnew
  go_wp2_with fail
  refine (casGoodSL _ _ L (zs.length : Int) old (old + 1 + r) zs.length _ rfl HLA.out (by omega) (by have := HLl.out; omega) HV.out HL0.out (HN5.out.rd.below (below_alloc _ _)) M HM.out).mono ?_
  rintro e w6 ⟨B4, d4, rfl, hnew, hb⟩
  have hbt := below_trans (below_alloc _ _) hb
  have ha6 : w6.cell? ⟨w4.heap.size, 0, none⟩ = some (.slice B L.length kk) := cell_keep hbt ha5
  have hx6 : w6.cell? ⟨w5.heap.size, 0, none⟩ = some (.slice B3 M.length d3) := cell_keep hb (by simp)
  have hz6 : w5.heap.size + 1 ≤ w6.heap.size := by have := hb.size; (try simp only [size_alloc] at this); omega
  have hqa6 : w4.heap.size < w6.heap.size := by omega
  have hqx6 : w5.heap.size < w6.heap.size := by omega
  have HN6 := Lib.hid (NewA.below HN5.out hbt)
  have HX6 := Lib.hid (NewA.below HX5.out hbt)
  have HY6 := Lib.hid (show NewA (w5.heap.size + 1) w6 (B4) (d4) (M) from by first | exact hnew | simpa using hnew | (unfold NewA; simpa using hnew))
  have HEY : Hid (∀ k, Value.ownBlock (.slice (B4) (M).length (d4)) = some k → w5.heap.size + 1 ≤ k ∧ k < w6.heap.size) := fun k hk => World.ownsRow.lt HY6.out k hk
  have HB6 := Lib.hid (below_trans HB5.out hbt)
  clear ha5 HN5 HX5 HB5 hb hbt hnew hqa5
  go_wp2_with fail
  refine (casMiss _ _ M (zs.length : Int) old 7 zs.length _ rfl HMA.out (by omega) (by have h1 := HMl.out; have h2 := HLl.out; omega) (by decide) (by rw [HM0.out]; omega) (HX6.out.rd.below (below_alloc _ _))).mono ?_
  rintro e w7 ⟨B5, d5, rfl, hnew, hb⟩
  have hbt := below_trans (below_alloc _ _) hb
  have ha7 : w7.cell? ⟨w4.heap.size, 0, none⟩ = some (.slice B L.length kk) := cell_keep hbt ha6
  have hx7 : w7.cell? ⟨w5.heap.size, 0, none⟩ = some (.slice B3 M.length d3) := cell_keep hbt hx6
  have hy7 : w7.cell? ⟨w6.heap.size, 0, none⟩ = some (.slice B4 M.length d4) := cell_keep hb (by simp)
  have hz7 : w6.heap.size + 1 ≤ w7.heap.size := by have := hb.size; (try simp only [size_alloc] at this); omega
  have hqa7 : w4.heap.size < w7.heap.size := by omega
  have hqx7 : w5.heap.size < w7.heap.size := by omega
  have hqy7 : w6.heap.size < w7.heap.size := by omega
  have HN7 := Lib.hid (NewA.below HN6.out hbt)
  have HX7 := Lib.hid (NewA.below HX6.out hbt)
  have HY7 := Lib.hid (NewA.below HY6.out hbt)
  have HZ7 := Lib.hid (show NewA (w6.heap.size + 1) w7 (B5) (d5) (M) from by first | exact hnew | simpa using hnew | (unfold NewA; simpa using hnew))
  have HEZ : Hid (∀ k, Value.ownBlock (.slice (B5) (M).length (d5)) = some k → w6.heap.size + 1 ≤ k ∧ k < w7.heap.size) := fun k hk => World.ownsRow.lt HZ7.out k hk
  have HB7 := Lib.hid (below_trans HB6.out hbt)
  clear ha6 hx6 HN6 HX6 HY6 HB6 hb hbt hnew hqa6 hqx6
  go_wp2_with fail
  refine (loadGood _ _ M (zs.length : Int) (old + 1 + r) zs.length _ rfl HMA.out (by omega) (by have h1 := HMl.out; have h2 := HLl.out; omega) HM0.out (HZ7.out.rd.below (below_alloc _ _))).mono ?_
  rintro e w8 ⟨rfl, hb⟩
  have hbt := below_trans (below_alloc _ _) hb
  have ha8 : w8.cell? ⟨w4.heap.size, 0, none⟩ = some (.slice B L.length kk) := cell_keep hbt ha7
  have hx8 : w8.cell? ⟨w5.heap.size, 0, none⟩ = some (.slice B3 M.length d3) := cell_keep hbt hx7
  have hy8 : w8.cell? ⟨w6.heap.size, 0, none⟩ = some (.slice B4 M.length d4) := cell_keep hbt hy7
  have ht8 : w8.cell? ⟨w7.heap.size, 0, none⟩ = some (.slice B5 M.length d5) := cell_keep hb (by simp)
  have hz8 : w7.heap.size + 1 ≤ w8.heap.size := by have := hb.size; (try simp only [size_alloc] at this); omega
  have hqa8 : w4.heap.size < w8.heap.size := by omega
  have hqx8 : w5.heap.size < w8.heap.size := by omega
  have hqy8 : w6.heap.size < w8.heap.size := by omega
  have hqt8 : w7.heap.size < w8.heap.size := by omega
  have HN8 := Lib.hid (NewA.below HN7.out hbt)
  have HX8 := Lib.hid (NewA.below HX7.out hbt)
  have HY8 := Lib.hid (NewA.below HY7.out hbt)
  have HZ8 := Lib.hid (NewA.below HZ7.out hbt)
  have HB8 := Lib.hid (below_trans HB7.out hbt)
  clear ha7 hx7 hy7 HN7 HX7 HY7 HZ7 HB7 hb hbt hqa7 hqx7 hqy7
  go_wp2_with fail
  refine (sameGood _ _ _ _ M _ HMm.out HX8.out.rd HY8.out.rd).mono ?_
  rintro e w9 ⟨rfl, hb⟩
  have hbt := hb
  have ha9 : w9.cell? ⟨w4.heap.size, 0, none⟩ = some (.slice B L.length kk) := cell_keep hbt ha8
  have hx9 : w9.cell? ⟨w5.heap.size, 0, none⟩ = some (.slice B3 M.length d3) := cell_keep hbt hx8
  have hy9 : w9.cell? ⟨w6.heap.size, 0, none⟩ = some (.slice B4 M.length d4) := cell_keep hbt hy8
  have ht9 : w9.cell? ⟨w7.heap.size, 0, none⟩ = some (.slice B5 M.length d5) := cell_keep hbt ht8
  have hz9 : w8.heap.size + 0 ≤ w9.heap.size := by have := hb.size; (try simp only [size_alloc] at this); omega
  have hqa9 : w4.heap.size < w9.heap.size := by omega
  have hqx9 : w5.heap.size < w9.heap.size := by omega
  have hqy9 : w6.heap.size < w9.heap.size := by omega
  have hqt9 : w7.heap.size < w9.heap.size := by omega
  have HN9 := Lib.hid (NewA.below HN8.out hbt)
  have HX9 := Lib.hid (NewA.below HX8.out hbt)
  have HY9 := Lib.hid (NewA.below HY8.out hbt)
  have HZ9 := Lib.hid (NewA.below HZ8.out hbt)
  have HB9 := Lib.hid (below_trans HB8.out hbt)
  clear ha8 hx8 hy8 ht8 HN8 HX8 HY8 HZ8 HB8 hb hbt hqa8 hqx8 hqy8 hqt8
  go_wp2_with fail
  refine (sameArenaGood _ _ _ _ M _ HMm.out HZ9.out.rd HX9.out.rd).mono ?_
  rintro e w10 ⟨rfl, hb⟩
  have hbt := hb
  have ha10 : w10.cell? ⟨w4.heap.size, 0, none⟩ = some (.slice B L.length kk) := cell_keep hbt ha9
  have hx10 : w10.cell? ⟨w5.heap.size, 0, none⟩ = some (.slice B3 M.length d3) := cell_keep hbt hx9
  have hy10 : w10.cell? ⟨w6.heap.size, 0, none⟩ = some (.slice B4 M.length d4) := cell_keep hbt hy9
  have ht10 : w10.cell? ⟨w7.heap.size, 0, none⟩ = some (.slice B5 M.length d5) := cell_keep hbt ht9
  have hz10 : w9.heap.size + 0 ≤ w10.heap.size := by have := hb.size; (try simp only [size_alloc] at this); omega
  have hqa10 : w4.heap.size < w10.heap.size := by omega
  have hqx10 : w5.heap.size < w10.heap.size := by omega
  have hqy10 : w6.heap.size < w10.heap.size := by omega
  have hqt10 : w7.heap.size < w10.heap.size := by omega
  have HN10 := Lib.hid (NewA.below HN9.out hbt)
  have HX10 := Lib.hid (NewA.below HX9.out hbt)
  have HY10 := Lib.hid (NewA.below HY9.out hbt)
  have HZ10 := Lib.hid (NewA.below HZ9.out hbt)
  have HB10 := Lib.hid (below_trans HB9.out hbt)
  clear ha9 hx9 hy9 ht9 HN9 HX9 HY9 HZ9 HB9 hb hbt hqa9 hqx9 hqy9 hqt9
  go_wp2
  go_ret
  exact ⟨rfl, HB10.out⟩
end Go.Proofs.Ytnahdbkdonbofaa
