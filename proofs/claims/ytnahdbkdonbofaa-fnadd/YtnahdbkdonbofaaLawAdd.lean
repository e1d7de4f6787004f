/-
  The walk of the law FnAdd.
-/
import Derived.Test.YtnahdbkdonbofaaGoodB
namespace Go.Proofs.Ytnahdbkdonbofaa
open Go.RowKit

/-- What holds at each round of FnAdd: the arena, the sum. -/
def AddRel (w : World) (ab zl : Nat) (s i : Value) (wr : World) : Prop :=
  ∃ (j : Nat) (x : Int) (L : List Int) (B : Option Addr) (d base : Nat), j ≤ 4 ∧ i = .int .i64 j ∧ s = .int .i64 x ∧ 5 ≤ x ∧ x ≤ 5 + 9 * j ∧ BoxA wr ab (.slice B L.length d) ∧ NewA base wr B d L ∧ arenaB L = true ∧ L.length = zl + 1 ∧ L.getD zl 0 = x ∧ Below w.heap.size w wr

set_option maxHeartbeats 4000000 in
set_option maxRecDepth 100000 in
theorem lawAdd_walk (A : Option Addr) (c n : Nat) (A2 : Option Addr) (c2 n2 : Nat) (w : World) (hm : n ≤ maxLen) (hA : RdB w A n) (hm2 : n2 ≤ maxLen) (hA2 : RdB w A2 n2) :
    Calls Try.prog 5 #[.slice A n c, .slice A2 n2 c2] w fun e w' => e = .returned (.bool true) ∧ Below w.heap.size w w' := by
  have HA := Lib.hid hA; have HA2 := Lib.hid hA2; clear hA hA2
  by_cases hb1 : 1048576 < n
  · go_enter Try.func5, Try.ntmps5
    go_wp2
    go_ret
    exact ⟨rfl, Below.refl _ _⟩
  have hd1 : decide (1048576 < n) = false := decide_eq_false hb1
  by_cases hb2 : 1048576 < n2
  · go_enter Try.func5, Try.ntmps5
    go_wp2
    go_ret
    exact ⟨rfl, Below.refl _ _⟩
  have hd2 : decide (1048576 < n2) = false := decide_eq_false hb2
  have hs2 : n2 ≤ 1048576 := by omega
  go_enter Try.func5, Try.ntmps5
  go_wp2_with fail
  refine (ArenaDrawn_any A n c _ hm HA.out).mono ?_
  rintro e w1 ⟨zs, C, d, rfl, hgood, hl9, hnew, hb⟩
  have hbt := hb
  have hz1 : w.heap.size + 0 ≤ w1.heap.size := by have := hb.size; (try simp only [size_alloc] at this); omega
  have HD1 := Lib.hid (show NewA (w.heap.size) w1 (C) (d) (zs) from by first | exact hnew | simpa using hnew | (unfold NewA; simpa using hnew))
  have HED : Hid (∀ k, Value.ownBlock (.slice (C) (zs).length (d)) = some k → w.heap.size ≤ k ∧ k < w1.heap.size) := fun k hk => World.ownsRow.lt HD1.out k hk
  have HB1 := Lib.hid hbt
  clear hb hbt hnew
  have HGD := Lib.hid hgood; have HAR := Lib.hid (hgood.arena (by omega)); clear hgood
  obtain ⟨L, hL⟩ : ∃ L : List Int, L = zs ++ [5] := ⟨_, rfl⟩
  have hLl : L.length = zs.length + 1 := by rw [hL]; simp
  have hz1 : 1 ≤ zs.length := HGD.out.1
  have HLA : Hid (arenaB L = true) := by rw [hL]; exact arenaB_append HGD.out (by decide) (by simp; omega)
  have HL0 : Hid (L.getD zs.length 0 = 5) := by rw [hL, getD_append (i := 0) (by omega)]; rfl
  have HL := Lib.hid hL; have HLl := Lib.hid hLl; clear hL hLl
  go_wp2_with fail
  refine (allocGoodL _ _ _ _ zs [5] _ HAR.out (by decide) (by decide) (by decide) (by simp; omega) (HD1.out.rd.below (below_alloc _ _)) (rd_lit [5] _ _ rfl) L HL.out).mono ?_
  rintro e w2 ⟨B, kk, rfl, hnew, hb⟩
  have hbt := below_trans (below_alloc _ _) hb
  have hz2 : w1.heap.size + 1 ≤ w2.heap.size := by have := hb.size; (try simp only [size_alloc] at this); omega
  have HD2 := Lib.hid (NewA.below HD1.out hbt)
  have HN2 := Lib.hid (show NewA (w1.heap.size + 1) w2 (B) (kk) (L) from by first | exact hnew | simpa using hnew | (unfold NewA; simpa using hnew))
  have HEN : Hid (∀ k, Value.ownBlock (.slice (B) (L).length (kk)) = some k → w1.heap.size + 1 ≤ k ∧ k < w2.heap.size) := fun k hk => World.ownsRow.lt HN2.out k hk
  have HB2 := Lib.hid (below_trans HB1.out hbt)
  clear HD1 HB1 hb hbt hnew
  clear HD2 HED
  generalize hzl : zs.length = zl at *
  clear hzl
  go_wp2
  go_loopw [8, 9] (fun s i wr => AddRel w w2.heap.size zl s i wr) (fun _ i _ => 4 - (intOf i).toNat)
  case atStart => exact ⟨0, 5, L, B, kk, _, by omega, rfl, rfl, by omega, by omega, BoxA.new _ _, HN2.out.below (below_alloc _ _), HLA.out, HLl.out, HL0.out, below_trans HB2.out (below_alloc _ _)⟩
  case round =>
    obtain ⟨j, x, L, B, d, base, hj4, rfl, rfl, hx5, hx9, hbx, hnw, harL, hLl, hL0, hbw⟩ := hrel
    have HBX := Lib.hid hbx; have HN2 := Lib.hid hnw; have HLA := Lib.hid harL; have HLl := Lib.hid hLl; have HL0 := Lib.hid hL0; have HBW := Lib.hid hbw
    have ha2 := hbx.cell; have hqa2 := hbx.lt; have hqw := hbx.lt
    clear hbx hnw harL hLl hL0 hbw
    by_cases hlt : j < 4
    · go_wp2_with fail
      refine (at_any A2 n2 c2 j 9 _ hs2 (by omega) (by decide) (by decide) (HA2.out.below HBW.out)).mono ?_
      rintro e w3 ⟨r, hr0, hr1, rfl, hb⟩
      have hbt := hb
      have ha3 : w3.cell? ⟨w2.heap.size, 0, none⟩ = some (.slice B L.length d) := cell_keep hbt ha2
      have hz3 : wr.heap.size + 0 ≤ w3.heap.size := by have := hb.size; (try simp only [size_alloc] at this); omega
      have hqa3 : w2.heap.size < w3.heap.size := by omega
      have HN3 := Lib.hid (NewA.below HN2.out hbt)
      have HB3 := Lib.hid hbt
      clear ha2 HN2 hb hbt hqa2
      have HV : Hid (wordB (1 + r) = true) := (wordB_iff _).2 (by omega)
      have HVS : Hid (wordB (x + (1 + r)) = true) := (wordB_iff _).2 (by omega)
      obtain ⟨M, hM⟩ : ∃ M : List Int, M = L.set zl (x + (1 + r)) := ⟨_, rfl⟩
      have HMl : Hid (M.length = L.length) := by rw [hM]; exact List.length_set
      have HMA : Hid (arenaB M = true) := by rw [hM]; exact arenaB_set HLA.out (by omega) HVS.out
      have HM0 : Hid (M.getD zl 0 = x + (1 + r)) := by rw [hM]; exact getD_set_self (by have := HLl.out; omega)
      have HM := Lib.hid hM; clear hM
      have HMm : Hid (M.length ≤ maxLen) := by have h1 := HMl.out; have h2 := HLl.out; unfold maxLen; show M.length ≤ _; omega
      go_wp2_with fail
      refine (addGoodL _ _ L (zl : Int) (1 + r) x zl _ rfl HLA.out (by omega) (by have := HLl.out; omega) HV.out HL0.out HVS.out HN3.out.rd M HM.out).mono ?_
      rintro e w4 ⟨B3, d3, rfl, hnew, hb⟩
      have hbt := hb
      have ha4 : w4.cell? ⟨w2.heap.size, 0, none⟩ = some (.slice B L.length d) := cell_keep hbt ha3
      have hz4 : w3.heap.size + 0 ≤ w4.heap.size := by have := hb.size; (try simp only [size_alloc] at this); omega
      have hqa4 : w2.heap.size < w4.heap.size := by omega
      have HN4 := Lib.hid (NewA.below HN3.out hbt)
      have HX4 := Lib.hid (show NewA (w3.heap.size) w4 (B3) (d3) (M) from by first | exact hnew | simpa using hnew | (unfold NewA; simpa using hnew))
      have HEX : Hid (∀ k, Value.ownBlock (.slice (B3) (M).length (d3)) = some k → w3.heap.size ≤ k ∧ k < w4.heap.size) := fun k hk => World.ownsRow.lt HX4.out k hk
      have HB4 := Lib.hid (below_trans HB3.out hbt)
      clear ha3 HN3 HB3 hb hbt hnew hqa3
      go_wp2_with fail
      refine (addGoodSL _ _ L (zl : Int) (1 + r) x zl _ rfl HLA.out (by omega) (by have := HLl.out; omega) HV.out HL0.out HVS.out (HN4.out.rd.below (below_alloc _ _)) M HM.out).mono ?_
      rintro e w5 ⟨B4, d4, rfl, hnew, hb⟩
      have hbt := below_trans (below_alloc _ _) hb
      have ha5 : w5.cell? ⟨w2.heap.size, 0, none⟩ = some (.slice B L.length d) := cell_keep hbt ha4
      have hx5 : w5.cell? ⟨w4.heap.size, 0, none⟩ = some (.slice B3 M.length d3) := cell_keep hb (by simp)
      have hz5 : w4.heap.size + 1 ≤ w5.heap.size := by have := hb.size; (try simp only [size_alloc] at this); omega
      have hqa5 : w2.heap.size < w5.heap.size := by omega
      have hqx5 : w4.heap.size < w5.heap.size := by omega
      have HN5 := Lib.hid (NewA.below HN4.out hbt)
      have HX5 := Lib.hid (NewA.below HX4.out hbt)
      have HY5 := Lib.hid (show NewA (w4.heap.size + 1) w5 (B4) (d4) (M) from by first | exact hnew | simpa using hnew | (unfold NewA; simpa using hnew))
      have HEY : Hid (∀ k, Value.ownBlock (.slice (B4) (M).length (d4)) = some k → w4.heap.size + 1 ≤ k ∧ k < w5.heap.size) := fun k hk => World.ownsRow.lt HY5.out k hk
      have HB5 := Lib.hid (below_trans HB4.out hbt)
      clear ha4 HN4 HX4 HB4 hb hbt hnew hqa4
      go_wp2_with fail
      refine (sameGood _ _ _ _ M _ HMm.out (HX5.out.rd.below (below_alloc _ _)) (HY5.out.rd.below (below_alloc _ _))).mono ?_
      rintro e w6 ⟨rfl, hb⟩
      have hbt := below_trans (below_alloc _ _) hb
      have ha6 : w6.cell? ⟨w2.heap.size, 0, none⟩ = some (.slice B L.length d) := cell_keep hbt ha5
      have hx6 : w6.cell? ⟨w4.heap.size, 0, none⟩ = some (.slice B3 M.length d3) := cell_keep hbt hx5
      have hy6 : w6.cell? ⟨w5.heap.size, 0, none⟩ = some (.slice B4 M.length d4) := cell_keep hb (by simp)
      have hz6 : w5.heap.size + 1 ≤ w6.heap.size := by have := hb.size; (try simp only [size_alloc] at this); omega
      have hqa6 : w2.heap.size < w6.heap.size := by omega
      have hqx6 : w4.heap.size < w6.heap.size := by omega
      have hqy6 : w5.heap.size < w6.heap.size := by omega
      have HN6 := Lib.hid (NewA.below HN5.out hbt)
      have HX6 := Lib.hid (NewA.below HX5.out hbt)
      have HY6 := Lib.hid (NewA.below HY5.out hbt)
      have HB6 := Lib.hid (below_trans HB5.out hbt)
      clear ha5 hx5 HN5 HX5 HY5 HB5 hb hbt hqa5 hqx5
      have hb6 := HBX.out.below HB6.out
      have hf6 := hb6.froz
      have HBB := Lib.hid hb6; clear hb6
      go_wp2
      go_roundw
      case rel => exact ⟨j + 1, x + (1 + r), M, B3, d3, _, by omega, by go_num, rfl, by omega, by omega, HBB.out.set _, HX6.out.setCell (by simp; omega) _, HMA.out, HMl.out.trans HLl.out, HM0.out, (below_trans HBW.out HB6.out).setCell (by simp; have := HBW.out.size; omega) _⟩
      case measure => simp [intOf]; omega
    · obtain rfl : j = 4 := by omega
      go_wp2_with fail
      refine (loadGood _ _ L (zl : Int) x zl _ rfl HLA.out (by omega) (by have := HLl.out; omega) HL0.out HN2.out.rd).mono ?_
      rintro e w3 ⟨rfl, hb⟩
      have hbt := hb
      have ha3 : w3.cell? ⟨w2.heap.size, 0, none⟩ = some (.slice B L.length d) := cell_keep hbt ha2
      have hz3 : wr.heap.size + 0 ≤ w3.heap.size := by have := hb.size; (try simp only [size_alloc] at this); omega
      have hqa3 : w2.heap.size < w3.heap.size := by omega
      have HN3 := Lib.hid (NewA.below HN2.out hbt)
      have HB3 := Lib.hid hbt
      clear ha2 HN2 hb hbt hqa2
      go_wp2
      go_ret
      exact ⟨rfl, below_trans HBW.out HB3.out⟩
end Go.Proofs.Ytnahdbkdonbofaa
