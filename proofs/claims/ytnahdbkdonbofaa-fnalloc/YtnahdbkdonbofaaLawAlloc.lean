/-
  The walk of the law FnAlloc.
-/
import Derived.Test.YtnahdbkdonbofaaAppOne
namespace Go.Proofs.Ytnahdbkdonbofaa
open Go.RowKit

/-- What holds at each round of the making of the list. -/
def ListRel (w : World) (lo ab base r : Nat) (Cz : Option Addr) (dz : Nat) (zs : List Int) (lv i : Value) (wr : World) : Prop :=
  ∃ (ls : List Int) (C : Option Addr) (d : Nat), i = .int .i64 ls.length ∧ lv = .slice C ls.length d ∧ ls.length ≤ r + 1 ∧ wordsB ls = true ∧ NewA base wr C d ls ∧ wr.cell? ⟨ab, 0, none⟩ = some (.slice Cz zs.length dz) ∧ NewA lo wr Cz dz zs ∧ base ≤ wr.heap.size ∧ Below w.heap.size w wr
/-- What holds at each round of the filling. -/
def FillRel (w : World) (xb l0 : Nat) (i : Value) (wr : World) : Prop :=
  ∃ (j : Nat) (L : List Int) (B : Option Addr) (d base : Nat), j ≤ 60 ∧ i = .int .i64 j ∧ BoxA wr xb (.slice B L.length d) ∧ NewA base wr B d L ∧ arenaB L = true ∧ L.length = l0 + 8 * j ∧ Below w.heap.size w wr
theorem wordsB_snoc {ls : List Int} {x : Int} (h : wordsB ls = true) (hx : wordB x = true) : wordsB (ls ++ [x]) = true := by
  unfold wordsB at *; rw [List.all_append, h]; simp [hx]
theorem arenaB_more {zs ls : List Int} (ha : arenaB zs = true) (hw : wordsB ls = true) (hl : zs.length + ls.length ≤ 400) : arenaB (zs ++ ls) = true := by
  obtain ⟨h1, h2, h3, h4⟩ := arenaB_parts ha
  exact arenaB_append ⟨h1, h3, h4⟩ hw hl

set_option maxHeartbeats 4000000 in
set_option maxRecDepth 100000 in
theorem lawAlloc_walk (A : Option Addr) (c n : Nat) (A2 : Option Addr) (c2 n2 : Nat) (w : World) (hm : n ≤ maxLen) (hA : RdB w A n) (hm2 : n2 ≤ maxLen) (hA2 : RdB w A2 n2) :
    Calls Try.prog 6 #[.slice A n c, .slice A2 n2 c2] w fun e w' => e = .returned (.bool true) ∧ Below w.heap.size w w' := by
  have HA := Lib.hid hA; have HA2 := Lib.hid hA2; clear hA hA2
  by_cases hb1 : 1048576 < n
  · go_enter Try.func6, Try.ntmps6
    go_wp2
    go_ret
    exact ⟨rfl, Below.refl _ _⟩
  have hd1 : decide (1048576 < n) = false := decide_eq_false hb1
  by_cases hb2 : 1048576 < n2
  · go_enter Try.func6, Try.ntmps6
    go_wp2
    go_ret
    exact ⟨rfl, Below.refl _ _⟩
  have hd2 : decide (1048576 < n2) = false := decide_eq_false hb2
  have hs2 : n2 ≤ 1048576 := by omega
  go_enter Try.func6, Try.ntmps6
  go_wp2_with fail
  refine (ArenaDrawn_any A n c _ hm HA.out).mono ?_
  rintro e w1 ⟨zs, Cz, dz, rfl, hgood, hl9, hnew, hb⟩
  have hbt := hb
  have hz1 : w.heap.size + 0 ≤ w1.heap.size := by have := hb.size; (try simp only [size_alloc] at this); omega
  have HD1 := Lib.hid (show NewA (w.heap.size) w1 (Cz) (dz) (zs) from by first | exact hnew | simpa using hnew | (unfold NewA; simpa using hnew))
  have HED : Hid (∀ k, Value.ownBlock (.slice (Cz) (zs).length (dz)) = some k → w.heap.size ≤ k ∧ k < w1.heap.size) := fun k hk => World.ownsRow.lt HD1.out k hk
  have HB1 := Lib.hid hbt
  clear hb hbt hnew
  have HGD := Lib.hid hgood; have HAR := Lib.hid (hgood.arena (by omega)); clear hgood
  have hz1 : 1 ≤ zs.length := HGD.out.1
  go_wp2_with fail
  refine (at_any A2 n2 c2 0 8 _ hs2 (by decide) (by decide) (by decide) (HA2.out.below (below_trans HB1.out (below_alloc _ _)))).mono ?_
  rintro e w2 ⟨r0, hr0, hr1, rfl, hb⟩
  have hbt := below_trans (below_alloc _ _) hb
  have ha2 : w2.cell? ⟨w1.heap.size, 0, none⟩ = some (.slice Cz zs.length dz) := cell_keep hb (by simp)
  have hz2 : w1.heap.size + 1 ≤ w2.heap.size := by have := hb.size; (try simp only [size_alloc] at this); omega
  have hqa2 : w1.heap.size < w2.heap.size := by omega
  have HD2 := Lib.hid (NewA.below HD1.out hbt)
  have HB2 := Lib.hid (below_trans HB1.out hbt)
  clear HD1 HB1 hb hbt
  obtain ⟨r, rfl⟩ := Int.eq_ofNat_of_zero_le hr0
  have hr7 : r ≤ 7 := by omega
  clear hr0 hr1
  have HE : Hid (NewA w2.heap.size (w2.alloc (.cells #[] 3)) (some ⟨w2.heap.size, 0, none⟩) 0 []) := own_empty w2 w2.heap.size w2.heap.size _ rfl (Nat.le_refl _)
  go_wp2
  go_loopw [7, 8] (fun lv i wr => ListRel w w.heap.size w1.heap.size w2.heap.size r Cz dz zs lv i wr) (fun _ i _ => r + 1 - (intOf i).toNat)
  case atStart => exact ⟨[], some ⟨w2.heap.size, 0, none⟩, 0, rfl, rfl, by simp, by decide, HE.out, cell_keep (below_alloc _ _) ha2, HD2.out.below (below_alloc _ _), by simp, below_trans HB2.out (below_alloc _ _)⟩
  case round =>
    obtain ⟨ls, C, d, rfl, rfl, hlr, hwl, hnw, hac, hnz, hbs, hbw⟩ := hrel
    have HN := Lib.hid hnw; have HZ := Lib.hid hnz; have HW := Lib.hid hwl; have HBW := Lib.hid hbw
    clear hnw hnz hwl hbw
    have hza : w1.heap.size + 1 ≤ w2.heap.size := hz2
    by_cases hlt : ls.length < r + 1
    · have hlt' : (ls.length : Int) < 1 + (r : Int) := by omega
      go_wp2_with fail
      refine (at_any A2 n2 c2 ls.length 99 _ hs2 (by omega) (by decide) (by decide) (HA2.out.below HBW.out)).mono ?_
      rintro e w3 ⟨v, hv0, hv1, rfl, hb⟩
      have HV : Hid (wordB v = true) := (wordB_iff v).2 (by omega)
      have hac3 := cell_keep hb hac
      have HN3 := Lib.hid (NewA.below HN.out hb); have HZ3 := Lib.hid (NewA.below HZ.out hb); have HB3 := Lib.hid (below_trans HBW.out hb)
      have hbs3 : w2.heap.size ≤ w3.heap.size := Nat.le_trans hbs hb.size
      obtain ⟨L, hL⟩ : ∃ L : List Int, L = ls ++ [v] := ⟨_, rfl⟩
      have HL := Lib.hid hL
      have HLl : Hid (L.length = ls.length + 1) := by rw [hL]; exact List.length_append
      have HLw : Hid (wordsB L = true) := by rw [hL]; exact wordsB_snoc HW.out HV.out
      clear hb hac hL HN HZ
      go_wp2_with (at_builtin; refine wpList_append_one rfl (.tmp 38) (.tmp 42) rfl w2.heap.size C d ls v rfl rfl HN3.out (by omega) hbs3 L HL.out ?_)
      intro C4 d4 w4 hnew4 hgr4
      have hrow : ∀ q, Value.ownBlock (.slice C ls.length d) = some q → w2.heap.size ≤ q := fun q hq => (World.ownsRow.lt HN3.out q hq).1
      have hac4 : w4.cell? ⟨w1.heap.size, 0, none⟩ = some (.slice Cz zs.length dz) := hgr4.cell (cell_keep (below_alloc _ _) hac3) (fun h => by have := hrow _ h.symm; dsimp only at this; omega)
      have HZ4 := Lib.hid ((HZ3.out.below (below_alloc _ _)).kept hgr4 (by
        rcases hk : Value.ownBlock (.slice Cz zs.length dz) with _ | k
        · exact .inl rfl
        · refine .inr fun e => ?_
          have h1 := HED.out k hk
          have h2 := hrow k e.symm
          omega))
      have HB4 := Lib.hid ((below_trans HB3.out (below_alloc _ _)).grown hgr4 (by have := HB3.out.size; simp; omega) (fun k hk => by have := hrow k hk; have := hz1; have h9 := HB2.out.size; omega))
      have HN4 := Lib.hid hnew4
      have hbs4 : w2.heap.size ≤ w4.heap.size := Nat.le_trans (le_alloc hbs3 _) hgr4.size
      clear hac3 hnew4 hgr4 hrow HN3 HZ3 HB3
      go_wp2
      go_roundw
      case rel => exact ⟨L, C4, d4, by rw [HLl.out]; go_num, rfl, by have := HLl.out; omega, HLw.out, HN4.out, hac4, HZ4.out, hbs4, HB4.out⟩
      case measure => simp [intOf]; omega
    · have hlr1 : ls.length = r + 1 := by omega
      have hge : ¬ (ls.length : Int) < 1 + (r : Int) := by omega
      obtain ⟨L, hL⟩ : ∃ L : List Int, L = zs ++ ls := ⟨_, rfl⟩
      have hLl : L.length = zs.length + ls.length := by rw [hL]; exact List.length_append
      have HLA : Hid (arenaB L = true) := by rw [hL]; exact arenaB_more HAR.out HW.out (by omega)
      have HL := Lib.hid hL; have HLl := Lib.hid hLl; have HLR := Lib.hid hlr1
      have hnl : ((L.length : Int) != (zs.length : Int) + (1 + (r : Int))) = false := by simp; omega
      have HLm : Hid (L.length ≤ maxLen) := by unfold maxLen; show L.length ≤ _; omega
      clear hL hLl hlr1
      have hqa : w1.heap.size < wr.heap.size := by omega
      go_wp2_with fail
      refine (allocGoodL _ _ _ _ zs ls _ HAR.out (by have := HLR.out; omega) (by have := HLR.out; omega) HW.out (by have := HLR.out; omega) HZ.out.rd HN.out.rd L HL.out).mono ?_
      rintro e w3 ⟨B3, d3, rfl, hnew, hb⟩
      have hbt := hb
      have ha3 : w3.cell? ⟨w1.heap.size, 0, none⟩ = some (.slice Cz zs.length dz) := cell_keep hbt hac
      have hz3 : wr.heap.size + 0 ≤ w3.heap.size := by have := hb.size; (try simp only [size_alloc] at this); omega
      have hqa3 : w1.heap.size < w3.heap.size := by omega
      have HZ3 := Lib.hid (NewA.below HZ.out hbt)
      have HN3 := Lib.hid (NewA.below HN.out hbt)
      have HX3 := Lib.hid (show NewA (wr.heap.size) w3 (B3) (d3) (L) from by first | exact hnew | simpa using hnew | (unfold NewA; simpa using hnew))
      have HEX : Hid (∀ k, Value.ownBlock (.slice (B3) (L).length (d3)) = some k → wr.heap.size ≤ k ∧ k < w3.heap.size) := fun k hk => World.ownsRow.lt HX3.out k hk
      have HB3 := Lib.hid hbt
      clear hac HZ HN hb hbt hnew
      go_wp2_with fail
      refine (allocGoodSL _ _ _ _ zs ls _ HAR.out (by have := HLR.out; omega) (by have := HLR.out; omega) HW.out (by have := HLR.out; omega) (HZ3.out.rd.below (below_alloc _ _)) (HN3.out.rd.below (below_alloc _ _)) L HL.out).mono ?_
      rintro e w4 ⟨B4, d4, rfl, hnew, hb⟩
      have hbt := below_trans (below_alloc _ _) hb
      have ha4 : w4.cell? ⟨w1.heap.size, 0, none⟩ = some (.slice Cz zs.length dz) := cell_keep hbt ha3
      have hx4 : w4.cell? ⟨w3.heap.size, 0, none⟩ = some (.slice B3 L.length d3) := cell_keep hb (by simp)
      have Kx4 := Lib.hid ((BoxA.new _ _).below hb)
      have hz4 : w3.heap.size + 1 ≤ w4.heap.size := by have := hb.size; (try simp only [size_alloc] at this); omega
      have hqa4 : w1.heap.size < w4.heap.size := by omega
      have hqx4 : w3.heap.size < w4.heap.size := by omega
      have HZ4 := Lib.hid (NewA.below HZ3.out hbt)
      have HN4 := Lib.hid (NewA.below HN3.out hbt)
      have HX4 := Lib.hid (NewA.below HX3.out hbt)
      have HY4 := Lib.hid (show NewA (w3.heap.size + 1) w4 (B4) (d4) (L) from by first | exact hnew | simpa using hnew | (unfold NewA; simpa using hnew))
      have HEY : Hid (∀ k, Value.ownBlock (.slice (B4) (L).length (d4)) = some k → w3.heap.size + 1 ≤ k ∧ k < w4.heap.size) := fun k hk => World.ownsRow.lt HY4.out k hk
      have HB4 := Lib.hid (below_trans HB3.out hbt)
      clear ha3 HZ3 HN3 HX3 HB3 hb hbt hnew hqa3
      go_wp2_with fail
      refine (sameGood _ _ _ _ L _ HLm.out (HX4.out.rd.below (below_alloc _ _)) (HY4.out.rd.below (below_alloc _ _))).mono ?_
      rintro e w5 ⟨rfl, hb⟩
      have hbt := below_trans (below_alloc _ _) hb
      have ha5 : w5.cell? ⟨w1.heap.size, 0, none⟩ = some (.slice Cz zs.length dz) := cell_keep hbt ha4
      have hx5 : w5.cell? ⟨w3.heap.size, 0, none⟩ = some (.slice B3 L.length d3) := cell_keep hbt hx4
      have hy5 : w5.cell? ⟨w4.heap.size, 0, none⟩ = some (.slice B4 L.length d4) := cell_keep hb (by simp)
      have Kx5 := Lib.hid (BoxA.below Kx4.out hbt)
      have hz5 : w4.heap.size + 1 ≤ w5.heap.size := by have := hb.size; (try simp only [size_alloc] at this); omega
      have hqa5 : w1.heap.size < w5.heap.size := by omega
      have hqx5 : w3.heap.size < w5.heap.size := by omega
      have hqy5 : w4.heap.size < w5.heap.size := by omega
      have HZ5 := Lib.hid (NewA.below HZ4.out hbt)
      have HN5 := Lib.hid (NewA.below HN4.out hbt)
      have HX5 := Lib.hid (NewA.below HX4.out hbt)
      have HY5 := Lib.hid (NewA.below HY4.out hbt)
      have HB5 := Lib.hid (below_trans HB4.out hbt)
      clear ha4 hx4 Kx4 HZ4 HN4 HX4 HY4 HB4 hb hbt hqa4 hqx4
      have HLL : Hid (2 ≤ L.length) := by have h1 := HLl.out; have h2 := HLR.out; show 2 ≤ L.length; omega
      generalize hl0 : L.length = l0 at HLL
      have HL00 := Lib.hid hl0; clear hl0
      have hqw0 : w.heap.size ≤ w3.heap.size := by have h1 := HBW.out.size; omega
      go_wp2
      go_loopw [15] (fun i wr => FillRel w w3.heap.size l0 i wr) (fun i _ => 60 - (intOf i).toNat)
      case atStart => exact ⟨0, L, B3, d3, _, by omega, rfl, Kx5.out, HX5.out, HLA.out, by rw [HL00.out]; omega, below_trans HBW.out HB5.out⟩
      case round =>
        obtain ⟨j, L, B, d, base, hj60, rfl, hbx, hnw, harL, hLl, hbw⟩ := hrel
        have hL400 := (arenaB_parts harL).2.1
        have HBX := Lib.hid hbx; have HN := Lib.hid hnw; have HLA := Lib.hid harL; have HLl := Lib.hid hLl; have HBW := Lib.hid hbw
        have hx10 := hbx.cell; have hqx10 := hbx.lt; have hqw := hbx.lt
        have hlt : j < 60 := by have := HLL.out; omega
        have HLm : Hid (L.length ≤ maxLen) := by unfold maxLen; show L.length ≤ _; omega
        clear hbx hnw harL hLl hbw
        by_cases hfit : L.length + 8 ≤ 400
        · obtain ⟨M, hM⟩ : ∃ M : List Int, M = L ++ [1, 2, 3, 4, 5, 6, 7, 8] := ⟨_, rfl⟩
          have HMl : Hid (M.length = L.length + 8) := by rw [hM]; exact List.length_append
          have HMA : Hid (arenaB M = true) := by rw [hM]; exact arenaB_more HLA.out (by decide) (by simpa using hfit)
          have HM := Lib.hid hM; clear hM
          go_wp2_with fail
          refine (allocGoodL _ _ _ _ L [1, 2, 3, 4, 5, 6, 7, 8] _ HLA.out (by decide) (by decide) (by decide) (by simpa using hfit) (HN.out.rd.below (below_alloc _ _)) (rd_lit [1, 2, 3, 4, 5, 6, 7, 8] _ _ rfl) M HM.out).mono ?_
          rintro e w11 ⟨B3, d3, rfl, hnew, hb⟩
          have hbt := below_trans (below_alloc _ _) hb
          have hx11 : w11.cell? ⟨w3.heap.size, 0, none⟩ = some (.slice B L.length d) := cell_keep hbt hx10
          have hz11 : wr.heap.size + 1 ≤ w11.heap.size := by have := hb.size; (try simp only [size_alloc] at this); omega
          have hqx11 : w3.heap.size < w11.heap.size := by omega
          have HN11 := Lib.hid (NewA.below HN.out hbt)
          have HX11 := Lib.hid (show NewA (wr.heap.size + 1) w11 (B3) (d3) (M) from by first | exact hnew | simpa using hnew | (unfold NewA; simpa using hnew))
          have HEX : Hid (∀ k, Value.ownBlock (.slice (B3) (M).length (d3)) = some k → wr.heap.size + 1 ≤ k ∧ k < w11.heap.size) := fun k hk => World.ownsRow.lt HX11.out k hk
          have HB11 := Lib.hid hbt
          clear hx10 HN hb hbt hnew hqx10
          have hb6 := HBX.out.below HB11.out
          have HBB := Lib.hid hb6
          have hb7 := BoxA.below (w' := w11.alloc (.cells #[.slice B3 M.length d3] 25)) hb6 (below_alloc _ _)
          have hf7 := hb7.froz; have hc7 := hb7.cell
          clear hb6 hb7
          go_wp2
          go_roundw
          case rel =>
            have HXA := Lib.hid (HX11.out.setCell (a := ⟨w3.heap.size, 0, none⟩) (by simp; omega) (.slice B3 M.length d3))
            have HBS : Hid (Below w.heap.size w (w11.setCell ⟨w3.heap.size, 0, none⟩ (.slice B3 M.length d3))) := (below_trans HBW.out HB11.out).setCell (by simp; have := hqw0; omega) _
            exact ⟨j + 1, M, B3, d3, wr.heap.size + 1, by omega, by go_num, (HBB.out.set _).below (below_alloc _ _), HXA.out.below (below_alloc _ _), HMA.out, by have h1 := HMl.out; have h2 := HLl.out; omega, below_trans HBS.out (below_alloc _ _)⟩
          case measure => simp [intOf]; omega
        · have hful : (400 : Int) < (L.length : Int) + 8 := by omega
          go_wp2_with fail
          refine (allocFull _ _ _ _ L [1, 2, 3, 4, 5, 6, 7, 8] _ HLA.out (by decide) (by decide) (by decide) (by simp; omega) (HN.out.rd.below (below_alloc _ _)) (rd_lit [1, 2, 3, 4, 5, 6, 7, 8] _ _ rfl)).mono ?_
          rintro e w11 ⟨B3, d3, rfl, hnew, hb⟩
          have hbt := below_trans (below_alloc _ _) hb
          have hx11 : w11.cell? ⟨w3.heap.size, 0, none⟩ = some (.slice B L.length d) := cell_keep hbt hx10
          have hz11 : wr.heap.size + 1 ≤ w11.heap.size := by have := hb.size; (try simp only [size_alloc] at this); omega
          have hqx11 : w3.heap.size < w11.heap.size := by omega
          have HN11 := Lib.hid (NewA.below HN.out hbt)
          have HX11 := Lib.hid (show NewA (wr.heap.size + 1) w11 (B3) (d3) (L) from by first | exact hnew | simpa using hnew | (unfold NewA; simpa using hnew))
          have HEX : Hid (∀ k, Value.ownBlock (.slice (B3) (L).length (d3)) = some k → wr.heap.size + 1 ≤ k ∧ k < w11.heap.size) := fun k hk => World.ownsRow.lt HX11.out k hk
          have HB11 := Lib.hid hbt
          clear hx10 HN hb hbt hnew hqx10
          go_wp2_with fail
          refine (sameArenaGood _ _ _ _ L _ HLm.out (HX11.out.rd.below (below_alloc _ _)) (HN11.out.rd.below (below_alloc _ _))).mono ?_
          rintro e w12 ⟨rfl, hb⟩
          have hbt := below_trans (below_alloc _ _) hb
          have hx12 : w12.cell? ⟨w3.heap.size, 0, none⟩ = some (.slice B L.length d) := cell_keep hbt hx11
          have hy12 : w12.cell? ⟨w11.heap.size, 0, none⟩ = some (.slice B3 L.length d3) := cell_keep hb (by simp)
          have hz12 : w11.heap.size + 1 ≤ w12.heap.size := by have := hb.size; (try simp only [size_alloc] at this); omega
          have hqx12 : w3.heap.size < w12.heap.size := by omega
          have hqy12 : w11.heap.size < w12.heap.size := by omega
          have HN12 := Lib.hid (NewA.below HN11.out hbt)
          have HX12 := Lib.hid (NewA.below HX11.out hbt)
          have HB12 := Lib.hid (below_trans HB11.out hbt)
          clear hx11 HN11 HX11 HB11 hb hbt hqx11
          go_wp2
          go_ret
          exact ⟨rfl, below_trans HBW.out HB12.out⟩
end Go.Proofs.Ytnahdbkdonbofaa
