/-
  The walk of the law FnExactSameArena.
-/
import Derived.Test.YtnahdbkdonbofaaSame
import Derived.Test.YtnahdbkdonbofaaLawArenaOK
namespace Go.Proofs.Ytnahdbkdonbofaa
open Go.RowKit

theorem leftB_range {l : Int} {n : Nat} (h : ¬ leftB l n < 0) : leftB l n ≤ l ∧ 0 ≤ leftB l n ∧ (n : Int) ≤ l := by
  unfold leftB at *
  by_cases h' : l - n < 0
  · rw [if_pos h'] at h; omega
  · rw [if_neg h'] at h ⊢; omega

set_option maxHeartbeats 2000000 in
theorem lawSameArena_walk (A : Option Addr) (c : Nat) (zs : List Int) (A2 : Option Addr) (c2 : Nat) (ys : List Int) (w : World) (hn : zs.length ≤ maxLen) (hA : Rd w A zs) (hn2 : ys.length ≤ maxLen) (hA2 : Rd w A2 ys) :
    Calls Try.prog 15 #[.agg #[.slice A zs.length c], .agg #[.slice A2 ys.length c2]] w fun e w' => e = .returned (.bool true) ∧ Below w.heap.size w w' := by
  have HA := Lib.hid hA; have HA2 := Lib.hid hA2; clear hA hA2
  by_cases hbig : leftB 1048576 zs.length < 0
  · go_enter Try.func15, Try.ntmps15
    go_wp2_with fail
    refine (szArena_any _ _ _ _ _ hn (by decide) (by decide)).mono ?_
    rintro e w1 ⟨rfl, hb⟩
    have HB := Lib.hid hb; clear hb
    go_wp2
    go_ret
    exact ⟨rfl, below_trans (below_alloc2 _ _ _) HB.out⟩
  obtain ⟨hl1, hl2, hl3⟩ := leftB_range hbig
  have hs : zs.length ≤ 1048576 := by omega
  by_cases hbig2 : leftB (leftB 1048576 zs.length) ys.length < 0
  · go_enter Try.func15, Try.ntmps15
    go_wp2_with fail
    refine (szArena_any _ _ _ _ _ hn (by decide) (by decide)).mono ?_
    rintro e w1 ⟨rfl, hb⟩
    have HB := Lib.hid hb
    have hx : w1.cell? ⟨w.heap.size + 1, 0, none⟩ = some (.slice A2 ys.length c2) := cell_keep hb (by simp)
    clear hb
    go_wp2_with fail
    refine (szArena_any _ _ _ _ _ hn2 hl2 hl1).mono ?_
    rintro e w2 ⟨rfl, hb⟩
    have HB2 := Lib.hid hb; clear hb hx
    go_wp2
    go_ret
    exact ⟨rfl, below_trans (below_trans (below_alloc2 _ _ _) HB.out) HB2.out⟩
  obtain ⟨hk1, hk2, hk3⟩ := leftB_range hbig2
  have hs2 : ys.length ≤ 1048576 := by omega
  generalize hq : decide (zs = ys) = q
  have HQ := Lib.hid hq; clear hq
  go_enter Try.func15, Try.ntmps15
  go_wp2_with fail
  refine (szArena_any _ _ _ _ _ hn (by decide) (by decide)).mono ?_
  rintro e w1 ⟨rfl, hb⟩
  have hbt := below_trans (below_alloc2 _ _ _) hb
  have ha1 : w1.cell? ⟨w.heap.size, 0, none⟩ = some (.slice A zs.length c) := cell_keep hb (by simp)
  have hb1 : w1.cell? ⟨w.heap.size + 1, 0, none⟩ = some (.slice A2 ys.length c2) := cell_keep hb (by simp)
  have hz1 : w.heap.size + 2 ≤ w1.heap.size := by have := hb.size; (try simp only [size_alloc] at this); omega
  have hqa1 : w.heap.size < w1.heap.size := by omega
  have hqb1 : w.heap.size + 1 < w1.heap.size := by omega
  have HB1 := Lib.hid hbt
  clear hb hbt
  go_wp2_with fail
  refine (szArena_any _ _ _ _ _ hn2 hl2 hl1).mono ?_
  rintro e w2 ⟨rfl, hb⟩
  have hbt := hb
  have ha2 : w2.cell? ⟨w.heap.size, 0, none⟩ = some (.slice A zs.length c) := cell_keep hbt ha1
  have hb2 : w2.cell? ⟨w.heap.size + 1, 0, none⟩ = some (.slice A2 ys.length c2) := cell_keep hbt hb1
  have hz2 : w1.heap.size + 0 ≤ w2.heap.size := by have := hb.size; (try simp only [size_alloc] at this); omega
  have hqa2 : w.heap.size < w2.heap.size := by omega
  have hqb2 : w.heap.size + 1 < w2.heap.size := by omega
  have HB2 := Lib.hid (below_trans HB1.out hbt)
  clear ha1 hb1 HB1 hb hbt hqa1 hqb1
  go_wp2_with fail
  go_region_held3 (fun w' => w'.cell? ⟨w.heap.size, 0, none⟩ = some (.slice A zs.length c) ∧ w'.cell? ⟨w.heap.size + 1, 0, none⟩ = some (.slice A2 ys.length c2))
    (first | exact ⟨ha2, hb2⟩ | exact ⟨cell_keep hr0 (ha2), cell_keep hr0 (hb2)⟩ | exact ⟨cell_keep hr1 (cell_keep hr0 (ha2)), cell_keep hr1 (cell_keep hr0 (hb2))⟩ | exact ⟨cell_keep hr2 (cell_keep hr1 (cell_keep hr0 (ha2))), cell_keep hr2 (cell_keep hr1 (cell_keep hr0 (hb2)))⟩)
    (first
      | (go_at_call 40; (with_reducible refine (toArena_any _ _ zs _ hs (HA.out.below HB2.out.drew)).mono ?_); rintro e u3_0 ⟨g, rfl, hown1, hr0⟩)
      | (go_at_call 40; (with_reducible refine (toArena_any _ _ ys _ hs2 (HA2.out.below (below_trans HB2.out.drew hr0))).mono ?_); rintro e u3_1 ⟨g2, rfl, hown2, hr1⟩)
      | (go_at_call 45; (with_reducible refine (specSameArena_any _ _ _ _ zs ys _ hn hn2 ((Rd.of_own hown1).below hr1) (Rd.of_own hown2)).mono ?_); rintro e u3_2 ⟨rfl, hr2⟩))
  have hb := below_drew_trans (below_trans (below_trans (hr0) hr1) hr2)
  clear hr0 hr1 hr2
  have hbt := hb
  have ha3 : u3_2.cell? ⟨w.heap.size, 0, none⟩ = some (.slice A zs.length c) := cell_keep hbt ha2
  have hb3 : u3_2.cell? ⟨w.heap.size + 1, 0, none⟩ = some (.slice A2 ys.length c2) := cell_keep hbt hb2
  have hz3 : w2.heap.size + 0 ≤ u3_2.heap.size := by have := hb.size; (try simp only [size_alloc] at this); omega
  have hqa3 : w.heap.size < u3_2.heap.size := by omega
  have hqb3 : w.heap.size + 1 < u3_2.heap.size := by omega
  have HB3 := Lib.hid (below_trans HB2.out hbt)
  clear ha2 hb2 HB2 hb hbt hqa2 hqb2
  clear hown1 hown2
  rw [HQ.out]
  go_wp2_with fail
  refine (toArena_any _ _ zs _ hs (HA.out.below HB3.out)).mono ?_
  rintro e w4 ⟨g4, rfl, hown, hb⟩
  have hbt := hb
  have ha4 : w4.cell? ⟨w.heap.size, 0, none⟩ = some (.slice A zs.length c) := cell_keep hbt ha3
  have hb4 : w4.cell? ⟨w.heap.size + 1, 0, none⟩ = some (.slice A2 ys.length c2) := cell_keep hbt hb3
  have hz4 : u3_2.heap.size + 0 ≤ w4.heap.size := by have := hb.size; (try simp only [size_alloc] at this); omega
  have hqa4 : w.heap.size < w4.heap.size := by omega
  have hqb4 : w.heap.size + 1 < w4.heap.size := by omega
  have HX4 := Lib.hid (show NewA (u3_2.heap.size) w4 (some ⟨g4, 0, none⟩) (zs.length) (zs) from by first | exact hown | simpa using hown | (unfold NewA; simpa using hown))
  have HEX : Hid (∀ k, Value.ownBlock (.slice (some ⟨g4, 0, none⟩) (zs).length (zs.length)) = some k → u3_2.heap.size ≤ k ∧ k < w4.heap.size) := fun k hk => World.ownsRow.lt HX4.out k hk
  have HB4 := Lib.hid (below_trans HB3.out hbt)
  clear ha3 hb3 HB3 hb hbt hown hqa3 hqb3
  go_wp2_with fail
  refine (toArena_any _ _ ys _ hs2 (HA2.out.below (below_trans HB4.out (below_alloc _ _)))).mono ?_
  rintro e w5 ⟨g5, rfl, hown, hb⟩
  have hbt := below_trans (below_alloc _ _) hb
  have ha5 : w5.cell? ⟨w.heap.size, 0, none⟩ = some (.slice A zs.length c) := cell_keep hbt ha4
  have hb5 : w5.cell? ⟨w.heap.size + 1, 0, none⟩ = some (.slice A2 ys.length c2) := cell_keep hbt hb4
  have hx5 : w5.cell? ⟨w4.heap.size, 0, none⟩ = some (.slice (some ⟨g4, 0, none⟩) zs.length zs.length) := cell_keep hb (by simp)
  have hz5 : w4.heap.size + 1 ≤ w5.heap.size := by have := hb.size; (try simp only [size_alloc] at this); omega
  have hqa5 : w.heap.size < w5.heap.size := by omega
  have hqb5 : w.heap.size + 1 < w5.heap.size := by omega
  have hqx5 : w4.heap.size < w5.heap.size := by omega
  have HX5 := Lib.hid (NewA.below HX4.out hbt)
  have HY5 := Lib.hid (show NewA (w4.heap.size + 1) w5 (some ⟨g5, 0, none⟩) (ys.length) (ys) from by first | exact hown | simpa using hown | (unfold NewA; simpa using hown))
  have HEY : Hid (∀ k, Value.ownBlock (.slice (some ⟨g5, 0, none⟩) (ys).length (ys.length)) = some k → w4.heap.size + 1 ≤ k ∧ k < w5.heap.size) := fun k hk => World.ownsRow.lt HY5.out k hk
  have HB5 := Lib.hid (below_trans HB4.out hbt)
  clear ha4 hb4 HX4 HB4 hb hbt hown hqa4 hqb4
  go_wp2_with fail
  refine (implSameArena_any _ _ _ _ zs ys _ hn hn2 (HX5.out.rd.below (below_alloc _ _)) (HY5.out.rd.below (below_alloc _ _))).mono ?_
  rintro e w6 ⟨rfl, hb⟩
  have hbt := below_trans (below_alloc _ _) hb
  have ha6 : w6.cell? ⟨w.heap.size, 0, none⟩ = some (.slice A zs.length c) := cell_keep hbt ha5
  have hb6 : w6.cell? ⟨w.heap.size + 1, 0, none⟩ = some (.slice A2 ys.length c2) := cell_keep hbt hb5
  have hx6 : w6.cell? ⟨w4.heap.size, 0, none⟩ = some (.slice (some ⟨g4, 0, none⟩) zs.length zs.length) := cell_keep hbt hx5
  have hy6 : w6.cell? ⟨w5.heap.size, 0, none⟩ = some (.slice (some ⟨g5, 0, none⟩) ys.length ys.length) := cell_keep hb (by simp)
  have hz6 : w5.heap.size + 1 ≤ w6.heap.size := by have := hb.size; (try simp only [size_alloc] at this); omega
  have hqa6 : w.heap.size < w6.heap.size := by omega
  have hqb6 : w.heap.size + 1 < w6.heap.size := by omega
  have hqx6 : w4.heap.size < w6.heap.size := by omega
  have hqy6 : w5.heap.size < w6.heap.size := by omega
  have HX6 := Lib.hid (NewA.below HX5.out hbt)
  have HY6 := Lib.hid (NewA.below HY5.out hbt)
  have HB6 := Lib.hid (below_trans HB5.out hbt)
  clear ha5 hb5 hx5 HX5 HY5 HB5 hb hbt hqa5 hqb5 hqx5
  rw [HQ.out]
  go_wp2_with fail
  go_region_held3 (fun w' => w'.cell? ⟨w4.heap.size, 0, none⟩ = some (.slice (some ⟨g4, 0, none⟩) zs.length zs.length) ∧ w'.cell? ⟨w.heap.size, 0, none⟩ = some (.slice A zs.length c))
    (first | exact ⟨hx6, ha6⟩ | exact ⟨cell_keep hr0 (hx6), cell_keep hr0 (ha6)⟩ | exact ⟨cell_keep hr1 (cell_keep hr0 (hx6)), cell_keep hr1 (cell_keep hr0 (ha6))⟩)
    (first
      | (go_at_call 40; (with_reducible refine (toArena_any _ _ zs _ hs (HA.out.below HB6.out.drew)).mono ?_); rintro e u7_0 ⟨g7, rfl, hown1, hr0⟩)
      | (go_at_call 35; (with_reducible refine (eqArena_same _ _ _ _ zs _ hn (HX6.out.rd.drew.below hr0) (Rd.of_own hown1)).mono ?_); rintro e u7_1 ⟨rfl, hr1⟩))
  have hb := below_drew_trans (below_trans (hr0) hr1)
  clear hr0 hr1
  have hbt := hb
  have ha7 : u7_1.cell? ⟨w.heap.size, 0, none⟩ = some (.slice A zs.length c) := cell_keep hbt ha6
  have hb7 : u7_1.cell? ⟨w.heap.size + 1, 0, none⟩ = some (.slice A2 ys.length c2) := cell_keep hbt hb6
  have hx7 : u7_1.cell? ⟨w4.heap.size, 0, none⟩ = some (.slice (some ⟨g4, 0, none⟩) zs.length zs.length) := cell_keep hbt hx6
  have hy7 : u7_1.cell? ⟨w5.heap.size, 0, none⟩ = some (.slice (some ⟨g5, 0, none⟩) ys.length ys.length) := cell_keep hbt hy6
  have hz7 : w6.heap.size + 0 ≤ u7_1.heap.size := by have := hb.size; (try simp only [size_alloc] at this); omega
  have hqa7 : w.heap.size < u7_1.heap.size := by omega
  have hqb7 : w.heap.size + 1 < u7_1.heap.size := by omega
  have hqx7 : w4.heap.size < u7_1.heap.size := by omega
  have hqy7 : w5.heap.size < u7_1.heap.size := by omega
  have HX7 := Lib.hid (NewA.below HX6.out hbt)
  have HY7 := Lib.hid (NewA.below HY6.out hbt)
  have HB7 := Lib.hid (below_trans HB6.out hbt)
  clear ha6 hb6 hx6 hy6 HX6 HY6 HB6 hb hbt hqa6 hqb6 hqx6 hqy6
  clear hown1
  go_wp2_with fail
  go_region_held3 (fun w' => w'.cell? ⟨w5.heap.size, 0, none⟩ = some (.slice (some ⟨g5, 0, none⟩) ys.length ys.length) ∧ w'.cell? ⟨w.heap.size + 1, 0, none⟩ = some (.slice A2 ys.length c2))
    (first | exact ⟨hy7, hb7⟩ | exact ⟨cell_keep hr0 (hy7), cell_keep hr0 (hb7)⟩ | exact ⟨cell_keep hr1 (cell_keep hr0 (hy7)), cell_keep hr1 (cell_keep hr0 (hb7))⟩)
    (first
      | (go_at_call 40; (with_reducible refine (toArena_any _ _ ys _ hs2 (HA2.out.below HB7.out.drew)).mono ?_); rintro e u8_0 ⟨g8, rfl, hown1, hr0⟩)
      | (go_at_call 35; (with_reducible refine (eqArena_same _ _ _ _ ys _ hn2 (HY7.out.rd.drew.below hr0) (Rd.of_own hown1)).mono ?_); rintro e u8_1 ⟨rfl, hr1⟩))
  have hb := below_drew_trans (below_trans (hr0) hr1)
  clear hr0 hr1
  have hbt := hb
  have ha8 : u8_1.cell? ⟨w.heap.size, 0, none⟩ = some (.slice A zs.length c) := cell_keep hbt ha7
  have hb8 : u8_1.cell? ⟨w.heap.size + 1, 0, none⟩ = some (.slice A2 ys.length c2) := cell_keep hbt hb7
  have hx8 : u8_1.cell? ⟨w4.heap.size, 0, none⟩ = some (.slice (some ⟨g4, 0, none⟩) zs.length zs.length) := cell_keep hbt hx7
  have hy8 : u8_1.cell? ⟨w5.heap.size, 0, none⟩ = some (.slice (some ⟨g5, 0, none⟩) ys.length ys.length) := cell_keep hbt hy7
  have hz8 : u7_1.heap.size + 0 ≤ u8_1.heap.size := by have := hb.size; (try simp only [size_alloc] at this); omega
  have hqa8 : w.heap.size < u8_1.heap.size := by omega
  have hqb8 : w.heap.size + 1 < u8_1.heap.size := by omega
  have hqx8 : w4.heap.size < u8_1.heap.size := by omega
  have hqy8 : w5.heap.size < u8_1.heap.size := by omega
  have HX8 := Lib.hid (NewA.below HX7.out hbt)
  have HY8 := Lib.hid (NewA.below HY7.out hbt)
  have HB8 := Lib.hid (below_trans HB7.out hbt)
  clear ha7 hb7 hx7 hy7 HX7 HY7 HB7 hb hbt hqa7 hqb7 hqx7 hqy7
  clear hown1
  go_wp2
  go_ret
  exact ⟨rfl, HB8.out⟩
end Go.Proofs.Ytnahdbkdonbofaa
