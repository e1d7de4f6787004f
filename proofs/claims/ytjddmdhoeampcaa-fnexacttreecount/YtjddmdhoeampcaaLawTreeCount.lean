/-
  The walk of the law FnExactTreeCount.
-/
import Derived.Test.YtjddmdhoeampcaaCount
import Derived.Test.YtjddmdhoeampcaaHelpB
namespace Go.Proofs.Ytjddmdhoeampcaa
open Go.RowKit

set_option maxHeartbeats 1000000 in
theorem lawTreeCount_walk (A : Option Addr) (c : Nat) (zs : List Int) (w : World) (hn : zs.length ≤ maxLen) (hA : Rd w A zs) :
    Calls Try.prog 4 #[.agg #[.slice A zs.length c]] w fun e w' => e = .returned (.bool true) ∧ Below w.heap.size w w' := by
  have HA := Lib.hid hA; clear hA
  by_cases hbig : leftB 1048576 zs.length < 0
  · go_enter Try.func4, Try.ntmps4
    go_wp2_with fail
    refine (szArena_any _ _ _ _ _ hn (by decide) (by decide)).mono ?_
    rintro e w1 ⟨rfl, hb⟩
    have HB := Lib.hid hb; clear hb
    go_wp2
    go_ret
    exact ⟨rfl, below_trans (below_alloc _ _) HB.out⟩
  · have hs := leftB_small hbig
    go_enter Try.func4, Try.ntmps4
    go_wp2_with fail
    refine (szArena_any _ _ _ _ _ hn (by decide) (by decide)).mono ?_
    rintro e w1 ⟨rfl, hb⟩
    have hB1 := below_trans (below_alloc _ _) hb
    have hx : w1.cell? ⟨w.heap.size, 0, none⟩ = some (.slice A zs.length c) := cell_keep hb (by simp)
    have hz : w.heap.size < w1.heap.size := by have := hb.size; simp at this; omega
    have HB1 := Lib.hid hB1; clear hB1 hb
    go_wp2_with fail
    refine (toArena_any _ _ zs _ hs (HA.out.below HB1.out)).mono ?_
    rintro e w2 ⟨g, rfl, hown, hb⟩
    have HB2 := Lib.hid (below_trans HB1.out hb)
    have hx2 : w2.cell? ⟨w.heap.size, 0, none⟩ = some (.slice A zs.length c) := cell_keep hb hx
    have HR := Lib.hid (Rd.of_own hown)
    have hz2 : w.heap.size < w2.heap.size := by have := hb.size; omega
    clear hown hb hx hz HB1
    go_wp2_with fail
    refine (specCount_any _ _ zs _ hs HR.out).mono ?_
    rintro e w3 ⟨rfl, hb⟩
    have HB3 := Lib.hid (below_trans HB2.out hb)
    have hx3 : w3.cell? ⟨w.heap.size, 0, none⟩ = some (.slice A zs.length c) := cell_keep hb hx2
    have hz3 : w.heap.size < w3.heap.size := by have := hb.size; omega
    clear hb hx2 hz2 HB2 HR
    go_wp2_with fail
    refine (toArena_any _ _ zs _ hs (HA.out.below HB3.out)).mono ?_
    rintro e w4 ⟨g2, rfl, hown, hb⟩
    have HB4 := Lib.hid (below_trans HB3.out hb)
    have hx4 : w4.cell? ⟨w.heap.size, 0, none⟩ = some (.slice A zs.length c) := cell_keep hb hx3
    have HR := Lib.hid (Rd.of_own hown)
    have hz4 : w.heap.size < w4.heap.size := by have := hb.size; omega
    clear hown hb hx3 hz3 HB3
    go_wp2_with fail
    refine (implCount_any _ _ zs _ hs (HR.out.below (below_alloc _ _))).mono ?_
    rintro e w5 ⟨rfl, hb⟩
    have HB5 := Lib.hid (below_trans (below_trans HB4.out (below_alloc _ _)) hb)
    have hx5 : w5.cell? ⟨w.heap.size, 0, none⟩ = some (.slice A zs.length c) := cell_keep (below_trans (below_alloc _ _) hb) hx4
    have hy5 : w5.cell? ⟨w4.heap.size, 0, none⟩ = some (.slice (some ⟨g2, 0, none⟩) zs.length zs.length) := cell_keep hb (by simp)
    have HR5 := Lib.hid (HR.out.below (below_trans (below_alloc _ _) hb))
    have hz5 : w.heap.size < w5.heap.size := by have := hb.size; simp at this; omega
    have hz5' : w4.heap.size < w5.heap.size := by have := hb.size; simp at this; omega
    clear hb hx4 hz4 HB4 HR
    go_wp2_with fail
    have hmx : zs.length ≤ maxLen := hn
    have HM := Lib.hid hmx; clear hmx
    go_region_held3 (fun w' => w'.cell? ⟨w.heap.size, 0, none⟩ = some (.slice A zs.length c) ∧ w'.cell? ⟨w4.heap.size, 0, none⟩ = some (.slice (some ⟨g2, 0, none⟩) zs.length zs.length))
      (first | exact ⟨hx5, hy5⟩ | exact ⟨cell_keep hb6 hx5, cell_keep hb6 hy5⟩ | exact ⟨cell_keep hb7 (cell_keep hb6 hx5), cell_keep hb7 (cell_keep hb6 hy5)⟩)
      (first
        | (go_at_call 13; refine (toArena_any _ _ zs _ hs (HA.out.below HB5.out.drew)).mono ?_; rintro e w6 ⟨g3, rfl, hown6, hb6⟩)
        | (go_at_call 15; refine (eqArena_any _ _ _ _ zs zs _ HM.out HM.out (HR5.out.drew.below hb6) (Rd.of_own hown6)).mono ?_; rintro e w7 ⟨rfl, hb7⟩))
    have HB7 := Lib.hid (below_trans (below_trans HB5.out.drew hb6) hb7)
    have ht : decide (zs = zs) = true := decide_eq_true rfl
    clear hb6 hb7 hown6 hx5 hy5
    go_wp2
    go_ret
    exact ⟨rfl, HB7.out⟩
end Go.Proofs.Ytjddmdhoeampcaa
