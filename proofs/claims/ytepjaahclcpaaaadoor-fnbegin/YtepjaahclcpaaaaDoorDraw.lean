/-
  The laws' draws of threads and waiters: ThreadDrawn, WaiterDrawn.
-/
import Derived.Test.YtepjaahclcpaaaaDoorSrcF
import Derived.Test.YtepjaahclcpaaaaDoorBoxS
import Derived.Test.YtepjaahclcpaaaaDoorRow15
import Derived.Test.YtepjaahclcpaaaaDoorThD
namespace Go.Proofs.YtepjaahclcpaaaaDoor
open Go.RowKit

theorem BoxT.grown {w w' : World} {k : Nat} {cs : Array Value} {row : Option Nat} (h : BoxT w k cs) (hg : w.grownBy w' row) (hne : some k ≠ row) : BoxT w' k cs := (hg.block k h.lt hne).trans h

/-- The results of a function that hands a thread back. -/
theorem results_one {fn : Func} {p : Tmp} (h : fn.results = #[.cell p 25]) (tmps : Array Value) (w : World) (g : Nat) (cs : Array Value)
    (hp : tmps.getD p undef = .pointer (some ⟨g, 0, none⟩)) (hg : BoxT w g cs) (hs : cs.size = 15) :
    (results fn tmps).run Tryd.prog w = .ok (.agg cs) w :=
  results_cell_row h tmps w g 25 cs (0, 0) _ hp hg Tryd.underlying25 rfl (by rw [hs]; exact info_th)

theorem grown_set {w a : World} {g b i : Nat} {v : Value} (h : w.grownBy a (some g)) (hb : w.heap.size ≤ b) : w.grownBy (a.setCell ⟨b, i, none⟩ v) (some g) :=
  grown_new h (grown_setCell a b i v) (fun q hq => by simp only [Option.some.injEq] at hq; omega)
theorem grown_row {w a : World} {g b : Nat} {cs : Array Value} (h : w.grownBy a (some g)) (hb : w.heap.size ≤ b) : w.grownBy (a.setRow b cs) (some g) :=
  ⟨h.os, h.tape, h.output, by rw [size_setRow]; exact h.size, fun i hi hne => (setRow_other a b i cs (by omega)).trans (h.block i hi hne)⟩
theorem SrcF.row {w : World} {g B : Nat} {A : Option Addr} {n c k : Nat} (h : SrcF w g B A n c k) {b : Nat} (hb : g < b) (cs : Array Value) : SrcF (w.setRow b cs) g B A n c k :=
  Src.kept h (setRow_other w b g cs (by omega)) (fun j hj => setRow_other w b j cs (by have := Src.high h; omega))

theorem th_idle_ok {id x y : Int} (h0 : 0 ≤ id) (h1 : id < 4) (hx0 : 0 ≤ x) (hx1 : x < 20) (hy0 : 0 ≤ y) (hy1 : y < 90) : thB id 0 0 0 0 0 false false 0 0 0 0 0 x y = true := by
  rw [thB_idle _ _ _ _ _ _ _ _ _ _ _ _ _ _ (inB_iff.2 (by omega))]
  unfold idleB
  rw [inB_iff.2 (by omega), inB_iff.2 (by omega)]; rfl
theorem th_call_ok {id o a u p : Int} {b1 b2 : Bool} (h0 : 0 ≤ id) (h1 : id < 4) (ho : opB o = true) (ha : argB o a = true) (hu : tilB o u = true) (hp0 : 0 ≤ p) (hp1 : p < 6) : thB id 1 o a p u b1 b2 0 0 0 0 0 0 0 = true := by
  rw [thB_runs _ _ _ _ _ _ _ _ _ _ _ _ _ _ (inB_iff.2 (by omega))]
  unfold callB
  rw [ho, ha, hu, inB_iff.2 (by omega)]; rfl
theorem th_park_ok {id o a u p : Int} {b1 b2 : Bool} (h0 : 0 ≤ id) (h1 : id < 4) (ho : opB o = true) (ha : argB o a = true) (hu : tilB o u = true) (hp0 : 0 ≤ p) (hp1 : p < 6) (hw : waitB o = true) : thB id 2 o a p u b1 b2 0 0 0 0 0 0 0 = true := by
  rw [thB_parked _ _ _ _ _ _ _ _ _ _ _ _ _ _ (inB_iff.2 (by omega)), hw]
  unfold callB
  rw [ho, ha, hu, inB_iff.2 (by omega)]; rfl

/-- What a drawn thread is. -/
def ThreadPost (w : World) (g B : Nat) (A : Option Addr) (n c k : Nat) (e : Ending) (w' : World) : Prop :=
  ∃ (id st op arg pc til : Int) (per can : Bool) (r0 r1 r2 r3 r4 code res : Int), thB id st op arg pc til per can r0 r1 r2 r3 r4 code res = true ∧ e = .returned (.agg #[.int .i64 id, .int .i64 st, .int .i64 op, .int .i64 arg, .int .i64 pc, .int .i64 til, .bool per, .bool can, .int .i64 r0, .int .i64 r1, .int .i64 r2, .int .i64 r3, .int .i64 r4, .int .i64 code, .int .i64 res]) ∧ SrcF w' g B A n c k ∧ w.grownBy w' (some g)

set_option maxHeartbeats 4000000 in
theorem threadF (g B : Nat) (A : Option Addr) (n c k : Nat) (w : World) (hn : n ≤ maxLen) (hS : SrcF w g B A n c (k + 12)) :
    Calls Tryd.prog 13 #[.pointer (some ⟨g, 0, none⟩)] w (ThreadPost w g B A n c k) := by
  have HS := Lib.hid (hS.below (below_alloc w (.cells #[.int .i64 0, .int .i64 0, .int .i64 0, .int .i64 0, .int .i64 0, .int .i64 0, .bool false, .bool false, .int .i64 0, .int .i64 0, .int .i64 0, .int .i64 0, .int .i64 0, .int .i64 0, .int .i64 0] 25)))
  have hgw := hS.lt
  clear hS
  have HN := Lib.hid hn; clear hn
  go_enter Tryd.func13, Tryd.ntmps13
  go_wp2_with fail
  refine (nextF g B A n c (k + 11) 4 _ HN.out (by decide) (by decide) HS.out).mono ?_
  rintro e w1 ⟨id, hi0, hi1, rfl, hS1, hg1⟩
  have hz1 : w.heap.size + 1 ≤ w1.heap.size := by have := hg1.size; simp only [size_alloc] at this; exact this
  have HR1 := Lib.hid ((BoxT.new w #[.int .i64 0, .int .i64 0, .int .i64 0, .int .i64 0, .int .i64 0, .int .i64 0, .bool false, .bool false, .int .i64 0, .int .i64 0, .int .i64 0, .int .i64 0, .int .i64 0, .int .i64 0, .int .i64 0]).grown hg1 (by simp; omega))
  have HG1 := Lib.hid (grown_trans (grown_below (some g) (below_alloc w _)) hg1)
  have HS1 := Lib.hid (hS1.below (below_alloc w1 (.cells #[.int .i64 id, .int .i64 0, .int .i64 0, .int .i64 0, .int .i64 0, .int .i64 0, .bool false, .bool false, .int .i64 0, .int .i64 0, .int .i64 0, .int .i64 0, .int .i64 0, .int .i64 0, .int .i64 0] 25)))
  clear hS1 hg1 HS
  go_wp2_with fail
  refine (chanceF g B A n c (k + 10) 4 _ HN.out (by decide) (by decide) HS1.out).mono ?_
  rintro e w2 ⟨b, rfl, hS2, hg2⟩
  have hz2 : w1.heap.size + 1 ≤ w2.heap.size := by have := hg2.size; simp only [size_alloc] at this; exact this
  have HX2 := Lib.hid ((BoxT.new w1 #[.int .i64 id, .int .i64 0, .int .i64 0, .int .i64 0, .int .i64 0, .int .i64 0, .bool false, .bool false, .int .i64 0, .int .i64 0, .int .i64 0, .int .i64 0, .int .i64 0, .int .i64 0, .int .i64 0]).grown hg2 (by simp; omega))
  have HR2 := Lib.hid ((HR1.out.below (below_alloc w1 _)).grown hg2 (by simp; omega))
  have HG2 := Lib.hid (grown_trans (grown_trans HG1.out (grown_below (some g) (below_alloc w1 _))) hg2)
  have HS2 := Lib.hid hS2
  clear hS2 hg2 HS1 HR1 HG1
  cases b
  rotate_left
  · go_wp2_with fail
    refine (nextF g B A n c (k + 9) 20 _ HN.out (by decide) (by decide) HS2.out).mono ?_
    rintro e w3 ⟨x, hx0, hx1, rfl, hS3, hg3⟩
    have HX3 := Lib.hid (HX2.out.grown hg3 (by simp; omega))
    have HR3 := Lib.hid (HR2.out.grown hg3 (by simp; omega))
    have HG3 := Lib.hid (grown_set (b := w1.heap.size) (i := 13) (v := .int .i64 x) (grown_trans HG2.out hg3) (by omega))
    have HS3 := Lib.hid (hS3.set (b := w1.heap.size) (by omega) 13 (.int .i64 x))
    have hc3 : w3.cell? ⟨w1.heap.size, 13, none⟩ = some (.int .i64 0) := HX3.out.cell 13
    have hf3 := HX3.out.froz 13
    have hz3 : w2.heap.size ≤ w3.heap.size := hg3.size
    clear hS3 hg3 HS2 HG2 HX2 HR2
    go_wp2_with fail
    refine (nextF g B A n c (k + 8) 90 _ HN.out (by decide) (by decide) HS3.out).mono ?_
    rintro e w4 ⟨y, hy0, hy1, rfl, hS4, hg4⟩
    have HX4 : Hid (BoxT w4 w1.heap.size #[.int .i64 id, .int .i64 0, .int .i64 0, .int .i64 0, .int .i64 0, .int .i64 0, .bool false, .bool false, .int .i64 0, .int .i64 0, .int .i64 0, .int .i64 0, .int .i64 0, .int .i64 x, .int .i64 0]) := (HX3.out.set 13 (.int .i64 x)).grown hg4 (by simp; omega)
    have HR4 := Lib.hid ((HR3.out.other ⟨w1.heap.size, 13, none⟩ (.int .i64 x) (by simp; omega)).grown hg4 (by simp; omega))
    have hc4 : w4.cell? ⟨w1.heap.size, 14, none⟩ = some (.int .i64 0) := HX4.out.cell 14
    have hf4 := HX4.out.froz 14
    have HX5 : Hid (BoxT (w4.setCell ⟨w1.heap.size, 14, none⟩ (.int .i64 y)) w1.heap.size #[.int .i64 id, .int .i64 0, .int .i64 0, .int .i64 0, .int .i64 0, .int .i64 0, .bool false, .bool false, .int .i64 0, .int .i64 0, .int .i64 0, .int .i64 0, .int .i64 0, .int .i64 x, .int .i64 y]) := HX4.out.set 14 _
    have HR5 := Lib.hid (HR4.out.other ⟨w1.heap.size, 14, none⟩ (.int .i64 y) (by simp; omega))
    have HG5 := Lib.hid (grown_set (b := w1.heap.size) (i := 14) (v := .int .i64 y) (grown_trans HG3.out hg4) (by omega))
    have HS5 := Lib.hid (hS4.set (b := w1.heap.size) (by omega) 14 (.int .i64 y))
    clear hS4 hg4 HS3 HG3 HX3 HR3 hc3 hf3
    go_wp2_with (first | (refine wpList_load_row rfl 25 _ rfl w1.heap.size rfl 25 _ (0, 0) _ HX5.out Tryd.underlying25 rfl info_th ?_) | (refine wpList_store_row rfl 25 _ _ rfl w.heap.size _ rfl rfl 25 _ HR5.out info_th rfl (one15 _ _ _ _ _ _ _ _ _ _ _ _ _ _ _) ?_))
    exact bodyPost_ret (results_one Tryd.results13 _ _ w.heap.size _ rfl (HR5.out.row _) rfl) rfl ⟨_, _, _, _, _, _, _, _, _, _, _, _, _, _, _, th_idle_ok hi0 hi1 hx0 hx1 hy0 hy1, rfl, (HS5.out.row hgw _).mono (by omega), grown_row HG5.out (Nat.le_refl _)⟩
  · go_wp2_with fail
    refine (callF g B A n c (k + 6) _ HN.out HS2.out).mono ?_
    rintro e w3 ⟨o, a, u, ho, ha, hu, rfl, hS3, hg3⟩
    have HO := Lib.hid ho; have HA := Lib.hid ha; have HU := Lib.hid hu; clear ho ha hu
    have HX3 := Lib.hid (HX2.out.grown hg3 (by simp; omega))
    have HR3 := Lib.hid (HR2.out.grown hg3 (by simp; omega))
    have HG3 := Lib.hid (grown_trans HG2.out hg3)
    have HS3 := Lib.hid hS3
    have hx3 : w3.cell? ⟨w1.heap.size, 0, none⟩ = some (.int .i64 id) := HX3.out.cell 0
    have hz3 : w2.heap.size ≤ w3.heap.size := hg3.size
    clear hS3 hg3 HS2 HG2 HX2 HR2
    have HNX : Hid (some w1.heap.size ≠ some g) := by intro e; simp only [Option.some.injEq] at e; omega
    have HNR : Hid (some w.heap.size ≠ some g) := by intro e; simp only [Option.some.injEq] at e; omega
    go_wp2_with fail
    go_region_law (first
      | (go_simp; go_at_call 30; (with_reducible refine (chanceF g B A n c (k + 5) 4 w3.drew HN.out (by decide) (by decide) (HS3.out.heap (w' := w3.drew) rfl)).mono ?_); rintro e w4 ⟨b1, rfl, hS4, hg4⟩; have HX4 := Lib.hid (BoxT.grown (w := w3.drew) HX3.out hg4 HNX.out); have HR4 := Lib.hid (BoxT.grown (w := w3.drew) HR3.out hg4 HNR.out); have HG4 := Lib.hid (grown_trans (grown_drew HG3.out) hg4); have HS4 := Lib.hid hS4; have hx4 : w4.cell? ⟨w1.heap.size, 0, none⟩ = some (.int .i64 id) := HX4.out.cell 0; clear hS4 hg4)
      | (go_simp; go_at_call 30; (with_reducible refine (chanceF g B A n c (k + 4) 5 w4 HN.out (by decide) (by decide) HS4.out).mono ?_); rintro e w5 ⟨b2, rfl, hS5, hg5⟩; have HX5 := Lib.hid (HX4.out.grown hg5 HNX.out); have HR5 := Lib.hid (HR4.out.grown hg5 HNR.out); have HG5 := Lib.hid (grown_trans HG4.out hg5); have HS5 := Lib.hid hS5; have hx5 : w5.cell? ⟨w1.heap.size, 0, none⟩ = some (.int .i64 id) := HX5.out.cell 0; clear hS5 hg5)
      | (go_simp; go_at_call 29; (with_reducible refine (nextF g B A n c (k + 3) 6 w5 HN.out (by decide) (by decide) HS5.out).mono ?_); rintro e w6 ⟨q, hq0, hq1, rfl, hS6, hg6⟩; have HX6 := Lib.hid (HX5.out.grown hg6 HNX.out); have HR6 := Lib.hid (HR5.out.grown hg6 HNR.out); have HG6 := Lib.hid (grown_trans HG5.out hg6); have HS6 := Lib.hid hS6; have hc6 := HX6.out.cell; have hf6 := HX6.out.froz; clear hS6 hg6))
    all_goals
      rw [row15 HX6.out]
      have HX7 := Lib.hid (HX6.out.row #[.int .i64 id, .int .i64 1, .int .i64 o, .int .i64 a, .int .i64 q, .int .i64 u, .bool b1, .bool b2, .int .i64 0, .int .i64 0, .int .i64 0, .int .i64 0, .int .i64 0, .int .i64 0, .int .i64 0])
      have HR7 := Lib.hid (HR6.out.rowOther (b := w1.heap.size) (by omega) #[.int .i64 id, .int .i64 1, .int .i64 o, .int .i64 a, .int .i64 q, .int .i64 u, .bool b1, .bool b2, .int .i64 0, .int .i64 0, .int .i64 0, .int .i64 0, .int .i64 0, .int .i64 0, .int .i64 0])
      have HS7 := Lib.hid (HS6.out.row (b := w1.heap.size) (by omega) #[.int .i64 id, .int .i64 1, .int .i64 o, .int .i64 a, .int .i64 q, .int .i64 u, .bool b1, .bool b2, .int .i64 0, .int .i64 0, .int .i64 0, .int .i64 0, .int .i64 0, .int .i64 0, .int .i64 0])
      have HG7 := Lib.hid (grown_row (b := w1.heap.size) (cs := #[.int .i64 id, .int .i64 1, .int .i64 o, .int .i64 a, .int .i64 q, .int .i64 u, .bool b1, .bool b2, .int .i64 0, .int .i64 0, .int .i64 0, .int .i64 0, .int .i64 0, .int .i64 0, .int .i64 0]) HG6.out (by omega))
      generalize w6.setRow w1.heap.size #[.int .i64 id, .int .i64 1, .int .i64 o, .int .i64 a, .int .i64 q, .int .i64 u, .bool b1, .bool b2, .int .i64 0, .int .i64 0, .int .i64 0, .int .i64 0, .int .i64 0, .int .i64 0, .int .i64 0] = w7 at HX7 HR7 HS7 HG7 ⊢
      clear hc6 hf6 HX6 HR6 HS6 HG6 HX5 HR5 HS5 HG5 HX4 HR4 HS4 HG4 HX3 HR3 HS3 HG3 hx3 hx4 hx5
      cases hw : waitB o
      · go_wp2_with (first | (go_at_call 24; refine (specIsWaiting_any _ _).mono ?_; rintro e w' ⟨rfl, rfl⟩) | (refine wpList_load_row rfl 25 _ rfl w1.heap.size rfl 25 _ (0, 0) _ HX7.out Tryd.underlying25 rfl info_th ?_) | (refine wpList_store_row rfl 25 _ _ rfl w.heap.size _ rfl rfl 25 _ HR7.out info_th rfl (one15 _ _ _ _ _ _ _ _ _ _ _ _ _ _ _) ?_))
        exact bodyPost_ret (results_one Tryd.results13 _ _ w.heap.size _ rfl (HR7.out.row _) rfl) rfl ⟨_, _, _, _, _, _, _, _, _, _, _, _, _, _, _, th_call_ok hi0 hi1 HO.out HA.out HU.out hq0 hq1, rfl, (HS7.out.row hgw _).mono (by omega), grown_row HG7.out (Nat.le_refl _)⟩
      · go_wp2_with (go_at_call 24; refine (specIsWaiting_any _ _).mono ?_; rintro e w' ⟨rfl, rfl⟩)
        refine (chanceF g B A n c (k + 2) 3 _ HN.out (by decide) (by decide) HS7.out).mono ?_
        rintro e w8 ⟨b3, rfl, hS8, hg8⟩
        have HX8 := Lib.hid (HX7.out.grown hg8 HNX.out)
        have HR8 := Lib.hid (HR7.out.grown hg8 HNR.out)
        have HG8 := Lib.hid (grown_trans HG7.out hg8)
        have HS8 := Lib.hid hS8
        clear hS8 hg8 HX7 HR7 HS7 HG7
        cases b3
        · go_wp2_with (first | (go_at_call 24; refine (specIsWaiting_any _ _).mono ?_; rintro e w' ⟨rfl, rfl⟩) | (refine wpList_load_row rfl 25 _ rfl w1.heap.size rfl 25 _ (0, 0) _ HX8.out Tryd.underlying25 rfl info_th ?_) | (refine wpList_store_row rfl 25 _ _ rfl w.heap.size _ rfl rfl 25 _ HR8.out info_th rfl (one15 _ _ _ _ _ _ _ _ _ _ _ _ _ _ _) ?_))
          exact bodyPost_ret (results_one Tryd.results13 _ _ w.heap.size _ rfl (HR8.out.row _) rfl) rfl ⟨_, _, _, _, _, _, _, _, _, _, _, _, _, _, _, th_call_ok hi0 hi1 HO.out HA.out HU.out hq0 hq1, rfl, (HS8.out.row hgw _).mono (by omega), grown_row HG8.out (Nat.le_refl _)⟩
        · have hc8 : w8.cell? ⟨w1.heap.size, 1, none⟩ = some (.int .i64 1) := HX8.out.cell 1
          have hf8 := HX8.out.froz 1
          have HX9 : Hid (BoxT (w8.setCell ⟨w1.heap.size, 1, none⟩ (.int .i64 2)) w1.heap.size #[.int .i64 id, .int .i64 2, .int .i64 o, .int .i64 a, .int .i64 q, .int .i64 u, .bool b1, .bool b2, .int .i64 0, .int .i64 0, .int .i64 0, .int .i64 0, .int .i64 0, .int .i64 0, .int .i64 0]) := HX8.out.set 1 _
          have HR9 := Lib.hid (HR8.out.other ⟨w1.heap.size, 1, none⟩ (.int .i64 2) (by simp; omega))
          have HS9 := Lib.hid (HS8.out.set (b := w1.heap.size) (by omega) 1 (.int .i64 2))
          have HG9 := Lib.hid (grown_set (b := w1.heap.size) (i := 1) (v := .int .i64 2) HG8.out (by omega))
          go_wp2_with (first | (go_at_call 24; refine (specIsWaiting_any _ _).mono ?_; rintro e w' ⟨rfl, rfl⟩) | (refine wpList_load_row rfl 25 _ rfl w1.heap.size rfl 25 _ (0, 0) _ HX9.out Tryd.underlying25 rfl info_th ?_) | (refine wpList_store_row rfl 25 _ _ rfl w.heap.size _ rfl rfl 25 _ HR9.out info_th rfl (one15 _ _ _ _ _ _ _ _ _ _ _ _ _ _ _) ?_))
          exact bodyPost_ret (results_one Tryd.results13 _ _ w.heap.size _ rfl (HR9.out.row _) rfl) rfl ⟨_, _, _, _, _, _, _, _, _, _, _, _, _, _, _, th_park_ok hi0 hi1 HO.out HA.out HU.out hq0 hq1 hw, rfl, (HS9.out.row hgw _).mono (by omega), grown_row HG9.out (Nat.le_refl _)⟩
end Go.Proofs.YtepjaahclcpaaaaDoor
