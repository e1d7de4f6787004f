/-
  Parking (chapter 4): park, unpark and wake, the methods that are handed on.
-/
import Derived.Test.YtepjaahclcpaaaaPkA
namespace Go.Proofs.Ytepjaahclcpaaaa
open Go.RowKit

set_option maxHeartbeats 1000000 in
theorem park_idle (id st op arg pc til : Int) (per can : Bool) (r0 r1 r2 r3 r4 code res : Int) (w : World) (h1 : waitB op = false) :
    Calls Try.prog 38 #[.agg #[.int .i64 id, .int .i64 st, .int .i64 op, .int .i64 arg, .int .i64 pc, .int .i64 til, .bool per, .bool can, .int .i64 r0, .int .i64 r1, .int .i64 r2, .int .i64 r3, .int .i64 r4, .int .i64 code, .int .i64 res]] w fun e w' => e = .returned (.tuple #[.agg #[.int .i64 id, .int .i64 st, .int .i64 op, .int .i64 arg, .int .i64 pc, .int .i64 til, .bool per, .bool can, .int .i64 r0, .int .i64 r1, .int .i64 r2, .int .i64 r3, .int .i64 r4, .int .i64 code, .int .i64 res], .int .i64 10]) ∧ Below w.heap.size w w' := by
  go_enter Try.func38, Try.ntmps38
  go_wp2_with fail
  refine (mayWait_any _ _ _ _ _ _ _ _ _ _ _ _ _ _ _ _).mono ?_
  rintro e w1 ⟨rfl, hb⟩
  rw [h1]
  have HB1 := Lib.hid (below_trans (below_alloc2 _ _ _) hb)
  have HX1 := Lib.hid ((BoxT.two w _ _).below hb)
  have HR1 := Lib.hid ((BoxT.two' w _ _).below hb)
  clear hb
  clear h1
  go_wp2_with (first | (refine wpList_load_row rfl 25 _ rfl w.heap.size rfl 25 _ (0, 0) _ HX1.out Try.underlying25 rfl info_th ?_) | (refine wpList_store_row rfl 25 _ _ rfl (w.heap.size + 1) _ rfl rfl 25 _ HR1.out info_th rfl (one15 _ _ _ _ _ _ _ _ _ _ _ _ _ _ _) ?_))
  exact bodyPost_ret (results_th Try.results38 _ _ (w.heap.size + 1) _ _ rfl rfl (HR1.out.row _) rfl) rfl ⟨rfl, below_row HB1.out (by omega) _⟩

set_option maxHeartbeats 1000000 in
theorem park_parked (id st op arg pc til : Int) (per can : Bool) (r0 r1 r2 r3 r4 code res : Int) (w : World) (h1 : waitB op = true) (h2 : (st == 2) = true) :
    Calls Try.prog 38 #[.agg #[.int .i64 id, .int .i64 st, .int .i64 op, .int .i64 arg, .int .i64 pc, .int .i64 til, .bool per, .bool can, .int .i64 r0, .int .i64 r1, .int .i64 r2, .int .i64 r3, .int .i64 r4, .int .i64 code, .int .i64 res]] w fun e w' => e = .returned (.tuple #[.agg #[.int .i64 id, .int .i64 st, .int .i64 op, .int .i64 arg, .int .i64 pc, .int .i64 til, .bool per, .bool can, .int .i64 r0, .int .i64 r1, .int .i64 r2, .int .i64 r3, .int .i64 r4, .int .i64 code, .int .i64 res], .int .i64 11]) ∧ Below w.heap.size w w' := by
  go_enter Try.func38, Try.ntmps38
  go_wp2_with fail
  refine (mayWait_any _ _ _ _ _ _ _ _ _ _ _ _ _ _ _ _).mono ?_
  rintro e w1 ⟨rfl, hb⟩
  rw [h1]
  have HB1 := Lib.hid (below_trans (below_alloc2 _ _ _) hb)
  have HX1 := Lib.hid ((BoxT.two w _ _).below hb)
  have HR1 := Lib.hid ((BoxT.two' w _ _).below hb)
  clear hb
  clear h1
  go_wp2_with (refine wpList_load_row rfl 25 _ rfl w.heap.size rfl 25 _ (0, 0) _ HX1.out Try.underlying25 rfl info_th ?_)
  refine (isParked_any _ _ _ _ _ _ _ _ _ _ _ _ _ _ _ _).mono ?_
  rintro e w2 ⟨rfl, hb⟩
  rw [h2]
  have HB2 := Lib.hid (below_trans HB1.out hb)
  have HX2 := Lib.hid (HX1.out.below hb)
  have HR2 := Lib.hid (HR1.out.below hb)
  clear hb HB1 HX1 HR1
  clear h2
  go_wp2_with (first | (refine wpList_load_row rfl 25 _ rfl w.heap.size rfl 25 _ (0, 0) _ HX2.out Try.underlying25 rfl info_th ?_) | (refine wpList_store_row rfl 25 _ _ rfl (w.heap.size + 1) _ rfl rfl 25 _ HR2.out info_th rfl (one15 _ _ _ _ _ _ _ _ _ _ _ _ _ _ _) ?_))
  exact bodyPost_ret (results_th Try.results38 _ _ (w.heap.size + 1) _ _ rfl rfl (HR2.out.row _) rfl) rfl ⟨rfl, below_row HB2.out (by omega) _⟩

set_option maxHeartbeats 1000000 in
theorem park_permit (id st op arg pc til : Int) (per can : Bool) (r0 r1 r2 r3 r4 code res : Int) (w : World) (h1 : waitB op = true) (h2 : (st == 2) = false) (h3 : per = true) :
    Calls Try.prog 38 #[.agg #[.int .i64 id, .int .i64 st, .int .i64 op, .int .i64 arg, .int .i64 pc, .int .i64 til, .bool per, .bool can, .int .i64 r0, .int .i64 r1, .int .i64 r2, .int .i64 r3, .int .i64 r4, .int .i64 code, .int .i64 res]] w fun e w' => e = .returned (.tuple #[.agg #[.int .i64 id, .int .i64 st, .int .i64 op, .int .i64 arg, .int .i64 pc, .int .i64 til, .bool false, .bool can, .int .i64 r0, .int .i64 r1, .int .i64 r2, .int .i64 r3, .int .i64 r4, .int .i64 code, .int .i64 res], .int .i64 0]) ∧ Below w.heap.size w w' := by
  go_enter Try.func38, Try.ntmps38
  go_wp2_with fail
  refine (mayWait_any _ _ _ _ _ _ _ _ _ _ _ _ _ _ _ _).mono ?_
  rintro e w1 ⟨rfl, hb⟩
  rw [h1]
  have HB1 := Lib.hid (below_trans (below_alloc2 _ _ _) hb)
  have HX1 := Lib.hid ((BoxT.two w _ _).below hb)
  have HR1 := Lib.hid ((BoxT.two' w _ _).below hb)
  clear hb
  clear h1
  go_wp2_with (refine wpList_load_row rfl 25 _ rfl w.heap.size rfl 25 _ (0, 0) _ HX1.out Try.underlying25 rfl info_th ?_)
  refine (isParked_any _ _ _ _ _ _ _ _ _ _ _ _ _ _ _ _).mono ?_
  rintro e w2 ⟨rfl, hb⟩
  rw [h2]
  have HB2 := Lib.hid (below_trans HB1.out hb)
  have HX2 := Lib.hid (HX1.out.below hb)
  have HR2 := Lib.hid (HR1.out.below hb)
  clear hb HB1 HX1 HR1
  clear h2
  subst h3
  have hc : w2.cell? ⟨w.heap.size, 6, none⟩ = some (.bool true) := HX2.out.cell 6
  have hf := HX2.out.froz 6
  have HX3 : Hid (BoxT (w2.setCell ⟨w.heap.size, 6, none⟩ (.bool false)) w.heap.size #[.int .i64 id, .int .i64 st, .int .i64 op, .int .i64 arg, .int .i64 pc, .int .i64 til, .bool false, .bool can, .int .i64 r0, .int .i64 r1, .int .i64 r2, .int .i64 r3, .int .i64 r4, .int .i64 code, .int .i64 res]) := HX2.out.set 6 _
  have HR3 := Lib.hid (HR2.out.other ⟨w.heap.size, 6, none⟩ (.bool false) (by simp))
  have HB3 := Lib.hid (below_set (a := ⟨w.heap.size, 6, none⟩) (v := .bool false) HB2.out (Nat.le_refl _))
  clear HX2 HR2 HB2
  go_wp2_with (first | (refine wpList_load_row rfl 25 _ rfl w.heap.size rfl 25 _ (0, 0) _ HX3.out Try.underlying25 rfl info_th ?_) | (refine wpList_store_row rfl 25 _ _ rfl (w.heap.size + 1) _ rfl rfl 25 _ HR3.out info_th rfl (one15 _ _ _ _ _ _ _ _ _ _ _ _ _ _ _) ?_))
  exact bodyPost_ret (results_th Try.results38 _ _ (w.heap.size + 1) _ _ rfl rfl (HR3.out.row _) rfl) rfl ⟨rfl, below_row HB3.out (by omega) _⟩

set_option maxHeartbeats 1000000 in
theorem park_parks (id st op arg pc til : Int) (per can : Bool) (r0 r1 r2 r3 r4 code res : Int) (w : World) (h1 : waitB op = true) (h2 : (st == 2) = false) (h3 : per = false) :
    Calls Try.prog 38 #[.agg #[.int .i64 id, .int .i64 st, .int .i64 op, .int .i64 arg, .int .i64 pc, .int .i64 til, .bool per, .bool can, .int .i64 r0, .int .i64 r1, .int .i64 r2, .int .i64 r3, .int .i64 r4, .int .i64 code, .int .i64 res]] w fun e w' => e = .returned (.tuple #[.agg #[.int .i64 id, .int .i64 2, .int .i64 op, .int .i64 arg, .int .i64 pc, .int .i64 til, .bool per, .bool can, .int .i64 r0, .int .i64 r1, .int .i64 r2, .int .i64 r3, .int .i64 r4, .int .i64 code, .int .i64 res], .int .i64 0]) ∧ Below w.heap.size w w' := by
  go_enter Try.func38, Try.ntmps38
  go_wp2_with fail
  refine (mayWait_any _ _ _ _ _ _ _ _ _ _ _ _ _ _ _ _).mono ?_
  rintro e w1 ⟨rfl, hb⟩
  rw [h1]
  have HB1 := Lib.hid (below_trans (below_alloc2 _ _ _) hb)
  have HX1 := Lib.hid ((BoxT.two w _ _).below hb)
  have HR1 := Lib.hid ((BoxT.two' w _ _).below hb)
  clear hb
  clear h1
  go_wp2_with (refine wpList_load_row rfl 25 _ rfl w.heap.size rfl 25 _ (0, 0) _ HX1.out Try.underlying25 rfl info_th ?_)
  refine (isParked_any _ _ _ _ _ _ _ _ _ _ _ _ _ _ _ _).mono ?_
  rintro e w2 ⟨rfl, hb⟩
  rw [h2]
  have HB2 := Lib.hid (below_trans HB1.out hb)
  have HX2 := Lib.hid (HX1.out.below hb)
  have HR2 := Lib.hid (HR1.out.below hb)
  clear hb HB1 HX1 HR1
  clear h2
  subst h3
  have hc6 : w2.cell? ⟨w.heap.size, 6, none⟩ = some (.bool false) := HX2.out.cell 6
  have hc : w2.cell? ⟨w.heap.size, 1, none⟩ = some (.int .i64 st) := HX2.out.cell 1
  have hf := HX2.out.froz 1
  have HX3 : Hid (BoxT (w2.setCell ⟨w.heap.size, 1, none⟩ (.int .i64 2)) w.heap.size #[.int .i64 id, .int .i64 2, .int .i64 op, .int .i64 arg, .int .i64 pc, .int .i64 til, .bool false, .bool can, .int .i64 r0, .int .i64 r1, .int .i64 r2, .int .i64 r3, .int .i64 r4, .int .i64 code, .int .i64 res]) := HX2.out.set 1 _
  have HR3 := Lib.hid (HR2.out.other ⟨w.heap.size, 1, none⟩ (.int .i64 2) (by simp))
  have HB3 := Lib.hid (below_set (a := ⟨w.heap.size, 1, none⟩) (v := .int .i64 2) HB2.out (Nat.le_refl _))
  clear HX2 HR2 HB2
  go_wp2_with (first | (refine wpList_load_row rfl 25 _ rfl w.heap.size rfl 25 _ (0, 0) _ HX3.out Try.underlying25 rfl info_th ?_) | (refine wpList_store_row rfl 25 _ _ rfl (w.heap.size + 1) _ rfl rfl 25 _ HR3.out info_th rfl (one15 _ _ _ _ _ _ _ _ _ _ _ _ _ _ _) ?_))
  exact bodyPost_ret (results_th Try.results38 _ _ (w.heap.size + 1) _ _ rfl rfl (HR3.out.row _) rfl) rfl ⟨rfl, below_row HB3.out (by omega) _⟩

set_option maxHeartbeats 1000000 in
theorem wake_idle (id st op arg pc til : Int) (per can : Bool) (r0 r1 r2 r3 r4 code res : Int) (w : World) (h1 : (st == 2) = false) :
    Calls Try.prog 40 #[.agg #[.int .i64 id, .int .i64 st, .int .i64 op, .int .i64 arg, .int .i64 pc, .int .i64 til, .bool per, .bool can, .int .i64 r0, .int .i64 r1, .int .i64 r2, .int .i64 r3, .int .i64 r4, .int .i64 code, .int .i64 res]] w fun e w' => e = .returned (.tuple #[.agg #[.int .i64 id, .int .i64 st, .int .i64 op, .int .i64 arg, .int .i64 pc, .int .i64 til, .bool per, .bool can, .int .i64 r0, .int .i64 r1, .int .i64 r2, .int .i64 r3, .int .i64 r4, .int .i64 code, .int .i64 res], .int .i64 10]) ∧ Below w.heap.size w w' := by
  go_enter Try.func40, Try.ntmps40
  go_wp2_with fail
  refine (isParked_any _ _ _ _ _ _ _ _ _ _ _ _ _ _ _ _).mono ?_
  rintro e w1 ⟨rfl, hb⟩
  rw [h1]
  have HB1 := Lib.hid (below_trans (below_alloc2 _ _ _) hb)
  have HX1 := Lib.hid ((BoxT.two w _ _).below hb)
  have HR1 := Lib.hid ((BoxT.two' w _ _).below hb)
  clear hb
  clear h1
  go_wp2_with (first | (refine wpList_load_row rfl 25 _ rfl w.heap.size rfl 25 _ (0, 0) _ HX1.out Try.underlying25 rfl info_th ?_) | (refine wpList_store_row rfl 25 _ _ rfl (w.heap.size + 1) _ rfl rfl 25 _ HR1.out info_th rfl (one15 _ _ _ _ _ _ _ _ _ _ _ _ _ _ _) ?_))
  exact bodyPost_ret (results_th Try.results40 _ _ (w.heap.size + 1) _ _ rfl rfl (HR1.out.row _) rfl) rfl ⟨rfl, below_row HB1.out (by omega) _⟩

set_option maxHeartbeats 1000000 in
theorem wake_ok (id st op arg pc til : Int) (per can : Bool) (r0 r1 r2 r3 r4 code res : Int) (w : World) (h1 : (st == 2) = true) :
    Calls Try.prog 40 #[.agg #[.int .i64 id, .int .i64 st, .int .i64 op, .int .i64 arg, .int .i64 pc, .int .i64 til, .bool per, .bool can, .int .i64 r0, .int .i64 r1, .int .i64 r2, .int .i64 r3, .int .i64 r4, .int .i64 code, .int .i64 res]] w fun e w' => e = .returned (.tuple #[.agg #[.int .i64 id, .int .i64 (frB st), .int .i64 op, .int .i64 arg, .int .i64 pc, .int .i64 til, .bool per, .bool can, .int .i64 r0, .int .i64 r1, .int .i64 r2, .int .i64 r3, .int .i64 r4, .int .i64 code, .int .i64 res], .int .i64 0]) ∧ Below w.heap.size w w' := by
  go_enter Try.func40, Try.ntmps40
  go_wp2_with fail
  refine (isParked_any _ _ _ _ _ _ _ _ _ _ _ _ _ _ _ _).mono ?_
  rintro e w1 ⟨rfl, hb⟩
  rw [h1]
  have HB1 := Lib.hid (below_trans (below_alloc2 _ _ _) hb)
  have HX1 := Lib.hid ((BoxT.two w _ _).below hb)
  have HR1 := Lib.hid ((BoxT.two' w _ _).below hb)
  clear hb
  clear h1
  go_wp2_with (refine wpList_load_row rfl 25 _ rfl w.heap.size rfl 25 _ (0, 0) _ HX1.out Try.underlying25 rfl info_th ?_)
  refine (freed_any _ _ _ _ _ _ _ _ _ _ _ _ _ _ _ _).mono ?_
  rintro e w2 ⟨rfl, hb⟩
  have HB2 := Lib.hid (below_trans HB1.out hb)
  have HX2 := Lib.hid (HX1.out.below hb)
  have HR2 := Lib.hid (HR1.out.below hb)
  clear hb HB1 HX1 HR1
  go_wp2_with (first | (refine wpList_load_row rfl 25 _ rfl w.heap.size rfl 25 _ (0, 0) _ HX2.out Try.underlying25 rfl info_th ?_) | (refine wpList_store_row rfl 25 _ _ rfl (w.heap.size + 1) _ rfl rfl 25 _ HR2.out info_th rfl (one15 _ _ _ _ _ _ _ _ _ _ _ _ _ _ _) ?_))
  exact bodyPost_ret (results_th Try.results40 _ _ (w.heap.size + 1) _ _ rfl rfl (HR2.out.row _) rfl) rfl ⟨rfl, below_row HB2.out (by omega) _⟩

set_option maxHeartbeats 1000000 in
theorem unpark_parked (id st op arg pc til : Int) (per can : Bool) (r0 r1 r2 r3 r4 code res : Int) (w : World) (h1 : (st == 2) = true) :
    Calls Try.prog 39 #[.agg #[.int .i64 id, .int .i64 st, .int .i64 op, .int .i64 arg, .int .i64 pc, .int .i64 til, .bool per, .bool can, .int .i64 r0, .int .i64 r1, .int .i64 r2, .int .i64 r3, .int .i64 r4, .int .i64 code, .int .i64 res]] w fun e w' => e = .returned (.tuple #[.agg #[.int .i64 id, .int .i64 (frB st), .int .i64 op, .int .i64 arg, .int .i64 pc, .int .i64 til, .bool per, .bool can, .int .i64 r0, .int .i64 r1, .int .i64 r2, .int .i64 r3, .int .i64 r4, .int .i64 code, .int .i64 res], .int .i64 0]) ∧ Below w.heap.size w w' := by
  go_enter Try.func39, Try.ntmps39
  go_wp2_with fail
  refine (isParked_any _ _ _ _ _ _ _ _ _ _ _ _ _ _ _ _).mono ?_
  rintro e w1 ⟨rfl, hb⟩
  rw [h1]
  have HB1 := Lib.hid (below_trans (below_alloc2 _ _ _) hb)
  have HX1 := Lib.hid ((BoxT.two w _ _).below hb)
  have HR1 := Lib.hid ((BoxT.two' w _ _).below hb)
  clear hb
  clear h1
  go_wp2_with (refine wpList_load_row rfl 25 _ rfl w.heap.size rfl 25 _ (0, 0) _ HX1.out Try.underlying25 rfl info_th ?_)
  refine (freed_any _ _ _ _ _ _ _ _ _ _ _ _ _ _ _ _).mono ?_
  rintro e w2 ⟨rfl, hb⟩
  have HB2 := Lib.hid (below_trans HB1.out hb)
  have HX2 := Lib.hid (HX1.out.below hb)
  have HR2 := Lib.hid (HR1.out.below hb)
  clear hb HB1 HX1 HR1
  go_wp2_with (first | (refine wpList_load_row rfl 25 _ rfl w.heap.size rfl 25 _ (0, 0) _ HX2.out Try.underlying25 rfl info_th ?_) | (refine wpList_store_row rfl 25 _ _ rfl (w.heap.size + 1) _ rfl rfl 25 _ HR2.out info_th rfl (one15 _ _ _ _ _ _ _ _ _ _ _ _ _ _ _) ?_))
  exact bodyPost_ret (results_th Try.results39 _ _ (w.heap.size + 1) _ _ rfl rfl (HR2.out.row _) rfl) rfl ⟨rfl, below_row HB2.out (by omega) _⟩

set_option maxHeartbeats 1000000 in
theorem unpark_other (id st op arg pc til : Int) (per can : Bool) (r0 r1 r2 r3 r4 code res : Int) (w : World) (h1 : (st == 2) = false) :
    Calls Try.prog 39 #[.agg #[.int .i64 id, .int .i64 st, .int .i64 op, .int .i64 arg, .int .i64 pc, .int .i64 til, .bool per, .bool can, .int .i64 r0, .int .i64 r1, .int .i64 r2, .int .i64 r3, .int .i64 r4, .int .i64 code, .int .i64 res]] w fun e w' => e = .returned (.tuple #[.agg #[.int .i64 id, .int .i64 st, .int .i64 op, .int .i64 arg, .int .i64 pc, .int .i64 til, .bool (waitB op), .bool can, .int .i64 r0, .int .i64 r1, .int .i64 r2, .int .i64 r3, .int .i64 r4, .int .i64 code, .int .i64 res], .int .i64 0]) ∧ Below w.heap.size w w' := by
  go_enter Try.func39, Try.ntmps39
  go_wp2_with fail
  refine (isParked_any _ _ _ _ _ _ _ _ _ _ _ _ _ _ _ _).mono ?_
  rintro e w1 ⟨rfl, hb⟩
  rw [h1]
  have HB1 := Lib.hid (below_trans (below_alloc2 _ _ _) hb)
  have HX1 := Lib.hid ((BoxT.two w _ _).below hb)
  have HR1 := Lib.hid ((BoxT.two' w _ _).below hb)
  clear hb
  clear h1
  go_wp2_with (refine wpList_load_row rfl 25 _ rfl w.heap.size rfl 25 _ (0, 0) _ HX1.out Try.underlying25 rfl info_th ?_)
  refine (mayWait_any _ _ _ _ _ _ _ _ _ _ _ _ _ _ _ _).mono ?_
  rintro e w2 ⟨rfl, hb⟩
  have HB2 := Lib.hid (below_trans HB1.out hb)
  have HX2 := Lib.hid (HX1.out.below hb)
  have HR2 := Lib.hid (HR1.out.below hb)
  clear hb HB1 HX1 HR1
  have hc : w2.cell? ⟨w.heap.size, 6, none⟩ = some (.bool per) := HX2.out.cell 6
  have hf := HX2.out.froz 6
  have HX3 : Hid (BoxT (w2.setCell ⟨w.heap.size, 6, none⟩ (.bool (waitB op))) w.heap.size #[.int .i64 id, .int .i64 st, .int .i64 op, .int .i64 arg, .int .i64 pc, .int .i64 til, .bool (waitB op), .bool can, .int .i64 r0, .int .i64 r1, .int .i64 r2, .int .i64 r3, .int .i64 r4, .int .i64 code, .int .i64 res]) := HX2.out.set 6 _
  have HR3 := Lib.hid (HR2.out.other ⟨w.heap.size, 6, none⟩ (.bool (waitB op)) (by simp))
  have HB3 := Lib.hid (below_set (a := ⟨w.heap.size, 6, none⟩) (v := .bool (waitB op)) HB2.out (Nat.le_refl _))
  clear HX2 HR2 HB2
  go_wp2_with (first | (refine wpList_load_row rfl 25 _ rfl w.heap.size rfl 25 _ (0, 0) _ HX3.out Try.underlying25 rfl info_th ?_) | (refine wpList_store_row rfl 25 _ _ rfl (w.heap.size + 1) _ rfl rfl 25 _ HR3.out info_th rfl (one15 _ _ _ _ _ _ _ _ _ _ _ _ _ _ _) ?_))
  exact bodyPost_ret (results_th Try.results39 _ _ (w.heap.size + 1) _ _ rfl rfl (HR3.out.row _) rfl) rfl ⟨rfl, below_row HB3.out (by omega) _⟩

end Go.Proofs.Ytepjaahclcpaaaa
