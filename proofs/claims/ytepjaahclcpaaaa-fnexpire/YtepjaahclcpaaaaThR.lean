/-
  Threads (chapter 3): CancelThread, the program's and the model's.
-/
import Derived.Test.YtepjaahclcpaaaaThQ
import Derived.Test.YtepjaahclcpaaaaBoxS
namespace Go.Proofs.Ytepjaahclcpaaaa
open Go.RowKit

theorem canB_bad (id st op arg pc til : Int) (per can : Bool) (r0 r1 r2 r3 r4 code res : Int) (h : thB id st op arg pc til per can r0 r1 r2 r3 r4 code res = false) : canB id st op arg pc til per can r0 r1 r2 r3 r4 code res = (thZero, 1) := by unfold canB; rw [h]; rfl
theorem canB_idle (id st op arg pc til : Int) (per can : Bool) (r0 r1 r2 r3 r4 code res : Int) (h : thB id st op arg pc til per can r0 r1 r2 r3 r4 code res = true) (h1 : waitB op = false) : canB id st op arg pc til per can r0 r1 r2 r3 r4 code res = (⟨id, st, op, arg, pc, til, per, can, r0, r1, r2, r3, r4, code, res⟩, 10) := by unfold canB; rw [h, h1]; rfl
theorem canB_ok (id st op arg pc til : Int) (per can : Bool) (r0 r1 r2 r3 r4 code res : Int) (h : thB id st op arg pc til per can r0 r1 r2 r3 r4 code res = true) (h1 : waitB op = true) : canB id st op arg pc til per can r0 r1 r2 r3 r4 code res = (⟨id, 1, op, arg, pc, til, per, true, r0, r1, r2, r3, r4, code, res⟩, 0) := by unfold canB; rw [h, h1]; rfl
/-- An idle thread has no call that may wait. -/
theorem idle_wait (id op arg pc til : Int) (per can : Bool) (r0 r1 r2 r3 r4 code res : Int) (h : thB id 0 op arg pc til per can r0 r1 r2 r3 r4 code res = true) : waitB op = false := by
  cases h0 : inB id 0 3
  · rw [thB_id _ _ _ _ _ _ _ _ _ _ _ _ _ _ _ h0] at h; cases h
  rw [thB_idle _ _ _ _ _ _ _ _ _ _ _ _ _ _ h0] at h
  simp [idleB, bareB] at h
  obtain ⟨⟨⟨⟨⟨⟨⟨⟨rfl, _⟩, _⟩, _⟩, _⟩, _⟩, _⟩, _⟩, _⟩ := h
  decide

set_option maxHeartbeats 1000000 in
theorem implCancel_bad (id st op arg pc til : Int) (per can : Bool) (r0 r1 r2 r3 r4 code res : Int) (w : World) (h : thB id st op arg pc til per can r0 r1 r2 r3 r4 code res = false) :
    Calls Try.prog 22 #[.agg #[.int .i64 id, .int .i64 st, .int .i64 op, .int .i64 arg, .int .i64 pc, .int .i64 til, .bool per, .bool can, .int .i64 r0, .int .i64 r1, .int .i64 r2, .int .i64 r3, .int .i64 r4, .int .i64 code, .int .i64 res]] w fun e w' => e = .returned (.tuple #[.agg #[.int .i64 0, .int .i64 0, .int .i64 0, .int .i64 0, .int .i64 0, .int .i64 0, .bool false, .bool false, .int .i64 0, .int .i64 0, .int .i64 0, .int .i64 0, .int .i64 0, .int .i64 0, .int .i64 0], .int .i64 1]) ∧ Below w.heap.size w w' := by
  go_enter Try.func22, Try.ntmps22
  go_wp2_with fail
  refine (implThreadOK_any _ _ _ _ _ _ _ _ _ _ _ _ _ _ _ _).mono ?_
  rintro e w1 ⟨rfl, hb⟩
  rw [h]
  have HB := Lib.hid (below_trans (below_alloc2 _ _ _) hb)
  have HX := Lib.hid ((BoxT.two w _ _).below hb)
  have HR := Lib.hid ((BoxT.two' w _ _).below hb)
  clear hb h
  go_wp2_with (refine wpList_store_row rfl 25 _ _ rfl (w.heap.size + 1) _ rfl rfl 25 _ HR.out info_th rfl (one15 _ _ _ _ _ _ _ _ _ _ _ _ _ _ _) ?_)
  exact bodyPost_ret (results_th Try.results22 _ _ (w.heap.size + 1) _ _ rfl rfl (HR.out.row _) rfl) rfl ⟨rfl, below_row HB.out (by omega) _⟩

set_option maxHeartbeats 1000000 in
theorem implCancel_idle (id st op arg pc til : Int) (per can : Bool) (r0 r1 r2 r3 r4 code res : Int) (w : World) (h : thB id st op arg pc til per can r0 r1 r2 r3 r4 code res = true) (h1 : waitB op = false) :
    Calls Try.prog 22 #[.agg #[.int .i64 id, .int .i64 st, .int .i64 op, .int .i64 arg, .int .i64 pc, .int .i64 til, .bool per, .bool can, .int .i64 r0, .int .i64 r1, .int .i64 r2, .int .i64 r3, .int .i64 r4, .int .i64 code, .int .i64 res]] w fun e w' => e = .returned (.tuple #[.agg #[.int .i64 id, .int .i64 st, .int .i64 op, .int .i64 arg, .int .i64 pc, .int .i64 til, .bool per, .bool can, .int .i64 r0, .int .i64 r1, .int .i64 r2, .int .i64 r3, .int .i64 r4, .int .i64 code, .int .i64 res], .int .i64 10]) ∧ Below w.heap.size w w' := by
  go_enter Try.func22, Try.ntmps22
  go_wp2_with fail
  refine (implThreadOK_any _ _ _ _ _ _ _ _ _ _ _ _ _ _ _ _).mono ?_
  rintro e w1 ⟨rfl, hb⟩
  rw [h]
  have HB := Lib.hid (below_trans (below_alloc2 _ _ _) hb)
  have HX := Lib.hid ((BoxT.two w _ _).below hb)
  have HR := Lib.hid ((BoxT.two' w _ _).below hb)
  clear hb h
  go_wp2_with (refine wpList_load_row rfl 25 _ rfl w.heap.size rfl 25 _ (0, 0) _ HX.out Try.underlying25 rfl info_th ?_)
  refine (mayWait_any _ _ _ _ _ _ _ _ _ _ _ _ _ _ _ _).mono ?_
  rintro e w2 ⟨rfl, hb⟩
  rw [h1]
  have HB2 := Lib.hid (below_trans HB.out hb)
  have HX2 := Lib.hid (HX.out.below hb)
  have HR2 := Lib.hid (HR.out.below hb)
  clear hb HB HX HR h1
  go_wp2_with (first | (refine wpList_load_row rfl 25 _ rfl w.heap.size rfl 25 _ (0, 0) _ HX2.out Try.underlying25 rfl info_th ?_) | (refine wpList_store_row rfl 25 _ _ rfl (w.heap.size + 1) _ rfl rfl 25 _ HR2.out info_th rfl (one15 _ _ _ _ _ _ _ _ _ _ _ _ _ _ _) ?_))
  exact bodyPost_ret (results_th Try.results22 _ _ (w.heap.size + 1) _ _ rfl rfl (HR2.out.row _) rfl) rfl ⟨rfl, below_row HB2.out (by omega) _⟩

set_option maxHeartbeats 1000000 in
theorem implCancel_ok (id st op arg pc til : Int) (per can : Bool) (r0 r1 r2 r3 r4 code res : Int) (w : World) (h : thB id st op arg pc til per can r0 r1 r2 r3 r4 code res = true) (h1 : waitB op = true) :
    Calls Try.prog 22 #[.agg #[.int .i64 id, .int .i64 st, .int .i64 op, .int .i64 arg, .int .i64 pc, .int .i64 til, .bool per, .bool can, .int .i64 r0, .int .i64 r1, .int .i64 r2, .int .i64 r3, .int .i64 r4, .int .i64 code, .int .i64 res]] w fun e w' => e = .returned (.tuple #[.agg #[.int .i64 id, .int .i64 1, .int .i64 op, .int .i64 arg, .int .i64 pc, .int .i64 til, .bool per, .bool true, .int .i64 r0, .int .i64 r1, .int .i64 r2, .int .i64 r3, .int .i64 r4, .int .i64 code, .int .i64 res], .int .i64 0]) ∧ Below w.heap.size w w' := by
  go_enter Try.func22, Try.ntmps22
  go_wp2_with fail
  refine (implThreadOK_any _ _ _ _ _ _ _ _ _ _ _ _ _ _ _ _).mono ?_
  rintro e w1 ⟨rfl, hb⟩
  rw [h]
  have HB := Lib.hid (below_trans (below_alloc2 _ _ _) hb)
  have HX := Lib.hid ((BoxT.two w _ _).below hb)
  have HR := Lib.hid ((BoxT.two' w _ _).below hb)
  clear hb h
  go_wp2_with (refine wpList_load_row rfl 25 _ rfl w.heap.size rfl 25 _ (0, 0) _ HX.out Try.underlying25 rfl info_th ?_)
  refine (mayWait_any _ _ _ _ _ _ _ _ _ _ _ _ _ _ _ _).mono ?_
  rintro e w2 ⟨rfl, hb⟩
  rw [h1]
  have HB2 := Lib.hid (below_trans HB.out hb)
  have HX2 := Lib.hid (HX.out.below hb)
  have HR2 := Lib.hid (HR.out.below hb)
  clear hb HB HX HR h1
  have hc1 : w2.cell? ⟨w.heap.size, 1, none⟩ = some (.int .i64 st) := HX2.out.cell 1
  have hc7 : w2.cell? ⟨w.heap.size, 7, none⟩ = some (.bool can) := HX2.out.cell 7
  have hf1 := HX2.out.froz 1
  have hf7 := HX2.out.froz 7
  have HX3 : Hid (BoxT ((w2.setCell ⟨w.heap.size, 1, none⟩ (.int .i64 1)).setCell ⟨w.heap.size, 7, none⟩ (.bool true)) w.heap.size #[.int .i64 id, .int .i64 1, .int .i64 op, .int .i64 arg, .int .i64 pc, .int .i64 til, .bool per, .bool true, .int .i64 r0, .int .i64 r1, .int .i64 r2, .int .i64 r3, .int .i64 r4, .int .i64 code, .int .i64 res]) := (HX2.out.set 1 _).set 7 _
  have HR3 := Lib.hid ((HR2.out.other ⟨w.heap.size, 1, none⟩ (.int .i64 1) (by simp)).other ⟨w.heap.size, 7, none⟩ (.bool true) (by simp))
  have HB3 := Lib.hid (below_set (a := ⟨w.heap.size, 7, none⟩) (v := .bool true) (below_set (a := ⟨w.heap.size, 1, none⟩) (v := .int .i64 1) HB2.out (Nat.le_refl _)) (Nat.le_refl _))
  go_wp2_with (first | (refine wpList_load_row rfl 25 _ rfl w.heap.size rfl 25 _ (0, 0) _ HX3.out Try.underlying25 rfl info_th ?_) | (refine wpList_store_row rfl 25 _ _ rfl (w.heap.size + 1) _ rfl rfl 25 _ HR3.out info_th rfl (one15 _ _ _ _ _ _ _ _ _ _ _ _ _ _ _) ?_))
  exact bodyPost_ret (results_th Try.results22 _ _ (w.heap.size + 1) _ _ rfl rfl (HR3.out.row _) rfl) rfl ⟨rfl, below_row HB3.out (by omega) _⟩

set_option maxHeartbeats 1000000 in
theorem specCancel_bad (id st op arg pc til : Int) (per can : Bool) (r0 r1 r2 r3 r4 code res : Int) (w : World) (h : thB id st op arg pc til per can r0 r1 r2 r3 r4 code res = false) :
    Calls Try.prog 23 #[.agg #[.int .i64 id, .int .i64 st, .int .i64 op, .int .i64 arg, .int .i64 pc, .int .i64 til, .bool per, .bool can, .int .i64 r0, .int .i64 r1, .int .i64 r2, .int .i64 r3, .int .i64 r4, .int .i64 code, .int .i64 res]] w fun e w' => e = .returned (.tuple #[.agg #[.int .i64 0, .int .i64 0, .int .i64 0, .int .i64 0, .int .i64 0, .int .i64 0, .bool false, .bool false, .int .i64 0, .int .i64 0, .int .i64 0, .int .i64 0, .int .i64 0, .int .i64 0, .int .i64 0], .int .i64 1]) ∧ Below w.heap.size w w' := by
  go_enter Try.func23, Try.ntmps23
  go_wp2_with fail
  refine (specThreadOK_any _ _ _ _ _ _ _ _ _ _ _ _ _ _ _ _).mono ?_
  rintro e w1 ⟨rfl, hb⟩
  rw [h]
  have HB := Lib.hid (below_trans (below_alloc2 _ _ _) hb)
  have HX := Lib.hid ((BoxT.two w _ _).below hb)
  have HR := Lib.hid ((BoxT.two' w _ _).below hb)
  clear hb h
  go_wp2_with (refine wpList_store_row rfl 25 _ _ rfl (w.heap.size + 1) _ rfl rfl 25 _ HR.out info_th rfl (one15 _ _ _ _ _ _ _ _ _ _ _ _ _ _ _) ?_)
  exact bodyPost_ret (results_th Try.results23 _ _ (w.heap.size + 1) _ _ rfl rfl (HR.out.row _) rfl) rfl ⟨rfl, below_row HB.out (by omega) _⟩

set_option maxHeartbeats 1000000 in
theorem specCancel_idle (id st op arg pc til : Int) (per can : Bool) (r0 r1 r2 r3 r4 code res : Int) (w : World) (h : thB id st op arg pc til per can r0 r1 r2 r3 r4 code res = true) (h1 : waitB op = false) :
    Calls Try.prog 23 #[.agg #[.int .i64 id, .int .i64 st, .int .i64 op, .int .i64 arg, .int .i64 pc, .int .i64 til, .bool per, .bool can, .int .i64 r0, .int .i64 r1, .int .i64 r2, .int .i64 r3, .int .i64 r4, .int .i64 code, .int .i64 res]] w fun e w' => e = .returned (.tuple #[.agg #[.int .i64 id, .int .i64 st, .int .i64 op, .int .i64 arg, .int .i64 pc, .int .i64 til, .bool per, .bool can, .int .i64 r0, .int .i64 r1, .int .i64 r2, .int .i64 r3, .int .i64 r4, .int .i64 code, .int .i64 res], .int .i64 10]) ∧ Below w.heap.size w w' := by
  go_enter Try.func23, Try.ntmps23
  go_wp2_with fail
  refine (specThreadOK_any _ _ _ _ _ _ _ _ _ _ _ _ _ _ _ _).mono ?_
  rintro e w1 ⟨rfl, hb⟩
  rw [h]
  have HB := Lib.hid (below_trans (below_alloc2 _ _ _) hb)
  have HX := Lib.hid ((BoxT.two w _ _).below hb)
  have HR := Lib.hid ((BoxT.two' w _ _).below hb)
  clear hb h
  have hc1 : w1.cell? ⟨w.heap.size, 1, none⟩ = some (.int .i64 st) := HX.out.cell 1
  have hc2 : w1.cell? ⟨w.heap.size, 2, none⟩ = some (.int .i64 op) := HX.out.cell 2
  cases h2 : (st == 0)
  all_goals
    go_wp2_with (first | (go_at_call 50; refine (specIsWaiting_any _ _).mono ?_; rintro e w' ⟨rfl, rfl⟩) | (refine wpList_load_row rfl 25 _ rfl w.heap.size rfl 25 _ (0, 0) _ HX.out Try.underlying25 rfl info_th ?_) | (refine wpList_store_row rfl 25 _ _ rfl (w.heap.size + 1) _ rfl rfl 25 _ HR.out info_th rfl (one15 _ _ _ _ _ _ _ _ _ _ _ _ _ _ _) ?_))
    exact bodyPost_ret (results_th Try.results23 _ _ (w.heap.size + 1) _ _ rfl rfl (HR.out.row _) rfl) rfl ⟨rfl, below_row HB.out (by omega) _⟩

set_option maxHeartbeats 1000000 in
theorem specCancel_ok (id st op arg pc til : Int) (per can : Bool) (r0 r1 r2 r3 r4 code res : Int) (w : World) (h : thB id st op arg pc til per can r0 r1 r2 r3 r4 code res = true) (h1 : waitB op = true) (h2 : (st == 0) = false) :
    Calls Try.prog 23 #[.agg #[.int .i64 id, .int .i64 st, .int .i64 op, .int .i64 arg, .int .i64 pc, .int .i64 til, .bool per, .bool can, .int .i64 r0, .int .i64 r1, .int .i64 r2, .int .i64 r3, .int .i64 r4, .int .i64 code, .int .i64 res]] w fun e w' => e = .returned (.tuple #[.agg #[.int .i64 id, .int .i64 1, .int .i64 op, .int .i64 arg, .int .i64 pc, .int .i64 til, .bool per, .bool true, .int .i64 r0, .int .i64 r1, .int .i64 r2, .int .i64 r3, .int .i64 r4, .int .i64 code, .int .i64 res], .int .i64 0]) ∧ Below w.heap.size w w' := by
  go_enter Try.func23, Try.ntmps23
  go_wp2_with fail
  refine (specThreadOK_any _ _ _ _ _ _ _ _ _ _ _ _ _ _ _ _).mono ?_
  rintro e w1 ⟨rfl, hb⟩
  rw [h]
  have HB := Lib.hid (below_trans (below_alloc2 _ _ _) hb)
  have HX := Lib.hid ((BoxT.two w _ _).below hb)
  have HR := Lib.hid ((BoxT.two' w _ _).below hb)
  clear hb h
  have hc1 : w1.cell? ⟨w.heap.size, 1, none⟩ = some (.int .i64 st) := HX.out.cell 1
  have hc2 : w1.cell? ⟨w.heap.size, 2, none⟩ = some (.int .i64 op) := HX.out.cell 2
  have hc7 : w1.cell? ⟨w.heap.size, 7, none⟩ = some (.bool can) := HX.out.cell 7
  have hf1 := HX.out.froz 1
  have hf7 := HX.out.froz 7
  have HX3 : Hid (BoxT ((w1.setCell ⟨w.heap.size, 7, none⟩ (.bool true)).setCell ⟨w.heap.size, 1, none⟩ (.int .i64 1)) w.heap.size #[.int .i64 id, .int .i64 1, .int .i64 op, .int .i64 arg, .int .i64 pc, .int .i64 til, .bool per, .bool true, .int .i64 r0, .int .i64 r1, .int .i64 r2, .int .i64 r3, .int .i64 r4, .int .i64 code, .int .i64 res]) := (HX.out.set 7 _).set 1 _
  have HR3 := Lib.hid ((HR.out.other ⟨w.heap.size, 7, none⟩ (.bool true) (by simp)).other ⟨w.heap.size, 1, none⟩ (.int .i64 1) (by simp))
  have HB3 := Lib.hid (below_set (a := ⟨w.heap.size, 1, none⟩) (v := .int .i64 1) (below_set (a := ⟨w.heap.size, 7, none⟩) (v := .bool true) HB.out (Nat.le_refl _)) (Nat.le_refl _))
  go_wp2_with (first | (go_at_call 50; refine (specIsWaiting_any _ _).mono ?_; rintro e w' ⟨rfl, rfl⟩) | (refine wpList_load_row rfl 25 _ rfl w.heap.size rfl 25 _ (0, 0) _ HX3.out Try.underlying25 rfl info_th ?_) | (refine wpList_store_row rfl 25 _ _ rfl (w.heap.size + 1) _ rfl rfl 25 _ HR3.out info_th rfl (one15 _ _ _ _ _ _ _ _ _ _ _ _ _ _ _) ?_))
  exact bodyPost_ret (results_th Try.results23 _ _ (w.heap.size + 1) _ _ rfl rfl (HR3.out.row _) rfl) rfl ⟨rfl, below_row HB3.out (by omega) _⟩

theorem implCancel_any (id st op arg pc til : Int) (per can : Bool) (r0 r1 r2 r3 r4 code res : Int) (w : World) (id' st' op' arg' pc' til' : Int) (per' can' : Bool) (s0 s1 s2 s3 s4 code' res' c : Int) (hX : canB id st op arg pc til per can r0 r1 r2 r3 r4 code res = (⟨id', st', op', arg', pc', til', per', can', s0, s1, s2, s3, s4, code', res'⟩, c)) :
    Calls Try.prog 22 #[.agg #[.int .i64 id, .int .i64 st, .int .i64 op, .int .i64 arg, .int .i64 pc, .int .i64 til, .bool per, .bool can, .int .i64 r0, .int .i64 r1, .int .i64 r2, .int .i64 r3, .int .i64 r4, .int .i64 code, .int .i64 res]] w fun e w' => e = .returned (.tuple #[.agg #[.int .i64 id', .int .i64 st', .int .i64 op', .int .i64 arg', .int .i64 pc', .int .i64 til', .bool per', .bool can', .int .i64 s0, .int .i64 s1, .int .i64 s2, .int .i64 s3, .int .i64 s4, .int .i64 code', .int .i64 res'], .int .i64 c]) ∧ Below w.heap.size w w' := by
  cases h : thB id st op arg pc til per can r0 r1 r2 r3 r4 code res
  · rw [canB_bad id st op arg pc til per can r0 r1 r2 r3 r4 code res h] at hX; cases hX; exact implCancel_bad id st op arg pc til per can r0 r1 r2 r3 r4 code res w h
  cases h1 : waitB op
  · rw [canB_idle id st op arg pc til per can r0 r1 r2 r3 r4 code res h h1] at hX; cases hX; exact implCancel_idle id st op arg pc til per can r0 r1 r2 r3 r4 code res w h h1
  · rw [canB_ok id st op arg pc til per can r0 r1 r2 r3 r4 code res h h1] at hX; cases hX; exact implCancel_ok id st op arg pc til per can r0 r1 r2 r3 r4 code res w h h1

theorem specCancel_any (id st op arg pc til : Int) (per can : Bool) (r0 r1 r2 r3 r4 code res : Int) (w : World) (id' st' op' arg' pc' til' : Int) (per' can' : Bool) (s0 s1 s2 s3 s4 code' res' c : Int) (hX : canB id st op arg pc til per can r0 r1 r2 r3 r4 code res = (⟨id', st', op', arg', pc', til', per', can', s0, s1, s2, s3, s4, code', res'⟩, c)) :
    Calls Try.prog 23 #[.agg #[.int .i64 id, .int .i64 st, .int .i64 op, .int .i64 arg, .int .i64 pc, .int .i64 til, .bool per, .bool can, .int .i64 r0, .int .i64 r1, .int .i64 r2, .int .i64 r3, .int .i64 r4, .int .i64 code, .int .i64 res]] w fun e w' => e = .returned (.tuple #[.agg #[.int .i64 id', .int .i64 st', .int .i64 op', .int .i64 arg', .int .i64 pc', .int .i64 til', .bool per', .bool can', .int .i64 s0, .int .i64 s1, .int .i64 s2, .int .i64 s3, .int .i64 s4, .int .i64 code', .int .i64 res'], .int .i64 c]) ∧ Below w.heap.size w w' := by
  cases h : thB id st op arg pc til per can r0 r1 r2 r3 r4 code res
  · rw [canB_bad id st op arg pc til per can r0 r1 r2 r3 r4 code res h] at hX; cases hX; exact specCancel_bad id st op arg pc til per can r0 r1 r2 r3 r4 code res w h
  cases h1 : waitB op
  · rw [canB_idle id st op arg pc til per can r0 r1 r2 r3 r4 code res h h1] at hX; cases hX; exact specCancel_idle id st op arg pc til per can r0 r1 r2 r3 r4 code res w h h1
  · have hs : (st == 0) = false := by
      cases hq : (st == 0)
      · rfl
      · obtain rfl : st = 0 := by simpa using hq
        rw [idle_wait _ _ _ _ _ _ _ _ _ _ _ _ _ _ h] at h1; cases h1
    rw [canB_ok id st op arg pc til per can r0 r1 r2 r3 r4 code res h h1] at hX; cases hX; exact specCancel_ok id st op arg pc til per can r0 r1 r2 r3 r4 code res w h h1 hs

end Go.Proofs.Ytepjaahclcpaaaa
