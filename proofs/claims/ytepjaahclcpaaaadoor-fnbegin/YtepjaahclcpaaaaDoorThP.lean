/-
  Threads (chapter 3): BeginCall, the program's and the model's.
-/
import Derived.Test.YtepjaahclcpaaaaDoorThO
namespace Go.Proofs.YtepjaahclcpaaaaDoor
open Go.RowKit

set_option maxHeartbeats 1000000 in
theorem implBegin_range (id st op arg pc til : Int) (per can : Bool) (r0 r1 r2 r3 r4 code res : Int) (o a u : Int) (w : World) (h : thB id st op arg pc til per can r0 r1 r2 r3 r4 code res = true) (h1 : (opB o && argB o a && tilB o u) = false) :
    Calls Tryd.prog 6 #[.agg #[.int .i64 id, .int .i64 st, .int .i64 op, .int .i64 arg, .int .i64 pc, .int .i64 til, .bool per, .bool can, .int .i64 r0, .int .i64 r1, .int .i64 r2, .int .i64 r3, .int .i64 r4, .int .i64 code, .int .i64 res], .int .i64 o, .int .i64 a, .int .i64 u] w fun e w' => e = .returned (.tuple #[.agg #[.int .i64 0, .int .i64 0, .int .i64 0, .int .i64 0, .int .i64 0, .int .i64 0, .bool false, .bool false, .int .i64 0, .int .i64 0, .int .i64 0, .int .i64 0, .int .i64 0, .int .i64 0, .int .i64 0], .int .i64 4]) ∧ Below w.heap.size w w' := by
  go_enter Tryd.func6, Tryd.ntmps6
  go_wp2_with fail
  refine (implThreadOK_any _ _ _ _ _ _ _ _ _ _ _ _ _ _ _ _).mono ?_
  rintro e w1 ⟨rfl, hb⟩
  rw [h]
  have HB := Lib.hid (below_trans (below_alloc2 _ _ _) hb)
  have HX := Lib.hid ((BoxT.two w _ _).below hb)
  have HR := Lib.hid ((BoxT.two' w _ _).below hb)
  clear hb h
  cases g1 : opB o
  · clear h1
    go_wp2_with (first | (go_at_call 15; refine (opOK_any _ _).mono ?_; rintro e w' ⟨rfl, rfl⟩) | (go_at_call 16; refine (argOK_any _ _ _).mono ?_; rintro e w' ⟨rfl, rfl⟩) | (go_at_call 17; refine (untilOK_any _ _ _).mono ?_; rintro e w' ⟨rfl, rfl⟩) | (refine wpList_store_row rfl 25 _ _ rfl (w.heap.size + 1) _ rfl rfl 25 _ HR.out info_th rfl (one15 _ _ _ _ _ _ _ _ _ _ _ _ _ _ _) ?_))
    exact bodyPost_ret (results_th Tryd.results6 _ _ (w.heap.size + 1) _ _ rfl rfl (HR.out.row _) rfl) rfl ⟨rfl, below_row HB.out (by omega) _⟩
  cases g2 : argB o a
  · clear h1
    go_wp2_with (first | (go_at_call 15; refine (opOK_any _ _).mono ?_; rintro e w' ⟨rfl, rfl⟩) | (go_at_call 16; refine (argOK_any _ _ _).mono ?_; rintro e w' ⟨rfl, rfl⟩) | (go_at_call 17; refine (untilOK_any _ _ _).mono ?_; rintro e w' ⟨rfl, rfl⟩) | (refine wpList_store_row rfl 25 _ _ rfl (w.heap.size + 1) _ rfl rfl 25 _ HR.out info_th rfl (one15 _ _ _ _ _ _ _ _ _ _ _ _ _ _ _) ?_))
    exact bodyPost_ret (results_th Tryd.results6 _ _ (w.heap.size + 1) _ _ rfl rfl (HR.out.row _) rfl) rfl ⟨rfl, below_row HB.out (by omega) _⟩
  have g3 : tilB o u = false := by rw [g1, g2] at h1; simpa using h1
  clear h1
  go_wp2_with (first | (go_at_call 15; refine (opOK_any _ _).mono ?_; rintro e w' ⟨rfl, rfl⟩) | (go_at_call 16; refine (argOK_any _ _ _).mono ?_; rintro e w' ⟨rfl, rfl⟩) | (go_at_call 17; refine (untilOK_any _ _ _).mono ?_; rintro e w' ⟨rfl, rfl⟩) | (refine wpList_store_row rfl 25 _ _ rfl (w.heap.size + 1) _ rfl rfl 25 _ HR.out info_th rfl (one15 _ _ _ _ _ _ _ _ _ _ _ _ _ _ _) ?_))
  exact bodyPost_ret (results_th Tryd.results6 _ _ (w.heap.size + 1) _ _ rfl rfl (HR.out.row _) rfl) rfl ⟨rfl, below_row HB.out (by omega) _⟩

set_option maxHeartbeats 1000000 in
theorem implBegin_busy (id st op arg pc til : Int) (per can : Bool) (r0 r1 r2 r3 r4 code res : Int) (o a u : Int) (w : World) (h : thB id st op arg pc til per can r0 r1 r2 r3 r4 code res = true) (h1 : opB o = true) (h2 : argB o a = true) (h3 : tilB o u = true) (h4 : (st != 0) = true) :
    Calls Tryd.prog 6 #[.agg #[.int .i64 id, .int .i64 st, .int .i64 op, .int .i64 arg, .int .i64 pc, .int .i64 til, .bool per, .bool can, .int .i64 r0, .int .i64 r1, .int .i64 r2, .int .i64 r3, .int .i64 r4, .int .i64 code, .int .i64 res], .int .i64 o, .int .i64 a, .int .i64 u] w fun e w' => e = .returned (.tuple #[.agg #[.int .i64 id, .int .i64 st, .int .i64 op, .int .i64 arg, .int .i64 pc, .int .i64 til, .bool per, .bool can, .int .i64 r0, .int .i64 r1, .int .i64 r2, .int .i64 r3, .int .i64 r4, .int .i64 code, .int .i64 res], .int .i64 9]) ∧ Below w.heap.size w w' := by
  go_enter Tryd.func6, Tryd.ntmps6
  go_wp2_with fail
  refine (implThreadOK_any _ _ _ _ _ _ _ _ _ _ _ _ _ _ _ _).mono ?_
  rintro e w1 ⟨rfl, hb⟩
  rw [h]
  have HB := Lib.hid (below_trans (below_alloc2 _ _ _) hb)
  have HX := Lib.hid ((BoxT.two w _ _).below hb)
  have HR := Lib.hid ((BoxT.two' w _ _).below hb)
  clear hb h
  go_wp2_with (first | (go_at_call 15; refine (opOK_any _ _).mono ?_; rintro e w' ⟨rfl, rfl⟩) | (go_at_call 16; refine (argOK_any _ _ _).mono ?_; rintro e w' ⟨rfl, rfl⟩) | (go_at_call 17; refine (untilOK_any _ _ _).mono ?_; rintro e w' ⟨rfl, rfl⟩) | (refine wpList_load_row rfl 25 _ rfl w.heap.size rfl 25 _ (0, 0) _ HX.out Tryd.underlying25 rfl info_th ?_))
  refine (hasCall_any _ _ _ _ _ _ _ _ _ _ _ _ _ _ _ _).mono ?_
  rintro e w2 ⟨rfl, hb⟩
  rw [h4]
  have HB2 := Lib.hid (below_trans HB.out hb)
  have HX2 := Lib.hid (HX.out.below hb)
  have HR2 := Lib.hid (HR.out.below hb)
  have hc0 : w2.cell? ⟨w.heap.size, 0, none⟩ = some (.int .i64 id) := HX2.out.cell 0
  clear hb HB HX HR h1 h2 h3 h4
  go_wp2_with (first | (refine wpList_load_row rfl 25 _ rfl w.heap.size rfl 25 _ (0, 0) _ HX2.out Tryd.underlying25 rfl info_th ?_) | (refine wpList_store_row rfl 25 _ _ rfl (w.heap.size + 1) _ rfl rfl 25 _ HR2.out info_th rfl (one15 _ _ _ _ _ _ _ _ _ _ _ _ _ _ _) ?_))
  exact bodyPost_ret (results_th Tryd.results6 _ _ (w.heap.size + 1) _ _ rfl rfl (HR2.out.row _) rfl) rfl ⟨rfl, below_row HB2.out (by omega) _⟩

set_option maxHeartbeats 1000000 in
theorem implBegin_ok (id st op arg pc til : Int) (per can : Bool) (r0 r1 r2 r3 r4 code res : Int) (o a u : Int) (w : World) (h : thB id st op arg pc til per can r0 r1 r2 r3 r4 code res = true) (h1 : opB o = true) (h2 : argB o a = true) (h3 : tilB o u = true) (h4 : (st != 0) = false) :
    Calls Tryd.prog 6 #[.agg #[.int .i64 id, .int .i64 st, .int .i64 op, .int .i64 arg, .int .i64 pc, .int .i64 til, .bool per, .bool can, .int .i64 r0, .int .i64 r1, .int .i64 r2, .int .i64 r3, .int .i64 r4, .int .i64 code, .int .i64 res], .int .i64 o, .int .i64 a, .int .i64 u] w fun e w' => e = .returned (.tuple #[.agg #[.int .i64 id, .int .i64 1, .int .i64 o, .int .i64 a, .int .i64 0, .int .i64 u, .bool false, .bool false, .int .i64 0, .int .i64 0, .int .i64 0, .int .i64 0, .int .i64 0, .int .i64 0, .int .i64 0], .int .i64 0]) ∧ Below w.heap.size w w' := by
  go_enter Tryd.func6, Tryd.ntmps6
  go_wp2_with fail
  refine (implThreadOK_any _ _ _ _ _ _ _ _ _ _ _ _ _ _ _ _).mono ?_
  rintro e w1 ⟨rfl, hb⟩
  rw [h]
  have HB := Lib.hid (below_trans (below_alloc2 _ _ _) hb)
  have HX := Lib.hid ((BoxT.two w _ _).below hb)
  have HR := Lib.hid ((BoxT.two' w _ _).below hb)
  clear hb h
  go_wp2_with (first | (go_at_call 15; refine (opOK_any _ _).mono ?_; rintro e w' ⟨rfl, rfl⟩) | (go_at_call 16; refine (argOK_any _ _ _).mono ?_; rintro e w' ⟨rfl, rfl⟩) | (go_at_call 17; refine (untilOK_any _ _ _).mono ?_; rintro e w' ⟨rfl, rfl⟩) | (refine wpList_load_row rfl 25 _ rfl w.heap.size rfl 25 _ (0, 0) _ HX.out Tryd.underlying25 rfl info_th ?_))
  refine (hasCall_any _ _ _ _ _ _ _ _ _ _ _ _ _ _ _ _).mono ?_
  rintro e w2 ⟨rfl, hb⟩
  rw [h4]
  have HB2 := Lib.hid (below_trans HB.out hb)
  have HX2 := Lib.hid (HX.out.below hb)
  have HR2 := Lib.hid (HR.out.below hb)
  have hc0 : w2.cell? ⟨w.heap.size, 0, none⟩ = some (.int .i64 id) := HX2.out.cell 0
  clear hb HB HX HR h1 h2 h3 h4
  go_wp2_with (first | (refine wpList_load_row rfl 25 _ rfl w.heap.size rfl 25 _ (0, 0) _ HX2.out Tryd.underlying25 rfl info_th ?_) | (refine wpList_store_row rfl 25 _ _ rfl (w.heap.size + 1) _ rfl rfl 25 _ HR2.out info_th rfl (one15 _ _ _ _ _ _ _ _ _ _ _ _ _ _ _) ?_))
  exact bodyPost_ret (results_th Tryd.results6 _ _ (w.heap.size + 1) _ _ rfl rfl (HR2.out.row _) rfl) rfl ⟨rfl, below_row HB2.out (by omega) _⟩

set_option maxHeartbeats 1000000 in
theorem specBegin_bad (id st op arg pc til : Int) (per can : Bool) (r0 r1 r2 r3 r4 code res : Int) (o a u : Int) (w : World) (h : thB id st op arg pc til per can r0 r1 r2 r3 r4 code res = false) :
    Calls Tryd.prog 7 #[.agg #[.int .i64 id, .int .i64 st, .int .i64 op, .int .i64 arg, .int .i64 pc, .int .i64 til, .bool per, .bool can, .int .i64 r0, .int .i64 r1, .int .i64 r2, .int .i64 r3, .int .i64 r4, .int .i64 code, .int .i64 res], .int .i64 o, .int .i64 a, .int .i64 u] w fun e w' => e = .returned (.tuple #[.agg #[.int .i64 0, .int .i64 0, .int .i64 0, .int .i64 0, .int .i64 0, .int .i64 0, .bool false, .bool false, .int .i64 0, .int .i64 0, .int .i64 0, .int .i64 0, .int .i64 0, .int .i64 0, .int .i64 0], .int .i64 1]) ∧ Below w.heap.size w w' := by
  go_enter Tryd.func7, Tryd.ntmps7
  go_wp2_with fail
  refine (specThreadOK_any _ _ _ _ _ _ _ _ _ _ _ _ _ _ _ _).mono ?_
  rintro e w1 ⟨rfl, hb⟩
  rw [h]
  have HB := Lib.hid (below_trans (below_alloc2 _ _ _) hb)
  have HX := Lib.hid ((BoxT.two w _ _).below hb)
  have HR := Lib.hid ((BoxT.two' w _ _).below hb)
  clear hb h
  go_wp2_with (refine wpList_store_row rfl 25 _ _ rfl (w.heap.size + 1) _ rfl rfl 25 _ HR.out info_th rfl (one15 _ _ _ _ _ _ _ _ _ _ _ _ _ _ _) ?_)
  exact bodyPost_ret (results_th Tryd.results7 _ _ (w.heap.size + 1) _ _ rfl rfl (HR.out.row _) rfl) rfl ⟨rfl, below_row HB.out (by omega) _⟩

set_option maxHeartbeats 1000000 in
theorem specBegin_range (id st op arg pc til : Int) (per can : Bool) (r0 r1 r2 r3 r4 code res : Int) (o a u : Int) (w : World) (h : thB id st op arg pc til per can r0 r1 r2 r3 r4 code res = true) (h1 : (opB o && argB o a && tilB o u) = false) :
    Calls Tryd.prog 7 #[.agg #[.int .i64 id, .int .i64 st, .int .i64 op, .int .i64 arg, .int .i64 pc, .int .i64 til, .bool per, .bool can, .int .i64 r0, .int .i64 r1, .int .i64 r2, .int .i64 r3, .int .i64 r4, .int .i64 code, .int .i64 res], .int .i64 o, .int .i64 a, .int .i64 u] w fun e w' => e = .returned (.tuple #[.agg #[.int .i64 0, .int .i64 0, .int .i64 0, .int .i64 0, .int .i64 0, .int .i64 0, .bool false, .bool false, .int .i64 0, .int .i64 0, .int .i64 0, .int .i64 0, .int .i64 0, .int .i64 0, .int .i64 0], .int .i64 4]) ∧ Below w.heap.size w w' := by
  go_enter Tryd.func7, Tryd.ntmps7
  go_wp2_with fail
  refine (specThreadOK_any _ _ _ _ _ _ _ _ _ _ _ _ _ _ _ _).mono ?_
  rintro e w1 ⟨rfl, hb⟩
  rw [h]
  have HB := Lib.hid (below_trans (below_alloc2 _ _ _) hb)
  have HX := Lib.hid ((BoxT.two w _ _).below hb)
  have HR := Lib.hid ((BoxT.two' w _ _).below hb)
  clear hb h
  cases g1 : opB o
  · clear h1
    go_wp2_with (first | (go_at_call 20; refine (l02Op_any _ _).mono ?_; rintro e w' ⟨rfl, rfl⟩) | (go_at_call 21; refine (l02Arg_any _ _ _).mono ?_; rintro e w' ⟨rfl, rfl⟩) | (refine wpList_store_row rfl 25 _ _ rfl (w.heap.size + 1) _ rfl rfl 25 _ HR.out info_th rfl (one15 _ _ _ _ _ _ _ _ _ _ _ _ _ _ _) ?_))
    exact bodyPost_ret (results_th Tryd.results7 _ _ (w.heap.size + 1) _ _ rfl rfl (HR.out.row _) rfl) rfl ⟨rfl, below_row HB.out (by omega) _⟩
  cases g2 : argB o a
  · clear h1
    go_wp2_with (first | (go_at_call 20; refine (l02Op_any _ _).mono ?_; rintro e w' ⟨rfl, rfl⟩) | (go_at_call 21; refine (l02Arg_any _ _ _).mono ?_; rintro e w' ⟨rfl, rfl⟩) | (refine wpList_store_row rfl 25 _ _ rfl (w.heap.size + 1) _ rfl rfl 25 _ HR.out info_th rfl (one15 _ _ _ _ _ _ _ _ _ _ _ _ _ _ _) ?_))
    exact bodyPost_ret (results_th Tryd.results7 _ _ (w.heap.size + 1) _ _ rfl rfl (HR.out.row _) rfl) rfl ⟨rfl, below_row HB.out (by omega) _⟩
  have g3 : tilB o u = false := by rw [g1, g2] at h1; simpa using h1
  clear h1
  unfold tilB at g3
  cases g4 : waitB o
  · have g5 : inB u 0 0 = false := by rw [g4] at g3; exact g3
    clear g3
    go_wp2_with (first | (go_at_call 20; refine (l02Op_any _ _).mono ?_; rintro e w' ⟨rfl, rfl⟩) | (go_at_call 21; refine (l02Arg_any _ _ _).mono ?_; rintro e w' ⟨rfl, rfl⟩) | (go_at_call 24; refine (specIsWaiting_any _ _).mono ?_; rintro e w' ⟨rfl, rfl⟩) | (go_at_call 23; refine (bit_false _).mono ?_; rintro e w' ⟨rfl, rfl⟩) | (go_at_call 22; refine (l01In_any _ _ _ _).mono ?_; rintro e w' ⟨rfl, rfl⟩) | (refine wpList_store_row rfl 25 _ _ rfl (w.heap.size + 1) _ rfl rfl 25 _ HR.out info_th rfl (one15 _ _ _ _ _ _ _ _ _ _ _ _ _ _ _) ?_))
    exact bodyPost_ret (results_th Tryd.results7 _ _ (w.heap.size + 1) _ _ rfl rfl (HR.out.row _) rfl) rfl ⟨rfl, below_row HB.out (by omega) _⟩
  · have g5 : inB u 0 1000000 = false := by rw [g4] at g3; exact g3
    clear g3
    go_wp2_with (first | (go_at_call 20; refine (l02Op_any _ _).mono ?_; rintro e w' ⟨rfl, rfl⟩) | (go_at_call 21; refine (l02Arg_any _ _ _).mono ?_; rintro e w' ⟨rfl, rfl⟩) | (go_at_call 24; refine (specIsWaiting_any _ _).mono ?_; rintro e w' ⟨rfl, rfl⟩) | (go_at_call 23; refine (bit_true _).mono ?_; rintro e w' ⟨rfl, rfl⟩) | (go_at_call 22; refine (l01In_any _ _ _ _).mono ?_; rintro e w' ⟨rfl, rfl⟩) | (refine wpList_store_row rfl 25 _ _ rfl (w.heap.size + 1) _ rfl rfl 25 _ HR.out info_th rfl (one15 _ _ _ _ _ _ _ _ _ _ _ _ _ _ _) ?_))
    exact bodyPost_ret (results_th Tryd.results7 _ _ (w.heap.size + 1) _ _ rfl rfl (HR.out.row _) rfl) rfl ⟨rfl, below_row HB.out (by omega) _⟩

set_option maxHeartbeats 1000000 in
theorem specBegin_busy (id st op arg pc til : Int) (per can : Bool) (r0 r1 r2 r3 r4 code res : Int) (o a u : Int) (w : World) (h : thB id st op arg pc til per can r0 r1 r2 r3 r4 code res = true) (h1 : opB o = true) (h2 : argB o a = true) (h3 : tilB o u = true) (h4 : (st != 0) = true) :
    Calls Tryd.prog 7 #[.agg #[.int .i64 id, .int .i64 st, .int .i64 op, .int .i64 arg, .int .i64 pc, .int .i64 til, .bool per, .bool can, .int .i64 r0, .int .i64 r1, .int .i64 r2, .int .i64 r3, .int .i64 r4, .int .i64 code, .int .i64 res], .int .i64 o, .int .i64 a, .int .i64 u] w fun e w' => e = .returned (.tuple #[.agg #[.int .i64 id, .int .i64 st, .int .i64 op, .int .i64 arg, .int .i64 pc, .int .i64 til, .bool per, .bool can, .int .i64 r0, .int .i64 r1, .int .i64 r2, .int .i64 r3, .int .i64 r4, .int .i64 code, .int .i64 res], .int .i64 9]) ∧ Below w.heap.size w w' := by
  go_enter Tryd.func7, Tryd.ntmps7
  go_wp2_with fail
  refine (specThreadOK_any _ _ _ _ _ _ _ _ _ _ _ _ _ _ _ _).mono ?_
  rintro e w1 ⟨rfl, hb⟩
  rw [h]
  have HB := Lib.hid (below_trans (below_alloc2 _ _ _) hb)
  have HX := Lib.hid ((BoxT.two w _ _).below hb)
  have HR := Lib.hid ((BoxT.two' w _ _).below hb)
  clear hb h
  have hc0 : w1.cell? ⟨w.heap.size, 0, none⟩ = some (.int .i64 id) := HX.out.cell 0
  have hc1 : w1.cell? ⟨w.heap.size, 1, none⟩ = some (.int .i64 st) := HX.out.cell 1
  unfold tilB at h3
  cases g4 : waitB o
  · have g5 : inB u 0 0 = true := by rw [g4] at h3; exact h3
    clear h3
    go_wp2_with (first | (go_at_call 20; refine (l02Op_any _ _).mono ?_; rintro e w' ⟨rfl, rfl⟩) | (go_at_call 21; refine (l02Arg_any _ _ _).mono ?_; rintro e w' ⟨rfl, rfl⟩) | (go_at_call 24; refine (specIsWaiting_any _ _).mono ?_; rintro e w' ⟨rfl, rfl⟩) | (go_at_call 23; refine (bit_false _).mono ?_; rintro e w' ⟨rfl, rfl⟩) | (go_at_call 22; refine (l01In_any _ _ _ _).mono ?_; rintro e w' ⟨rfl, rfl⟩) | (refine wpList_load_row rfl 25 _ rfl w.heap.size rfl 25 _ (0, 0) _ HX.out Tryd.underlying25 rfl info_th ?_) | (refine wpList_store_row rfl 25 _ _ rfl (w.heap.size + 1) _ rfl rfl 25 _ HR.out info_th rfl (one15 _ _ _ _ _ _ _ _ _ _ _ _ _ _ _) ?_))
    exact bodyPost_ret (results_th Tryd.results7 _ _ (w.heap.size + 1) _ _ rfl rfl (HR.out.row _) rfl) rfl ⟨rfl, below_row HB.out (by omega) _⟩
  · have g5 : inB u 0 1000000 = true := by rw [g4] at h3; exact h3
    clear h3
    go_wp2_with (first | (go_at_call 20; refine (l02Op_any _ _).mono ?_; rintro e w' ⟨rfl, rfl⟩) | (go_at_call 21; refine (l02Arg_any _ _ _).mono ?_; rintro e w' ⟨rfl, rfl⟩) | (go_at_call 24; refine (specIsWaiting_any _ _).mono ?_; rintro e w' ⟨rfl, rfl⟩) | (go_at_call 23; refine (bit_true _).mono ?_; rintro e w' ⟨rfl, rfl⟩) | (go_at_call 22; refine (l01In_any _ _ _ _).mono ?_; rintro e w' ⟨rfl, rfl⟩) | (refine wpList_load_row rfl 25 _ rfl w.heap.size rfl 25 _ (0, 0) _ HX.out Tryd.underlying25 rfl info_th ?_) | (refine wpList_store_row rfl 25 _ _ rfl (w.heap.size + 1) _ rfl rfl 25 _ HR.out info_th rfl (one15 _ _ _ _ _ _ _ _ _ _ _ _ _ _ _) ?_))
    exact bodyPost_ret (results_th Tryd.results7 _ _ (w.heap.size + 1) _ _ rfl rfl (HR.out.row _) rfl) rfl ⟨rfl, below_row HB.out (by omega) _⟩

set_option maxHeartbeats 1000000 in
theorem specBegin_ok (id st op arg pc til : Int) (per can : Bool) (r0 r1 r2 r3 r4 code res : Int) (o a u : Int) (w : World) (h : thB id st op arg pc til per can r0 r1 r2 r3 r4 code res = true) (h1 : opB o = true) (h2 : argB o a = true) (h3 : tilB o u = true) (h4 : (st != 0) = false) :
    Calls Tryd.prog 7 #[.agg #[.int .i64 id, .int .i64 st, .int .i64 op, .int .i64 arg, .int .i64 pc, .int .i64 til, .bool per, .bool can, .int .i64 r0, .int .i64 r1, .int .i64 r2, .int .i64 r3, .int .i64 r4, .int .i64 code, .int .i64 res], .int .i64 o, .int .i64 a, .int .i64 u] w fun e w' => e = .returned (.tuple #[.agg #[.int .i64 id, .int .i64 1, .int .i64 o, .int .i64 a, .int .i64 0, .int .i64 u, .bool false, .bool false, .int .i64 0, .int .i64 0, .int .i64 0, .int .i64 0, .int .i64 0, .int .i64 0, .int .i64 0], .int .i64 0]) ∧ Below w.heap.size w w' := by
  go_enter Tryd.func7, Tryd.ntmps7
  go_wp2_with fail
  refine (specThreadOK_any _ _ _ _ _ _ _ _ _ _ _ _ _ _ _ _).mono ?_
  rintro e w1 ⟨rfl, hb⟩
  rw [h]
  have HB := Lib.hid (below_trans (below_alloc2 _ _ _) hb)
  have HX := Lib.hid ((BoxT.two w _ _).below hb)
  have HR := Lib.hid ((BoxT.two' w _ _).below hb)
  clear hb h
  have hc0 : w1.cell? ⟨w.heap.size, 0, none⟩ = some (.int .i64 id) := HX.out.cell 0
  have hc1 : w1.cell? ⟨w.heap.size, 1, none⟩ = some (.int .i64 st) := HX.out.cell 1
  unfold tilB at h3
  cases g4 : waitB o
  · have g5 : inB u 0 0 = true := by rw [g4] at h3; exact h3
    clear h3
    go_wp2_with (first | (go_at_call 20; refine (l02Op_any _ _).mono ?_; rintro e w' ⟨rfl, rfl⟩) | (go_at_call 21; refine (l02Arg_any _ _ _).mono ?_; rintro e w' ⟨rfl, rfl⟩) | (go_at_call 24; refine (specIsWaiting_any _ _).mono ?_; rintro e w' ⟨rfl, rfl⟩) | (go_at_call 23; refine (bit_false _).mono ?_; rintro e w' ⟨rfl, rfl⟩) | (go_at_call 22; refine (l01In_any _ _ _ _).mono ?_; rintro e w' ⟨rfl, rfl⟩) | (refine wpList_load_row rfl 25 _ rfl w.heap.size rfl 25 _ (0, 0) _ HX.out Tryd.underlying25 rfl info_th ?_) | (refine wpList_store_row rfl 25 _ _ rfl (w.heap.size + 1) _ rfl rfl 25 _ HR.out info_th rfl (one15 _ _ _ _ _ _ _ _ _ _ _ _ _ _ _) ?_))
    exact bodyPost_ret (results_th Tryd.results7 _ _ (w.heap.size + 1) _ _ rfl rfl (HR.out.row _) rfl) rfl ⟨rfl, below_row HB.out (by omega) _⟩
  · have g5 : inB u 0 1000000 = true := by rw [g4] at h3; exact h3
    clear h3
    go_wp2_with (first | (go_at_call 20; refine (l02Op_any _ _).mono ?_; rintro e w' ⟨rfl, rfl⟩) | (go_at_call 21; refine (l02Arg_any _ _ _).mono ?_; rintro e w' ⟨rfl, rfl⟩) | (go_at_call 24; refine (specIsWaiting_any _ _).mono ?_; rintro e w' ⟨rfl, rfl⟩) | (go_at_call 23; refine (bit_true _).mono ?_; rintro e w' ⟨rfl, rfl⟩) | (go_at_call 22; refine (l01In_any _ _ _ _).mono ?_; rintro e w' ⟨rfl, rfl⟩) | (refine wpList_load_row rfl 25 _ rfl w.heap.size rfl 25 _ (0, 0) _ HX.out Tryd.underlying25 rfl info_th ?_) | (refine wpList_store_row rfl 25 _ _ rfl (w.heap.size + 1) _ rfl rfl 25 _ HR.out info_th rfl (one15 _ _ _ _ _ _ _ _ _ _ _ _ _ _ _) ?_))
    exact bodyPost_ret (results_th Tryd.results7 _ _ (w.heap.size + 1) _ _ rfl rfl (HR.out.row _) rfl) rfl ⟨rfl, below_row HB.out (by omega) _⟩

end Go.Proofs.YtepjaahclcpaaaaDoor
