/-
  Parking (chapter 4): the model's GivesUp and ExpireThread.
-/
import Derived.Test.YtepjaahclcpaaaaPkD
namespace Go.Proofs.Ytepjaahclcpaaaa
open Go.RowKit

theorem ret_boolint2 {a b : Bool} {c d : Int} (h : a = b) (h1 : c = d) : Ending.returned (.tuple #[.bool a, .int .i64 c]) = .returned (.tuple #[.bool b, .int .i64 d]) := by rw [h, h1]
set_option maxHeartbeats 1000000 in
theorem l03Gives_any (id st op arg pc til : Int) (per can : Bool) (r0 r1 r2 r3 r4 code res : Int) (now : Int) (w : World) (h : 0 ≤ til) : Calls Try.prog 57 #[.agg #[.int .i64 id, .int .i64 st, .int .i64 op, .int .i64 arg, .int .i64 pc, .int .i64 til, .bool per, .bool can, .int .i64 r0, .int .i64 r1, .int .i64 r2, .int .i64 r3, .int .i64 r4, .int .i64 code, .int .i64 res], .int .i64 now] w fun e w' => e = .returned (.bool (gvB can til now)) ∧ Below w.heap.size w w' := by
  have HV := Lib.hid (gvB_pos (can := can) (now := now) h)
  clear h
  cases can
  · by_cases h0 : 0 < til
    · by_cases h2 : til ≤ now
      all_goals
        go_enter Try.func57, Try.ntmps57
        go_wp2
        go_ret
        exact ⟨ret_bool (by rw [← HV.out]; simp [h0, h2]), below_alloc _ _⟩
    · go_enter Try.func57, Try.ntmps57
      go_wp2
      go_ret
      exact ⟨ret_bool (by rw [← HV.out]; simp [show ¬ 0 < til from by omega]), below_alloc _ _⟩
  · go_enter Try.func57, Try.ntmps57
    go_wp2
    go_ret
    exact ⟨ret_bool (by rw [← HV.out]; rfl), below_alloc _ _⟩

set_option maxHeartbeats 1000000 in
theorem specGives_bad (id st op arg pc til : Int) (per can : Bool) (r0 r1 r2 r3 r4 code res : Int) (now : Int) (w : World) (h : thB id st op arg pc til per can r0 r1 r2 r3 r4 code res = false) :
    Calls Try.prog 29 #[.agg #[.int .i64 id, .int .i64 st, .int .i64 op, .int .i64 arg, .int .i64 pc, .int .i64 til, .bool per, .bool can, .int .i64 r0, .int .i64 r1, .int .i64 r2, .int .i64 r3, .int .i64 r4, .int .i64 code, .int .i64 res], .int .i64 now] w fun e w' => e = .returned (.tuple #[.bool false, .int .i64 1]) ∧ Below w.heap.size w w' := by
  go_enter Try.func29, Try.ntmps29
  go_wp2_with fail
  refine (specThreadOK_any _ _ _ _ _ _ _ _ _ _ _ _ _ _ _ _).mono ?_
  rintro e w1 ⟨rfl, hb⟩
  rw [h]
  have HB := Lib.hid (below_trans (below_alloc _ _) hb)
  have HX : Hid (BoxT w1 w.heap.size #[.int .i64 id, .int .i64 st, .int .i64 op, .int .i64 arg, .int .i64 pc, .int .i64 til, .bool per, .bool can, .int .i64 r0, .int .i64 r1, .int .i64 r2, .int .i64 r3, .int .i64 r4, .int .i64 code, .int .i64 res]) := BoxT.below (heap_alloc_new w _) hb
  clear hb h
  go_wp2_with (go_at_call 53; refine (l01In_any _ _ _ _).mono ?_; rintro e w' ⟨rfl, rfl⟩)
  exact bodyPost_ret (v := .tuple #[.bool _, .int .i64 _]) (by simp [results, Try.results29, go_sem]) rfl ⟨rfl, HB.out⟩

set_option maxHeartbeats 1000000 in
theorem specGives_range (id st op arg pc til : Int) (per can : Bool) (r0 r1 r2 r3 r4 code res : Int) (now : Int) (w : World) (h : thB id st op arg pc til per can r0 r1 r2 r3 r4 code res = true) (h1 : inB now 0 1000000 = false) :
    Calls Try.prog 29 #[.agg #[.int .i64 id, .int .i64 st, .int .i64 op, .int .i64 arg, .int .i64 pc, .int .i64 til, .bool per, .bool can, .int .i64 r0, .int .i64 r1, .int .i64 r2, .int .i64 r3, .int .i64 r4, .int .i64 code, .int .i64 res], .int .i64 now] w fun e w' => e = .returned (.tuple #[.bool false, .int .i64 4]) ∧ Below w.heap.size w w' := by
  go_enter Try.func29, Try.ntmps29
  go_wp2_with fail
  refine (specThreadOK_any _ _ _ _ _ _ _ _ _ _ _ _ _ _ _ _).mono ?_
  rintro e w1 ⟨rfl, hb⟩
  rw [h]
  have HB := Lib.hid (below_trans (below_alloc _ _) hb)
  have HX : Hid (BoxT w1 w.heap.size #[.int .i64 id, .int .i64 st, .int .i64 op, .int .i64 arg, .int .i64 pc, .int .i64 til, .bool per, .bool can, .int .i64 r0, .int .i64 r1, .int .i64 r2, .int .i64 r3, .int .i64 r4, .int .i64 code, .int .i64 res]) := BoxT.below (heap_alloc_new w _) hb
  clear hb h
  go_wp2_with (go_at_call 53; refine (l01In_any _ _ _ _).mono ?_; rintro e w' ⟨rfl, rfl⟩)
  exact bodyPost_ret (v := .tuple #[.bool _, .int .i64 _]) (by simp [results, Try.results29, go_sem]) rfl ⟨rfl, HB.out⟩

set_option maxHeartbeats 1000000 in
theorem specGives_ok (id st op arg pc til : Int) (per can : Bool) (r0 r1 r2 r3 r4 code res : Int) (now : Int) (w : World) (h : thB id st op arg pc til per can r0 r1 r2 r3 r4 code res = true) (h1 : inB now 0 1000000 = true) :
    Calls Try.prog 29 #[.agg #[.int .i64 id, .int .i64 st, .int .i64 op, .int .i64 arg, .int .i64 pc, .int .i64 til, .bool per, .bool can, .int .i64 r0, .int .i64 r1, .int .i64 r2, .int .i64 r3, .int .i64 r4, .int .i64 code, .int .i64 res], .int .i64 now] w fun e w' => e = .returned (.tuple #[.bool (gvB can til now), .int .i64 0]) ∧ Below w.heap.size w w' := by
  have HT := Lib.hid (thB_til id st op arg pc til per can r0 r1 r2 r3 r4 code res h)
  go_enter Try.func29, Try.ntmps29
  go_wp2_with fail
  refine (specThreadOK_any _ _ _ _ _ _ _ _ _ _ _ _ _ _ _ _).mono ?_
  rintro e w1 ⟨rfl, hb⟩
  rw [h]
  have HB := Lib.hid (below_trans (below_alloc _ _) hb)
  have HX : Hid (BoxT w1 w.heap.size #[.int .i64 id, .int .i64 st, .int .i64 op, .int .i64 arg, .int .i64 pc, .int .i64 til, .bool per, .bool can, .int .i64 r0, .int .i64 r1, .int .i64 r2, .int .i64 r3, .int .i64 r4, .int .i64 code, .int .i64 res]) := BoxT.below (heap_alloc_new w _) hb
  clear hb h
  go_wp2_with (first | (go_at_call 53; refine (l01In_any _ _ _ _).mono ?_; rintro e w' ⟨rfl, rfl⟩) | (refine wpList_load_row rfl 25 _ rfl w.heap.size rfl 25 _ (0, 0) _ HX.out Try.underlying25 rfl info_th ?_))
  refine (l03Gives_any id st op arg pc til per can r0 r1 r2 r3 r4 code res now _ HT.out).mono ?_
  rintro e w2 ⟨rfl, hb⟩
  have HB2 := Lib.hid (below_trans HB.out hb)
  clear hb HB HX h1
  go_wp2
  exact bodyPost_ret (v := .tuple #[.bool _, .int .i64 _]) (by simp [results, Try.results29, go_sem]) rfl ⟨rfl, HB2.out⟩

theorem specGives_any (id st op arg pc til : Int) (per can : Bool) (r0 r1 r2 r3 r4 code res : Int) (now : Int) (w : World) (b : Bool) (c : Int) (hX : givB id st op arg pc til per can r0 r1 r2 r3 r4 code res now = (b, c)) :
    Calls Try.prog 29 #[.agg #[.int .i64 id, .int .i64 st, .int .i64 op, .int .i64 arg, .int .i64 pc, .int .i64 til, .bool per, .bool can, .int .i64 r0, .int .i64 r1, .int .i64 r2, .int .i64 r3, .int .i64 r4, .int .i64 code, .int .i64 res], .int .i64 now] w fun e w' => e = .returned (.tuple #[.bool b, .int .i64 c]) ∧ Below w.heap.size w w' := by
  cases h : thB id st op arg pc til per can r0 r1 r2 r3 r4 code res
  · rw [givB_bad id st op arg pc til per can r0 r1 r2 r3 r4 code res now h] at hX; cases hX; exact specGives_bad id st op arg pc til per can r0 r1 r2 r3 r4 code res now w h
  cases h1 : inB now 0 1000000
  · rw [givB_range id st op arg pc til per can r0 r1 r2 r3 r4 code res now h h1] at hX; cases hX; exact specGives_range id st op arg pc til per can r0 r1 r2 r3 r4 code res now w h h1
  · rw [givB_ok id st op arg pc til per can r0 r1 r2 r3 r4 code res now h h1] at hX; cases hX; exact specGives_ok id st op arg pc til per can r0 r1 r2 r3 r4 code res now w h h1

set_option maxHeartbeats 1000000 in
theorem l03Expire_other (id st op arg pc til : Int) (per can : Bool) (r0 r1 r2 r3 r4 code res : Int) (now : Int) (w : World) (h : (st == 2) = false) : Calls Try.prog 58 #[.agg #[.int .i64 id, .int .i64 st, .int .i64 op, .int .i64 arg, .int .i64 pc, .int .i64 til, .bool per, .bool can, .int .i64 r0, .int .i64 r1, .int .i64 r2, .int .i64 r3, .int .i64 r4, .int .i64 code, .int .i64 res], .int .i64 now] w fun e w' => e = .returned (.agg #[.int .i64 id, .int .i64 st, .int .i64 op, .int .i64 arg, .int .i64 pc, .int .i64 til, .bool per, .bool can, .int .i64 r0, .int .i64 r1, .int .i64 r2, .int .i64 r3, .int .i64 r4, .int .i64 code, .int .i64 res]) ∧ Below w.heap.size w w' := by
  go_enter Try.func58, Try.ntmps58
  go_wp2
  refine bodyPost_ret (v := .agg _) (by simp [results, Try.results58, go_sem]) rfl ⟨rfl, ?_⟩
  exact below_alloc2 _ _ _

set_option maxHeartbeats 1000000 in
theorem l03Expire_waits (id st op arg pc til : Int) (per can : Bool) (r0 r1 r2 r3 r4 code res : Int) (now : Int) (w : World) (ht : 0 ≤ til) (h : (st == 2) = true) (h1 : gvB can til now = false) : Calls Try.prog 58 #[.agg #[.int .i64 id, .int .i64 st, .int .i64 op, .int .i64 arg, .int .i64 pc, .int .i64 til, .bool per, .bool can, .int .i64 r0, .int .i64 r1, .int .i64 r2, .int .i64 r3, .int .i64 r4, .int .i64 code, .int .i64 res], .int .i64 now] w fun e w' => e = .returned (.agg #[.int .i64 id, .int .i64 st, .int .i64 op, .int .i64 arg, .int .i64 pc, .int .i64 til, .bool per, .bool can, .int .i64 r0, .int .i64 r1, .int .i64 r2, .int .i64 r3, .int .i64 r4, .int .i64 code, .int .i64 res]) ∧ Below w.heap.size w w' := by
  obtain rfl : st = 2 := by simpa using h
  clear h
  have HT := Lib.hid ht; clear ht
  go_enter Try.func58, Try.ntmps58
  go_wp2_with fail
  refine (l03Gives_any _ _ _ _ _ _ _ _ _ _ _ _ _ _ _ now _ HT.out).mono ?_
  rintro e w1 ⟨rfl, hb⟩
  rw [h1]
  have HB1 := Lib.hid (below_trans (below_alloc2 _ _ _) hb)
  have HX1 := Lib.hid ((BoxT.two w _ _).below hb)
  have HR1 := Lib.hid ((BoxT.two' w _ _).below hb)
  clear hb
  clear h1 HT
  go_wp2_with (first | (refine wpList_load_row rfl 25 _ rfl w.heap.size rfl 25 _ (0, 0) _ HX1.out Try.underlying25 rfl info_th ?_) | (refine wpList_store_row rfl 25 _ _ rfl (w.heap.size + 1) _ rfl rfl 25 _ HR1.out info_th rfl (one15 _ _ _ _ _ _ _ _ _ _ _ _ _ _ _) ?_))
  exact bodyPost_ret (results_th1 Try.results58 _ _ (w.heap.size + 1) _ rfl (HR1.out.row _) rfl) rfl ⟨rfl, below_row HB1.out (by omega) _⟩

set_option maxHeartbeats 1000000 in
theorem l03Expire_over (id st op arg pc til : Int) (per can : Bool) (r0 r1 r2 r3 r4 code res : Int) (now : Int) (w : World) (ht : 0 ≤ til) (h : (st == 2) = true) (h1 : gvB can til now = true) : Calls Try.prog 58 #[.agg #[.int .i64 id, .int .i64 st, .int .i64 op, .int .i64 arg, .int .i64 pc, .int .i64 til, .bool per, .bool can, .int .i64 r0, .int .i64 r1, .int .i64 r2, .int .i64 r3, .int .i64 r4, .int .i64 code, .int .i64 res], .int .i64 now] w fun e w' => e = .returned (.agg #[.int .i64 id, .int .i64 (frB st), .int .i64 op, .int .i64 arg, .int .i64 pc, .int .i64 til, .bool per, .bool can, .int .i64 r0, .int .i64 r1, .int .i64 r2, .int .i64 r3, .int .i64 r4, .int .i64 code, .int .i64 res]) ∧ Below w.heap.size w w' := by
  obtain rfl : st = 2 := by simpa using h
  clear h
  rw [frB_two]
  have HT := Lib.hid ht; clear ht
  go_enter Try.func58, Try.ntmps58
  go_wp2_with fail
  refine (l03Gives_any _ _ _ _ _ _ _ _ _ _ _ _ _ _ _ now _ HT.out).mono ?_
  rintro e w1 ⟨rfl, hb⟩
  rw [h1]
  have HB1 := Lib.hid (below_trans (below_alloc2 _ _ _) hb)
  have HX1 := Lib.hid ((BoxT.two w _ _).below hb)
  have HR1 := Lib.hid ((BoxT.two' w _ _).below hb)
  clear hb
  clear h1 HT
  have hc : w1.cell? ⟨w.heap.size, 1, none⟩ = some (.int .i64 2) := HX1.out.cell 1
  have hf := HX1.out.froz 1
  have HX2 : Hid (BoxT (w1.setCell ⟨w.heap.size, 1, none⟩ (.int .i64 1)) w.heap.size #[.int .i64 id, .int .i64 1, .int .i64 op, .int .i64 arg, .int .i64 pc, .int .i64 til, .bool per, .bool can, .int .i64 r0, .int .i64 r1, .int .i64 r2, .int .i64 r3, .int .i64 r4, .int .i64 code, .int .i64 res]) := HX1.out.set 1 _
  have HR2 := Lib.hid (HR1.out.other ⟨w.heap.size, 1, none⟩ (.int .i64 1) (by simp))
  have HB2 := Lib.hid (below_set (a := ⟨w.heap.size, 1, none⟩) (v := .int .i64 1) HB1.out (Nat.le_refl _))
  clear HX1 HR1 HB1
  go_wp2_with (first | (refine wpList_load_row rfl 25 _ rfl w.heap.size rfl 25 _ (0, 0) _ HX2.out Try.underlying25 rfl info_th ?_) | (refine wpList_store_row rfl 25 _ _ rfl (w.heap.size + 1) _ rfl rfl 25 _ HR2.out info_th rfl (one15 _ _ _ _ _ _ _ _ _ _ _ _ _ _ _) ?_))
  exact bodyPost_ret (results_th1 Try.results58 _ _ (w.heap.size + 1) _ rfl (HR2.out.row _) rfl) rfl ⟨rfl, below_row HB2.out (by omega) _⟩

set_option maxHeartbeats 1000000 in
theorem specExpire_bad (id st op arg pc til : Int) (per can : Bool) (r0 r1 r2 r3 r4 code res : Int) (now : Int) (w : World) (h : thB id st op arg pc til per can r0 r1 r2 r3 r4 code res = false) :
    Calls Try.prog 30 #[.agg #[.int .i64 id, .int .i64 st, .int .i64 op, .int .i64 arg, .int .i64 pc, .int .i64 til, .bool per, .bool can, .int .i64 r0, .int .i64 r1, .int .i64 r2, .int .i64 r3, .int .i64 r4, .int .i64 code, .int .i64 res], .int .i64 now] w fun e w' => e = .returned (.tuple #[.agg #[.int .i64 0, .int .i64 0, .int .i64 0, .int .i64 0, .int .i64 0, .int .i64 0, .bool false, .bool false, .int .i64 0, .int .i64 0, .int .i64 0, .int .i64 0, .int .i64 0, .int .i64 0, .int .i64 0], .int .i64 1]) ∧ Below w.heap.size w w' := by
  go_enter Try.func30, Try.ntmps30
  go_wp2_with fail
  refine (specThreadOK_any _ _ _ _ _ _ _ _ _ _ _ _ _ _ _ _).mono ?_
  rintro e w1 ⟨rfl, hb⟩
  rw [h]
  have HB1 := Lib.hid (below_trans (below_alloc2 _ _ _) hb)
  have HX1 := Lib.hid ((BoxT.two w _ _).below hb)
  have HR1 := Lib.hid ((BoxT.two' w _ _).below hb)
  clear hb
  clear h
  go_wp2_with (first | (go_at_call 53; refine (l01In_any _ _ _ _).mono ?_; rintro e w' ⟨rfl, rfl⟩) | (refine wpList_load_row rfl 25 _ rfl w.heap.size rfl 25 _ (0, 0) _ HX1.out Try.underlying25 rfl info_th ?_) | (refine wpList_store_row rfl 25 _ _ rfl (w.heap.size + 1) _ rfl rfl 25 _ HR1.out info_th rfl (one15 _ _ _ _ _ _ _ _ _ _ _ _ _ _ _) ?_))
  exact bodyPost_ret (results_th Try.results30 _ _ (w.heap.size + 1) _ _ rfl rfl (HR1.out.row _) rfl) rfl ⟨rfl, below_row HB1.out (by omega) _⟩

set_option maxHeartbeats 1000000 in
theorem specExpire_range (id st op arg pc til : Int) (per can : Bool) (r0 r1 r2 r3 r4 code res : Int) (now : Int) (w : World) (h : thB id st op arg pc til per can r0 r1 r2 r3 r4 code res = true) (h1 : inB now 0 1000000 = false) :
    Calls Try.prog 30 #[.agg #[.int .i64 id, .int .i64 st, .int .i64 op, .int .i64 arg, .int .i64 pc, .int .i64 til, .bool per, .bool can, .int .i64 r0, .int .i64 r1, .int .i64 r2, .int .i64 r3, .int .i64 r4, .int .i64 code, .int .i64 res], .int .i64 now] w fun e w' => e = .returned (.tuple #[.agg #[.int .i64 0, .int .i64 0, .int .i64 0, .int .i64 0, .int .i64 0, .int .i64 0, .bool false, .bool false, .int .i64 0, .int .i64 0, .int .i64 0, .int .i64 0, .int .i64 0, .int .i64 0, .int .i64 0], .int .i64 4]) ∧ Below w.heap.size w w' := by
  go_enter Try.func30, Try.ntmps30
  go_wp2_with fail
  refine (specThreadOK_any _ _ _ _ _ _ _ _ _ _ _ _ _ _ _ _).mono ?_
  rintro e w1 ⟨rfl, hb⟩
  rw [h]
  have HB1 := Lib.hid (below_trans (below_alloc2 _ _ _) hb)
  have HX1 := Lib.hid ((BoxT.two w _ _).below hb)
  have HR1 := Lib.hid ((BoxT.two' w _ _).below hb)
  clear hb
  clear h
  go_wp2_with (first | (go_at_call 53; refine (l01In_any _ _ _ _).mono ?_; rintro e w' ⟨rfl, rfl⟩) | (refine wpList_load_row rfl 25 _ rfl w.heap.size rfl 25 _ (0, 0) _ HX1.out Try.underlying25 rfl info_th ?_) | (refine wpList_store_row rfl 25 _ _ rfl (w.heap.size + 1) _ rfl rfl 25 _ HR1.out info_th rfl (one15 _ _ _ _ _ _ _ _ _ _ _ _ _ _ _) ?_))
  exact bodyPost_ret (results_th Try.results30 _ _ (w.heap.size + 1) _ _ rfl rfl (HR1.out.row _) rfl) rfl ⟨rfl, below_row HB1.out (by omega) _⟩

set_option maxHeartbeats 1000000 in
theorem specExpire_parked_over (id st op arg pc til : Int) (per can : Bool) (r0 r1 r2 r3 r4 code res : Int) (now : Int) (w : World) (h : thB id st op arg pc til per can r0 r1 r2 r3 r4 code res = true) (h1 : inB now 0 1000000 = true) (h3 : (st == 2) = true) (h2 : gvB can til now = true) :
    Calls Try.prog 30 #[.agg #[.int .i64 id, .int .i64 st, .int .i64 op, .int .i64 arg, .int .i64 pc, .int .i64 til, .bool per, .bool can, .int .i64 r0, .int .i64 r1, .int .i64 r2, .int .i64 r3, .int .i64 r4, .int .i64 code, .int .i64 res], .int .i64 now] w fun e w' => e = .returned (.tuple #[.agg #[.int .i64 id, .int .i64 (frB st), .int .i64 op, .int .i64 arg, .int .i64 pc, .int .i64 til, .bool per, .bool can, .int .i64 r0, .int .i64 r1, .int .i64 r2, .int .i64 r3, .int .i64 r4, .int .i64 code, .int .i64 res], .int .i64 0]) ∧ Below w.heap.size w w' := by
  have HT := Lib.hid (thB_til id st op arg pc til per can r0 r1 r2 r3 r4 code res h)
  go_enter Try.func30, Try.ntmps30
  go_wp2_with fail
  refine (specThreadOK_any _ _ _ _ _ _ _ _ _ _ _ _ _ _ _ _).mono ?_
  rintro e w1 ⟨rfl, hb⟩
  rw [h]
  have HB1 := Lib.hid (below_trans (below_alloc2 _ _ _) hb)
  have HX1 := Lib.hid ((BoxT.two w _ _).below hb)
  have HR1 := Lib.hid ((BoxT.two' w _ _).below hb)
  clear hb
  clear h
  go_wp2_with (first | (go_at_call 53; refine (l01In_any _ _ _ _).mono ?_; rintro e w' ⟨rfl, rfl⟩) | (refine wpList_load_row rfl 25 _ rfl w.heap.size rfl 25 _ (0, 0) _ HX1.out Try.underlying25 rfl info_th ?_))
  refine (l03Expire_over id st op arg pc til per can r0 r1 r2 r3 r4 code res now _ HT.out h3 h2).mono ?_
  rintro e w2 ⟨rfl, hb⟩
  have HB2 := Lib.hid (below_trans HB1.out hb)
  have HX2 := Lib.hid (HX1.out.below hb)
  have HR2 := Lib.hid (HR1.out.below hb)
  clear hb HB1 HX1 HR1
  clear h1 h3 HT h2
  go_wp2_with (first | (refine wpList_load_row rfl 25 _ rfl w.heap.size rfl 25 _ (0, 0) _ HX2.out Try.underlying25 rfl info_th ?_) | (refine wpList_store_row rfl 25 _ _ rfl (w.heap.size + 1) _ rfl rfl 25 _ HR2.out info_th rfl (one15 _ _ _ _ _ _ _ _ _ _ _ _ _ _ _) ?_))
  exact bodyPost_ret (results_th Try.results30 _ _ (w.heap.size + 1) _ _ rfl rfl (HR2.out.row _) rfl) rfl ⟨rfl, below_row HB2.out (by omega) _⟩

set_option maxHeartbeats 1000000 in
theorem specExpire_parked_waits (id st op arg pc til : Int) (per can : Bool) (r0 r1 r2 r3 r4 code res : Int) (now : Int) (w : World) (h : thB id st op arg pc til per can r0 r1 r2 r3 r4 code res = true) (h1 : inB now 0 1000000 = true) (h3 : (st == 2) = true) (h2 : gvB can til now = false) :
    Calls Try.prog 30 #[.agg #[.int .i64 id, .int .i64 st, .int .i64 op, .int .i64 arg, .int .i64 pc, .int .i64 til, .bool per, .bool can, .int .i64 r0, .int .i64 r1, .int .i64 r2, .int .i64 r3, .int .i64 r4, .int .i64 code, .int .i64 res], .int .i64 now] w fun e w' => e = .returned (.tuple #[.agg #[.int .i64 id, .int .i64 st, .int .i64 op, .int .i64 arg, .int .i64 pc, .int .i64 til, .bool per, .bool can, .int .i64 r0, .int .i64 r1, .int .i64 r2, .int .i64 r3, .int .i64 r4, .int .i64 code, .int .i64 res], .int .i64 0]) ∧ Below w.heap.size w w' := by
  have HT := Lib.hid (thB_til id st op arg pc til per can r0 r1 r2 r3 r4 code res h)
  go_enter Try.func30, Try.ntmps30
  go_wp2_with fail
  refine (specThreadOK_any _ _ _ _ _ _ _ _ _ _ _ _ _ _ _ _).mono ?_
  rintro e w1 ⟨rfl, hb⟩
  rw [h]
  have HB1 := Lib.hid (below_trans (below_alloc2 _ _ _) hb)
  have HX1 := Lib.hid ((BoxT.two w _ _).below hb)
  have HR1 := Lib.hid ((BoxT.two' w _ _).below hb)
  clear hb
  clear h
  go_wp2_with (first | (go_at_call 53; refine (l01In_any _ _ _ _).mono ?_; rintro e w' ⟨rfl, rfl⟩) | (refine wpList_load_row rfl 25 _ rfl w.heap.size rfl 25 _ (0, 0) _ HX1.out Try.underlying25 rfl info_th ?_))
  refine (l03Expire_waits id st op arg pc til per can r0 r1 r2 r3 r4 code res now _ HT.out h3 h2).mono ?_
  rintro e w2 ⟨rfl, hb⟩
  have HB2 := Lib.hid (below_trans HB1.out hb)
  have HX2 := Lib.hid (HX1.out.below hb)
  have HR2 := Lib.hid (HR1.out.below hb)
  clear hb HB1 HX1 HR1
  clear h1 h3 HT h2
  go_wp2_with (first | (refine wpList_load_row rfl 25 _ rfl w.heap.size rfl 25 _ (0, 0) _ HX2.out Try.underlying25 rfl info_th ?_) | (refine wpList_store_row rfl 25 _ _ rfl (w.heap.size + 1) _ rfl rfl 25 _ HR2.out info_th rfl (one15 _ _ _ _ _ _ _ _ _ _ _ _ _ _ _) ?_))
  exact bodyPost_ret (results_th Try.results30 _ _ (w.heap.size + 1) _ _ rfl rfl (HR2.out.row _) rfl) rfl ⟨rfl, below_row HB2.out (by omega) _⟩

set_option maxHeartbeats 1000000 in
theorem specExpire_other (id st op arg pc til : Int) (per can : Bool) (r0 r1 r2 r3 r4 code res : Int) (now : Int) (w : World) (h : thB id st op arg pc til per can r0 r1 r2 r3 r4 code res = true) (h1 : inB now 0 1000000 = true) (h3 : (st == 2) = false) :
    Calls Try.prog 30 #[.agg #[.int .i64 id, .int .i64 st, .int .i64 op, .int .i64 arg, .int .i64 pc, .int .i64 til, .bool per, .bool can, .int .i64 r0, .int .i64 r1, .int .i64 r2, .int .i64 r3, .int .i64 r4, .int .i64 code, .int .i64 res], .int .i64 now] w fun e w' => e = .returned (.tuple #[.agg #[.int .i64 id, .int .i64 st, .int .i64 op, .int .i64 arg, .int .i64 pc, .int .i64 til, .bool per, .bool can, .int .i64 r0, .int .i64 r1, .int .i64 r2, .int .i64 r3, .int .i64 r4, .int .i64 code, .int .i64 res], .int .i64 0]) ∧ Below w.heap.size w w' := by
  have HT := Lib.hid (thB_til id st op arg pc til per can r0 r1 r2 r3 r4 code res h)
  go_enter Try.func30, Try.ntmps30
  go_wp2_with fail
  refine (specThreadOK_any _ _ _ _ _ _ _ _ _ _ _ _ _ _ _ _).mono ?_
  rintro e w1 ⟨rfl, hb⟩
  rw [h]
  have HB1 := Lib.hid (below_trans (below_alloc2 _ _ _) hb)
  have HX1 := Lib.hid ((BoxT.two w _ _).below hb)
  have HR1 := Lib.hid ((BoxT.two' w _ _).below hb)
  clear hb
  clear h
  go_wp2_with (first | (go_at_call 53; refine (l01In_any _ _ _ _).mono ?_; rintro e w' ⟨rfl, rfl⟩) | (refine wpList_load_row rfl 25 _ rfl w.heap.size rfl 25 _ (0, 0) _ HX1.out Try.underlying25 rfl info_th ?_))
  refine (l03Expire_other id st op arg pc til per can r0 r1 r2 r3 r4 code res now _ h3).mono ?_
  rintro e w2 ⟨rfl, hb⟩
  have HB2 := Lib.hid (below_trans HB1.out hb)
  have HX2 := Lib.hid (HX1.out.below hb)
  have HR2 := Lib.hid (HR1.out.below hb)
  clear hb HB1 HX1 HR1
  clear h1 h3 HT
  go_wp2_with (first | (refine wpList_load_row rfl 25 _ rfl w.heap.size rfl 25 _ (0, 0) _ HX2.out Try.underlying25 rfl info_th ?_) | (refine wpList_store_row rfl 25 _ _ rfl (w.heap.size + 1) _ rfl rfl 25 _ HR2.out info_th rfl (one15 _ _ _ _ _ _ _ _ _ _ _ _ _ _ _) ?_))
  exact bodyPost_ret (results_th Try.results30 _ _ (w.heap.size + 1) _ _ rfl rfl (HR2.out.row _) rfl) rfl ⟨rfl, below_row HB2.out (by omega) _⟩

theorem specExpire_waits (id st op arg pc til : Int) (per can : Bool) (r0 r1 r2 r3 r4 code res : Int) (now : Int) (w : World) (h : thB id st op arg pc til per can r0 r1 r2 r3 r4 code res = true) (h1 : inB now 0 1000000 = true) (h2 : gvB can til now = false) :
    Calls Try.prog 30 #[.agg #[.int .i64 id, .int .i64 st, .int .i64 op, .int .i64 arg, .int .i64 pc, .int .i64 til, .bool per, .bool can, .int .i64 r0, .int .i64 r1, .int .i64 r2, .int .i64 r3, .int .i64 r4, .int .i64 code, .int .i64 res], .int .i64 now] w fun e w' => e = .returned (.tuple #[.agg #[.int .i64 id, .int .i64 st, .int .i64 op, .int .i64 arg, .int .i64 pc, .int .i64 til, .bool per, .bool can, .int .i64 r0, .int .i64 r1, .int .i64 r2, .int .i64 r3, .int .i64 r4, .int .i64 code, .int .i64 res], .int .i64 0]) ∧ Below w.heap.size w w' := by
  cases h3 : (st == 2)
  · exact specExpire_other id st op arg pc til per can r0 r1 r2 r3 r4 code res now w h h1 h3
  · exact specExpire_parked_waits id st op arg pc til per can r0 r1 r2 r3 r4 code res now w h h1 h3 h2
theorem specExpire_over (id st op arg pc til : Int) (per can : Bool) (r0 r1 r2 r3 r4 code res : Int) (now : Int) (w : World) (h : thB id st op arg pc til per can r0 r1 r2 r3 r4 code res = true) (h1 : inB now 0 1000000 = true) (h2 : gvB can til now = true) :
    Calls Try.prog 30 #[.agg #[.int .i64 id, .int .i64 st, .int .i64 op, .int .i64 arg, .int .i64 pc, .int .i64 til, .bool per, .bool can, .int .i64 r0, .int .i64 r1, .int .i64 r2, .int .i64 r3, .int .i64 r4, .int .i64 code, .int .i64 res], .int .i64 now] w fun e w' => e = .returned (.tuple #[.agg #[.int .i64 id, .int .i64 (frB st), .int .i64 op, .int .i64 arg, .int .i64 pc, .int .i64 til, .bool per, .bool can, .int .i64 r0, .int .i64 r1, .int .i64 r2, .int .i64 r3, .int .i64 r4, .int .i64 code, .int .i64 res], .int .i64 0]) ∧ Below w.heap.size w w' := by
  cases h3 : (st == 2)
  · rw [frB_other (by simpa using h3)]; exact specExpire_other id st op arg pc til per can r0 r1 r2 r3 r4 code res now w h h1 h3
  · exact specExpire_parked_over id st op arg pc til per can r0 r1 r2 r3 r4 code res now w h h1 h3 h2

theorem specExpire_any (id st op arg pc til : Int) (per can : Bool) (r0 r1 r2 r3 r4 code res : Int) (now : Int) (w : World) (id' st' op' arg' pc' til' : Int) (per' can' : Bool) (s0 s1 s2 s3 s4 code' res' c : Int) (hX : expB id st op arg pc til per can r0 r1 r2 r3 r4 code res now = (⟨id', st', op', arg', pc', til', per', can', s0, s1, s2, s3, s4, code', res'⟩, c)) :
    Calls Try.prog 30 #[.agg #[.int .i64 id, .int .i64 st, .int .i64 op, .int .i64 arg, .int .i64 pc, .int .i64 til, .bool per, .bool can, .int .i64 r0, .int .i64 r1, .int .i64 r2, .int .i64 r3, .int .i64 r4, .int .i64 code, .int .i64 res], .int .i64 now] w fun e w' => e = .returned (.tuple #[.agg #[.int .i64 id', .int .i64 st', .int .i64 op', .int .i64 arg', .int .i64 pc', .int .i64 til', .bool per', .bool can', .int .i64 s0, .int .i64 s1, .int .i64 s2, .int .i64 s3, .int .i64 s4, .int .i64 code', .int .i64 res'], .int .i64 c]) ∧ Below w.heap.size w w' := by
  cases h : thB id st op arg pc til per can r0 r1 r2 r3 r4 code res
  · rw [expB_bad id st op arg pc til per can r0 r1 r2 r3 r4 code res now h] at hX; cases hX; exact specExpire_bad id st op arg pc til per can r0 r1 r2 r3 r4 code res now w h
  cases h1 : inB now 0 1000000
  · rw [expB_range id st op arg pc til per can r0 r1 r2 r3 r4 code res now h h1] at hX; cases hX; exact specExpire_range id st op arg pc til per can r0 r1 r2 r3 r4 code res now w h h1
  cases h2 : gvB can til now
  · rw [expB_waits id st op arg pc til per can r0 r1 r2 r3 r4 code res now h h1 h2] at hX; cases hX; exact specExpire_waits id st op arg pc til per can r0 r1 r2 r3 r4 code res now w h h1 h2
  · rw [expB_over id st op arg pc til per can r0 r1 r2 r3 r4 code res now h h1 h2] at hX; cases hX; exact specExpire_over id st op arg pc til per can r0 r1 r2 r3 r4 code res now w h h1 h2

end Go.Proofs.Ytepjaahclcpaaaa
