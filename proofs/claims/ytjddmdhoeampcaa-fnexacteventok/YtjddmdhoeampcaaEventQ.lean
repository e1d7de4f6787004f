/-
  EventOK of the program.
-/
import Derived.Test.YtjddmdhoeampcaaEventP
import Derived.Test.YtjddmdhoeampcaaBoxC
namespace Go.Proofs.Ytjddmdhoeampcaa
open Go.RowKit

theorem info_ev : (Try.prog.info? 62).map (·.size) = some 5 := by kernel_rfl

set_option maxHeartbeats 2000000 in
theorem implEv_callBegins (th op arg n : Int) (w : World) : Calls Try.prog 36 #[.agg #[.int .i64 1, .int .i64 th, .int .i64 op, .int .i64 arg, .int .i64 n]] w fun e w' => e = .returned (.bool (beginsB th op arg n)) ∧ Below w.heap.size w w' := by
  have HL := Lib.hid (BoxC.new 62 w #[.int .i64 1, .int .i64 th, .int .i64 op, .int .i64 arg, .int .i64 n])
  obtain ⟨r, hr⟩ : ∃ r, beginsB th op arg n = r := ⟨_, rfl⟩
  have HR := Lib.hid hr
  rw [hr]
  clear hr
  go_enter Try.func36, Try.ntmps36
  go_wp2_with (refine wpList_load_row rfl 62 _ rfl (w.heap.size) rfl 62 _ (0, 0) _ HL.out Try.underlying62 rfl info_ev ?_)
  refine (happening_callBegins _ _ _ _ _).mono ?_
  rintro e w1 ⟨rfl, hb⟩
  have HB1 := Lib.hid (below_trans (below_alloc _ _) hb)
  have HL1 := Lib.hid (HL.out.below hb)
  clear hb HL
  go_wp2_with fail
  have hq : ∀ wx : World, (binOp .eql 62 (.agg #[.int .i64 1, .int .i64 th, .int .i64 op, .int .i64 arg, .int .i64 n]) (.agg #[.int .i64 1, .int .i64 th, .int .i64 op, .int .i64 arg, .int .i64 n])).run Try.prog wx = .ok (.bool true) wx := fun wx => by rw [run_eql_event]; simp [eqEv]
  go_region_held3 (fun w' => ∀ j : Nat, w'.cell? ⟨w.heap.size, j, none⟩ = (#[.int .i64 1, .int .i64 th, .int .i64 op, .int .i64 arg, .int .i64 n] : Array Value)[j]?)
    (first | exact HL1.out.cell | exact (HL1.out.below (below_drew_trans hb2)).cell | exact ((HL1.out.below (below_drew_trans hb2)).below hb3).cell)
    (first
      | (go_at_call 142; (with_reducible refine (callBegins_told _ _ _ _ _).mono ?_); rintro e w2 ⟨rfl, hb2⟩)
      | (go_at_call 141; (with_reducible refine (callBegins_right _ _ _ _ _).mono ?_); rintro e w3 ⟨rfl, hb3⟩; rw [HR.out]))
  have HB3 := Lib.hid (below_trans (below_trans HB1.out (below_drew_trans hb2)) hb3)
  clear hb2 hb3
  go_wp2
  go_ret
  exact ⟨rfl, HB3.out⟩

set_option maxHeartbeats 2000000 in
theorem implEv_stepTaken (th op arg n : Int) (w : World) : Calls Try.prog 36 #[.agg #[.int .i64 2, .int .i64 th, .int .i64 op, .int .i64 arg, .int .i64 n]] w fun e w' => e = .returned (.bool ((op == 0 && arg == 0 && n == 0) && inB th 0 3)) ∧ Below w.heap.size w w' := by
  have HL := Lib.hid (BoxC.new 62 w #[.int .i64 2, .int .i64 th, .int .i64 op, .int .i64 arg, .int .i64 n])
  obtain ⟨r, hr⟩ : ∃ r, (inB th 0 3) = r := ⟨_, rfl⟩
  have HR := Lib.hid hr
  rw [hr]
  clear hr
  cases hs : (op == 0 && arg == 0 && n == 0)
  · have HE : Hid (eqEv 2 th 0 0 0 2 th op arg n = false) := by unfold Hid eqEv; rw [← hs, Bool.eq_iff_iff]; simp; omega
    clear hs
    go_enter Try.func36, Try.ntmps36
    go_wp2_with (refine wpList_load_row rfl 62 _ rfl (w.heap.size) rfl 62 _ (0, 0) _ HL.out Try.underlying62 rfl info_ev ?_)
    refine (happening_stepTaken _ _ _ _ _).mono ?_
    rintro e w1 ⟨rfl, hb⟩
    have HB1 := Lib.hid (below_trans (below_alloc _ _) hb)
    have HL1 := Lib.hid (HL.out.below hb)
    clear hb HL
    go_wp2_with fail
    have hq : ∀ wx : World, (binOp .eql 62 (.agg #[.int .i64 2, .int .i64 th, .int .i64 0, .int .i64 0, .int .i64 0]) (.agg #[.int .i64 2, .int .i64 th, .int .i64 op, .int .i64 arg, .int .i64 n])).run Try.prog wx = .ok (.bool false) wx := fun wx => by rw [run_eql_event]; rw [HE.out]
    have hc1 := HL1.out.cell
    first | (go_region_with (go_at_call 145; (with_reducible refine (stepTaken_told _ _).mono ?_); rintro e w2 ⟨rfl, hb2⟩; have hc2 : ∀ j : Nat, w2.cell? ⟨w.heap.size, j, none⟩ = (#[.int .i64 2, .int .i64 th, .int .i64 op, .int .i64 arg, .int .i64 n] : Array Value)[j]? := (HL1.out.below (below_drew_trans hb2)).cell; have HB2 := Lib.hid (below_trans HB1.out (below_drew_trans hb2)); clear hb2)) | fail
    all_goals
      go_wp2
      go_ret
      exact ⟨ret_bool (by simp), by first | exact HB2.out | exact HB2.out.drew⟩
  · have HE : Hid (eqEv 2 th 0 0 0 2 th op arg n = true) := by unfold Hid eqEv; rw [← hs, Bool.eq_iff_iff]; simp; omega
    clear hs
    go_enter Try.func36, Try.ntmps36
    go_wp2_with (refine wpList_load_row rfl 62 _ rfl (w.heap.size) rfl 62 _ (0, 0) _ HL.out Try.underlying62 rfl info_ev ?_)
    refine (happening_stepTaken _ _ _ _ _).mono ?_
    rintro e w1 ⟨rfl, hb⟩
    have HB1 := Lib.hid (below_trans (below_alloc _ _) hb)
    have HL1 := Lib.hid (HL.out.below hb)
    clear hb HL
    go_wp2_with fail
    have hq : ∀ wx : World, (binOp .eql 62 (.agg #[.int .i64 2, .int .i64 th, .int .i64 0, .int .i64 0, .int .i64 0]) (.agg #[.int .i64 2, .int .i64 th, .int .i64 op, .int .i64 arg, .int .i64 n])).run Try.prog wx = .ok (.bool true) wx := fun wx => by rw [run_eql_event]; rw [HE.out]
    go_region_held3 (fun w' => ∀ j : Nat, w'.cell? ⟨w.heap.size, j, none⟩ = (#[.int .i64 2, .int .i64 th, .int .i64 op, .int .i64 arg, .int .i64 n] : Array Value)[j]?)
      (first | exact HL1.out.cell | exact (HL1.out.below (below_drew_trans hb2)).cell | exact ((HL1.out.below (below_drew_trans hb2)).below hb3).cell)
      (first
        | (go_at_call 145; (with_reducible refine (stepTaken_told _ _).mono ?_); rintro e w2 ⟨rfl, hb2⟩)
        | (go_at_call 144; (with_reducible refine (stepTaken_right _ _).mono ?_); rintro e w3 ⟨rfl, hb3⟩; rw [HR.out]))
    have HB3 := Lib.hid (below_trans (below_trans HB1.out (below_drew_trans hb2)) hb3)
    clear hb2 hb3
    go_wp2
    go_ret
    exact ⟨ret_bool (by simp), HB3.out⟩

set_option maxHeartbeats 2000000 in
theorem implEv_timePasses (th op arg n : Int) (w : World) : Calls Try.prog 36 #[.agg #[.int .i64 3, .int .i64 th, .int .i64 op, .int .i64 arg, .int .i64 n]] w fun e w' => e = .returned (.bool ((th == 0 && op == 0 && arg == 0) && inB n 0 1000)) ∧ Below w.heap.size w w' := by
  have HL := Lib.hid (BoxC.new 62 w #[.int .i64 3, .int .i64 th, .int .i64 op, .int .i64 arg, .int .i64 n])
  obtain ⟨r, hr⟩ : ∃ r, (inB n 0 1000) = r := ⟨_, rfl⟩
  have HR := Lib.hid hr
  rw [hr]
  clear hr
  cases hs : (th == 0 && op == 0 && arg == 0)
  · have HE : Hid (eqEv 3 0 0 0 n 3 th op arg n = false) := by unfold Hid eqEv; rw [← hs, Bool.eq_iff_iff]; simp; omega
    clear hs
    go_enter Try.func36, Try.ntmps36
    go_wp2_with (refine wpList_load_row rfl 62 _ rfl (w.heap.size) rfl 62 _ (0, 0) _ HL.out Try.underlying62 rfl info_ev ?_)
    refine (happening_timePasses _ _ _ _ _).mono ?_
    rintro e w1 ⟨rfl, hb⟩
    have HB1 := Lib.hid (below_trans (below_alloc _ _) hb)
    have HL1 := Lib.hid (HL.out.below hb)
    clear hb HL
    go_wp2_with fail
    have hq : ∀ wx : World, (binOp .eql 62 (.agg #[.int .i64 3, .int .i64 0, .int .i64 0, .int .i64 0, .int .i64 n]) (.agg #[.int .i64 3, .int .i64 th, .int .i64 op, .int .i64 arg, .int .i64 n])).run Try.prog wx = .ok (.bool false) wx := fun wx => by rw [run_eql_event]; rw [HE.out]
    have hc1 := HL1.out.cell
    first | (go_region_with (go_at_call 147; (with_reducible refine (timePasses_told _ _).mono ?_); rintro e w2 ⟨rfl, hb2⟩; have hc2 : ∀ j : Nat, w2.cell? ⟨w.heap.size, j, none⟩ = (#[.int .i64 3, .int .i64 th, .int .i64 op, .int .i64 arg, .int .i64 n] : Array Value)[j]? := (HL1.out.below (below_drew_trans hb2)).cell; have HB2 := Lib.hid (below_trans HB1.out (below_drew_trans hb2)); clear hb2)) | fail
    all_goals
      go_wp2
      go_ret
      exact ⟨ret_bool (by simp), by first | exact HB2.out | exact HB2.out.drew⟩
  · have HE : Hid (eqEv 3 0 0 0 n 3 th op arg n = true) := by unfold Hid eqEv; rw [← hs, Bool.eq_iff_iff]; simp; omega
    clear hs
    go_enter Try.func36, Try.ntmps36
    go_wp2_with (refine wpList_load_row rfl 62 _ rfl (w.heap.size) rfl 62 _ (0, 0) _ HL.out Try.underlying62 rfl info_ev ?_)
    refine (happening_timePasses _ _ _ _ _).mono ?_
    rintro e w1 ⟨rfl, hb⟩
    have HB1 := Lib.hid (below_trans (below_alloc _ _) hb)
    have HL1 := Lib.hid (HL.out.below hb)
    clear hb HL
    go_wp2_with fail
    have hq : ∀ wx : World, (binOp .eql 62 (.agg #[.int .i64 3, .int .i64 0, .int .i64 0, .int .i64 0, .int .i64 n]) (.agg #[.int .i64 3, .int .i64 th, .int .i64 op, .int .i64 arg, .int .i64 n])).run Try.prog wx = .ok (.bool true) wx := fun wx => by rw [run_eql_event]; rw [HE.out]
    go_region_held3 (fun w' => ∀ j : Nat, w'.cell? ⟨w.heap.size, j, none⟩ = (#[.int .i64 3, .int .i64 th, .int .i64 op, .int .i64 arg, .int .i64 n] : Array Value)[j]?)
      (first | exact HL1.out.cell | exact (HL1.out.below (below_drew_trans hb2)).cell | exact ((HL1.out.below (below_drew_trans hb2)).below hb3).cell)
      (first
        | (go_at_call 147; (with_reducible refine (timePasses_told _ _).mono ?_); rintro e w2 ⟨rfl, hb2⟩)
        | (go_at_call 146; (with_reducible refine (timePasses_right _ _).mono ?_); rintro e w3 ⟨rfl, hb3⟩; rw [HR.out]))
    have HB3 := Lib.hid (below_trans (below_trans HB1.out (below_drew_trans hb2)) hb3)
    clear hb2 hb3
    go_wp2
    go_ret
    exact ⟨ret_bool (by simp), HB3.out⟩

set_option maxHeartbeats 2000000 in
theorem implEv_cancelled (th op arg n : Int) (w : World) : Calls Try.prog 36 #[.agg #[.int .i64 4, .int .i64 th, .int .i64 op, .int .i64 arg, .int .i64 n]] w fun e w' => e = .returned (.bool ((op == 0 && arg == 0 && n == 0) && inB th 0 3)) ∧ Below w.heap.size w w' := by
  have HL := Lib.hid (BoxC.new 62 w #[.int .i64 4, .int .i64 th, .int .i64 op, .int .i64 arg, .int .i64 n])
  obtain ⟨r, hr⟩ : ∃ r, (inB th 0 3) = r := ⟨_, rfl⟩
  have HR := Lib.hid hr
  rw [hr]
  clear hr
  cases hs : (op == 0 && arg == 0 && n == 0)
  · have HE : Hid (eqEv 4 th 0 0 0 4 th op arg n = false) := by unfold Hid eqEv; rw [← hs, Bool.eq_iff_iff]; simp; omega
    clear hs
    go_enter Try.func36, Try.ntmps36
    go_wp2_with (refine wpList_load_row rfl 62 _ rfl (w.heap.size) rfl 62 _ (0, 0) _ HL.out Try.underlying62 rfl info_ev ?_)
    refine (happening_cancelled _ _ _ _ _).mono ?_
    rintro e w1 ⟨rfl, hb⟩
    have HB1 := Lib.hid (below_trans (below_alloc _ _) hb)
    have HL1 := Lib.hid (HL.out.below hb)
    clear hb HL
    go_wp2_with fail
    have hq : ∀ wx : World, (binOp .eql 62 (.agg #[.int .i64 4, .int .i64 th, .int .i64 0, .int .i64 0, .int .i64 0]) (.agg #[.int .i64 4, .int .i64 th, .int .i64 op, .int .i64 arg, .int .i64 n])).run Try.prog wx = .ok (.bool false) wx := fun wx => by rw [run_eql_event]; rw [HE.out]
    have hc1 := HL1.out.cell
    first | (go_region_with (go_at_call 149; (with_reducible refine (cancelled_told _ _).mono ?_); rintro e w2 ⟨rfl, hb2⟩; have hc2 : ∀ j : Nat, w2.cell? ⟨w.heap.size, j, none⟩ = (#[.int .i64 4, .int .i64 th, .int .i64 op, .int .i64 arg, .int .i64 n] : Array Value)[j]? := (HL1.out.below (below_drew_trans hb2)).cell; have HB2 := Lib.hid (below_trans HB1.out (below_drew_trans hb2)); clear hb2)) | fail
    all_goals
      go_wp2
      go_ret
      exact ⟨ret_bool (by simp), by first | exact HB2.out | exact HB2.out.drew⟩
  · have HE : Hid (eqEv 4 th 0 0 0 4 th op arg n = true) := by unfold Hid eqEv; rw [← hs, Bool.eq_iff_iff]; simp; omega
    clear hs
    go_enter Try.func36, Try.ntmps36
    go_wp2_with (refine wpList_load_row rfl 62 _ rfl (w.heap.size) rfl 62 _ (0, 0) _ HL.out Try.underlying62 rfl info_ev ?_)
    refine (happening_cancelled _ _ _ _ _).mono ?_
    rintro e w1 ⟨rfl, hb⟩
    have HB1 := Lib.hid (below_trans (below_alloc _ _) hb)
    have HL1 := Lib.hid (HL.out.below hb)
    clear hb HL
    go_wp2_with fail
    have hq : ∀ wx : World, (binOp .eql 62 (.agg #[.int .i64 4, .int .i64 th, .int .i64 0, .int .i64 0, .int .i64 0]) (.agg #[.int .i64 4, .int .i64 th, .int .i64 op, .int .i64 arg, .int .i64 n])).run Try.prog wx = .ok (.bool true) wx := fun wx => by rw [run_eql_event]; rw [HE.out]
    go_region_held3 (fun w' => ∀ j : Nat, w'.cell? ⟨w.heap.size, j, none⟩ = (#[.int .i64 4, .int .i64 th, .int .i64 op, .int .i64 arg, .int .i64 n] : Array Value)[j]?)
      (first | exact HL1.out.cell | exact (HL1.out.below (below_drew_trans hb2)).cell | exact ((HL1.out.below (below_drew_trans hb2)).below hb3).cell)
      (first
        | (go_at_call 149; (with_reducible refine (cancelled_told _ _).mono ?_); rintro e w2 ⟨rfl, hb2⟩)
        | (go_at_call 148; (with_reducible refine (cancelled_right _ _).mono ?_); rintro e w3 ⟨rfl, hb3⟩; rw [HR.out]))
    have HB3 := Lib.hid (below_trans (below_trans HB1.out (below_drew_trans hb2)) hb3)
    clear hb2 hb3
    go_wp2
    go_ret
    exact ⟨ret_bool (by simp), HB3.out⟩

set_option maxHeartbeats 2000000 in
theorem implEv_woken (th op arg n : Int) (w : World) : Calls Try.prog 36 #[.agg #[.int .i64 5, .int .i64 th, .int .i64 op, .int .i64 arg, .int .i64 n]] w fun e w' => e = .returned (.bool ((op == 0 && arg == 0 && n == 0) && inB th 0 3)) ∧ Below w.heap.size w w' := by
  have HL := Lib.hid (BoxC.new 62 w #[.int .i64 5, .int .i64 th, .int .i64 op, .int .i64 arg, .int .i64 n])
  obtain ⟨r, hr⟩ : ∃ r, (inB th 0 3) = r := ⟨_, rfl⟩
  have HR := Lib.hid hr
  rw [hr]
  clear hr
  cases hs : (op == 0 && arg == 0 && n == 0)
  · have HE : Hid (eqEv 5 th 0 0 0 5 th op arg n = false) := by unfold Hid eqEv; rw [← hs, Bool.eq_iff_iff]; simp; omega
    clear hs
    go_enter Try.func36, Try.ntmps36
    go_wp2_with (refine wpList_load_row rfl 62 _ rfl (w.heap.size) rfl 62 _ (0, 0) _ HL.out Try.underlying62 rfl info_ev ?_)
    refine (happening_woken _ _ _ _ _).mono ?_
    rintro e w1 ⟨rfl, hb⟩
    have HB1 := Lib.hid (below_trans (below_alloc _ _) hb)
    have HL1 := Lib.hid (HL.out.below hb)
    clear hb HL
    go_wp2_with fail
    have hq : ∀ wx : World, (binOp .eql 62 (.agg #[.int .i64 5, .int .i64 th, .int .i64 0, .int .i64 0, .int .i64 0]) (.agg #[.int .i64 5, .int .i64 th, .int .i64 op, .int .i64 arg, .int .i64 n])).run Try.prog wx = .ok (.bool false) wx := fun wx => by rw [run_eql_event]; rw [HE.out]
    have hc1 := HL1.out.cell
    first | (go_region_with (go_at_call 151; (with_reducible refine (woken_told _ _).mono ?_); rintro e w2 ⟨rfl, hb2⟩; have hc2 : ∀ j : Nat, w2.cell? ⟨w.heap.size, j, none⟩ = (#[.int .i64 5, .int .i64 th, .int .i64 op, .int .i64 arg, .int .i64 n] : Array Value)[j]? := (HL1.out.below (below_drew_trans hb2)).cell; have HB2 := Lib.hid (below_trans HB1.out (below_drew_trans hb2)); clear hb2)) | fail
    all_goals
      go_wp2
      go_ret
      exact ⟨ret_bool (by simp), by first | exact HB2.out | exact HB2.out.drew⟩
  · have HE : Hid (eqEv 5 th 0 0 0 5 th op arg n = true) := by unfold Hid eqEv; rw [← hs, Bool.eq_iff_iff]; simp; omega
    clear hs
    go_enter Try.func36, Try.ntmps36
    go_wp2_with (refine wpList_load_row rfl 62 _ rfl (w.heap.size) rfl 62 _ (0, 0) _ HL.out Try.underlying62 rfl info_ev ?_)
    refine (happening_woken _ _ _ _ _).mono ?_
    rintro e w1 ⟨rfl, hb⟩
    have HB1 := Lib.hid (below_trans (below_alloc _ _) hb)
    have HL1 := Lib.hid (HL.out.below hb)
    clear hb HL
    go_wp2_with fail
    have hq : ∀ wx : World, (binOp .eql 62 (.agg #[.int .i64 5, .int .i64 th, .int .i64 0, .int .i64 0, .int .i64 0]) (.agg #[.int .i64 5, .int .i64 th, .int .i64 op, .int .i64 arg, .int .i64 n])).run Try.prog wx = .ok (.bool true) wx := fun wx => by rw [run_eql_event]; rw [HE.out]
    go_region_held3 (fun w' => ∀ j : Nat, w'.cell? ⟨w.heap.size, j, none⟩ = (#[.int .i64 5, .int .i64 th, .int .i64 op, .int .i64 arg, .int .i64 n] : Array Value)[j]?)
      (first | exact HL1.out.cell | exact (HL1.out.below (below_drew_trans hb2)).cell | exact ((HL1.out.below (below_drew_trans hb2)).below hb3).cell)
      (first
        | (go_at_call 151; (with_reducible refine (woken_told _ _).mono ?_); rintro e w2 ⟨rfl, hb2⟩)
        | (go_at_call 150; (with_reducible refine (woken_right _ _).mono ?_); rintro e w3 ⟨rfl, hb3⟩; rw [HR.out]))
    have HB3 := Lib.hid (below_trans (below_trans HB1.out (below_drew_trans hb2)) hb3)
    clear hb2 hb3
    go_wp2
    go_ret
    exact ⟨ret_bool (by simp), HB3.out⟩

set_option maxHeartbeats 1000000 in
theorem implEv_none (k th op arg n : Int) (w : World) (h : inB k 1 5 = false) : Calls Try.prog 36 #[.agg #[.int .i64 k, .int .i64 th, .int .i64 op, .int .i64 arg, .int .i64 n]] w fun e w' => e = .returned (.bool (false)) ∧ Below w.heap.size w w' := by
  have HL := Lib.hid (BoxC.new 62 w #[.int .i64 k, .int .i64 th, .int .i64 op, .int .i64 arg, .int .i64 n])
  have HK := Lib.hid h; clear h
  go_enter Try.func36, Try.ntmps36
  go_wp2_with (refine wpList_load_row rfl 62 _ rfl (w.heap.size) rfl 62 _ (0, 0) _ HL.out Try.underlying62 rfl info_ev ?_)
  refine (happening_none _ _ _ _ _ _ HK.out).mono ?_
  rintro e w1 ⟨rfl, hb⟩
  have HB1 := Lib.hid (below_trans (below_alloc _ _) hb)
  clear hb HL
  go_wp2_with fail
  go_quiet (fail)
  go_wp2
  go_ret
  exact ⟨rfl, below_trans HB1.out (below_drewN _)⟩

theorem implEventOK_any (k th op arg n : Int) (w : World) : Calls Try.prog 36 #[.agg #[.int .i64 k, .int .i64 th, .int .i64 op, .int .i64 arg, .int .i64 n]] w fun e w' => e = .returned (.bool (evB k th op arg n)) ∧ Below w.heap.size w w' := by
  cases h : inB k 1 5
  · have hv : evB k th op arg n = false := by
      have hk := inB_false h
      have h2 : inB k 2 5 = false := by rw [Bool.eq_false_iff]; intro hh; have := inB_iff.1 hh; omega
      rw [evB_else _ _ _ _ _ (by omega) (by omega), h2]; rfl
    rw [hv]
    exact implEv_none k th op arg n w h
  have hk := inB_true h
  clear h
  obtain rfl | rfl | rfl | rfl | rfl : k = 1 ∨ k = 2 ∨ k = 3 ∨ k = 4 ∨ k = 5 := by omega
  · rw [evB_one]; exact implEv_callBegins th op arg n w
  · have hv : evB 2 th op arg n = ((op == 0 && arg == 0 && n == 0) && inB th 0 3) := by rw [evB_else _ _ _ _ _ (by decide) (by decide)]; rfl
    rw [hv]; exact implEv_stepTaken th op arg n w
  · have hv : evB 3 th op arg n = ((th == 0 && op == 0 && arg == 0) && inB n 0 1000) := by rw [evB_three]; generalize (op == 0) = b1; generalize (arg == 0) = b2; generalize (th == 0) = b3; cases b1 <;> cases b2 <;> cases b3 <;> rfl
    rw [hv]; exact implEv_timePasses th op arg n w
  · have hv : evB 4 th op arg n = ((op == 0 && arg == 0 && n == 0) && inB th 0 3) := by rw [evB_else _ _ _ _ _ (by decide) (by decide)]; rfl
    rw [hv]; exact implEv_cancelled th op arg n w
  · have hv : evB 5 th op arg n = ((op == 0 && arg == 0 && n == 0) && inB th 0 3) := by rw [evB_else _ _ _ _ _ (by decide) (by decide)]; rfl
    rw [hv]; exact implEv_woken th op arg n w
end Go.Proofs.Ytjddmdhoeampcaa
