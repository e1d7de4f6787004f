/-
  Parking (chapter 4): the program's ParkThread, UnparkThread, WakeThread, GivesUp, ExpireThread.
-/
import Derived.Test.YtepjaahclcpaaaaPkB
import Derived.Test.YtepjaahclcpaaaaPkC
import Derived.Test.YtepjaahclcpaaaaPkD
namespace Go.Proofs.Ytepjaahclcpaaaa
open Go.RowKit

set_option maxHeartbeats 1000000 in
theorem implPark_wrap (id st op arg pc til : Int) (per can : Bool) (r0 r1 r2 r3 r4 code res : Int) (w : World) (id' st' op' arg' pc' til' : Int) (per' can' : Bool) (s0 s1 s2 s3 s4 code' res' c : Int)
    (hr : ∀ w0 : World, Calls Try.prog 37 #[.agg #[.int .i64 id, .int .i64 st, .int .i64 op, .int .i64 arg, .int .i64 pc, .int .i64 til, .bool per, .bool can, .int .i64 r0, .int .i64 r1, .int .i64 r2, .int .i64 r3, .int .i64 r4, .int .i64 code, .int .i64 res], .func (.func 38) #[.agg #[.int .i64 id, .int .i64 st, .int .i64 op, .int .i64 arg, .int .i64 pc, .int .i64 til, .bool per, .bool can, .int .i64 r0, .int .i64 r1, .int .i64 r2, .int .i64 r3, .int .i64 r4, .int .i64 code, .int .i64 res]] #[]] w0 fun e w' => e = .returned (.tuple #[.agg #[.int .i64 id', .int .i64 st', .int .i64 op', .int .i64 arg', .int .i64 pc', .int .i64 til', .bool per', .bool can', .int .i64 s0, .int .i64 s1, .int .i64 s2, .int .i64 s3, .int .i64 s4, .int .i64 code', .int .i64 res'], .int .i64 c]) ∧ Below w0.heap.size w0 w') :
    Calls Try.prog 14 #[.agg #[.int .i64 id, .int .i64 st, .int .i64 op, .int .i64 arg, .int .i64 pc, .int .i64 til, .bool per, .bool can, .int .i64 r0, .int .i64 r1, .int .i64 r2, .int .i64 r3, .int .i64 r4, .int .i64 code, .int .i64 res]] w fun e w' => e = .returned (.tuple #[.agg #[.int .i64 id', .int .i64 st', .int .i64 op', .int .i64 arg', .int .i64 pc', .int .i64 til', .bool per', .bool can', .int .i64 s0, .int .i64 s1, .int .i64 s2, .int .i64 s3, .int .i64 s4, .int .i64 code', .int .i64 res'], .int .i64 c]) ∧ Below w.heap.size w w' := by
  have hmf : ∀ (fn : Fn) (fst cap : Array Value) (wx : World), (Instr.makeFunc fn fst cap).run Try.prog wx = .ok (.func fn fst cap) wx := fun _ _ _ _ => rfl
  have HK := Lib.hid hr; clear hr
  go_enter Try.func14, Try.ntmps14
  go_wp2_with fail
  refine (HK.out _).mono ?_
  rintro e w1 ⟨rfl, hb⟩
  have HB := Lib.hid (below_trans (below_alloc2 _ _ _) hb)
  have HR := Lib.hid ((BoxT.two' w _ _).below hb)
  clear hb HK hmf
  go_wp2_with (refine wpList_store_row rfl 25 _ _ rfl (w.heap.size + 1) _ rfl rfl 25 _ HR.out info_th rfl (one15 _ _ _ _ _ _ _ _ _ _ _ _ _ _ _) ?_)
  exact bodyPost_ret (results_th Try.results14 _ _ (w.heap.size + 1) _ _ rfl rfl (HR.out.row _) rfl) rfl ⟨rfl, below_row HB.out (by omega) _⟩

theorem implPark_any (id st op arg pc til : Int) (per can : Bool) (r0 r1 r2 r3 r4 code res : Int) (w : World) (id' st' op' arg' pc' til' : Int) (per' can' : Bool) (s0 s1 s2 s3 s4 code' res' c : Int) (hX : parkB id st op arg pc til per can r0 r1 r2 r3 r4 code res = (⟨id', st', op', arg', pc', til', per', can', s0, s1, s2, s3, s4, code', res'⟩, c)) :
    Calls Try.prog 14 #[.agg #[.int .i64 id, .int .i64 st, .int .i64 op, .int .i64 arg, .int .i64 pc, .int .i64 til, .bool per, .bool can, .int .i64 r0, .int .i64 r1, .int .i64 r2, .int .i64 r3, .int .i64 r4, .int .i64 code, .int .i64 res]] w fun e w' => e = .returned (.tuple #[.agg #[.int .i64 id', .int .i64 st', .int .i64 op', .int .i64 arg', .int .i64 pc', .int .i64 til', .bool per', .bool can', .int .i64 s0, .int .i64 s1, .int .i64 s2, .int .i64 s3, .int .i64 s4, .int .i64 code', .int .i64 res'], .int .i64 c]) ∧ Below w.heap.size w w' := by
  refine implPark_wrap id st op arg pc til per can r0 r1 r2 r3 r4 code res w id' st' op' arg' pc' til' per' can' s0 s1 s2 s3 s4 code' res' c fun w0 => ?_
  cases h : thB id st op arg pc til per can r0 r1 r2 r3 r4 code res
  · rw [parkB_bad id st op arg pc til per can r0 r1 r2 r3 r4 code res h] at hX; cases hX; exact rightThen_bad id st op arg pc til per can r0 r1 r2 r3 r4 code res _ w0 h
  refine rightThen_ok id st op arg pc til per can r0 r1 r2 r3 r4 code res 38 w0 (enters_park id st op arg pc til per can r0 r1 r2 r3 r4 code res) h id' st' op' arg' pc' til' per' can' s0 s1 s2 s3 s4 code' res' c fun w1 => ?_
  cases h1 : waitB op
  · rw [parkB_idle id st op arg pc til per can r0 r1 r2 r3 r4 code res h h1] at hX; cases hX; exact park_idle id st op arg pc til per can r0 r1 r2 r3 r4 code res w1 h1
  cases h2 : (st == 2)
  · cases h3 : per
    · rw [parkB_parks id st op arg pc til per can r0 r1 r2 r3 r4 code res h h1 h2 h3] at hX; cases hX; subst h3; exact park_parks id st op arg pc til false can r0 r1 r2 r3 r4 code res w1 h1 h2 rfl
    · rw [parkB_permit id st op arg pc til per can r0 r1 r2 r3 r4 code res h h1 h2 h3] at hX; cases hX; subst h3; exact park_permit id st op arg pc til true can r0 r1 r2 r3 r4 code res w1 h1 h2 rfl
  · rw [parkB_parked id st op arg pc til per can r0 r1 r2 r3 r4 code res h h1 h2] at hX; cases hX; exact park_parked id st op arg pc til per can r0 r1 r2 r3 r4 code res w1 h1 h2

set_option maxHeartbeats 1000000 in
theorem implUnpark_wrap (id st op arg pc til : Int) (per can : Bool) (r0 r1 r2 r3 r4 code res : Int) (w : World) (id' st' op' arg' pc' til' : Int) (per' can' : Bool) (s0 s1 s2 s3 s4 code' res' c : Int)
    (hr : ∀ w0 : World, Calls Try.prog 37 #[.agg #[.int .i64 id, .int .i64 st, .int .i64 op, .int .i64 arg, .int .i64 pc, .int .i64 til, .bool per, .bool can, .int .i64 r0, .int .i64 r1, .int .i64 r2, .int .i64 r3, .int .i64 r4, .int .i64 code, .int .i64 res], .func (.func 39) #[.agg #[.int .i64 id, .int .i64 st, .int .i64 op, .int .i64 arg, .int .i64 pc, .int .i64 til, .bool per, .bool can, .int .i64 r0, .int .i64 r1, .int .i64 r2, .int .i64 r3, .int .i64 r4, .int .i64 code, .int .i64 res]] #[]] w0 fun e w' => e = .returned (.tuple #[.agg #[.int .i64 id', .int .i64 st', .int .i64 op', .int .i64 arg', .int .i64 pc', .int .i64 til', .bool per', .bool can', .int .i64 s0, .int .i64 s1, .int .i64 s2, .int .i64 s3, .int .i64 s4, .int .i64 code', .int .i64 res'], .int .i64 c]) ∧ Below w0.heap.size w0 w') :
    Calls Try.prog 15 #[.agg #[.int .i64 id, .int .i64 st, .int .i64 op, .int .i64 arg, .int .i64 pc, .int .i64 til, .bool per, .bool can, .int .i64 r0, .int .i64 r1, .int .i64 r2, .int .i64 r3, .int .i64 r4, .int .i64 code, .int .i64 res]] w fun e w' => e = .returned (.tuple #[.agg #[.int .i64 id', .int .i64 st', .int .i64 op', .int .i64 arg', .int .i64 pc', .int .i64 til', .bool per', .bool can', .int .i64 s0, .int .i64 s1, .int .i64 s2, .int .i64 s3, .int .i64 s4, .int .i64 code', .int .i64 res'], .int .i64 c]) ∧ Below w.heap.size w w' := by
  have hmf : ∀ (fn : Fn) (fst cap : Array Value) (wx : World), (Instr.makeFunc fn fst cap).run Try.prog wx = .ok (.func fn fst cap) wx := fun _ _ _ _ => rfl
  have HK := Lib.hid hr; clear hr
  go_enter Try.func15, Try.ntmps15
  go_wp2_with fail
  refine (HK.out _).mono ?_
  rintro e w1 ⟨rfl, hb⟩
  have HB := Lib.hid (below_trans (below_alloc2 _ _ _) hb)
  have HR := Lib.hid ((BoxT.two' w _ _).below hb)
  clear hb HK hmf
  go_wp2_with (refine wpList_store_row rfl 25 _ _ rfl (w.heap.size + 1) _ rfl rfl 25 _ HR.out info_th rfl (one15 _ _ _ _ _ _ _ _ _ _ _ _ _ _ _) ?_)
  exact bodyPost_ret (results_th Try.results15 _ _ (w.heap.size + 1) _ _ rfl rfl (HR.out.row _) rfl) rfl ⟨rfl, below_row HB.out (by omega) _⟩

theorem implUnpark_any (id st op arg pc til : Int) (per can : Bool) (r0 r1 r2 r3 r4 code res : Int) (w : World) (id' st' op' arg' pc' til' : Int) (per' can' : Bool) (s0 s1 s2 s3 s4 code' res' c : Int) (hX : unpB id st op arg pc til per can r0 r1 r2 r3 r4 code res = (⟨id', st', op', arg', pc', til', per', can', s0, s1, s2, s3, s4, code', res'⟩, c)) :
    Calls Try.prog 15 #[.agg #[.int .i64 id, .int .i64 st, .int .i64 op, .int .i64 arg, .int .i64 pc, .int .i64 til, .bool per, .bool can, .int .i64 r0, .int .i64 r1, .int .i64 r2, .int .i64 r3, .int .i64 r4, .int .i64 code, .int .i64 res]] w fun e w' => e = .returned (.tuple #[.agg #[.int .i64 id', .int .i64 st', .int .i64 op', .int .i64 arg', .int .i64 pc', .int .i64 til', .bool per', .bool can', .int .i64 s0, .int .i64 s1, .int .i64 s2, .int .i64 s3, .int .i64 s4, .int .i64 code', .int .i64 res'], .int .i64 c]) ∧ Below w.heap.size w w' := by
  refine implUnpark_wrap id st op arg pc til per can r0 r1 r2 r3 r4 code res w id' st' op' arg' pc' til' per' can' s0 s1 s2 s3 s4 code' res' c fun w0 => ?_
  cases h : thB id st op arg pc til per can r0 r1 r2 r3 r4 code res
  · rw [unpB_bad id st op arg pc til per can r0 r1 r2 r3 r4 code res h] at hX; cases hX; exact rightThen_bad id st op arg pc til per can r0 r1 r2 r3 r4 code res _ w0 h
  refine rightThen_ok id st op arg pc til per can r0 r1 r2 r3 r4 code res 39 w0 (enters_unpark id st op arg pc til per can r0 r1 r2 r3 r4 code res) h id' st' op' arg' pc' til' per' can' s0 s1 s2 s3 s4 code' res' c fun w1 => ?_
  cases h2 : (st == 2)
  · rw [unpB_other id st op arg pc til per can r0 r1 r2 r3 r4 code res h h2] at hX; cases hX; exact unpark_other id st op arg pc til per can r0 r1 r2 r3 r4 code res w1 h2
  · rw [unpB_parked id st op arg pc til per can r0 r1 r2 r3 r4 code res h h2] at hX; cases hX; exact unpark_parked id st op arg pc til per can r0 r1 r2 r3 r4 code res w1 h2

set_option maxHeartbeats 1000000 in
theorem implWake_wrap (id st op arg pc til : Int) (per can : Bool) (r0 r1 r2 r3 r4 code res : Int) (w : World) (id' st' op' arg' pc' til' : Int) (per' can' : Bool) (s0 s1 s2 s3 s4 code' res' c : Int)
    (hr : ∀ w0 : World, Calls Try.prog 37 #[.agg #[.int .i64 id, .int .i64 st, .int .i64 op, .int .i64 arg, .int .i64 pc, .int .i64 til, .bool per, .bool can, .int .i64 r0, .int .i64 r1, .int .i64 r2, .int .i64 r3, .int .i64 r4, .int .i64 code, .int .i64 res], .func (.func 40) #[.agg #[.int .i64 id, .int .i64 st, .int .i64 op, .int .i64 arg, .int .i64 pc, .int .i64 til, .bool per, .bool can, .int .i64 r0, .int .i64 r1, .int .i64 r2, .int .i64 r3, .int .i64 r4, .int .i64 code, .int .i64 res]] #[]] w0 fun e w' => e = .returned (.tuple #[.agg #[.int .i64 id', .int .i64 st', .int .i64 op', .int .i64 arg', .int .i64 pc', .int .i64 til', .bool per', .bool can', .int .i64 s0, .int .i64 s1, .int .i64 s2, .int .i64 s3, .int .i64 s4, .int .i64 code', .int .i64 res'], .int .i64 c]) ∧ Below w0.heap.size w0 w') :
    Calls Try.prog 16 #[.agg #[.int .i64 id, .int .i64 st, .int .i64 op, .int .i64 arg, .int .i64 pc, .int .i64 til, .bool per, .bool can, .int .i64 r0, .int .i64 r1, .int .i64 r2, .int .i64 r3, .int .i64 r4, .int .i64 code, .int .i64 res]] w fun e w' => e = .returned (.tuple #[.agg #[.int .i64 id', .int .i64 st', .int .i64 op', .int .i64 arg', .int .i64 pc', .int .i64 til', .bool per', .bool can', .int .i64 s0, .int .i64 s1, .int .i64 s2, .int .i64 s3, .int .i64 s4, .int .i64 code', .int .i64 res'], .int .i64 c]) ∧ Below w.heap.size w w' := by
  have hmf : ∀ (fn : Fn) (fst cap : Array Value) (wx : World), (Instr.makeFunc fn fst cap).run Try.prog wx = .ok (.func fn fst cap) wx := fun _ _ _ _ => rfl
  have HK := Lib.hid hr; clear hr
  go_enter Try.func16, Try.ntmps16
  go_wp2_with fail
  refine (HK.out _).mono ?_
  rintro e w1 ⟨rfl, hb⟩
  have HB := Lib.hid (below_trans (below_alloc2 _ _ _) hb)
  have HR := Lib.hid ((BoxT.two' w _ _).below hb)
  clear hb HK hmf
  go_wp2_with (refine wpList_store_row rfl 25 _ _ rfl (w.heap.size + 1) _ rfl rfl 25 _ HR.out info_th rfl (one15 _ _ _ _ _ _ _ _ _ _ _ _ _ _ _) ?_)
  exact bodyPost_ret (results_th Try.results16 _ _ (w.heap.size + 1) _ _ rfl rfl (HR.out.row _) rfl) rfl ⟨rfl, below_row HB.out (by omega) _⟩

theorem implWake_any (id st op arg pc til : Int) (per can : Bool) (r0 r1 r2 r3 r4 code res : Int) (w : World) (id' st' op' arg' pc' til' : Int) (per' can' : Bool) (s0 s1 s2 s3 s4 code' res' c : Int) (hX : wakB id st op arg pc til per can r0 r1 r2 r3 r4 code res = (⟨id', st', op', arg', pc', til', per', can', s0, s1, s2, s3, s4, code', res'⟩, c)) :
    Calls Try.prog 16 #[.agg #[.int .i64 id, .int .i64 st, .int .i64 op, .int .i64 arg, .int .i64 pc, .int .i64 til, .bool per, .bool can, .int .i64 r0, .int .i64 r1, .int .i64 r2, .int .i64 r3, .int .i64 r4, .int .i64 code, .int .i64 res]] w fun e w' => e = .returned (.tuple #[.agg #[.int .i64 id', .int .i64 st', .int .i64 op', .int .i64 arg', .int .i64 pc', .int .i64 til', .bool per', .bool can', .int .i64 s0, .int .i64 s1, .int .i64 s2, .int .i64 s3, .int .i64 s4, .int .i64 code', .int .i64 res'], .int .i64 c]) ∧ Below w.heap.size w w' := by
  refine implWake_wrap id st op arg pc til per can r0 r1 r2 r3 r4 code res w id' st' op' arg' pc' til' per' can' s0 s1 s2 s3 s4 code' res' c fun w0 => ?_
  cases h : thB id st op arg pc til per can r0 r1 r2 r3 r4 code res
  · rw [wakB_bad id st op arg pc til per can r0 r1 r2 r3 r4 code res h] at hX; cases hX; exact rightThen_bad id st op arg pc til per can r0 r1 r2 r3 r4 code res _ w0 h
  refine rightThen_ok id st op arg pc til per can r0 r1 r2 r3 r4 code res 40 w0 (enters_wake id st op arg pc til per can r0 r1 r2 r3 r4 code res) h id' st' op' arg' pc' til' per' can' s0 s1 s2 s3 s4 code' res' c fun w1 => ?_
  cases h2 : (st == 2)
  · rw [wakB_idle id st op arg pc til per can r0 r1 r2 r3 r4 code res h h2] at hX; cases hX; exact wake_idle id st op arg pc til per can r0 r1 r2 r3 r4 code res w1 h2
  · rw [wakB_ok id st op arg pc til per can r0 r1 r2 r3 r4 code res h h2] at hX; cases hX; exact wake_ok id st op arg pc til per can r0 r1 r2 r3 r4 code res w1 h2

theorem ret_boolint {a b : Bool} {c d : Int} (h : a = b) (h1 : c = d) : Ending.returned (.tuple #[.bool a, .int .i64 c]) = .returned (.tuple #[.bool b, .int .i64 d]) := by rw [h, h1]
set_option maxHeartbeats 1000000 in
theorem implGives_bad (id st op arg pc til : Int) (per can : Bool) (r0 r1 r2 r3 r4 code res : Int) (now : Int) (w : World) (h : thB id st op arg pc til per can r0 r1 r2 r3 r4 code res = false) :
    Calls Try.prog 20 #[.agg #[.int .i64 id, .int .i64 st, .int .i64 op, .int .i64 arg, .int .i64 pc, .int .i64 til, .bool per, .bool can, .int .i64 r0, .int .i64 r1, .int .i64 r2, .int .i64 r3, .int .i64 r4, .int .i64 code, .int .i64 res], .int .i64 now] w fun e w' => e = .returned (.tuple #[.bool false, .int .i64 1]) ∧ Below w.heap.size w w' := by
  go_enter Try.func20, Try.ntmps20
  go_wp2_with fail
  refine (implThreadOK_any _ _ _ _ _ _ _ _ _ _ _ _ _ _ _ _).mono ?_
  rintro e w1 ⟨rfl, hb⟩
  rw [h]
  have HB := Lib.hid (below_trans (below_alloc _ _) hb)
  have HX : Hid (BoxT w1 w.heap.size #[.int .i64 id, .int .i64 st, .int .i64 op, .int .i64 arg, .int .i64 pc, .int .i64 til, .bool per, .bool can, .int .i64 r0, .int .i64 r1, .int .i64 r2, .int .i64 r3, .int .i64 r4, .int .i64 code, .int .i64 res]) := BoxT.below (heap_alloc_new w _) hb
  clear hb h
  go_wp2_with (go_at_call 47; refine (timeOK_any _ _).mono ?_; rintro e w' ⟨rfl, rfl⟩)
  exact bodyPost_ret (v := .tuple #[.bool _, .int .i64 _]) (by simp [results, Try.results20, go_sem]) rfl ⟨rfl, HB.out⟩

set_option maxHeartbeats 1000000 in
theorem implGives_range (id st op arg pc til : Int) (per can : Bool) (r0 r1 r2 r3 r4 code res : Int) (now : Int) (w : World) (h : thB id st op arg pc til per can r0 r1 r2 r3 r4 code res = true) (h1 : inB now 0 1000000 = false) :
    Calls Try.prog 20 #[.agg #[.int .i64 id, .int .i64 st, .int .i64 op, .int .i64 arg, .int .i64 pc, .int .i64 til, .bool per, .bool can, .int .i64 r0, .int .i64 r1, .int .i64 r2, .int .i64 r3, .int .i64 r4, .int .i64 code, .int .i64 res], .int .i64 now] w fun e w' => e = .returned (.tuple #[.bool false, .int .i64 4]) ∧ Below w.heap.size w w' := by
  go_enter Try.func20, Try.ntmps20
  go_wp2_with fail
  refine (implThreadOK_any _ _ _ _ _ _ _ _ _ _ _ _ _ _ _ _).mono ?_
  rintro e w1 ⟨rfl, hb⟩
  rw [h]
  have HB := Lib.hid (below_trans (below_alloc _ _) hb)
  have HX : Hid (BoxT w1 w.heap.size #[.int .i64 id, .int .i64 st, .int .i64 op, .int .i64 arg, .int .i64 pc, .int .i64 til, .bool per, .bool can, .int .i64 r0, .int .i64 r1, .int .i64 r2, .int .i64 r3, .int .i64 r4, .int .i64 code, .int .i64 res]) := BoxT.below (heap_alloc_new w _) hb
  clear hb h
  go_wp2_with (go_at_call 47; refine (timeOK_any _ _).mono ?_; rintro e w' ⟨rfl, rfl⟩)
  exact bodyPost_ret (v := .tuple #[.bool _, .int .i64 _]) (by simp [results, Try.results20, go_sem]) rfl ⟨rfl, HB.out⟩

set_option maxHeartbeats 1000000 in
theorem implGives_ok (id st op arg pc til : Int) (per can : Bool) (r0 r1 r2 r3 r4 code res : Int) (now : Int) (w : World) (h : thB id st op arg pc til per can r0 r1 r2 r3 r4 code res = true) (h1 : inB now 0 1000000 = true) :
    Calls Try.prog 20 #[.agg #[.int .i64 id, .int .i64 st, .int .i64 op, .int .i64 arg, .int .i64 pc, .int .i64 til, .bool per, .bool can, .int .i64 r0, .int .i64 r1, .int .i64 r2, .int .i64 r3, .int .i64 r4, .int .i64 code, .int .i64 res], .int .i64 now] w fun e w' => e = .returned (.tuple #[.bool (gvB can til now), .int .i64 0]) ∧ Below w.heap.size w w' := by
  go_enter Try.func20, Try.ntmps20
  go_wp2_with fail
  refine (implThreadOK_any _ _ _ _ _ _ _ _ _ _ _ _ _ _ _ _).mono ?_
  rintro e w1 ⟨rfl, hb⟩
  rw [h]
  have HB := Lib.hid (below_trans (below_alloc _ _) hb)
  have HX : Hid (BoxT w1 w.heap.size #[.int .i64 id, .int .i64 st, .int .i64 op, .int .i64 arg, .int .i64 pc, .int .i64 til, .bool per, .bool can, .int .i64 r0, .int .i64 r1, .int .i64 r2, .int .i64 r3, .int .i64 r4, .int .i64 code, .int .i64 res]) := BoxT.below (heap_alloc_new w _) hb
  clear hb h
  have hc5 : w1.cell? ⟨w.heap.size, 5, none⟩ = some (.int .i64 til) := HX.out.cell 5
  have hc7 : w1.cell? ⟨w.heap.size, 7, none⟩ = some (.bool can) := HX.out.cell 7
  have HV : Hid (gvB can til now = (can || (!(til == 0) && decide (til ≤ now)))) := rfl
  cases can
  · by_cases h0 : til = 0
    · subst h0
      go_wp2_with (go_at_call 47; refine (timeOK_any _ _).mono ?_; rintro e w' ⟨rfl, rfl⟩)
      exact bodyPost_ret (v := .tuple #[.bool false, .int .i64 0]) (by simp [results, Try.results20, go_sem]) rfl ⟨ret_boolint (by rw [HV.out]; rfl) rfl, HB.out⟩
    · have g0 : (til == 0) = false := by simpa using h0
      have g1 : (til != 0) = true := by simpa using h0
      by_cases h2 : til ≤ now
      all_goals
        clear h0
        go_wp2_with (go_at_call 47; refine (timeOK_any _ _).mono ?_; rintro e w' ⟨rfl, rfl⟩)
        exact bodyPost_ret (v := .tuple #[.bool (decide (til ≤ now)), .int .i64 0]) (by first | (simp [results, Try.results20, go_sem]; done) | (simp [results, Try.results20, go_sem, h2]; done)) rfl ⟨ret_boolint (by rw [HV.out, g0]; rfl) rfl, HB.out⟩
  · go_wp2_with (go_at_call 47; refine (timeOK_any _ _).mono ?_; rintro e w' ⟨rfl, rfl⟩)
    exact bodyPost_ret (v := .tuple #[.bool true, .int .i64 0]) (by simp [results, Try.results20, go_sem]) rfl ⟨ret_boolint (by rw [HV.out]; rfl) rfl, HB.out⟩

theorem implGives_any (id st op arg pc til : Int) (per can : Bool) (r0 r1 r2 r3 r4 code res : Int) (now : Int) (w : World) (b : Bool) (c : Int) (hX : givB id st op arg pc til per can r0 r1 r2 r3 r4 code res now = (b, c)) :
    Calls Try.prog 20 #[.agg #[.int .i64 id, .int .i64 st, .int .i64 op, .int .i64 arg, .int .i64 pc, .int .i64 til, .bool per, .bool can, .int .i64 r0, .int .i64 r1, .int .i64 r2, .int .i64 r3, .int .i64 r4, .int .i64 code, .int .i64 res], .int .i64 now] w fun e w' => e = .returned (.tuple #[.bool b, .int .i64 c]) ∧ Below w.heap.size w w' := by
  cases h : thB id st op arg pc til per can r0 r1 r2 r3 r4 code res
  · rw [givB_bad id st op arg pc til per can r0 r1 r2 r3 r4 code res now h] at hX; cases hX; exact implGives_bad id st op arg pc til per can r0 r1 r2 r3 r4 code res now w h
  cases h1 : inB now 0 1000000
  · rw [givB_range id st op arg pc til per can r0 r1 r2 r3 r4 code res now h h1] at hX; cases hX; exact implGives_range id st op arg pc til per can r0 r1 r2 r3 r4 code res now w h h1
  · rw [givB_ok id st op arg pc til per can r0 r1 r2 r3 r4 code res now h h1] at hX; cases hX; exact implGives_ok id st op arg pc til per can r0 r1 r2 r3 r4 code res now w h h1

set_option maxHeartbeats 1000000 in
theorem implExpire_bad (id st op arg pc til : Int) (per can : Bool) (r0 r1 r2 r3 r4 code res : Int) (now : Int) (w : World) (h : thB id st op arg pc til per can r0 r1 r2 r3 r4 code res = false) :
    Calls Try.prog 21 #[.agg #[.int .i64 id, .int .i64 st, .int .i64 op, .int .i64 arg, .int .i64 pc, .int .i64 til, .bool per, .bool can, .int .i64 r0, .int .i64 r1, .int .i64 r2, .int .i64 r3, .int .i64 r4, .int .i64 code, .int .i64 res], .int .i64 now] w fun e w' => e = .returned (.tuple #[.agg #[.int .i64 0, .int .i64 0, .int .i64 0, .int .i64 0, .int .i64 0, .int .i64 0, .bool false, .bool false, .int .i64 0, .int .i64 0, .int .i64 0, .int .i64 0, .int .i64 0, .int .i64 0, .int .i64 0], .int .i64 1]) ∧ Below w.heap.size w w' := by
  go_enter Try.func21, Try.ntmps21
  go_wp2_with fail
  refine (implGives_bad id st op arg pc til per can r0 r1 r2 r3 r4 code res now _ h).mono ?_
  rintro e w1 ⟨rfl, hb⟩
  have HB1 := Lib.hid (below_trans (below_alloc2 _ _ _) hb)
  have HX1 := Lib.hid ((BoxT.two w _ _).below hb)
  have HR1 := Lib.hid ((BoxT.two' w _ _).below hb)
  clear hb
  clear h
  go_wp2_with (first | (refine wpList_load_row rfl 25 _ rfl w.heap.size rfl 25 _ (0, 0) _ HX1.out Try.underlying25 rfl info_th ?_) | (refine wpList_store_row rfl 25 _ _ rfl (w.heap.size + 1) _ rfl rfl 25 _ HR1.out info_th rfl (one15 _ _ _ _ _ _ _ _ _ _ _ _ _ _ _) ?_))
  exact bodyPost_ret (results_th Try.results21 _ _ (w.heap.size + 1) _ _ rfl rfl (HR1.out.row _) rfl) rfl ⟨rfl, below_row HB1.out (by omega) _⟩

set_option maxHeartbeats 1000000 in
theorem implExpire_range (id st op arg pc til : Int) (per can : Bool) (r0 r1 r2 r3 r4 code res : Int) (now : Int) (w : World) (h : thB id st op arg pc til per can r0 r1 r2 r3 r4 code res = true) (h1 : inB now 0 1000000 = false) :
    Calls Try.prog 21 #[.agg #[.int .i64 id, .int .i64 st, .int .i64 op, .int .i64 arg, .int .i64 pc, .int .i64 til, .bool per, .bool can, .int .i64 r0, .int .i64 r1, .int .i64 r2, .int .i64 r3, .int .i64 r4, .int .i64 code, .int .i64 res], .int .i64 now] w fun e w' => e = .returned (.tuple #[.agg #[.int .i64 0, .int .i64 0, .int .i64 0, .int .i64 0, .int .i64 0, .int .i64 0, .bool false, .bool false, .int .i64 0, .int .i64 0, .int .i64 0, .int .i64 0, .int .i64 0, .int .i64 0, .int .i64 0], .int .i64 4]) ∧ Below w.heap.size w w' := by
  go_enter Try.func21, Try.ntmps21
  go_wp2_with fail
  refine (implGives_range id st op arg pc til per can r0 r1 r2 r3 r4 code res now _ h h1).mono ?_
  rintro e w1 ⟨rfl, hb⟩
  have HB1 := Lib.hid (below_trans (below_alloc2 _ _ _) hb)
  have HX1 := Lib.hid ((BoxT.two w _ _).below hb)
  have HR1 := Lib.hid ((BoxT.two' w _ _).below hb)
  clear hb
  clear h h1
  go_wp2_with (first | (refine wpList_load_row rfl 25 _ rfl w.heap.size rfl 25 _ (0, 0) _ HX1.out Try.underlying25 rfl info_th ?_) | (refine wpList_store_row rfl 25 _ _ rfl (w.heap.size + 1) _ rfl rfl 25 _ HR1.out info_th rfl (one15 _ _ _ _ _ _ _ _ _ _ _ _ _ _ _) ?_))
  exact bodyPost_ret (results_th Try.results21 _ _ (w.heap.size + 1) _ _ rfl rfl (HR1.out.row _) rfl) rfl ⟨rfl, below_row HB1.out (by omega) _⟩

set_option maxHeartbeats 1000000 in
theorem implExpire_waits (id st op arg pc til : Int) (per can : Bool) (r0 r1 r2 r3 r4 code res : Int) (now : Int) (w : World) (h : thB id st op arg pc til per can r0 r1 r2 r3 r4 code res = true) (h1 : inB now 0 1000000 = true) (h2 : gvB can til now = false) :
    Calls Try.prog 21 #[.agg #[.int .i64 id, .int .i64 st, .int .i64 op, .int .i64 arg, .int .i64 pc, .int .i64 til, .bool per, .bool can, .int .i64 r0, .int .i64 r1, .int .i64 r2, .int .i64 r3, .int .i64 r4, .int .i64 code, .int .i64 res], .int .i64 now] w fun e w' => e = .returned (.tuple #[.agg #[.int .i64 id, .int .i64 st, .int .i64 op, .int .i64 arg, .int .i64 pc, .int .i64 til, .bool per, .bool can, .int .i64 r0, .int .i64 r1, .int .i64 r2, .int .i64 r3, .int .i64 r4, .int .i64 code, .int .i64 res], .int .i64 0]) ∧ Below w.heap.size w w' := by
  go_enter Try.func21, Try.ntmps21
  go_wp2_with fail
  refine (implGives_ok id st op arg pc til per can r0 r1 r2 r3 r4 code res now _ h h1).mono ?_
  rintro e w1 ⟨rfl, hb⟩
  rw [h2]
  have HB1 := Lib.hid (below_trans (below_alloc2 _ _ _) hb)
  have HX1 := Lib.hid ((BoxT.two w _ _).below hb)
  have HR1 := Lib.hid ((BoxT.two' w _ _).below hb)
  clear hb
  clear h h1 h2
  go_wp2_with (first | (refine wpList_load_row rfl 25 _ rfl w.heap.size rfl 25 _ (0, 0) _ HX1.out Try.underlying25 rfl info_th ?_) | (refine wpList_store_row rfl 25 _ _ rfl (w.heap.size + 1) _ rfl rfl 25 _ HR1.out info_th rfl (one15 _ _ _ _ _ _ _ _ _ _ _ _ _ _ _) ?_))
  exact bodyPost_ret (results_th Try.results21 _ _ (w.heap.size + 1) _ _ rfl rfl (HR1.out.row _) rfl) rfl ⟨rfl, below_row HB1.out (by omega) _⟩

set_option maxHeartbeats 1000000 in
theorem implExpire_over (id st op arg pc til : Int) (per can : Bool) (r0 r1 r2 r3 r4 code res : Int) (now : Int) (w : World) (h : thB id st op arg pc til per can r0 r1 r2 r3 r4 code res = true) (h1 : inB now 0 1000000 = true) (h2 : gvB can til now = true) :
    Calls Try.prog 21 #[.agg #[.int .i64 id, .int .i64 st, .int .i64 op, .int .i64 arg, .int .i64 pc, .int .i64 til, .bool per, .bool can, .int .i64 r0, .int .i64 r1, .int .i64 r2, .int .i64 r3, .int .i64 r4, .int .i64 code, .int .i64 res], .int .i64 now] w fun e w' => e = .returned (.tuple #[.agg #[.int .i64 id, .int .i64 (frB st), .int .i64 op, .int .i64 arg, .int .i64 pc, .int .i64 til, .bool per, .bool can, .int .i64 r0, .int .i64 r1, .int .i64 r2, .int .i64 r3, .int .i64 r4, .int .i64 code, .int .i64 res], .int .i64 0]) ∧ Below w.heap.size w w' := by
  go_enter Try.func21, Try.ntmps21
  go_wp2_with fail
  refine (implGives_ok id st op arg pc til per can r0 r1 r2 r3 r4 code res now _ h h1).mono ?_
  rintro e w1 ⟨rfl, hb⟩
  rw [h2]
  have HB1 := Lib.hid (below_trans (below_alloc2 _ _ _) hb)
  have HX1 := Lib.hid ((BoxT.two w _ _).below hb)
  have HR1 := Lib.hid ((BoxT.two' w _ _).below hb)
  clear hb
  clear h h1 h2
  go_wp2_with (refine wpList_load_row rfl 25 _ rfl w.heap.size rfl 25 _ (0, 0) _ HX1.out Try.underlying25 rfl info_th ?_)
  refine (freed_any _ _ _ _ _ _ _ _ _ _ _ _ _ _ _ _).mono ?_
  rintro e w2 ⟨rfl, hb⟩
  have HB2 := Lib.hid (below_trans HB1.out hb)
  have HX2 := Lib.hid (HX1.out.below hb)
  have HR2 := Lib.hid (HR1.out.below hb)
  clear hb HB1 HX1 HR1
  go_wp2_with (first | (refine wpList_load_row rfl 25 _ rfl w.heap.size rfl 25 _ (0, 0) _ HX2.out Try.underlying25 rfl info_th ?_) | (refine wpList_store_row rfl 25 _ _ rfl (w.heap.size + 1) _ rfl rfl 25 _ HR2.out info_th rfl (one15 _ _ _ _ _ _ _ _ _ _ _ _ _ _ _) ?_))
  exact bodyPost_ret (results_th Try.results21 _ _ (w.heap.size + 1) _ _ rfl rfl (HR2.out.row _) rfl) rfl ⟨rfl, below_row HB2.out (by omega) _⟩

theorem implExpire_any (id st op arg pc til : Int) (per can : Bool) (r0 r1 r2 r3 r4 code res : Int) (now : Int) (w : World) (id' st' op' arg' pc' til' : Int) (per' can' : Bool) (s0 s1 s2 s3 s4 code' res' c : Int) (hX : expB id st op arg pc til per can r0 r1 r2 r3 r4 code res now = (⟨id', st', op', arg', pc', til', per', can', s0, s1, s2, s3, s4, code', res'⟩, c)) :
    Calls Try.prog 21 #[.agg #[.int .i64 id, .int .i64 st, .int .i64 op, .int .i64 arg, .int .i64 pc, .int .i64 til, .bool per, .bool can, .int .i64 r0, .int .i64 r1, .int .i64 r2, .int .i64 r3, .int .i64 r4, .int .i64 code, .int .i64 res], .int .i64 now] w fun e w' => e = .returned (.tuple #[.agg #[.int .i64 id', .int .i64 st', .int .i64 op', .int .i64 arg', .int .i64 pc', .int .i64 til', .bool per', .bool can', .int .i64 s0, .int .i64 s1, .int .i64 s2, .int .i64 s3, .int .i64 s4, .int .i64 code', .int .i64 res'], .int .i64 c]) ∧ Below w.heap.size w w' := by
  cases h : thB id st op arg pc til per can r0 r1 r2 r3 r4 code res
  · rw [expB_bad id st op arg pc til per can r0 r1 r2 r3 r4 code res now h] at hX; cases hX; exact implExpire_bad id st op arg pc til per can r0 r1 r2 r3 r4 code res now w h
  cases h1 : inB now 0 1000000
  · rw [expB_range id st op arg pc til per can r0 r1 r2 r3 r4 code res now h h1] at hX; cases hX; exact implExpire_range id st op arg pc til per can r0 r1 r2 r3 r4 code res now w h h1
  cases h2 : gvB can til now
  · rw [expB_waits id st op arg pc til per can r0 r1 r2 r3 r4 code res now h h1 h2] at hX; cases hX; exact implExpire_waits id st op arg pc til per can r0 r1 r2 r3 r4 code res now w h h1 h2
  · rw [expB_over id st op arg pc til per can r0 r1 r2 r3 r4 code res now h h1 h2] at hX; cases hX; exact implExpire_over id st op arg pc til per can r0 r1 r2 r3 r4 code res now w h h1 h2

end Go.Proofs.Ytepjaahclcpaaaa
