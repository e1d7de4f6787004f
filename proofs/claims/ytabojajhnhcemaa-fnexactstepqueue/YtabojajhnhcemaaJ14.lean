/-
  The walk of the law FnExactStepQueue, from what program and model answer.
-/
import Derived.Test.YtabojajhnhcemaaJ13
import Derived.Deep.DeepCutAuto
namespace Go.Proofs.Ytabojajhnhcemaa
open Go.RowKit

/-- What holds in a region of the law, whatever of it is done. -/
structure RL5 (W : World) (a0 : Act) (A XA : Option Addr) (c xc : Nat) (zs L : List Int) (id st op arg pc til : Int) (per can : Bool) (r0 r1 r2 r3 r4 code res : Int) (now wk q : Int) (id' st' op' arg' pc' til' : Int) (per' can' : Bool) (s0 s1 s2 s3 s4 code' res' : Int) (D : Nat → Prop) (a : Act) (w : World) (g : Nat) (B : Option Addr) (d k8 k9 : Nat) : Prop where
  ag : Agree a0 a [8, 9, 10, 11, 29, 30, 31, 32, 33, 34, 35, 36, 37, 38, 39]
  be : Below W.heap.size W w
  e0 : D 0 → a.eval (.tmp 30) = .agg #[.slice A zs.length c]
  e1 : D 1 → a.eval (.tmp 31) = .agg #[.slice (some ⟨g, 0, none⟩) zs.length zs.length]
  h1 : D 1 → NewA W.heap.size w (some ⟨g, 0, none⟩) zs.length zs
  e2 : D 2 → a.eval (.tmp 32) = .agg #[.int .i64 id, .int .i64 st, .int .i64 op, .int .i64 arg, .int .i64 pc, .int .i64 til, .bool per, .bool can, .int .i64 r0, .int .i64 r1, .int .i64 r2, .int .i64 r3, .int .i64 r4, .int .i64 code, .int .i64 res]
  e3 : D 3 → a.eval (.tmp 33) = .agg #[.int .i64 id, .int .i64 st, .int .i64 op, .int .i64 arg, .int .i64 pc, .int .i64 til, .bool per, .bool can, .int .i64 r0, .int .i64 r1, .int .i64 r2, .int .i64 r3, .int .i64 r4, .int .i64 code, .int .i64 res]
  e4 : D 4 → a.eval (.tmp 34) = .int .i64 now
  e5 : D 5 → a.eval (.tmp 35) = .tuple #[.agg #[.slice B L.length d], .agg #[.int .i64 id', .int .i64 st', .int .i64 op', .int .i64 arg', .int .i64 pc', .int .i64 til', .bool per', .bool can', .int .i64 s0, .int .i64 s1, .int .i64 s2, .int .i64 s3, .int .i64 s4, .int .i64 code', .int .i64 res'], .int .i64 wk, .int .i64 q]
  h5 : D 5 → NewA W.heap.size w B d L
  e6 : D 6 → a.eval (.tmp 29) = .tuple #[.agg #[.slice B L.length d], .agg #[.int .i64 id', .int .i64 st', .int .i64 op', .int .i64 arg', .int .i64 pc', .int .i64 til', .bool per', .bool can', .int .i64 s0, .int .i64 s1, .int .i64 s2, .int .i64 s3, .int .i64 s4, .int .i64 code', .int .i64 res'], .int .i64 wk, .int .i64 q]
  e7 : D 7 → a.eval (.tmp 36) = .agg #[.slice B L.length d]
  e8 : D 8 → a.eval (.tmp 37) = .agg #[.int .i64 id', .int .i64 st', .int .i64 op', .int .i64 arg', .int .i64 pc', .int .i64 til', .bool per', .bool can', .int .i64 s0, .int .i64 s1, .int .i64 s2, .int .i64 s3, .int .i64 s4, .int .i64 code', .int .i64 res']
  e9 : D 9 → a.eval (.tmp 38) = .int .i64 wk
  e10 : D 10 → a.eval (.tmp 39) = .int .i64 q
  e11 : D 11 → a.eval (.tmp 8) = .pointer (some ⟨k8, 0, none⟩)
  h11 : D 11 → W.heap.size ≤ k8
  z11 : D 11 → ¬ D 13 → BoxA w k8 (.slice none 0 0)
  e12 : D 12 → a.eval (.tmp 9) = .pointer (some ⟨k9, 0, none⟩)
  h12 : D 12 → W.heap.size ≤ k9
  z12 : D 12 → ¬ D 14 → BoxT w k9 #[.int .i64 0, .int .i64 0, .int .i64 0, .int .i64 0, .int .i64 0, .int .i64 0, .bool false, .bool false, .int .i64 0, .int .i64 0, .int .i64 0, .int .i64 0, .int .i64 0, .int .i64 0, .int .i64 0]
  z13 : D 13 → BoxA w k8 (.slice B L.length d)
  z14 : D 14 → BoxT w k9 #[.int .i64 id', .int .i64 st', .int .i64 op', .int .i64 arg', .int .i64 pc', .int .i64 til', .bool per', .bool can', .int .i64 s0, .int .i64 s1, .int .i64 s2, .int .i64 s3, .int .i64 s4, .int .i64 code', .int .i64 res']
  e15 : D 15 → a.eval (.tmp 10) = .int .i64 wk
  e16 : D 16 → a.eval (.tmp 11) = .int .i64 q
/-- What holds in a region of the law, whatever of it is done. -/
structure RL7 (W : World) (a0 : Act) (A XA : Option Addr) (c xc : Nat) (zs L : List Int) (id st op arg pc til : Int) (per can : Bool) (r0 r1 r2 r3 r4 code res : Int) (now wk q : Int) (id' st' op' arg' pc' til' : Int) (per' can' : Bool) (s0 s1 s2 s3 s4 code' res' : Int) (D : Nat → Prop) (a : Act) (w : World) (g : Nat) (B : Option Addr) (d k8 k9 : Nat) : Prop where
  ag : Agree a0 a [13, 14, 15, 16, 42, 43, 44, 45, 46, 47, 48, 49, 50, 51]
  be : Below W.heap.size W w
  e0 : D 0 → a.eval (.tmp 43) = .agg #[.slice XA zs.length xc]
  e1 : D 1 → a.eval (.tmp 44) = .agg #[.int .i64 id, .int .i64 st, .int .i64 op, .int .i64 arg, .int .i64 pc, .int .i64 til, .bool per, .bool can, .int .i64 r0, .int .i64 r1, .int .i64 r2, .int .i64 r3, .int .i64 r4, .int .i64 code, .int .i64 res]
  e2 : D 2 → a.eval (.tmp 45) = .agg #[.int .i64 id, .int .i64 st, .int .i64 op, .int .i64 arg, .int .i64 pc, .int .i64 til, .bool per, .bool can, .int .i64 r0, .int .i64 r1, .int .i64 r2, .int .i64 r3, .int .i64 r4, .int .i64 code, .int .i64 res]
  e3 : D 3 → a.eval (.tmp 46) = .int .i64 now
  e4 : D 4 → a.eval (.tmp 47) = .tuple #[.agg #[.slice B L.length d], .agg #[.int .i64 id', .int .i64 st', .int .i64 op', .int .i64 arg', .int .i64 pc', .int .i64 til', .bool per', .bool can', .int .i64 s0, .int .i64 s1, .int .i64 s2, .int .i64 s3, .int .i64 s4, .int .i64 code', .int .i64 res'], .int .i64 wk, .int .i64 q]
  h4 : D 4 → NewA W.heap.size w B d L
  e5 : D 5 → a.eval (.tmp 42) = .tuple #[.agg #[.slice B L.length d], .agg #[.int .i64 id', .int .i64 st', .int .i64 op', .int .i64 arg', .int .i64 pc', .int .i64 til', .bool per', .bool can', .int .i64 s0, .int .i64 s1, .int .i64 s2, .int .i64 s3, .int .i64 s4, .int .i64 code', .int .i64 res'], .int .i64 wk, .int .i64 q]
  e6 : D 6 → a.eval (.tmp 48) = .agg #[.slice B L.length d]
  e7 : D 7 → a.eval (.tmp 49) = .agg #[.int .i64 id', .int .i64 st', .int .i64 op', .int .i64 arg', .int .i64 pc', .int .i64 til', .bool per', .bool can', .int .i64 s0, .int .i64 s1, .int .i64 s2, .int .i64 s3, .int .i64 s4, .int .i64 code', .int .i64 res']
  e8 : D 8 → a.eval (.tmp 50) = .int .i64 wk
  e9 : D 9 → a.eval (.tmp 51) = .int .i64 q
  e10 : D 10 → a.eval (.tmp 13) = .pointer (some ⟨k8, 0, none⟩)
  h10 : D 10 → W.heap.size ≤ k8
  z10 : D 10 → ¬ D 12 → BoxA w k8 (.slice none 0 0)
  e11 : D 11 → a.eval (.tmp 14) = .pointer (some ⟨k9, 0, none⟩)
  h11 : D 11 → W.heap.size ≤ k9
  z11 : D 11 → ¬ D 13 → BoxT w k9 #[.int .i64 0, .int .i64 0, .int .i64 0, .int .i64 0, .int .i64 0, .int .i64 0, .bool false, .bool false, .int .i64 0, .int .i64 0, .int .i64 0, .int .i64 0, .int .i64 0, .int .i64 0, .int .i64 0]
  z12 : D 12 → BoxA w k8 (.slice B L.length d)
  z13 : D 13 → BoxT w k9 #[.int .i64 id', .int .i64 st', .int .i64 op', .int .i64 arg', .int .i64 pc', .int .i64 til', .bool per', .bool can', .int .i64 s0, .int .i64 s1, .int .i64 s2, .int .i64 s3, .int .i64 s4, .int .i64 code', .int .i64 res']
  e14 : D 14 → a.eval (.tmp 15) = .int .i64 wk
  e15 : D 15 → a.eval (.tmp 16) = .int .i64 q
/-- What holds in a region of the law, whatever of it is done. -/
structure RL24 (W : World) (a0 : Act) (A XA : Option Addr) (c xc : Nat) (zs L : List Int) (id st op arg pc til : Int) (per can : Bool) (r0 r1 r2 r3 r4 code res : Int) (now wk q : Int) (id' st' op' arg' pc' til' : Int) (per' can' : Bool) (s0 s1 s2 s3 s4 code' res' : Int) (D : Nat → Prop) (a : Act) (w : World) (g : Nat) (B : Option Addr) (d k8 k9 : Nat) : Prop where
  ag : Agree a0 a [20, 21, 22, 23, 115, 116, 117, 118, 119, 120, 121, 122, 123, 124, 125]
  be : Below W.heap.size W w
  e0 : D 0 → a.eval (.tmp 116) = .agg #[.slice A zs.length c]
  e1 : D 1 → a.eval (.tmp 117) = .agg #[.slice (some ⟨g, 0, none⟩) zs.length zs.length]
  h1 : D 1 → NewA W.heap.size w (some ⟨g, 0, none⟩) zs.length zs
  e2 : D 2 → a.eval (.tmp 118) = .agg #[.int .i64 id, .int .i64 st, .int .i64 op, .int .i64 arg, .int .i64 pc, .int .i64 til, .bool per, .bool can, .int .i64 r0, .int .i64 r1, .int .i64 r2, .int .i64 r3, .int .i64 r4, .int .i64 code, .int .i64 res]
  e3 : D 3 → a.eval (.tmp 119) = .agg #[.int .i64 id, .int .i64 st, .int .i64 op, .int .i64 arg, .int .i64 pc, .int .i64 til, .bool per, .bool can, .int .i64 r0, .int .i64 r1, .int .i64 r2, .int .i64 r3, .int .i64 r4, .int .i64 code, .int .i64 res]
  e4 : D 4 → a.eval (.tmp 120) = .int .i64 now
  e5 : D 5 → a.eval (.tmp 121) = .tuple #[.agg #[.slice B L.length d], .agg #[.int .i64 id', .int .i64 st', .int .i64 op', .int .i64 arg', .int .i64 pc', .int .i64 til', .bool per', .bool can', .int .i64 s0, .int .i64 s1, .int .i64 s2, .int .i64 s3, .int .i64 s4, .int .i64 code', .int .i64 res'], .int .i64 wk, .int .i64 q]
  h5 : D 5 → NewA W.heap.size w B d L
  e6 : D 6 → a.eval (.tmp 115) = .tuple #[.agg #[.slice B L.length d], .agg #[.int .i64 id', .int .i64 st', .int .i64 op', .int .i64 arg', .int .i64 pc', .int .i64 til', .bool per', .bool can', .int .i64 s0, .int .i64 s1, .int .i64 s2, .int .i64 s3, .int .i64 s4, .int .i64 code', .int .i64 res'], .int .i64 wk, .int .i64 q]
  e7 : D 7 → a.eval (.tmp 122) = .agg #[.slice B L.length d]
  e8 : D 8 → a.eval (.tmp 123) = .agg #[.int .i64 id', .int .i64 st', .int .i64 op', .int .i64 arg', .int .i64 pc', .int .i64 til', .bool per', .bool can', .int .i64 s0, .int .i64 s1, .int .i64 s2, .int .i64 s3, .int .i64 s4, .int .i64 code', .int .i64 res']
  e9 : D 9 → a.eval (.tmp 124) = .int .i64 wk
  e10 : D 10 → a.eval (.tmp 125) = .int .i64 q
  e11 : D 11 → a.eval (.tmp 20) = .pointer (some ⟨k8, 0, none⟩)
  h11 : D 11 → W.heap.size ≤ k8
  z11 : D 11 → ¬ D 13 → BoxA w k8 (.slice none 0 0)
  e12 : D 12 → a.eval (.tmp 21) = .pointer (some ⟨k9, 0, none⟩)
  h12 : D 12 → W.heap.size ≤ k9
  z12 : D 12 → ¬ D 14 → BoxT w k9 #[.int .i64 0, .int .i64 0, .int .i64 0, .int .i64 0, .int .i64 0, .int .i64 0, .bool false, .bool false, .int .i64 0, .int .i64 0, .int .i64 0, .int .i64 0, .int .i64 0, .int .i64 0, .int .i64 0]
  z13 : D 13 → BoxA w k8 (.slice B L.length d)
  z14 : D 14 → BoxT w k9 #[.int .i64 id', .int .i64 st', .int .i64 op', .int .i64 arg', .int .i64 pc', .int .i64 til', .bool per', .bool can', .int .i64 s0, .int .i64 s1, .int .i64 s2, .int .i64 s3, .int .i64 s4, .int .i64 code', .int .i64 res']
  e15 : D 15 → a.eval (.tmp 22) = .int .i64 wk
  e16 : D 16 → a.eval (.tmp 23) = .int .i64 q
set_option maxHeartbeats 40000000 in
set_option maxRecDepth 100000 in
theorem lawStepQueue_of (A : Option Addr) (c : Nat) (zs L : List Int) (id st op arg pc til : Int) (per can : Bool) (r0 r1 r2 r3 r4 code res : Int) (now wk q : Int) (id' st' op' arg' pc' til' : Int) (per' can' : Bool) (s0 s1 s2 s3 s4 code' res' : Int) (w : World) (hn : zs.length ≤ maxLen) (hA : Rd w A zs) (hs : zs.length ≤ 1048576) (hbig : ¬ leftB 1048576 zs.length < 0) (hR : L.length ≤ 1048576)
    (hS : ∀ (w : World) (A : Option Addr) (c : Nat), Rd w A zs → Calls Try.prog 10 #[.agg #[.slice A zs.length c], .agg #[.int .i64 id, .int .i64 st, .int .i64 op, .int .i64 arg, .int .i64 pc, .int .i64 til, .bool per, .bool can, .int .i64 r0, .int .i64 r1, .int .i64 r2, .int .i64 r3, .int .i64 r4, .int .i64 code, .int .i64 res], .int .i64 now] w fun e w' => ∃ B d, e = .returned (.tuple #[.agg #[.slice B L.length d], .agg #[.int .i64 id', .int .i64 st', .int .i64 op', .int .i64 arg', .int .i64 pc', .int .i64 til', .bool per', .bool can', .int .i64 s0, .int .i64 s1, .int .i64 s2, .int .i64 s3, .int .i64 s4, .int .i64 code', .int .i64 res'], .int .i64 wk, .int .i64 q]) ∧ NewA w.heap.size w' B d L ∧ Below w.heap.size w w')
    (hI : ∀ (w : World) (A : Option Addr) (c : Nat), Rd w A zs → Calls Try.prog 9 #[.agg #[.slice A zs.length c], .agg #[.int .i64 id, .int .i64 st, .int .i64 op, .int .i64 arg, .int .i64 pc, .int .i64 til, .bool per, .bool can, .int .i64 r0, .int .i64 r1, .int .i64 r2, .int .i64 r3, .int .i64 r4, .int .i64 code, .int .i64 res], .int .i64 now] w fun e w' => ∃ B d, e = .returned (.tuple #[.agg #[.slice B L.length d], .agg #[.int .i64 id', .int .i64 st', .int .i64 op', .int .i64 arg', .int .i64 pc', .int .i64 til', .bool per', .bool can', .int .i64 s0, .int .i64 s1, .int .i64 s2, .int .i64 s3, .int .i64 s4, .int .i64 code', .int .i64 res'], .int .i64 wk, .int .i64 q]) ∧ NewA w.heap.size w' B d L ∧ Below w.heap.size w w') :
    Calls Try.prog 4 #[.agg #[.slice A zs.length c], .agg #[.int .i64 id, .int .i64 st, .int .i64 op, .int .i64 arg, .int .i64 pc, .int .i64 til, .bool per, .bool can, .int .i64 r0, .int .i64 r1, .int .i64 r2, .int .i64 r3, .int .i64 r4, .int .i64 code, .int .i64 res], .int .i64 now] w fun e w' => e = .returned (.bool true) ∧ Below w.heap.size w w' := by
  have HA := Lib.hid hA; have HS := Lib.hid hS; have HI := Lib.hid hI; have HRm : Hid (L.length ≤ maxLen) := Lib.hid (Nat.le_trans hR (by unfold maxLen; omega))
  clear hA hS hI
  have HL0 := Lib.hid (BoxL.new (w.alloc (.cells #[.slice A zs.length c] 41)) #[.int .i64 id, .int .i64 st, .int .i64 op, .int .i64 arg, .int .i64 pc, .int .i64 til, .bool per, .bool can, .int .i64 r0, .int .i64 r1, .int .i64 r2, .int .i64 r3, .int .i64 r4, .int .i64 code, .int .i64 res])
  rw [size_alloc] at HL0
  go_enter Try.func4, Try.ntmps4
  go_wp2_with fail
  refine (szArena_any _ _ _ _ _ hn (by decide) (by decide)).mono ?_
  rintro e w1 ⟨rfl, hb⟩
  have c0 : w1.cell? ⟨w.heap.size, 0, none⟩ = some (.slice A zs.length c) := cell_keep hb (cell_keep (below_alloc _ _) (by simp))
  have L0 := Lib.hid (HL0.out.below hb)
  have B0 := Lib.hid (below_trans (below_alloc2 _ _ _) hb)
  have hz1 : w.heap.size + 2 ≤ w1.heap.size := by have := hb.size; simp only [size_alloc] at this; omega
  clear hb HL0
  go_upto_region 5 with fail
  refine region_cut (fun a0 D a w' => ∃ g B d k8 k9, RL5 w1 a0 A none c 0 zs L id st op arg pc til per can r0 r1 r2 r3 r4 code res now wk q id' st' op' arg' pc' til' per' can' s0 s1 s2 s3 s4 code' res' D a w' g B d k8 k9) (fun a0 a w' => ∃ B d k8 k9, Agree a0 a [8, 9, 10, 11, 29, 30, 31, 32, 33, 34, 35, 36, 37, 38, 39] ∧ a.eval (.tmp 8) = .pointer (some ⟨k8, 0, none⟩) ∧ a.eval (.tmp 9) = .pointer (some ⟨k9, 0, none⟩) ∧ a.eval (.tmp 10) = .int .i64 wk ∧ a.eval (.tmp 11) = .int .i64 q ∧ BoxA w' k8 (.slice B L.length d) ∧ BoxT w' k9 #[.int .i64 id', .int .i64 st', .int .i64 op', .int .i64 arg', .int .i64 pc', .int .i64 til', .bool per', .bool can', .int .i64 s0, .int .i64 s1, .int .i64 s2, .int .i64 s3, .int .i64 s4, .int .i64 code', .int .i64 res'] ∧ NewA w1.heap.size w' B d L ∧ w1.heap.size ≤ k8 ∧ w1.heap.size ≤ k9 ∧ Below w1.heap.size w1 w') (by kernel_rfl) (by kernel_rfl) ?_ ?_ ?_ ?_
  · exact ⟨0, none, 0, 0, 0, ⟨Agree.refl _ _, below_drew0 _, fun x => x.elim, fun x => x.elim, fun x => x.elim, fun x => x.elim, fun x => x.elim, fun x => x.elim, fun x => x.elim, fun x => x.elim, fun x => x.elim, fun x => x.elim, fun x => x.elim, fun x => x.elim, fun x => x.elim, fun x => x.elim, fun x => x.elim, fun x => x.elim, fun x => x.elim, fun x => x.elim, fun x => x.elim, fun x => x.elim, fun x => x.elim, fun x => x.elim, fun x => x.elim⟩⟩
  · intro K'
    refine Steps.cons (i := 0) (j := 1) rfl ?_ (Steps.cons (i := 1) (j := 2) rfl ?_ (Steps.cons (i := 2) (j := 3) rfl ?_ (Steps.cons (i := 3) (j := 4) rfl ?_ (Steps.cons (i := 4) (j := 5) rfl ?_ (Steps.cons (i := 5) (j := 6) rfl ?_ (Steps.cons (i := 6) (j := 7) rfl ?_ (Steps.cons (i := 7) (j := 8) rfl ?_ (Steps.cons (i := 8) (j := 9) rfl ?_ (Steps.cons (i := 9) (j := 10) rfl ?_ (Steps.cons (i := 10) (j := 11) rfl ?_ (Steps.cons (i := 11) (j := 12) rfl ?_ (Steps.cons (i := 12) (j := 13) rfl ?_ (Steps.cons (i := 13) (j := 14) rfl ?_ (Steps.cons (i := 14) (j := 15) rfl ?_ (Steps.cons (i := 15) (j := 16) rfl ?_ (Steps.cons (i := 16) (j := 17) rfl ?_ (Steps.nil)))))))))))))))))
    · intro D a w' hI hD hdep hcl
      obtain ⟨g, B, d, k8, k9, h⟩ := hI
      have hc : w'.cell? ⟨w.heap.size, 0, none⟩ = some (.slice A zs.length c) := cell_keep h.be c0
      have he : a.tmps[3]?.getD undef = .pointer (some ⟨w.heap.size, 0, none⟩) := eval_get ((h.ag.eval (show 3 ∉ [8, 9, 10, 11, 29, 30, 31, 32, 33, 34, 35, 36, 37, 38, 39] by decide)).trans rfl)
      refine wp_yield (v := .agg #[.slice A zs.length c]) (w' := w') (by clear h hdep hcl hD; go_simp) ?_
      exact ⟨g, B, d, k8, k9, ⟨h.ag.put (by decide) _, h.be, fun _ => eval_put_same a _ (h.ag.lt rfl), fun x => absurd (dep_of 0 rfl (hcl 1 _ rfl (x.resolve_left (by decide)))) hD, fun x => absurd (dep_of 0 rfl (hcl 1 _ rfl (x.resolve_left (by decide)))) hD, slot_keep h.e2 (by decide) (by decide), fun x => absurd (dep_of 0 rfl (hcl 1 _ rfl (dep_of 1 rfl (hcl 3 _ rfl (x.resolve_left (by decide)))))) hD, slot_keep h.e4 (by decide) (by decide), fun x => absurd (dep_of 0 rfl (hcl 1 _ rfl (dep_of 1 rfl (hcl 5 _ rfl (x.resolve_left (by decide)))))) hD, fun x => absurd (dep_of 0 rfl (hcl 1 _ rfl (dep_of 1 rfl (hcl 5 _ rfl (x.resolve_left (by decide)))))) hD, fun x => absurd (dep_of 0 rfl (hcl 1 _ rfl (dep_of 1 rfl (hcl 5 _ rfl (dep_of 5 rfl (hcl 6 _ rfl (x.resolve_left (by decide)))))))) hD, fun x => absurd (dep_of 0 rfl (hcl 1 _ rfl (dep_of 1 rfl (hcl 5 _ rfl (dep_of 5 rfl (hcl 6 _ rfl (dep_of 6 rfl (hcl 7 _ rfl (x.resolve_left (by decide)))))))))) hD, fun x => absurd (dep_of 0 rfl (hcl 1 _ rfl (dep_of 1 rfl (hcl 5 _ rfl (dep_of 5 rfl (hcl 6 _ rfl (dep_of 6 rfl (hcl 8 _ rfl (x.resolve_left (by decide)))))))))) hD, fun x => absurd (dep_of 0 rfl (hcl 1 _ rfl (dep_of 1 rfl (hcl 5 _ rfl (dep_of 5 rfl (hcl 6 _ rfl (dep_of 6 rfl (hcl 9 _ rfl (x.resolve_left (by decide)))))))))) hD, fun x => absurd (dep_of 0 rfl (hcl 1 _ rfl (dep_of 1 rfl (hcl 5 _ rfl (dep_of 5 rfl (hcl 6 _ rfl (dep_of 6 rfl (hcl 10 _ rfl (x.resolve_left (by decide)))))))))) hD, slot_keep h.e11 (by decide) (by decide), fun x => h.h11 (x.resolve_left (by decide)), fun x n => (h.z11 (x.resolve_left (by decide)) (fun y => n (Or.inr y))), slot_keep h.e12 (by decide) (by decide), fun x => h.h12 (x.resolve_left (by decide)), fun x n => (h.z12 (x.resolve_left (by decide)) (fun y => n (Or.inr y))), fun x => absurd (dep_of 0 rfl (hcl 13 _ rfl (x.resolve_left (by decide)))) hD, fun x => absurd (dep_of 0 rfl (hcl 14 _ rfl (x.resolve_left (by decide)))) hD, fun x => absurd (dep_of 0 rfl (hcl 15 _ rfl (x.resolve_left (by decide)))) hD, fun x => absurd (dep_of 0 rfl (hcl 16 _ rfl (x.resolve_left (by decide)))) hD⟩⟩
    · intro D a w' hI hD hdep hcl
      obtain ⟨g, B, d, k8, k9, h⟩ := hI
      have he0 := eval_get (h.e0 (dep_of 0 rfl hdep))
      refine wp_call_fn (f := 16) (vs := #[.agg #[.slice A zs.length c]]) (by clear h hdep hcl hD; go_simp) ?_
      refine (toArena_any _ _ zs _ hs (HA.out.below (below_trans B0.out h.be))).mono ?_
      rintro e v1 ⟨g', rfl, hown, hb⟩
      have hnew : NewA w'.heap.size v1 (some ⟨g', 0, none⟩) zs.length zs := hown
      refine ⟨_, rfl, ?_⟩
      exact ⟨g', B, d, k8, k9, ⟨h.ag.put (by decide) _, below_trans h.be hb, slot_keep h.e0 (by decide) (by decide), fun _ => eval_put_same a _ (h.ag.lt rfl), fun _ => hnew.base h.be.size, slot_keep h.e2 (by decide) (by decide), fun x => absurd (dep_of 1 rfl (hcl 3 _ rfl (x.resolve_left (by decide)))) hD, slot_keep h.e4 (by decide) (by decide), fun x => absurd (dep_of 1 rfl (hcl 5 _ rfl (x.resolve_left (by decide)))) hD, fun x => absurd (dep_of 1 rfl (hcl 5 _ rfl (x.resolve_left (by decide)))) hD, fun x => absurd (dep_of 1 rfl (hcl 5 _ rfl (dep_of 5 rfl (hcl 6 _ rfl (x.resolve_left (by decide)))))) hD, fun x => absurd (dep_of 1 rfl (hcl 5 _ rfl (dep_of 5 rfl (hcl 6 _ rfl (dep_of 6 rfl (hcl 7 _ rfl (x.resolve_left (by decide)))))))) hD, fun x => absurd (dep_of 1 rfl (hcl 5 _ rfl (dep_of 5 rfl (hcl 6 _ rfl (dep_of 6 rfl (hcl 8 _ rfl (x.resolve_left (by decide)))))))) hD, fun x => absurd (dep_of 1 rfl (hcl 5 _ rfl (dep_of 5 rfl (hcl 6 _ rfl (dep_of 6 rfl (hcl 9 _ rfl (x.resolve_left (by decide)))))))) hD, fun x => absurd (dep_of 1 rfl (hcl 5 _ rfl (dep_of 5 rfl (hcl 6 _ rfl (dep_of 6 rfl (hcl 10 _ rfl (x.resolve_left (by decide)))))))) hD, slot_keep h.e11 (by decide) (by decide), fun x => h.h11 (x.resolve_left (by decide)), fun x n => (h.z11 (x.resolve_left (by decide)) (fun y => n (Or.inr y))).below hb, slot_keep h.e12 (by decide) (by decide), fun x => h.h12 (x.resolve_left (by decide)), fun x n => (h.z12 (x.resolve_left (by decide)) (fun y => n (Or.inr y))).below hb, fun x => absurd (dep_of 1 rfl (hcl 13 _ rfl (x.resolve_left (by decide)))) hD, fun x => absurd (dep_of 1 rfl (hcl 14 _ rfl (x.resolve_left (by decide)))) hD, fun x => absurd (dep_of 1 rfl (hcl 15 _ rfl (x.resolve_left (by decide)))) hD, fun x => absurd (dep_of 1 rfl (hcl 16 _ rfl (x.resolve_left (by decide)))) hD⟩⟩
    · intro D a w' hI hD hdep hcl
      obtain ⟨g, B, d, k8, k9, h⟩ := hI
      refine wp_load_row 42 _ rfl (w.heap.size + 1) ((h.ag.eval (show 4 ∉ [8, 9, 10, 11, 29, 30, 31, 32, 33, 34, 35, 36, 37, 38, 39] by decide)).trans rfl) 42 _ (0, 0) _ ((h.be.block _ L0.out.lt).trans L0.out) Try.underlying42 rfl info_lth ?_
      exact ⟨g, B, d, k8, k9, ⟨h.ag.put (by decide) _, h.be, slot_keep h.e0 (by decide) (by decide), slot_keep h.e1 (by decide) (by decide), fun x => h.h1 (x.resolve_left (by decide)), fun _ => eval_put_same a _ (h.ag.lt rfl), fun x => absurd (dep_of 2 rfl (hcl 3 _ rfl (x.resolve_left (by decide)))) hD, slot_keep h.e4 (by decide) (by decide), fun x => absurd (dep_of 2 rfl (hcl 3 _ rfl (dep_of 3 rfl (hcl 5 _ rfl (x.resolve_left (by decide)))))) hD, fun x => absurd (dep_of 2 rfl (hcl 3 _ rfl (dep_of 3 rfl (hcl 5 _ rfl (x.resolve_left (by decide)))))) hD, fun x => absurd (dep_of 2 rfl (hcl 3 _ rfl (dep_of 3 rfl (hcl 5 _ rfl (dep_of 5 rfl (hcl 6 _ rfl (x.resolve_left (by decide)))))))) hD, fun x => absurd (dep_of 2 rfl (hcl 3 _ rfl (dep_of 3 rfl (hcl 5 _ rfl (dep_of 5 rfl (hcl 6 _ rfl (dep_of 6 rfl (hcl 7 _ rfl (x.resolve_left (by decide)))))))))) hD, fun x => absurd (dep_of 2 rfl (hcl 3 _ rfl (dep_of 3 rfl (hcl 5 _ rfl (dep_of 5 rfl (hcl 6 _ rfl (dep_of 6 rfl (hcl 8 _ rfl (x.resolve_left (by decide)))))))))) hD, fun x => absurd (dep_of 2 rfl (hcl 3 _ rfl (dep_of 3 rfl (hcl 5 _ rfl (dep_of 5 rfl (hcl 6 _ rfl (dep_of 6 rfl (hcl 9 _ rfl (x.resolve_left (by decide)))))))))) hD, fun x => absurd (dep_of 2 rfl (hcl 3 _ rfl (dep_of 3 rfl (hcl 5 _ rfl (dep_of 5 rfl (hcl 6 _ rfl (dep_of 6 rfl (hcl 10 _ rfl (x.resolve_left (by decide)))))))))) hD, slot_keep h.e11 (by decide) (by decide), fun x => h.h11 (x.resolve_left (by decide)), fun x n => (h.z11 (x.resolve_left (by decide)) (fun y => n (Or.inr y))), slot_keep h.e12 (by decide) (by decide), fun x => h.h12 (x.resolve_left (by decide)), fun x n => (h.z12 (x.resolve_left (by decide)) (fun y => n (Or.inr y))), fun x => absurd (dep_of 2 rfl (hcl 13 _ rfl (x.resolve_left (by decide)))) hD, fun x => absurd (dep_of 2 rfl (hcl 14 _ rfl (x.resolve_left (by decide)))) hD, fun x => absurd (dep_of 2 rfl (hcl 15 _ rfl (x.resolve_left (by decide)))) hD, fun x => absurd (dep_of 2 rfl (hcl 16 _ rfl (x.resolve_left (by decide)))) hD⟩⟩
    · intro D a w' hI hD hdep hcl
      obtain ⟨g, B, d, k8, k9, h⟩ := hI
      have he0 := eval_get (h.e2 (dep_of 2 rfl hdep))
      refine wp_call_fn (f := 17) (vs := #[.agg #[.int .i64 id, .int .i64 st, .int .i64 op, .int .i64 arg, .int .i64 pc, .int .i64 til, .bool per, .bool can, .int .i64 r0, .int .i64 r1, .int .i64 r2, .int .i64 r3, .int .i64 r4, .int .i64 code, .int .i64 res]]) (by clear h hdep hcl hD; go_simp) ?_
      refine (toThread_any _ _ _ _ _ _ _ _ _ _ _ _ _ _ _ _).mono ?_
      rintro e v1 ⟨rfl, hb⟩
      refine ⟨_, rfl, ?_⟩
      exact ⟨g, B, d, k8, k9, ⟨h.ag.put (by decide) _, below_trans h.be hb, slot_keep h.e0 (by decide) (by decide), slot_keep h.e1 (by decide) (by decide), fun x => (h.h1 (x.resolve_left (by decide))).below hb, slot_keep h.e2 (by decide) (by decide), fun _ => eval_put_same a _ (h.ag.lt rfl), slot_keep h.e4 (by decide) (by decide), fun x => absurd (dep_of 3 rfl (hcl 5 _ rfl (x.resolve_left (by decide)))) hD, fun x => absurd (dep_of 3 rfl (hcl 5 _ rfl (x.resolve_left (by decide)))) hD, fun x => absurd (dep_of 3 rfl (hcl 5 _ rfl (dep_of 5 rfl (hcl 6 _ rfl (x.resolve_left (by decide)))))) hD, fun x => absurd (dep_of 3 rfl (hcl 5 _ rfl (dep_of 5 rfl (hcl 6 _ rfl (dep_of 6 rfl (hcl 7 _ rfl (x.resolve_left (by decide)))))))) hD, fun x => absurd (dep_of 3 rfl (hcl 5 _ rfl (dep_of 5 rfl (hcl 6 _ rfl (dep_of 6 rfl (hcl 8 _ rfl (x.resolve_left (by decide)))))))) hD, fun x => absurd (dep_of 3 rfl (hcl 5 _ rfl (dep_of 5 rfl (hcl 6 _ rfl (dep_of 6 rfl (hcl 9 _ rfl (x.resolve_left (by decide)))))))) hD, fun x => absurd (dep_of 3 rfl (hcl 5 _ rfl (dep_of 5 rfl (hcl 6 _ rfl (dep_of 6 rfl (hcl 10 _ rfl (x.resolve_left (by decide)))))))) hD, slot_keep h.e11 (by decide) (by decide), fun x => h.h11 (x.resolve_left (by decide)), fun x n => (h.z11 (x.resolve_left (by decide)) (fun y => n (Or.inr y))).below hb, slot_keep h.e12 (by decide) (by decide), fun x => h.h12 (x.resolve_left (by decide)), fun x n => (h.z12 (x.resolve_left (by decide)) (fun y => n (Or.inr y))).below hb, fun x => absurd (dep_of 3 rfl (hcl 13 _ rfl (x.resolve_left (by decide)))) hD, fun x => absurd (dep_of 3 rfl (hcl 14 _ rfl (x.resolve_left (by decide)))) hD, fun x => absurd (dep_of 3 rfl (hcl 15 _ rfl (x.resolve_left (by decide)))) hD, fun x => absurd (dep_of 3 rfl (hcl 16 _ rfl (x.resolve_left (by decide)))) hD⟩⟩
    · intro D a w' hI hD hdep hcl
      obtain ⟨g, B, d, k8, k9, h⟩ := hI
      have he : a.tmps[2]?.getD undef = .int .i64 now := eval_get ((h.ag.eval (show 2 ∉ [8, 9, 10, 11, 29, 30, 31, 32, 33, 34, 35, 36, 37, 38, 39] by decide)).trans rfl)
      refine wp_yield (v := .int .i64 now) (w' := w') (by clear h hdep hcl hD; go_simp) ?_
      exact ⟨g, B, d, k8, k9, ⟨h.ag.put (by decide) _, h.be, slot_keep h.e0 (by decide) (by decide), slot_keep h.e1 (by decide) (by decide), fun x => h.h1 (x.resolve_left (by decide)), slot_keep h.e2 (by decide) (by decide), slot_keep h.e3 (by decide) (by decide), fun _ => eval_put_same a _ (h.ag.lt rfl), fun x => absurd (dep_of 4 rfl (hcl 5 _ rfl (x.resolve_left (by decide)))) hD, fun x => absurd (dep_of 4 rfl (hcl 5 _ rfl (x.resolve_left (by decide)))) hD, fun x => absurd (dep_of 4 rfl (hcl 5 _ rfl (dep_of 5 rfl (hcl 6 _ rfl (x.resolve_left (by decide)))))) hD, fun x => absurd (dep_of 4 rfl (hcl 5 _ rfl (dep_of 5 rfl (hcl 6 _ rfl (dep_of 6 rfl (hcl 7 _ rfl (x.resolve_left (by decide)))))))) hD, fun x => absurd (dep_of 4 rfl (hcl 5 _ rfl (dep_of 5 rfl (hcl 6 _ rfl (dep_of 6 rfl (hcl 8 _ rfl (x.resolve_left (by decide)))))))) hD, fun x => absurd (dep_of 4 rfl (hcl 5 _ rfl (dep_of 5 rfl (hcl 6 _ rfl (dep_of 6 rfl (hcl 9 _ rfl (x.resolve_left (by decide)))))))) hD, fun x => absurd (dep_of 4 rfl (hcl 5 _ rfl (dep_of 5 rfl (hcl 6 _ rfl (dep_of 6 rfl (hcl 10 _ rfl (x.resolve_left (by decide)))))))) hD, slot_keep h.e11 (by decide) (by decide), fun x => h.h11 (x.resolve_left (by decide)), fun x n => (h.z11 (x.resolve_left (by decide)) (fun y => n (Or.inr y))), slot_keep h.e12 (by decide) (by decide), fun x => h.h12 (x.resolve_left (by decide)), fun x n => (h.z12 (x.resolve_left (by decide)) (fun y => n (Or.inr y))), fun x => absurd (dep_of 4 rfl (hcl 13 _ rfl (x.resolve_left (by decide)))) hD, fun x => absurd (dep_of 4 rfl (hcl 14 _ rfl (x.resolve_left (by decide)))) hD, fun x => absurd (dep_of 4 rfl (hcl 15 _ rfl (x.resolve_left (by decide)))) hD, fun x => absurd (dep_of 4 rfl (hcl 16 _ rfl (x.resolve_left (by decide)))) hD⟩⟩
    · intro D a w' hI hD hdep hcl
      obtain ⟨g, B, d, k8, k9, h⟩ := hI
      have he0 := eval_get (h.e1 (dep_of 1 rfl hdep))
      have he1 := eval_get (h.e3 (dep_of 3 rfl hdep))
      have he2 := eval_get (h.e4 (dep_of 4 rfl hdep))
      refine wp_call_fn (f := 10) (vs := #[.agg #[.slice (some ⟨g, 0, none⟩) zs.length zs.length], .agg #[.int .i64 id, .int .i64 st, .int .i64 op, .int .i64 arg, .int .i64 pc, .int .i64 til, .bool per, .bool can, .int .i64 r0, .int .i64 r1, .int .i64 r2, .int .i64 r3, .int .i64 r4, .int .i64 code, .int .i64 res], .int .i64 now]) (by clear h hdep hcl hD; go_simp) ?_
      refine (HS.out _ _ _ (h.h1 (dep_of 1 rfl hdep)).rd).mono ?_
      rintro e v1 ⟨B', d', rfl, hnew, hb⟩
      refine ⟨_, rfl, ?_⟩
      exact ⟨g, B', d', k8, k9, ⟨h.ag.put (by decide) _, below_trans h.be hb, slot_keep h.e0 (by decide) (by decide), slot_keep h.e1 (by decide) (by decide), fun x => (h.h1 (x.resolve_left (by decide))).below hb, slot_keep h.e2 (by decide) (by decide), slot_keep h.e3 (by decide) (by decide), slot_keep h.e4 (by decide) (by decide), fun _ => eval_put_same a _ (h.ag.lt rfl), fun _ => hnew.base h.be.size, fun x => absurd (dep_of 5 rfl (hcl 6 _ rfl (x.resolve_left (by decide)))) hD, fun x => absurd (dep_of 5 rfl (hcl 6 _ rfl (dep_of 6 rfl (hcl 7 _ rfl (x.resolve_left (by decide)))))) hD, fun x => absurd (dep_of 5 rfl (hcl 6 _ rfl (dep_of 6 rfl (hcl 8 _ rfl (x.resolve_left (by decide)))))) hD, fun x => absurd (dep_of 5 rfl (hcl 6 _ rfl (dep_of 6 rfl (hcl 9 _ rfl (x.resolve_left (by decide)))))) hD, fun x => absurd (dep_of 5 rfl (hcl 6 _ rfl (dep_of 6 rfl (hcl 10 _ rfl (x.resolve_left (by decide)))))) hD, slot_keep h.e11 (by decide) (by decide), fun x => h.h11 (x.resolve_left (by decide)), fun x n => (h.z11 (x.resolve_left (by decide)) (fun y => n (Or.inr y))).below hb, slot_keep h.e12 (by decide) (by decide), fun x => h.h12 (x.resolve_left (by decide)), fun x n => (h.z12 (x.resolve_left (by decide)) (fun y => n (Or.inr y))).below hb, fun x => absurd (dep_of 5 rfl (hcl 13 _ rfl (x.resolve_left (by decide)))) hD, fun x => absurd (dep_of 5 rfl (hcl 14 _ rfl (x.resolve_left (by decide)))) hD, fun x => absurd (dep_of 5 rfl (hcl 15 _ rfl (x.resolve_left (by decide)))) hD, fun x => absurd (dep_of 5 rfl (hcl 16 _ rfl (x.resolve_left (by decide)))) hD⟩⟩
    · intro D a w' hI hD hdep hcl
      obtain ⟨g, B, d, k8, k9, h⟩ := hI
      have he := eval_get (h.e5 (dep_of 5 rfl hdep))
      refine wp_yield (v := .tuple #[.agg #[.slice B L.length d], .agg #[.int .i64 id', .int .i64 st', .int .i64 op', .int .i64 arg', .int .i64 pc', .int .i64 til', .bool per', .bool can', .int .i64 s0, .int .i64 s1, .int .i64 s2, .int .i64 s3, .int .i64 s4, .int .i64 code', .int .i64 res'], .int .i64 wk, .int .i64 q]) (w' := w') (by clear h hdep hcl hD; go_simp) ?_
      exact ⟨g, B, d, k8, k9, ⟨h.ag.put (by decide) _, h.be, slot_keep h.e0 (by decide) (by decide), slot_keep h.e1 (by decide) (by decide), fun x => h.h1 (x.resolve_left (by decide)), slot_keep h.e2 (by decide) (by decide), slot_keep h.e3 (by decide) (by decide), slot_keep h.e4 (by decide) (by decide), slot_keep h.e5 (by decide) (by decide), fun x => h.h5 (x.resolve_left (by decide)), fun _ => eval_put_same a _ (h.ag.lt rfl), fun x => absurd (dep_of 6 rfl (hcl 7 _ rfl (x.resolve_left (by decide)))) hD, fun x => absurd (dep_of 6 rfl (hcl 8 _ rfl (x.resolve_left (by decide)))) hD, fun x => absurd (dep_of 6 rfl (hcl 9 _ rfl (x.resolve_left (by decide)))) hD, fun x => absurd (dep_of 6 rfl (hcl 10 _ rfl (x.resolve_left (by decide)))) hD, slot_keep h.e11 (by decide) (by decide), fun x => h.h11 (x.resolve_left (by decide)), fun x n => (h.z11 (x.resolve_left (by decide)) (fun y => n (Or.inr y))), slot_keep h.e12 (by decide) (by decide), fun x => h.h12 (x.resolve_left (by decide)), fun x n => (h.z12 (x.resolve_left (by decide)) (fun y => n (Or.inr y))), fun x => absurd (dep_of 6 rfl (hcl 13 _ rfl (x.resolve_left (by decide)))) hD, fun x => absurd (dep_of 6 rfl (hcl 14 _ rfl (x.resolve_left (by decide)))) hD, fun x => absurd (dep_of 6 rfl (hcl 15 _ rfl (x.resolve_left (by decide)))) hD, fun x => absurd (dep_of 6 rfl (hcl 16 _ rfl (x.resolve_left (by decide)))) hD⟩⟩
    · intro D a w' hI hD hdep hcl
      obtain ⟨g, B, d, k8, k9, h⟩ := hI
      have he := eval_get (h.e6 (dep_of 6 rfl hdep))
      refine wp_yield (v := .agg #[.slice B L.length d]) (w' := w') (by clear h hdep hcl hD; go_simp) ?_
      exact ⟨g, B, d, k8, k9, ⟨h.ag.put (by decide) _, h.be, slot_keep h.e0 (by decide) (by decide), slot_keep h.e1 (by decide) (by decide), fun x => h.h1 (x.resolve_left (by decide)), slot_keep h.e2 (by decide) (by decide), slot_keep h.e3 (by decide) (by decide), slot_keep h.e4 (by decide) (by decide), slot_keep h.e5 (by decide) (by decide), fun x => h.h5 (x.resolve_left (by decide)), slot_keep h.e6 (by decide) (by decide), fun _ => eval_put_same a _ (h.ag.lt rfl), slot_keep h.e8 (by decide) (by decide), slot_keep h.e9 (by decide) (by decide), slot_keep h.e10 (by decide) (by decide), slot_keep h.e11 (by decide) (by decide), fun x => h.h11 (x.resolve_left (by decide)), fun x n => (h.z11 (x.resolve_left (by decide)) (fun y => n (Or.inr y))), slot_keep h.e12 (by decide) (by decide), fun x => h.h12 (x.resolve_left (by decide)), fun x n => (h.z12 (x.resolve_left (by decide)) (fun y => n (Or.inr y))), fun x => absurd (dep_of 7 rfl (hcl 13 _ rfl (x.resolve_left (by decide)))) hD, fun x => absurd (dep_of 7 rfl (hcl 14 _ rfl (x.resolve_left (by decide)))) hD, fun x => absurd (dep_of 7 rfl (hcl 15 _ rfl (x.resolve_left (by decide)))) hD, fun x => absurd (dep_of 7 rfl (hcl 16 _ rfl (x.resolve_left (by decide)))) hD⟩⟩
    · intro D a w' hI hD hdep hcl
      obtain ⟨g, B, d, k8, k9, h⟩ := hI
      have he := eval_get (h.e6 (dep_of 6 rfl hdep))
      refine wp_yield (v := .agg #[.int .i64 id', .int .i64 st', .int .i64 op', .int .i64 arg', .int .i64 pc', .int .i64 til', .bool per', .bool can', .int .i64 s0, .int .i64 s1, .int .i64 s2, .int .i64 s3, .int .i64 s4, .int .i64 code', .int .i64 res']) (w' := w') (by clear h hdep hcl hD; go_simp) ?_
      exact ⟨g, B, d, k8, k9, ⟨h.ag.put (by decide) _, h.be, slot_keep h.e0 (by decide) (by decide), slot_keep h.e1 (by decide) (by decide), fun x => h.h1 (x.resolve_left (by decide)), slot_keep h.e2 (by decide) (by decide), slot_keep h.e3 (by decide) (by decide), slot_keep h.e4 (by decide) (by decide), slot_keep h.e5 (by decide) (by decide), fun x => h.h5 (x.resolve_left (by decide)), slot_keep h.e6 (by decide) (by decide), slot_keep h.e7 (by decide) (by decide), fun _ => eval_put_same a _ (h.ag.lt rfl), slot_keep h.e9 (by decide) (by decide), slot_keep h.e10 (by decide) (by decide), slot_keep h.e11 (by decide) (by decide), fun x => h.h11 (x.resolve_left (by decide)), fun x n => (h.z11 (x.resolve_left (by decide)) (fun y => n (Or.inr y))), slot_keep h.e12 (by decide) (by decide), fun x => h.h12 (x.resolve_left (by decide)), fun x n => (h.z12 (x.resolve_left (by decide)) (fun y => n (Or.inr y))), fun x => (h.z13 (x.resolve_left (by decide))), fun x => absurd (dep_of 8 rfl (hcl 14 _ rfl (x.resolve_left (by decide)))) hD, fun x => absurd (dep_of 8 rfl (hcl 15 _ rfl (x.resolve_left (by decide)))) hD, fun x => absurd (dep_of 8 rfl (hcl 16 _ rfl (x.resolve_left (by decide)))) hD⟩⟩
    · intro D a w' hI hD hdep hcl
      obtain ⟨g, B, d, k8, k9, h⟩ := hI
      have he := eval_get (h.e6 (dep_of 6 rfl hdep))
      refine wp_yield (v := .int .i64 wk) (w' := w') (by clear h hdep hcl hD; go_simp) ?_
      exact ⟨g, B, d, k8, k9, ⟨h.ag.put (by decide) _, h.be, slot_keep h.e0 (by decide) (by decide), slot_keep h.e1 (by decide) (by decide), fun x => h.h1 (x.resolve_left (by decide)), slot_keep h.e2 (by decide) (by decide), slot_keep h.e3 (by decide) (by decide), slot_keep h.e4 (by decide) (by decide), slot_keep h.e5 (by decide) (by decide), fun x => h.h5 (x.resolve_left (by decide)), slot_keep h.e6 (by decide) (by decide), slot_keep h.e7 (by decide) (by decide), slot_keep h.e8 (by decide) (by decide), fun _ => eval_put_same a _ (h.ag.lt rfl), slot_keep h.e10 (by decide) (by decide), slot_keep h.e11 (by decide) (by decide), fun x => h.h11 (x.resolve_left (by decide)), fun x n => (h.z11 (x.resolve_left (by decide)) (fun y => n (Or.inr y))), slot_keep h.e12 (by decide) (by decide), fun x => h.h12 (x.resolve_left (by decide)), fun x n => (h.z12 (x.resolve_left (by decide)) (fun y => n (Or.inr y))), fun x => (h.z13 (x.resolve_left (by decide))), fun x => (h.z14 (x.resolve_left (by decide))), fun x => absurd (dep_of 9 rfl (hcl 15 _ rfl (x.resolve_left (by decide)))) hD, fun x => absurd (dep_of 9 rfl (hcl 16 _ rfl (x.resolve_left (by decide)))) hD⟩⟩
    · intro D a w' hI hD hdep hcl
      obtain ⟨g, B, d, k8, k9, h⟩ := hI
      have he := eval_get (h.e6 (dep_of 6 rfl hdep))
      refine wp_yield (v := .int .i64 q) (w' := w') (by clear h hdep hcl hD; go_simp) ?_
      exact ⟨g, B, d, k8, k9, ⟨h.ag.put (by decide) _, h.be, slot_keep h.e0 (by decide) (by decide), slot_keep h.e1 (by decide) (by decide), fun x => h.h1 (x.resolve_left (by decide)), slot_keep h.e2 (by decide) (by decide), slot_keep h.e3 (by decide) (by decide), slot_keep h.e4 (by decide) (by decide), slot_keep h.e5 (by decide) (by decide), fun x => h.h5 (x.resolve_left (by decide)), slot_keep h.e6 (by decide) (by decide), slot_keep h.e7 (by decide) (by decide), slot_keep h.e8 (by decide) (by decide), slot_keep h.e9 (by decide) (by decide), fun _ => eval_put_same a _ (h.ag.lt rfl), slot_keep h.e11 (by decide) (by decide), fun x => h.h11 (x.resolve_left (by decide)), fun x n => (h.z11 (x.resolve_left (by decide)) (fun y => n (Or.inr y))), slot_keep h.e12 (by decide) (by decide), fun x => h.h12 (x.resolve_left (by decide)), fun x n => (h.z12 (x.resolve_left (by decide)) (fun y => n (Or.inr y))), fun x => (h.z13 (x.resolve_left (by decide))), fun x => (h.z14 (x.resolve_left (by decide))), slot_keep h.e15 (by decide) (by decide), fun x => absurd (dep_of 10 rfl (hcl 16 _ rfl (x.resolve_left (by decide)))) hD⟩⟩
    · intro D a w' hI hD hdep hcl
      obtain ⟨g, B, d, k8, k9, h⟩ := hI
      refine wp_yield (v := .pointer (some ⟨w'.heap.size, 0, none⟩)) (w' := w'.alloc (.cells #[.slice none 0 0] 25)) (by clear h hdep hcl hD; go_simp) ?_
      exact ⟨g, B, d, w'.heap.size, k9, ⟨h.ag.put (by decide) _, below_trans h.be (below_alloc _ _), slot_keep h.e0 (by decide) (by decide), slot_keep h.e1 (by decide) (by decide), fun x => (h.h1 (x.resolve_left (by decide))).below (below_alloc _ _), slot_keep h.e2 (by decide) (by decide), slot_keep h.e3 (by decide) (by decide), slot_keep h.e4 (by decide) (by decide), slot_keep h.e5 (by decide) (by decide), fun x => (h.h5 (x.resolve_left (by decide))).below (below_alloc _ _), slot_keep h.e6 (by decide) (by decide), slot_keep h.e7 (by decide) (by decide), slot_keep h.e8 (by decide) (by decide), slot_keep h.e9 (by decide) (by decide), slot_keep h.e10 (by decide) (by decide), fun _ => eval_put_same a _ (h.ag.lt rfl), fun _ => h.be.size, fun _ _ => BoxA.new _ _, slot_keep h.e12 (by decide) (by decide), fun x => h.h12 (x.resolve_left (by decide)), fun x n => (h.z12 (x.resolve_left (by decide)) (fun y => n (Or.inr y))).below (below_alloc _ _), fun x => absurd (dep_of 11 rfl (hcl 13 _ rfl (x.resolve_left (by decide)))) hD, fun x => absurd (dep_of 11 rfl (hcl 14 _ rfl (x.resolve_left (by decide)))) hD, fun x => absurd (dep_of 11 rfl (hcl 15 _ rfl (x.resolve_left (by decide)))) hD, fun x => absurd (dep_of 11 rfl (hcl 16 _ rfl (x.resolve_left (by decide)))) hD⟩⟩
    · intro D a w' hI hD hdep hcl
      obtain ⟨g, B, d, k8, k9, h⟩ := hI
      refine wp_yield (v := .pointer (some ⟨w'.heap.size, 0, none⟩)) (w' := w'.alloc (.cells #[.int .i64 0, .int .i64 0, .int .i64 0, .int .i64 0, .int .i64 0, .int .i64 0, .bool false, .bool false, .int .i64 0, .int .i64 0, .int .i64 0, .int .i64 0, .int .i64 0, .int .i64 0, .int .i64 0] 29)) (by clear h hdep hcl hD; go_simp) ?_
      exact ⟨g, B, d, k8, w'.heap.size, ⟨h.ag.put (by decide) _, below_trans h.be (below_alloc _ _), slot_keep h.e0 (by decide) (by decide), slot_keep h.e1 (by decide) (by decide), fun x => (h.h1 (x.resolve_left (by decide))).below (below_alloc _ _), slot_keep h.e2 (by decide) (by decide), slot_keep h.e3 (by decide) (by decide), slot_keep h.e4 (by decide) (by decide), slot_keep h.e5 (by decide) (by decide), fun x => (h.h5 (x.resolve_left (by decide))).below (below_alloc _ _), slot_keep h.e6 (by decide) (by decide), slot_keep h.e7 (by decide) (by decide), slot_keep h.e8 (by decide) (by decide), slot_keep h.e9 (by decide) (by decide), slot_keep h.e10 (by decide) (by decide), slot_keep h.e11 (by decide) (by decide), fun x => h.h11 (x.resolve_left (by decide)), fun x n => (h.z11 (x.resolve_left (by decide)) (fun y => n (Or.inr y))).below (below_alloc _ _), fun _ => eval_put_same a _ (h.ag.lt rfl), fun _ => h.be.size, fun _ _ => BoxT.new _ _, fun x => absurd (dep_of 12 rfl (hcl 13 _ rfl (x.resolve_left (by decide)))) hD, fun x => absurd (dep_of 12 rfl (hcl 14 _ rfl (x.resolve_left (by decide)))) hD, fun x => absurd (dep_of 12 rfl (hcl 15 _ rfl (x.resolve_left (by decide)))) hD, fun x => absurd (dep_of 12 rfl (hcl 16 _ rfl (x.resolve_left (by decide)))) hD⟩⟩
    · intro D a w' hI hD hdep hcl
      obtain ⟨g, B, d, k8, k9, h⟩ := hI
      have hal := dep_of 11 rfl hdep
      have hbx := h.z11 hal hD
      have h8 := h.h11 hal
      refine wp_store_row 25 _ _ rfl k8 _ (h.e11 hal) (h.e7 (dep_of 7 rfl hdep)) 25 _ hbx info_ar rfl (BoxA.one _ _ _) ?_
      exact ⟨g, B, d, k8, k9, ⟨h.ag, below_row h.be h8 _, fun x => h.e0 (x.resolve_left (by decide)), fun x => h.e1 (x.resolve_left (by decide)), fun x => (h.h1 (x.resolve_left (by decide))).rowA hbx _, fun x => h.e2 (x.resolve_left (by decide)), fun x => h.e3 (x.resolve_left (by decide)), fun x => h.e4 (x.resolve_left (by decide)), fun x => h.e5 (x.resolve_left (by decide)), fun x => (h.h5 (x.resolve_left (by decide))).rowA hbx _, fun x => h.e6 (x.resolve_left (by decide)), fun x => h.e7 (x.resolve_left (by decide)), fun x => h.e8 (x.resolve_left (by decide)), fun x => h.e9 (x.resolve_left (by decide)), fun x => h.e10 (x.resolve_left (by decide)), fun x => h.e11 (x.resolve_left (by decide)), fun x => h.h11 (x.resolve_left (by decide)), fun _ n => absurd (Or.inl rfl) n, fun x => h.e12 (x.resolve_left (by decide)), fun x => h.h12 (x.resolve_left (by decide)), fun x n => (h.z12 (x.resolve_left (by decide)) (fun y => n (Or.inr y))).rowOther (boxA_ne_boxT hbx (h.z12 (x.resolve_left (by decide)) (fun y => n (Or.inr y)))).symm _, fun _ => hbx.row _, fun x => absurd (dep_of 13 rfl (hcl 14 _ rfl (x.resolve_left (by decide)))) hD, fun x => absurd (dep_of 13 rfl (hcl 15 _ rfl (x.resolve_left (by decide)))) hD, fun x => absurd (dep_of 13 rfl (hcl 16 _ rfl (x.resolve_left (by decide)))) hD⟩⟩
    · intro D a w' hI hD hdep hcl
      obtain ⟨g, B, d, k8, k9, h⟩ := hI
      have hal := dep_of 12 rfl hdep
      have hbx := h.z12 hal hD
      have h9 := h.h12 hal
      refine wp_store_row 29 _ _ rfl k9 _ (h.e12 hal) (h.e8 (dep_of 8 rfl hdep)) 29 _ hbx info_th rfl (one15 _ _ _ _ _ _ _ _ _ _ _ _ _ _ _) ?_
      exact ⟨g, B, d, k8, k9, ⟨h.ag, below_row h.be h9 _, fun x => h.e0 (x.resolve_left (by decide)), fun x => h.e1 (x.resolve_left (by decide)), fun x => (h.h1 (x.resolve_left (by decide))).rowT hbx _, fun x => h.e2 (x.resolve_left (by decide)), fun x => h.e3 (x.resolve_left (by decide)), fun x => h.e4 (x.resolve_left (by decide)), fun x => h.e5 (x.resolve_left (by decide)), fun x => (h.h5 (x.resolve_left (by decide))).rowT hbx _, fun x => h.e6 (x.resolve_left (by decide)), fun x => h.e7 (x.resolve_left (by decide)), fun x => h.e8 (x.resolve_left (by decide)), fun x => h.e9 (x.resolve_left (by decide)), fun x => h.e10 (x.resolve_left (by decide)), fun x => h.e11 (x.resolve_left (by decide)), fun x => h.h11 (x.resolve_left (by decide)), fun _ n => absurd (Or.inr (dep_of 13 rfl hdep)) n, fun x => h.e12 (x.resolve_left (by decide)), fun x => h.h12 (x.resolve_left (by decide)), fun _ n => absurd (Or.inl rfl) n, fun x => (h.z13 (x.resolve_left (by decide))).rowOther (boxA_ne_boxT (h.z13 (x.resolve_left (by decide))) hbx) _, fun _ => hbx.row _, fun x => absurd (dep_of 14 rfl (hcl 15 _ rfl (x.resolve_left (by decide)))) hD, fun x => absurd (dep_of 14 rfl (hcl 16 _ rfl (x.resolve_left (by decide)))) hD⟩⟩
    · intro D a w' hI hD hdep hcl
      obtain ⟨g, B, d, k8, k9, h⟩ := hI
      have he := eval_get (h.e9 (dep_of 9 rfl hdep))
      refine wp_yield (v := .int .i64 wk) (w' := w') (by clear h hdep hcl hD; go_simp) ?_
      exact ⟨g, B, d, k8, k9, ⟨h.ag.put (by decide) _, h.be, slot_keep h.e0 (by decide) (by decide), slot_keep h.e1 (by decide) (by decide), fun x => h.h1 (x.resolve_left (by decide)), slot_keep h.e2 (by decide) (by decide), slot_keep h.e3 (by decide) (by decide), slot_keep h.e4 (by decide) (by decide), slot_keep h.e5 (by decide) (by decide), fun x => h.h5 (x.resolve_left (by decide)), slot_keep h.e6 (by decide) (by decide), slot_keep h.e7 (by decide) (by decide), slot_keep h.e8 (by decide) (by decide), slot_keep h.e9 (by decide) (by decide), slot_keep h.e10 (by decide) (by decide), slot_keep h.e11 (by decide) (by decide), fun x => h.h11 (x.resolve_left (by decide)), fun _ n => absurd (Or.inr (dep_of 13 rfl hdep)) n, slot_keep h.e12 (by decide) (by decide), fun x => h.h12 (x.resolve_left (by decide)), fun _ n => absurd (Or.inr (dep_of 14 rfl hdep)) n, fun x => (h.z13 (x.resolve_left (by decide))), fun x => (h.z14 (x.resolve_left (by decide))), fun _ => eval_put_same a _ (h.ag.lt rfl), fun x => absurd (dep_of 15 rfl (hcl 16 _ rfl (x.resolve_left (by decide)))) hD⟩⟩
    · intro D a w' hI hD hdep hcl
      obtain ⟨g, B, d, k8, k9, h⟩ := hI
      have he := eval_get (h.e10 (dep_of 10 rfl hdep))
      refine wp_yield (v := .int .i64 q) (w' := w') (by clear h hdep hcl hD; go_simp) ?_
      exact ⟨g, B, d, k8, k9, ⟨h.ag.put (by decide) _, h.be, slot_keep h.e0 (by decide) (by decide), slot_keep h.e1 (by decide) (by decide), fun x => h.h1 (x.resolve_left (by decide)), slot_keep h.e2 (by decide) (by decide), slot_keep h.e3 (by decide) (by decide), slot_keep h.e4 (by decide) (by decide), slot_keep h.e5 (by decide) (by decide), fun x => h.h5 (x.resolve_left (by decide)), slot_keep h.e6 (by decide) (by decide), slot_keep h.e7 (by decide) (by decide), slot_keep h.e8 (by decide) (by decide), slot_keep h.e9 (by decide) (by decide), slot_keep h.e10 (by decide) (by decide), slot_keep h.e11 (by decide) (by decide), fun x => h.h11 (x.resolve_left (by decide)), fun _ n => absurd (Or.inr (dep_of 13 rfl hdep)) n, slot_keep h.e12 (by decide) (by decide), fun x => h.h12 (x.resolve_left (by decide)), fun _ n => absurd (Or.inr (dep_of 14 rfl hdep)) n, fun x => (h.z13 (x.resolve_left (by decide))), fun x => (h.z14 (x.resolve_left (by decide))), slot_keep h.e15 (by decide) (by decide), fun _ => eval_put_same a _ (h.ag.lt rfl)⟩⟩
  · rintro D a w' ⟨g, B, d, k8, k9, h⟩ hD
    have hd := fun i (hi : Nat.ble (i + 1) 17 = true) => hD i (Nat.le_of_ble_eq_true hi)
    exact ⟨B, d, k8, k9, h.ag, h.e11 (hd 11 rfl), h.e12 (hd 12 rfl), h.e15 (hd 15 rfl), h.e16 (hd 16 rfl), h.z13 (hd 13 rfl), h.z14 (hd 14 rfl), h.h5 (hd 5 rfl), h.h11 (hd 11 rfl), h.h12 (hd 12 rfl), h.be⟩
  rintro a' w2 ⟨B2, d2, k8, k9, hag, t8, t9, t10, t11, hb8, hb9, hnw, hk8, hk9, hbe⟩
  have he := hag.eq
  clear hag
  simp only [List.foldl_cons, List.foldl_nil] at he
  rw [t8, t9, t10, t11] at he
  clear t8 t9 t10 t11
  generalize a'.eval (.tmp 29) = u29 at he
  generalize a'.eval (.tmp 30) = u30 at he
  generalize a'.eval (.tmp 31) = u31 at he
  generalize a'.eval (.tmp 32) = u32 at he
  generalize a'.eval (.tmp 33) = u33 at he
  generalize a'.eval (.tmp 34) = u34 at he
  generalize a'.eval (.tmp 35) = u35 at he
  generalize a'.eval (.tmp 36) = u36 at he
  generalize a'.eval (.tmp 37) = u37 at he
  generalize a'.eval (.tmp 38) = u38 at he
  generalize a'.eval (.tmp 39) = u39 at he
  simp only [Act.put, List.setIfInBounds_toArray, List.set_cons_zero, List.set_cons_succ] at he
  subst he
  have c1 : w2.cell? ⟨w.heap.size, 0, none⟩ = some (.slice A zs.length c) := cell_keep hbe c0
  have L1 := Lib.hid (BoxL.below L0.out hbe)
  have B1 := Lib.hid (below_trans B0.out hbe)
  have K80 := Lib.hid hb8; have K90 := Lib.hid hb9
  have HW1 := Lib.hid (show NewA (w1.heap.size) w2 (B2) (d2) (L) from hnw)
  have HEW : Hid (∀ k, Value.ownBlock (.slice (B2) (L).length (d2)) = some k → w1.heap.size ≤ k ∧ k < w2.heap.size) := fun k hk => World.ownsRow.lt HW1.out k hk
  have hq8 : k8 < w2.heap.size := hb8.lt; have hq9 : k9 < w2.heap.size := hb9.lt; have hz2 : w1.heap.size ≤ w2.heap.size := hbe.size
  have k80 := K80.out.cell
  clear c0 L0 B0 hb8 hb9 hnw hbe
  as_aux_lemma =>
  go_wp2_with fail
  refine (toArena_any _ _ zs _ hs (HA.out.below B1.out)).mono ?_
  rintro e w3 ⟨g3, rfl, hown, hb⟩
  have c2 : w3.cell? ⟨w.heap.size, 0, none⟩ = some (.slice A zs.length c) := cell_keep hb c1
  have L2 := Lib.hid (BoxL.below L1.out hb)
  have K82 := Lib.hid (BoxA.below K80.out hb)
  have K92 := Lib.hid (BoxT.below K90.out hb)
  have HW2 := Lib.hid (NewA.below HW1.out hb)
  have B2 := Lib.hid (below_trans B1.out hb)
  have k82 := K82.out.cell
  have HX2 := Lib.hid (show NewA (w2.heap.size) w3 (some ⟨g3, 0, none⟩) (zs.length) (zs) from hown)
  have HEX : Hid (∀ k, Value.ownBlock (.slice (some ⟨g3, 0, none⟩) (zs).length (zs.length)) = some k → w2.heap.size ≤ k ∧ k < w3.heap.size) := fun k hk => World.ownsRow.lt HX2.out k hk
  have hz3 : w2.heap.size ≤ w3.heap.size := hb.size
  clear K80 K90 HW1 c1 L1 B1 k80 hown hb
  go_upto_region 7 with fail
  generalize hw4 : World.alloc w3 _ = w4
  have hb4 : Below w3.heap.size w3 w4 := by rw [← hw4]; exact below_alloc _ _
  have KX0 : Hid (BoxA w4 w3.heap.size (.slice (some ⟨g3, 0, none⟩) zs.length zs.length)) := by rw [← hw4]; exact BoxA.new _ _
  have hz4 : w4.heap.size = w3.heap.size + 1 := by rw [← hw4]; exact size_alloc _ _
  clear hw4
  have c3 : w4.cell? ⟨w.heap.size, 0, none⟩ = some (.slice A zs.length c) := cell_keep hb4 c2
  have L3 := Lib.hid (BoxL.below L2.out hb4)
  have K83 := Lib.hid (BoxA.below K82.out hb4)
  have K93 := Lib.hid (BoxT.below K92.out hb4)
  have HW3 := Lib.hid (NewA.below HW2.out hb4)
  have HX3 := Lib.hid (NewA.below HX2.out hb4)
  have B3 := Lib.hid (below_trans B2.out hb4)
  have k83 := K83.out.cell
  clear K82 K92 HW2 HX2 c2 L2 B2 k82 hb4
  refine region_cut (fun a0 D a w' => ∃ g B d k8 k9, RL7 w4 a0 A (some ⟨g3, 0, none⟩) c zs.length zs L id st op arg pc til per can r0 r1 r2 r3 r4 code res now wk q id' st' op' arg' pc' til' per' can' s0 s1 s2 s3 s4 code' res' D a w' g B d k8 k9) (fun a0 a w' => ∃ B d k8 k9, Agree a0 a [13, 14, 15, 16, 42, 43, 44, 45, 46, 47, 48, 49, 50, 51] ∧ a.eval (.tmp 13) = .pointer (some ⟨k8, 0, none⟩) ∧ a.eval (.tmp 14) = .pointer (some ⟨k9, 0, none⟩) ∧ a.eval (.tmp 15) = .int .i64 wk ∧ a.eval (.tmp 16) = .int .i64 q ∧ BoxA w' k8 (.slice B L.length d) ∧ BoxT w' k9 #[.int .i64 id', .int .i64 st', .int .i64 op', .int .i64 arg', .int .i64 pc', .int .i64 til', .bool per', .bool can', .int .i64 s0, .int .i64 s1, .int .i64 s2, .int .i64 s3, .int .i64 s4, .int .i64 code', .int .i64 res'] ∧ NewA w4.heap.size w' B d L ∧ w4.heap.size ≤ k8 ∧ w4.heap.size ≤ k9 ∧ Below w4.heap.size w4 w') (by kernel_rfl) (by kernel_rfl) ?_ ?_ ?_ ?_
  · exact ⟨0, none, 0, 0, 0, ⟨Agree.refl _ _, below_drew0 _, fun x => x.elim, fun x => x.elim, fun x => x.elim, fun x => x.elim, fun x => x.elim, fun x => x.elim, fun x => x.elim, fun x => x.elim, fun x => x.elim, fun x => x.elim, fun x => x.elim, fun x => x.elim, fun x => x.elim, fun x => x.elim, fun x => x.elim, fun x => x.elim, fun x => x.elim, fun x => x.elim, fun x => x.elim, fun x => x.elim, fun x => x.elim⟩⟩
  · intro K'
    refine Steps.cons (i := 0) (j := 1) rfl ?_ (Steps.cons (i := 1) (j := 2) rfl ?_ (Steps.cons (i := 2) (j := 3) rfl ?_ (Steps.cons (i := 3) (j := 4) rfl ?_ (Steps.cons (i := 4) (j := 5) rfl ?_ (Steps.cons (i := 5) (j := 6) rfl ?_ (Steps.cons (i := 6) (j := 7) rfl ?_ (Steps.cons (i := 7) (j := 8) rfl ?_ (Steps.cons (i := 8) (j := 9) rfl ?_ (Steps.cons (i := 9) (j := 10) rfl ?_ (Steps.cons (i := 10) (j := 11) rfl ?_ (Steps.cons (i := 11) (j := 12) rfl ?_ (Steps.cons (i := 12) (j := 13) rfl ?_ (Steps.cons (i := 13) (j := 14) rfl ?_ (Steps.cons (i := 14) (j := 15) rfl ?_ (Steps.cons (i := 15) (j := 16) rfl ?_ (Steps.nil))))))))))))))))
    · intro D a w' hI hD hdep hcl
      obtain ⟨g, B, d, k8, k9, h⟩ := hI
      refine wp_load_row 25 _ rfl w3.heap.size ((h.ag.eval (show 12 ∉ [13, 14, 15, 16, 42, 43, 44, 45, 46, 47, 48, 49, 50, 51] by decide)).trans rfl) 25 _ (0, 0) _ ((h.be.block _ KX0.out.lt).trans KX0.out) Try.underlying25 rfl info_ar ?_
      exact ⟨g, B, d, k8, k9, ⟨h.ag.put (by decide) _, h.be, fun _ => eval_put_same a _ (h.ag.lt rfl), slot_keep h.e1 (by decide) (by decide), slot_keep h.e2 (by decide) (by decide), slot_keep h.e3 (by decide) (by decide), fun x => absurd (dep_of 0 rfl (hcl 4 _ rfl (x.resolve_left (by decide)))) hD, fun x => absurd (dep_of 0 rfl (hcl 4 _ rfl (x.resolve_left (by decide)))) hD, fun x => absurd (dep_of 0 rfl (hcl 4 _ rfl (dep_of 4 rfl (hcl 5 _ rfl (x.resolve_left (by decide)))))) hD, fun x => absurd (dep_of 0 rfl (hcl 4 _ rfl (dep_of 4 rfl (hcl 5 _ rfl (dep_of 5 rfl (hcl 6 _ rfl (x.resolve_left (by decide)))))))) hD, fun x => absurd (dep_of 0 rfl (hcl 4 _ rfl (dep_of 4 rfl (hcl 5 _ rfl (dep_of 5 rfl (hcl 7 _ rfl (x.resolve_left (by decide)))))))) hD, fun x => absurd (dep_of 0 rfl (hcl 4 _ rfl (dep_of 4 rfl (hcl 5 _ rfl (dep_of 5 rfl (hcl 8 _ rfl (x.resolve_left (by decide)))))))) hD, fun x => absurd (dep_of 0 rfl (hcl 4 _ rfl (dep_of 4 rfl (hcl 5 _ rfl (dep_of 5 rfl (hcl 9 _ rfl (x.resolve_left (by decide)))))))) hD, slot_keep h.e10 (by decide) (by decide), fun x => h.h10 (x.resolve_left (by decide)), fun x n => (h.z10 (x.resolve_left (by decide)) (fun y => n (Or.inr y))), slot_keep h.e11 (by decide) (by decide), fun x => h.h11 (x.resolve_left (by decide)), fun x n => (h.z11 (x.resolve_left (by decide)) (fun y => n (Or.inr y))), fun x => absurd (dep_of 0 rfl (hcl 12 _ rfl (x.resolve_left (by decide)))) hD, fun x => absurd (dep_of 0 rfl (hcl 13 _ rfl (x.resolve_left (by decide)))) hD, fun x => absurd (dep_of 0 rfl (hcl 14 _ rfl (x.resolve_left (by decide)))) hD, fun x => absurd (dep_of 0 rfl (hcl 15 _ rfl (x.resolve_left (by decide)))) hD⟩⟩
    · intro D a w' hI hD hdep hcl
      obtain ⟨g, B, d, k8, k9, h⟩ := hI
      refine wp_load_row 42 _ rfl (w.heap.size + 1) ((h.ag.eval (show 4 ∉ [13, 14, 15, 16, 42, 43, 44, 45, 46, 47, 48, 49, 50, 51] by decide)).trans rfl) 42 _ (0, 0) _ ((h.be.block _ L3.out.lt).trans L3.out) Try.underlying42 rfl info_lth ?_
      exact ⟨g, B, d, k8, k9, ⟨h.ag.put (by decide) _, h.be, slot_keep h.e0 (by decide) (by decide), fun _ => eval_put_same a _ (h.ag.lt rfl), fun x => absurd (dep_of 1 rfl (hcl 2 _ rfl (x.resolve_left (by decide)))) hD, slot_keep h.e3 (by decide) (by decide), fun x => absurd (dep_of 1 rfl (hcl 2 _ rfl (dep_of 2 rfl (hcl 4 _ rfl (x.resolve_left (by decide)))))) hD, fun x => absurd (dep_of 1 rfl (hcl 2 _ rfl (dep_of 2 rfl (hcl 4 _ rfl (x.resolve_left (by decide)))))) hD, fun x => absurd (dep_of 1 rfl (hcl 2 _ rfl (dep_of 2 rfl (hcl 4 _ rfl (dep_of 4 rfl (hcl 5 _ rfl (x.resolve_left (by decide)))))))) hD, fun x => absurd (dep_of 1 rfl (hcl 2 _ rfl (dep_of 2 rfl (hcl 4 _ rfl (dep_of 4 rfl (hcl 5 _ rfl (dep_of 5 rfl (hcl 6 _ rfl (x.resolve_left (by decide)))))))))) hD, fun x => absurd (dep_of 1 rfl (hcl 2 _ rfl (dep_of 2 rfl (hcl 4 _ rfl (dep_of 4 rfl (hcl 5 _ rfl (dep_of 5 rfl (hcl 7 _ rfl (x.resolve_left (by decide)))))))))) hD, fun x => absurd (dep_of 1 rfl (hcl 2 _ rfl (dep_of 2 rfl (hcl 4 _ rfl (dep_of 4 rfl (hcl 5 _ rfl (dep_of 5 rfl (hcl 8 _ rfl (x.resolve_left (by decide)))))))))) hD, fun x => absurd (dep_of 1 rfl (hcl 2 _ rfl (dep_of 2 rfl (hcl 4 _ rfl (dep_of 4 rfl (hcl 5 _ rfl (dep_of 5 rfl (hcl 9 _ rfl (x.resolve_left (by decide)))))))))) hD, slot_keep h.e10 (by decide) (by decide), fun x => h.h10 (x.resolve_left (by decide)), fun x n => (h.z10 (x.resolve_left (by decide)) (fun y => n (Or.inr y))), slot_keep h.e11 (by decide) (by decide), fun x => h.h11 (x.resolve_left (by decide)), fun x n => (h.z11 (x.resolve_left (by decide)) (fun y => n (Or.inr y))), fun x => absurd (dep_of 1 rfl (hcl 12 _ rfl (x.resolve_left (by decide)))) hD, fun x => absurd (dep_of 1 rfl (hcl 13 _ rfl (x.resolve_left (by decide)))) hD, fun x => absurd (dep_of 1 rfl (hcl 14 _ rfl (x.resolve_left (by decide)))) hD, fun x => absurd (dep_of 1 rfl (hcl 15 _ rfl (x.resolve_left (by decide)))) hD⟩⟩
    · intro D a w' hI hD hdep hcl
      obtain ⟨g, B, d, k8, k9, h⟩ := hI
      have he0 := eval_get (h.e1 (dep_of 1 rfl hdep))
      refine wp_call_fn (f := 17) (vs := #[.agg #[.int .i64 id, .int .i64 st, .int .i64 op, .int .i64 arg, .int .i64 pc, .int .i64 til, .bool per, .bool can, .int .i64 r0, .int .i64 r1, .int .i64 r2, .int .i64 r3, .int .i64 r4, .int .i64 code, .int .i64 res]]) (by clear h hdep hcl hD; go_simp) ?_
      refine (toThread_any _ _ _ _ _ _ _ _ _ _ _ _ _ _ _ _).mono ?_
      rintro e v1 ⟨rfl, hb⟩
      refine ⟨_, rfl, ?_⟩
      exact ⟨g, B, d, k8, k9, ⟨h.ag.put (by decide) _, below_trans h.be hb, slot_keep h.e0 (by decide) (by decide), slot_keep h.e1 (by decide) (by decide), fun _ => eval_put_same a _ (h.ag.lt rfl), slot_keep h.e3 (by decide) (by decide), fun x => absurd (dep_of 2 rfl (hcl 4 _ rfl (x.resolve_left (by decide)))) hD, fun x => absurd (dep_of 2 rfl (hcl 4 _ rfl (x.resolve_left (by decide)))) hD, fun x => absurd (dep_of 2 rfl (hcl 4 _ rfl (dep_of 4 rfl (hcl 5 _ rfl (x.resolve_left (by decide)))))) hD, fun x => absurd (dep_of 2 rfl (hcl 4 _ rfl (dep_of 4 rfl (hcl 5 _ rfl (dep_of 5 rfl (hcl 6 _ rfl (x.resolve_left (by decide)))))))) hD, fun x => absurd (dep_of 2 rfl (hcl 4 _ rfl (dep_of 4 rfl (hcl 5 _ rfl (dep_of 5 rfl (hcl 7 _ rfl (x.resolve_left (by decide)))))))) hD, fun x => absurd (dep_of 2 rfl (hcl 4 _ rfl (dep_of 4 rfl (hcl 5 _ rfl (dep_of 5 rfl (hcl 8 _ rfl (x.resolve_left (by decide)))))))) hD, fun x => absurd (dep_of 2 rfl (hcl 4 _ rfl (dep_of 4 rfl (hcl 5 _ rfl (dep_of 5 rfl (hcl 9 _ rfl (x.resolve_left (by decide)))))))) hD, slot_keep h.e10 (by decide) (by decide), fun x => h.h10 (x.resolve_left (by decide)), fun x n => (h.z10 (x.resolve_left (by decide)) (fun y => n (Or.inr y))).below hb, slot_keep h.e11 (by decide) (by decide), fun x => h.h11 (x.resolve_left (by decide)), fun x n => (h.z11 (x.resolve_left (by decide)) (fun y => n (Or.inr y))).below hb, fun x => absurd (dep_of 2 rfl (hcl 12 _ rfl (x.resolve_left (by decide)))) hD, fun x => absurd (dep_of 2 rfl (hcl 13 _ rfl (x.resolve_left (by decide)))) hD, fun x => absurd (dep_of 2 rfl (hcl 14 _ rfl (x.resolve_left (by decide)))) hD, fun x => absurd (dep_of 2 rfl (hcl 15 _ rfl (x.resolve_left (by decide)))) hD⟩⟩
    · intro D a w' hI hD hdep hcl
      obtain ⟨g, B, d, k8, k9, h⟩ := hI
      have he : a.tmps[2]?.getD undef = .int .i64 now := eval_get ((h.ag.eval (show 2 ∉ [13, 14, 15, 16, 42, 43, 44, 45, 46, 47, 48, 49, 50, 51] by decide)).trans rfl)
      refine wp_yield (v := .int .i64 now) (w' := w') (by clear h hdep hcl hD; go_simp) ?_
      exact ⟨g, B, d, k8, k9, ⟨h.ag.put (by decide) _, h.be, slot_keep h.e0 (by decide) (by decide), slot_keep h.e1 (by decide) (by decide), slot_keep h.e2 (by decide) (by decide), fun _ => eval_put_same a _ (h.ag.lt rfl), fun x => absurd (dep_of 3 rfl (hcl 4 _ rfl (x.resolve_left (by decide)))) hD, fun x => absurd (dep_of 3 rfl (hcl 4 _ rfl (x.resolve_left (by decide)))) hD, fun x => absurd (dep_of 3 rfl (hcl 4 _ rfl (dep_of 4 rfl (hcl 5 _ rfl (x.resolve_left (by decide)))))) hD, fun x => absurd (dep_of 3 rfl (hcl 4 _ rfl (dep_of 4 rfl (hcl 5 _ rfl (dep_of 5 rfl (hcl 6 _ rfl (x.resolve_left (by decide)))))))) hD, fun x => absurd (dep_of 3 rfl (hcl 4 _ rfl (dep_of 4 rfl (hcl 5 _ rfl (dep_of 5 rfl (hcl 7 _ rfl (x.resolve_left (by decide)))))))) hD, fun x => absurd (dep_of 3 rfl (hcl 4 _ rfl (dep_of 4 rfl (hcl 5 _ rfl (dep_of 5 rfl (hcl 8 _ rfl (x.resolve_left (by decide)))))))) hD, fun x => absurd (dep_of 3 rfl (hcl 4 _ rfl (dep_of 4 rfl (hcl 5 _ rfl (dep_of 5 rfl (hcl 9 _ rfl (x.resolve_left (by decide)))))))) hD, slot_keep h.e10 (by decide) (by decide), fun x => h.h10 (x.resolve_left (by decide)), fun x n => (h.z10 (x.resolve_left (by decide)) (fun y => n (Or.inr y))), slot_keep h.e11 (by decide) (by decide), fun x => h.h11 (x.resolve_left (by decide)), fun x n => (h.z11 (x.resolve_left (by decide)) (fun y => n (Or.inr y))), fun x => absurd (dep_of 3 rfl (hcl 12 _ rfl (x.resolve_left (by decide)))) hD, fun x => absurd (dep_of 3 rfl (hcl 13 _ rfl (x.resolve_left (by decide)))) hD, fun x => absurd (dep_of 3 rfl (hcl 14 _ rfl (x.resolve_left (by decide)))) hD, fun x => absurd (dep_of 3 rfl (hcl 15 _ rfl (x.resolve_left (by decide)))) hD⟩⟩
    · intro D a w' hI hD hdep hcl
      obtain ⟨g, B, d, k8, k9, h⟩ := hI
      have he0 := eval_get (h.e0 (dep_of 0 rfl hdep))
      have he1 := eval_get (h.e2 (dep_of 2 rfl hdep))
      have he2 := eval_get (h.e3 (dep_of 3 rfl hdep))
      refine wp_call_fn (f := 9) (vs := #[.agg #[.slice (some ⟨g3, 0, none⟩) zs.length zs.length], .agg #[.int .i64 id, .int .i64 st, .int .i64 op, .int .i64 arg, .int .i64 pc, .int .i64 til, .bool per, .bool can, .int .i64 r0, .int .i64 r1, .int .i64 r2, .int .i64 r3, .int .i64 r4, .int .i64 code, .int .i64 res], .int .i64 now]) (by clear h hdep hcl hD; go_simp) ?_
      refine (HI.out _ _ _ (HX3.out.rd.below h.be)).mono ?_
      rintro e v1 ⟨B', d', rfl, hnew, hb⟩
      refine ⟨_, rfl, ?_⟩
      exact ⟨g, B', d', k8, k9, ⟨h.ag.put (by decide) _, below_trans h.be hb, slot_keep h.e0 (by decide) (by decide), slot_keep h.e1 (by decide) (by decide), slot_keep h.e2 (by decide) (by decide), slot_keep h.e3 (by decide) (by decide), fun _ => eval_put_same a _ (h.ag.lt rfl), fun _ => hnew.base h.be.size, fun x => absurd (dep_of 4 rfl (hcl 5 _ rfl (x.resolve_left (by decide)))) hD, fun x => absurd (dep_of 4 rfl (hcl 5 _ rfl (dep_of 5 rfl (hcl 6 _ rfl (x.resolve_left (by decide)))))) hD, fun x => absurd (dep_of 4 rfl (hcl 5 _ rfl (dep_of 5 rfl (hcl 7 _ rfl (x.resolve_left (by decide)))))) hD, fun x => absurd (dep_of 4 rfl (hcl 5 _ rfl (dep_of 5 rfl (hcl 8 _ rfl (x.resolve_left (by decide)))))) hD, fun x => absurd (dep_of 4 rfl (hcl 5 _ rfl (dep_of 5 rfl (hcl 9 _ rfl (x.resolve_left (by decide)))))) hD, slot_keep h.e10 (by decide) (by decide), fun x => h.h10 (x.resolve_left (by decide)), fun x n => (h.z10 (x.resolve_left (by decide)) (fun y => n (Or.inr y))).below hb, slot_keep h.e11 (by decide) (by decide), fun x => h.h11 (x.resolve_left (by decide)), fun x n => (h.z11 (x.resolve_left (by decide)) (fun y => n (Or.inr y))).below hb, fun x => absurd (dep_of 4 rfl (hcl 12 _ rfl (x.resolve_left (by decide)))) hD, fun x => absurd (dep_of 4 rfl (hcl 13 _ rfl (x.resolve_left (by decide)))) hD, fun x => absurd (dep_of 4 rfl (hcl 14 _ rfl (x.resolve_left (by decide)))) hD, fun x => absurd (dep_of 4 rfl (hcl 15 _ rfl (x.resolve_left (by decide)))) hD⟩⟩
    · intro D a w' hI hD hdep hcl
      obtain ⟨g, B, d, k8, k9, h⟩ := hI
      have he := eval_get (h.e4 (dep_of 4 rfl hdep))
      refine wp_yield (v := .tuple #[.agg #[.slice B L.length d], .agg #[.int .i64 id', .int .i64 st', .int .i64 op', .int .i64 arg', .int .i64 pc', .int .i64 til', .bool per', .bool can', .int .i64 s0, .int .i64 s1, .int .i64 s2, .int .i64 s3, .int .i64 s4, .int .i64 code', .int .i64 res'], .int .i64 wk, .int .i64 q]) (w' := w') (by clear h hdep hcl hD; go_simp) ?_
      exact ⟨g, B, d, k8, k9, ⟨h.ag.put (by decide) _, h.be, slot_keep h.e0 (by decide) (by decide), slot_keep h.e1 (by decide) (by decide), slot_keep h.e2 (by decide) (by decide), slot_keep h.e3 (by decide) (by decide), slot_keep h.e4 (by decide) (by decide), fun x => h.h4 (x.resolve_left (by decide)), fun _ => eval_put_same a _ (h.ag.lt rfl), fun x => absurd (dep_of 5 rfl (hcl 6 _ rfl (x.resolve_left (by decide)))) hD, fun x => absurd (dep_of 5 rfl (hcl 7 _ rfl (x.resolve_left (by decide)))) hD, fun x => absurd (dep_of 5 rfl (hcl 8 _ rfl (x.resolve_left (by decide)))) hD, fun x => absurd (dep_of 5 rfl (hcl 9 _ rfl (x.resolve_left (by decide)))) hD, slot_keep h.e10 (by decide) (by decide), fun x => h.h10 (x.resolve_left (by decide)), fun x n => (h.z10 (x.resolve_left (by decide)) (fun y => n (Or.inr y))), slot_keep h.e11 (by decide) (by decide), fun x => h.h11 (x.resolve_left (by decide)), fun x n => (h.z11 (x.resolve_left (by decide)) (fun y => n (Or.inr y))), fun x => absurd (dep_of 5 rfl (hcl 12 _ rfl (x.resolve_left (by decide)))) hD, fun x => absurd (dep_of 5 rfl (hcl 13 _ rfl (x.resolve_left (by decide)))) hD, fun x => absurd (dep_of 5 rfl (hcl 14 _ rfl (x.resolve_left (by decide)))) hD, fun x => absurd (dep_of 5 rfl (hcl 15 _ rfl (x.resolve_left (by decide)))) hD⟩⟩
    · intro D a w' hI hD hdep hcl
      obtain ⟨g, B, d, k8, k9, h⟩ := hI
      have he := eval_get (h.e5 (dep_of 5 rfl hdep))
      refine wp_yield (v := .agg #[.slice B L.length d]) (w' := w') (by clear h hdep hcl hD; go_simp) ?_
      exact ⟨g, B, d, k8, k9, ⟨h.ag.put (by decide) _, h.be, slot_keep h.e0 (by decide) (by decide), slot_keep h.e1 (by decide) (by decide), slot_keep h.e2 (by decide) (by decide), slot_keep h.e3 (by decide) (by decide), slot_keep h.e4 (by decide) (by decide), fun x => h.h4 (x.resolve_left (by decide)), slot_keep h.e5 (by decide) (by decide), fun _ => eval_put_same a _ (h.ag.lt rfl), slot_keep h.e7 (by decide) (by decide), slot_keep h.e8 (by decide) (by decide), slot_keep h.e9 (by decide) (by decide), slot_keep h.e10 (by decide) (by decide), fun x => h.h10 (x.resolve_left (by decide)), fun x n => (h.z10 (x.resolve_left (by decide)) (fun y => n (Or.inr y))), slot_keep h.e11 (by decide) (by decide), fun x => h.h11 (x.resolve_left (by decide)), fun x n => (h.z11 (x.resolve_left (by decide)) (fun y => n (Or.inr y))), fun x => absurd (dep_of 6 rfl (hcl 12 _ rfl (x.resolve_left (by decide)))) hD, fun x => absurd (dep_of 6 rfl (hcl 13 _ rfl (x.resolve_left (by decide)))) hD, fun x => absurd (dep_of 6 rfl (hcl 14 _ rfl (x.resolve_left (by decide)))) hD, fun x => absurd (dep_of 6 rfl (hcl 15 _ rfl (x.resolve_left (by decide)))) hD⟩⟩
    · intro D a w' hI hD hdep hcl
      obtain ⟨g, B, d, k8, k9, h⟩ := hI
      have he := eval_get (h.e5 (dep_of 5 rfl hdep))
      refine wp_yield (v := .agg #[.int .i64 id', .int .i64 st', .int .i64 op', .int .i64 arg', .int .i64 pc', .int .i64 til', .bool per', .bool can', .int .i64 s0, .int .i64 s1, .int .i64 s2, .int .i64 s3, .int .i64 s4, .int .i64 code', .int .i64 res']) (w' := w') (by clear h hdep hcl hD; go_simp) ?_
      exact ⟨g, B, d, k8, k9, ⟨h.ag.put (by decide) _, h.be, slot_keep h.e0 (by decide) (by decide), slot_keep h.e1 (by decide) (by decide), slot_keep h.e2 (by decide) (by decide), slot_keep h.e3 (by decide) (by decide), slot_keep h.e4 (by decide) (by decide), fun x => h.h4 (x.resolve_left (by decide)), slot_keep h.e5 (by decide) (by decide), slot_keep h.e6 (by decide) (by decide), fun _ => eval_put_same a _ (h.ag.lt rfl), slot_keep h.e8 (by decide) (by decide), slot_keep h.e9 (by decide) (by decide), slot_keep h.e10 (by decide) (by decide), fun x => h.h10 (x.resolve_left (by decide)), fun x n => (h.z10 (x.resolve_left (by decide)) (fun y => n (Or.inr y))), slot_keep h.e11 (by decide) (by decide), fun x => h.h11 (x.resolve_left (by decide)), fun x n => (h.z11 (x.resolve_left (by decide)) (fun y => n (Or.inr y))), fun x => (h.z12 (x.resolve_left (by decide))), fun x => absurd (dep_of 7 rfl (hcl 13 _ rfl (x.resolve_left (by decide)))) hD, fun x => absurd (dep_of 7 rfl (hcl 14 _ rfl (x.resolve_left (by decide)))) hD, fun x => absurd (dep_of 7 rfl (hcl 15 _ rfl (x.resolve_left (by decide)))) hD⟩⟩
    · intro D a w' hI hD hdep hcl
      obtain ⟨g, B, d, k8, k9, h⟩ := hI
      have he := eval_get (h.e5 (dep_of 5 rfl hdep))
      refine wp_yield (v := .int .i64 wk) (w' := w') (by clear h hdep hcl hD; go_simp) ?_
      exact ⟨g, B, d, k8, k9, ⟨h.ag.put (by decide) _, h.be, slot_keep h.e0 (by decide) (by decide), slot_keep h.e1 (by decide) (by decide), slot_keep h.e2 (by decide) (by decide), slot_keep h.e3 (by decide) (by decide), slot_keep h.e4 (by decide) (by decide), fun x => h.h4 (x.resolve_left (by decide)), slot_keep h.e5 (by decide) (by decide), slot_keep h.e6 (by decide) (by decide), slot_keep h.e7 (by decide) (by decide), fun _ => eval_put_same a _ (h.ag.lt rfl), slot_keep h.e9 (by decide) (by decide), slot_keep h.e10 (by decide) (by decide), fun x => h.h10 (x.resolve_left (by decide)), fun x n => (h.z10 (x.resolve_left (by decide)) (fun y => n (Or.inr y))), slot_keep h.e11 (by decide) (by decide), fun x => h.h11 (x.resolve_left (by decide)), fun x n => (h.z11 (x.resolve_left (by decide)) (fun y => n (Or.inr y))), fun x => (h.z12 (x.resolve_left (by decide))), fun x => (h.z13 (x.resolve_left (by decide))), fun x => absurd (dep_of 8 rfl (hcl 14 _ rfl (x.resolve_left (by decide)))) hD, fun x => absurd (dep_of 8 rfl (hcl 15 _ rfl (x.resolve_left (by decide)))) hD⟩⟩
    · intro D a w' hI hD hdep hcl
      obtain ⟨g, B, d, k8, k9, h⟩ := hI
      have he := eval_get (h.e5 (dep_of 5 rfl hdep))
      refine wp_yield (v := .int .i64 q) (w' := w') (by clear h hdep hcl hD; go_simp) ?_
      exact ⟨g, B, d, k8, k9, ⟨h.ag.put (by decide) _, h.be, slot_keep h.e0 (by decide) (by decide), slot_keep h.e1 (by decide) (by decide), slot_keep h.e2 (by decide) (by decide), slot_keep h.e3 (by decide) (by decide), slot_keep h.e4 (by decide) (by decide), fun x => h.h4 (x.resolve_left (by decide)), slot_keep h.e5 (by decide) (by decide), slot_keep h.e6 (by decide) (by decide), slot_keep h.e7 (by decide) (by decide), slot_keep h.e8 (by decide) (by decide), fun _ => eval_put_same a _ (h.ag.lt rfl), slot_keep h.e10 (by decide) (by decide), fun x => h.h10 (x.resolve_left (by decide)), fun x n => (h.z10 (x.resolve_left (by decide)) (fun y => n (Or.inr y))), slot_keep h.e11 (by decide) (by decide), fun x => h.h11 (x.resolve_left (by decide)), fun x n => (h.z11 (x.resolve_left (by decide)) (fun y => n (Or.inr y))), fun x => (h.z12 (x.resolve_left (by decide))), fun x => (h.z13 (x.resolve_left (by decide))), slot_keep h.e14 (by decide) (by decide), fun x => absurd (dep_of 9 rfl (hcl 15 _ rfl (x.resolve_left (by decide)))) hD⟩⟩
    · intro D a w' hI hD hdep hcl
      obtain ⟨g, B, d, k8, k9, h⟩ := hI
      refine wp_yield (v := .pointer (some ⟨w'.heap.size, 0, none⟩)) (w' := w'.alloc (.cells #[.slice none 0 0] 25)) (by clear h hdep hcl hD; go_simp) ?_
      exact ⟨g, B, d, w'.heap.size, k9, ⟨h.ag.put (by decide) _, below_trans h.be (below_alloc _ _), slot_keep h.e0 (by decide) (by decide), slot_keep h.e1 (by decide) (by decide), slot_keep h.e2 (by decide) (by decide), slot_keep h.e3 (by decide) (by decide), slot_keep h.e4 (by decide) (by decide), fun x => (h.h4 (x.resolve_left (by decide))).below (below_alloc _ _), slot_keep h.e5 (by decide) (by decide), slot_keep h.e6 (by decide) (by decide), slot_keep h.e7 (by decide) (by decide), slot_keep h.e8 (by decide) (by decide), slot_keep h.e9 (by decide) (by decide), fun _ => eval_put_same a _ (h.ag.lt rfl), fun _ => h.be.size, fun _ _ => BoxA.new _ _, slot_keep h.e11 (by decide) (by decide), fun x => h.h11 (x.resolve_left (by decide)), fun x n => (h.z11 (x.resolve_left (by decide)) (fun y => n (Or.inr y))).below (below_alloc _ _), fun x => absurd (dep_of 10 rfl (hcl 12 _ rfl (x.resolve_left (by decide)))) hD, fun x => absurd (dep_of 10 rfl (hcl 13 _ rfl (x.resolve_left (by decide)))) hD, fun x => absurd (dep_of 10 rfl (hcl 14 _ rfl (x.resolve_left (by decide)))) hD, fun x => absurd (dep_of 10 rfl (hcl 15 _ rfl (x.resolve_left (by decide)))) hD⟩⟩
    · intro D a w' hI hD hdep hcl
      obtain ⟨g, B, d, k8, k9, h⟩ := hI
      refine wp_yield (v := .pointer (some ⟨w'.heap.size, 0, none⟩)) (w' := w'.alloc (.cells #[.int .i64 0, .int .i64 0, .int .i64 0, .int .i64 0, .int .i64 0, .int .i64 0, .bool false, .bool false, .int .i64 0, .int .i64 0, .int .i64 0, .int .i64 0, .int .i64 0, .int .i64 0, .int .i64 0] 29)) (by clear h hdep hcl hD; go_simp) ?_
      exact ⟨g, B, d, k8, w'.heap.size, ⟨h.ag.put (by decide) _, below_trans h.be (below_alloc _ _), slot_keep h.e0 (by decide) (by decide), slot_keep h.e1 (by decide) (by decide), slot_keep h.e2 (by decide) (by decide), slot_keep h.e3 (by decide) (by decide), slot_keep h.e4 (by decide) (by decide), fun x => (h.h4 (x.resolve_left (by decide))).below (below_alloc _ _), slot_keep h.e5 (by decide) (by decide), slot_keep h.e6 (by decide) (by decide), slot_keep h.e7 (by decide) (by decide), slot_keep h.e8 (by decide) (by decide), slot_keep h.e9 (by decide) (by decide), slot_keep h.e10 (by decide) (by decide), fun x => h.h10 (x.resolve_left (by decide)), fun x n => (h.z10 (x.resolve_left (by decide)) (fun y => n (Or.inr y))).below (below_alloc _ _), fun _ => eval_put_same a _ (h.ag.lt rfl), fun _ => h.be.size, fun _ _ => BoxT.new _ _, fun x => absurd (dep_of 11 rfl (hcl 12 _ rfl (x.resolve_left (by decide)))) hD, fun x => absurd (dep_of 11 rfl (hcl 13 _ rfl (x.resolve_left (by decide)))) hD, fun x => absurd (dep_of 11 rfl (hcl 14 _ rfl (x.resolve_left (by decide)))) hD, fun x => absurd (dep_of 11 rfl (hcl 15 _ rfl (x.resolve_left (by decide)))) hD⟩⟩
    · intro D a w' hI hD hdep hcl
      obtain ⟨g, B, d, k8, k9, h⟩ := hI
      have hal := dep_of 10 rfl hdep
      have hbx := h.z10 hal hD
      have h8 := h.h10 hal
      refine wp_store_row 25 _ _ rfl k8 _ (h.e10 hal) (h.e6 (dep_of 6 rfl hdep)) 25 _ hbx info_ar rfl (BoxA.one _ _ _) ?_
      exact ⟨g, B, d, k8, k9, ⟨h.ag, below_row h.be h8 _, fun x => h.e0 (x.resolve_left (by decide)), fun x => h.e1 (x.resolve_left (by decide)), fun x => h.e2 (x.resolve_left (by decide)), fun x => h.e3 (x.resolve_left (by decide)), fun x => h.e4 (x.resolve_left (by decide)), fun x => (h.h4 (x.resolve_left (by decide))).rowA hbx _, fun x => h.e5 (x.resolve_left (by decide)), fun x => h.e6 (x.resolve_left (by decide)), fun x => h.e7 (x.resolve_left (by decide)), fun x => h.e8 (x.resolve_left (by decide)), fun x => h.e9 (x.resolve_left (by decide)), fun x => h.e10 (x.resolve_left (by decide)), fun x => h.h10 (x.resolve_left (by decide)), fun _ n => absurd (Or.inl rfl) n, fun x => h.e11 (x.resolve_left (by decide)), fun x => h.h11 (x.resolve_left (by decide)), fun x n => (h.z11 (x.resolve_left (by decide)) (fun y => n (Or.inr y))).rowOther (boxA_ne_boxT hbx (h.z11 (x.resolve_left (by decide)) (fun y => n (Or.inr y)))).symm _, fun _ => hbx.row _, fun x => absurd (dep_of 12 rfl (hcl 13 _ rfl (x.resolve_left (by decide)))) hD, fun x => absurd (dep_of 12 rfl (hcl 14 _ rfl (x.resolve_left (by decide)))) hD, fun x => absurd (dep_of 12 rfl (hcl 15 _ rfl (x.resolve_left (by decide)))) hD⟩⟩
    · intro D a w' hI hD hdep hcl
      obtain ⟨g, B, d, k8, k9, h⟩ := hI
      have hal := dep_of 11 rfl hdep
      have hbx := h.z11 hal hD
      have h9 := h.h11 hal
      refine wp_store_row 29 _ _ rfl k9 _ (h.e11 hal) (h.e7 (dep_of 7 rfl hdep)) 29 _ hbx info_th rfl (one15 _ _ _ _ _ _ _ _ _ _ _ _ _ _ _) ?_
      exact ⟨g, B, d, k8, k9, ⟨h.ag, below_row h.be h9 _, fun x => h.e0 (x.resolve_left (by decide)), fun x => h.e1 (x.resolve_left (by decide)), fun x => h.e2 (x.resolve_left (by decide)), fun x => h.e3 (x.resolve_left (by decide)), fun x => h.e4 (x.resolve_left (by decide)), fun x => (h.h4 (x.resolve_left (by decide))).rowT hbx _, fun x => h.e5 (x.resolve_left (by decide)), fun x => h.e6 (x.resolve_left (by decide)), fun x => h.e7 (x.resolve_left (by decide)), fun x => h.e8 (x.resolve_left (by decide)), fun x => h.e9 (x.resolve_left (by decide)), fun x => h.e10 (x.resolve_left (by decide)), fun x => h.h10 (x.resolve_left (by decide)), fun _ n => absurd (Or.inr (dep_of 12 rfl hdep)) n, fun x => h.e11 (x.resolve_left (by decide)), fun x => h.h11 (x.resolve_left (by decide)), fun _ n => absurd (Or.inl rfl) n, fun x => (h.z12 (x.resolve_left (by decide))).rowOther (boxA_ne_boxT (h.z12 (x.resolve_left (by decide))) hbx) _, fun _ => hbx.row _, fun x => absurd (dep_of 13 rfl (hcl 14 _ rfl (x.resolve_left (by decide)))) hD, fun x => absurd (dep_of 13 rfl (hcl 15 _ rfl (x.resolve_left (by decide)))) hD⟩⟩
    · intro D a w' hI hD hdep hcl
      obtain ⟨g, B, d, k8, k9, h⟩ := hI
      have he := eval_get (h.e8 (dep_of 8 rfl hdep))
      refine wp_yield (v := .int .i64 wk) (w' := w') (by clear h hdep hcl hD; go_simp) ?_
      exact ⟨g, B, d, k8, k9, ⟨h.ag.put (by decide) _, h.be, slot_keep h.e0 (by decide) (by decide), slot_keep h.e1 (by decide) (by decide), slot_keep h.e2 (by decide) (by decide), slot_keep h.e3 (by decide) (by decide), slot_keep h.e4 (by decide) (by decide), fun x => h.h4 (x.resolve_left (by decide)), slot_keep h.e5 (by decide) (by decide), slot_keep h.e6 (by decide) (by decide), slot_keep h.e7 (by decide) (by decide), slot_keep h.e8 (by decide) (by decide), slot_keep h.e9 (by decide) (by decide), slot_keep h.e10 (by decide) (by decide), fun x => h.h10 (x.resolve_left (by decide)), fun _ n => absurd (Or.inr (dep_of 12 rfl hdep)) n, slot_keep h.e11 (by decide) (by decide), fun x => h.h11 (x.resolve_left (by decide)), fun _ n => absurd (Or.inr (dep_of 13 rfl hdep)) n, fun x => (h.z12 (x.resolve_left (by decide))), fun x => (h.z13 (x.resolve_left (by decide))), fun _ => eval_put_same a _ (h.ag.lt rfl), fun x => absurd (dep_of 14 rfl (hcl 15 _ rfl (x.resolve_left (by decide)))) hD⟩⟩
    · intro D a w' hI hD hdep hcl
      obtain ⟨g, B, d, k8, k9, h⟩ := hI
      have he := eval_get (h.e9 (dep_of 9 rfl hdep))
      refine wp_yield (v := .int .i64 q) (w' := w') (by clear h hdep hcl hD; go_simp) ?_
      exact ⟨g, B, d, k8, k9, ⟨h.ag.put (by decide) _, h.be, slot_keep h.e0 (by decide) (by decide), slot_keep h.e1 (by decide) (by decide), slot_keep h.e2 (by decide) (by decide), slot_keep h.e3 (by decide) (by decide), slot_keep h.e4 (by decide) (by decide), fun x => h.h4 (x.resolve_left (by decide)), slot_keep h.e5 (by decide) (by decide), slot_keep h.e6 (by decide) (by decide), slot_keep h.e7 (by decide) (by decide), slot_keep h.e8 (by decide) (by decide), slot_keep h.e9 (by decide) (by decide), slot_keep h.e10 (by decide) (by decide), fun x => h.h10 (x.resolve_left (by decide)), fun _ n => absurd (Or.inr (dep_of 12 rfl hdep)) n, slot_keep h.e11 (by decide) (by decide), fun x => h.h11 (x.resolve_left (by decide)), fun _ n => absurd (Or.inr (dep_of 13 rfl hdep)) n, fun x => (h.z12 (x.resolve_left (by decide))), fun x => (h.z13 (x.resolve_left (by decide))), slot_keep h.e14 (by decide) (by decide), fun _ => eval_put_same a _ (h.ag.lt rfl)⟩⟩
  · rintro D a w' ⟨g, B, d, k8, k9, h⟩ hD
    have hd := fun i (hi : Nat.ble (i + 1) 16 = true) => hD i (Nat.le_of_ble_eq_true hi)
    exact ⟨B, d, k8, k9, h.ag, h.e10 (hd 10 rfl), h.e11 (hd 11 rfl), h.e14 (hd 14 rfl), h.e15 (hd 15 rfl), h.z12 (hd 12 rfl), h.z13 (hd 13 rfl), h.h4 (hd 4 rfl), h.h10 (hd 10 rfl), h.h11 (hd 11 rfl), h.be⟩
  rintro a' w5 ⟨B5, d5, k13, k14, hag, t8, t9, t10, t11, hb8, hb9, hnw, hk8, hk9, hbe⟩
  have he := hag.eq
  clear hag
  simp only [List.foldl_cons, List.foldl_nil] at he
  rw [t8, t9, t10, t11] at he
  clear t8 t9 t10 t11
  generalize a'.eval (.tmp 42) = u42 at he
  generalize a'.eval (.tmp 43) = u43 at he
  generalize a'.eval (.tmp 44) = u44 at he
  generalize a'.eval (.tmp 45) = u45 at he
  generalize a'.eval (.tmp 46) = u46 at he
  generalize a'.eval (.tmp 47) = u47 at he
  generalize a'.eval (.tmp 48) = u48 at he
  generalize a'.eval (.tmp 49) = u49 at he
  generalize a'.eval (.tmp 50) = u50 at he
  generalize a'.eval (.tmp 51) = u51 at he
  simp only [Act.put, List.setIfInBounds_toArray, List.set_cons_zero, List.set_cons_succ] at he
  subst he
  have c4 : w5.cell? ⟨w.heap.size, 0, none⟩ = some (.slice A zs.length c) := cell_keep hbe c3
  have L4 := Lib.hid (BoxL.below L3.out hbe)
  have K84 := Lib.hid (BoxA.below K83.out hbe)
  have KX4 := Lib.hid (BoxA.below KX0.out hbe)
  have K94 := Lib.hid (BoxT.below K93.out hbe)
  have HW4 := Lib.hid (NewA.below HW3.out hbe)
  have HX4 := Lib.hid (NewA.below HX3.out hbe)
  have B4 := Lib.hid (below_trans B3.out hbe)
  have k84 := K84.out.cell
  have kX4 := KX4.out.cell
  have K130 := Lib.hid hb8; have K140 := Lib.hid hb9
  have HG4 := Lib.hid (show NewA (w4.heap.size) w5 (B5) (d5) (L) from hnw)
  have HEG : Hid (∀ k, Value.ownBlock (.slice (B5) (L).length (d5)) = some k → w4.heap.size ≤ k ∧ k < w5.heap.size) := fun k hk => World.ownsRow.lt HG4.out k hk
  have hq13 : k13 < w5.heap.size := hb8.lt; have hq14 : k14 < w5.heap.size := hb9.lt; have hz5 : w4.heap.size ≤ w5.heap.size := hbe.size
  have hk13 := hk8; have hk14 := hk9
  have k130 := K130.out.cell
  clear K83 KX0 K93 HW3 HX3 c3 L3 B3 k83 hb8 hb9 hnw hbe hk8 hk9
  as_aux_lemma =>
  go_wp2_with fail
  refine (eqArena_same _ _ _ _ L _ HRm.out HG4.out.rd HW4.out.rd).mono ?_
  rintro e w6 ⟨rfl, hb⟩
  have c5 : w6.cell? ⟨w.heap.size, 0, none⟩ = some (.slice A zs.length c) := cell_keep hb c4
  have L5 := Lib.hid (BoxL.below L4.out hb)
  have K85 := Lib.hid (BoxA.below K84.out hb)
  have KX5 := Lib.hid (BoxA.below KX4.out hb)
  have K135 := Lib.hid (BoxA.below K130.out hb)
  have K95 := Lib.hid (BoxT.below K94.out hb)
  have K145 := Lib.hid (BoxT.below K140.out hb)
  have HW5 := Lib.hid (NewA.below HW4.out hb)
  have HX5 := Lib.hid (NewA.below HX4.out hb)
  have HG5 := Lib.hid (NewA.below HG4.out hb)
  have B5 := Lib.hid (below_trans B4.out hb)
  have k85 := K85.out.cell
  have kX5 := KX5.out.cell
  have k135 := K135.out.cell
  have hz6 : w5.heap.size ≤ w6.heap.size := hb.size
  clear K84 KX4 K130 K94 K140 HW4 HX4 HG4 c4 L4 B4 k84 kX4 k130 hb
  go_wp2_with (first | (refine wpList_load_row_g (by rfl) 29 _ rfl (k14) rfl 29 _ (0, 0) _ K145.out Try.underlying29 rfl info_th ?_) | (refine wpList_load_row_g (by rfl) 29 _ rfl (k9) rfl 29 _ (0, 0) _ K95.out Try.underlying29 rfl info_th ?_))
  refine (eqThread_same _ _ _ _ _ _ _ _ _ _ _ _ _ _ _ _).mono ?_
  rintro e w7 ⟨rfl, hb⟩
  have c6 : w7.cell? ⟨w.heap.size, 0, none⟩ = some (.slice A zs.length c) := cell_keep hb c5
  have L6 := Lib.hid (BoxL.below L5.out hb)
  have K86 := Lib.hid (BoxA.below K85.out hb)
  have KX6 := Lib.hid (BoxA.below KX5.out hb)
  have K136 := Lib.hid (BoxA.below K135.out hb)
  have K96 := Lib.hid (BoxT.below K95.out hb)
  have K146 := Lib.hid (BoxT.below K145.out hb)
  have HW6 := Lib.hid (NewA.below HW5.out hb)
  have HX6 := Lib.hid (NewA.below HX5.out hb)
  have HG6 := Lib.hid (NewA.below HG5.out hb)
  have B6 := Lib.hid (below_trans B5.out hb)
  have k86 := K86.out.cell
  have kX6 := KX6.out.cell
  have k136 := K136.out.cell
  have hz7 : w6.heap.size ≤ w7.heap.size := hb.size
  clear K85 KX5 K135 K95 K145 HW5 HX5 HG5 c5 L5 B5 k85 kX5 k135 hb
  go_wp2_with fail
  go_region_held3 (fun w' => w'.cell? ⟨w.heap.size, 0, none⟩ = some (.slice A zs.length c) ∧ w'.cell? ⟨w3.heap.size, 0, none⟩ = some (.slice (some ⟨g3, 0, none⟩) zs.length zs.length))
    (first | exact ⟨c6, kX6⟩ | exact ⟨cell_keep hr1 c6, cell_keep hr1 kX6⟩ | exact ⟨cell_keep hr2 (cell_keep hr1 c6), cell_keep hr2 (cell_keep hr1 kX6)⟩)
    (first
      | (go_at_call 16; refine (toArena_any _ _ zs _ hs (HA.out.below B6.out.drew)).mono ?_; rintro e v1 ⟨g7, rfl, hown7, hr1⟩)
      | (go_at_call 18; refine (eqArena_same _ _ _ _ zs _ hn (HX6.out.rd.drew.below hr1) (Rd.of_own hown7)).mono ?_; rintro e w8 ⟨rfl, hr2⟩))
  have hb := below_drew_trans (below_trans hr1 hr2)
  clear hr1 hr2 hown7
  have c7 : w8.cell? ⟨w.heap.size, 0, none⟩ = some (.slice A zs.length c) := cell_keep hb c6
  have L7 := Lib.hid (BoxL.below L6.out hb)
  have K87 := Lib.hid (BoxA.below K86.out hb)
  have KX7 := Lib.hid (BoxA.below KX6.out hb)
  have K137 := Lib.hid (BoxA.below K136.out hb)
  have K97 := Lib.hid (BoxT.below K96.out hb)
  have K147 := Lib.hid (BoxT.below K146.out hb)
  have HW7 := Lib.hid (NewA.below HW6.out hb)
  have HX7 := Lib.hid (NewA.below HX6.out hb)
  have HG7 := Lib.hid (NewA.below HG6.out hb)
  have B7 := Lib.hid (below_trans B6.out hb)
  have k87 := K87.out.cell
  have kX7 := KX7.out.cell
  have k137 := K137.out.cell
  have hz8 : w7.heap.size ≤ w8.heap.size := hb.size
  clear K86 KX6 K136 K96 K146 HW6 HX6 HG6 c6 L6 B6 k86 kX6 k136 hb
  go_wp2_with fail
  refine (markArena_any _ _ (w2.heap.size) zs 1 _ hs (by decide) (by decide) HX7.out).mono ?_
  rintro e w9 ⟨rfl, hown, hgr⟩
  have hz9 : w8.heap.size ≤ w9.heap.size := hgr.size
  have c8 : w9.cell? ⟨w.heap.size, 0, none⟩ = some (.slice A zs.length c) := hgr.cell c7 (fun h => by have := HEX.out _ h.symm; (try dsimp only at this); omega)
  have L8 : Hid (BoxL w9 (w.heap.size + 1) #[.int .i64 id, .int .i64 st, .int .i64 op, .int .i64 arg, .int .i64 pc, .int .i64 til, .bool per, .bool can, .int .i64 r0, .int .i64 r1, .int .i64 r2, .int .i64 r3, .int .i64 r4, .int .i64 code, .int .i64 res]) := (hgr.block _ L7.out.lt (fun h => by have := HEX.out _ h.symm; (try dsimp only at this); omega)).trans L7.out
  have K88 := Lib.hid (BoxA.grown K87.out hgr (BoxA.ne_own K87.out HX7.out))
  have KX8 := Lib.hid (BoxA.grown KX7.out hgr (BoxA.ne_own KX7.out HX7.out))
  have K138 := Lib.hid (BoxA.grown K137.out hgr (BoxA.ne_own K137.out HX7.out))
  have K98 := Lib.hid (boxT_grown K97.out hgr (boxT_ne K97.out HX7.out))
  have K148 := Lib.hid (boxT_grown K147.out hgr (boxT_ne K147.out HX7.out))
  have HW8 := Lib.hid (NewA.kept HW7.out hgr (ranges_ne HEW.out HEX.out (by omega)))
  have HG8 := Lib.hid (NewA.kept HG7.out hgr (ranges_ne HEG.out HEX.out (by omega)))
  have B8 := Lib.hid (B7.out.grown hgr (by omega) (fun k hk => by have := HEX.out k hk; omega))
  have k88 := K88.out.cell
  have kX8 := KX8.out.cell
  have k138 := K138.out.cell
  have HX8 := Lib.hid (show NewA (w2.heap.size) w9 (some ⟨g3, 0, none⟩) (zs.length) (upFrom 1 zs.length) from by unfold NewA; rw [upFrom_length]; exact hown)
  clear K87 KX7 K137 K97 K147 HW7 HX7 HG7 c7 L7 B7 k87 kX7 k137 hgr hown
  clear HX8 HEX KX8 kX8
  as_aux_lemma =>
  go_wp2_with fail
  refine (eqArena_same _ _ _ _ L _ HRm.out HG8.out.rd HW8.out.rd).mono ?_
  rintro e w10 ⟨rfl, hb⟩
  have c9 : w10.cell? ⟨w.heap.size, 0, none⟩ = some (.slice A zs.length c) := cell_keep hb c8
  have L9 := Lib.hid (BoxL.below L8.out hb)
  have K89 := Lib.hid (BoxA.below K88.out hb)
  have K139 := Lib.hid (BoxA.below K138.out hb)
  have K99 := Lib.hid (BoxT.below K98.out hb)
  have K149 := Lib.hid (BoxT.below K148.out hb)
  have HW9 := Lib.hid (NewA.below HW8.out hb)
  have HG9 := Lib.hid (NewA.below HG8.out hb)
  have B9 := Lib.hid (below_trans B8.out hb)
  have k89 := K89.out.cell
  have k139 := K139.out.cell
  have hz10 : w9.heap.size ≤ w10.heap.size := hb.size
  clear K88 K138 K98 K148 HW8 HG8 c8 L8 B8 k88 k138 hb
  go_wp2_with (first | (refine wpList_load_row_g (by rfl) 29 _ rfl (k14) rfl 29 _ (0, 0) _ K149.out Try.underlying29 rfl info_th ?_) | (refine wpList_load_row_g (by rfl) 29 _ rfl (k9) rfl 29 _ (0, 0) _ K99.out Try.underlying29 rfl info_th ?_))
  refine (eqThread_same _ _ _ _ _ _ _ _ _ _ _ _ _ _ _ _).mono ?_
  rintro e w11 ⟨rfl, hb⟩
  have c10 : w11.cell? ⟨w.heap.size, 0, none⟩ = some (.slice A zs.length c) := cell_keep hb c9
  have L10 := Lib.hid (BoxL.below L9.out hb)
  have K810 := Lib.hid (BoxA.below K89.out hb)
  have K1310 := Lib.hid (BoxA.below K139.out hb)
  have K910 := Lib.hid (BoxT.below K99.out hb)
  have K1410 := Lib.hid (BoxT.below K149.out hb)
  have HW10 := Lib.hid (NewA.below HW9.out hb)
  have HG10 := Lib.hid (NewA.below HG9.out hb)
  have B10 := Lib.hid (below_trans B9.out hb)
  have k810 := K810.out.cell
  have k1310 := K1310.out.cell
  have hz11 : w10.heap.size ≤ w11.heap.size := hb.size
  clear K89 K139 K99 K149 HW9 HG9 c9 L9 B9 k89 k139 hb
  go_wp2_with fail
  refine (markArena_any _ _ (w4.heap.size) L 1 _ hR (by decide) (by decide) HG10.out).mono ?_
  rintro e w12 ⟨rfl, hown, hgr⟩
  have hz12 : w11.heap.size ≤ w12.heap.size := hgr.size
  have c11 : w12.cell? ⟨w.heap.size, 0, none⟩ = some (.slice A zs.length c) := hgr.cell c10 (fun h => by have := HEG.out _ h.symm; (try dsimp only at this); omega)
  have L11 : Hid (BoxL w12 (w.heap.size + 1) #[.int .i64 id, .int .i64 st, .int .i64 op, .int .i64 arg, .int .i64 pc, .int .i64 til, .bool per, .bool can, .int .i64 r0, .int .i64 r1, .int .i64 r2, .int .i64 r3, .int .i64 r4, .int .i64 code, .int .i64 res]) := (hgr.block _ L10.out.lt (fun h => by have := HEG.out _ h.symm; (try dsimp only at this); omega)).trans L10.out
  have K811 := Lib.hid (BoxA.grown K810.out hgr (BoxA.ne_own K810.out HG10.out))
  have K1311 := Lib.hid (BoxA.grown K1310.out hgr (BoxA.ne_own K1310.out HG10.out))
  have K911 := Lib.hid (boxT_grown K910.out hgr (boxT_ne K910.out HG10.out))
  have K1411 := Lib.hid (boxT_grown K1410.out hgr (boxT_ne K1410.out HG10.out))
  have HW11 := Lib.hid (NewA.kept HW10.out hgr (ranges_ne HEW.out HEG.out (by omega)))
  have B11 := Lib.hid (B10.out.grown hgr (by omega) (fun k hk => by have := HEG.out k hk; omega))
  have k811 := K811.out.cell
  have k1311 := K1311.out.cell
  have HG11 := Lib.hid (show NewA (w4.heap.size) w12 (B5) (d5) (upFrom 1 L.length) from by unfold NewA; rw [upFrom_length]; exact hown)
  clear K810 K1310 K910 K1410 HW10 HG10 c10 L10 B10 k810 k1310 hgr hown
  go_wp2_with fail
  refine (heldArena_any _ _ _ _ _ hR (by decide) (by decide) HG11.out.rd).mono ?_
  rintro e w13 ⟨rfl, hb⟩
  have c12 : w13.cell? ⟨w.heap.size, 0, none⟩ = some (.slice A zs.length c) := cell_keep hb c11
  have L12 := Lib.hid (BoxL.below L11.out hb)
  have K812 := Lib.hid (BoxA.below K811.out hb)
  have K1312 := Lib.hid (BoxA.below K1311.out hb)
  have K912 := Lib.hid (BoxT.below K911.out hb)
  have K1412 := Lib.hid (BoxT.below K1411.out hb)
  have HW12 := Lib.hid (NewA.below HW11.out hb)
  have HG12 := Lib.hid (NewA.below HG11.out hb)
  have B12 := Lib.hid (below_trans B11.out hb)
  have k812 := K812.out.cell
  have k1312 := K1312.out.cell
  have hz13 : w12.heap.size ≤ w13.heap.size := hb.size
  clear K811 K1311 K911 K1411 HW11 HG11 c11 L11 B11 k811 k1311 hb
  go_upto_region 24 with fail
  refine region_cut (fun a0 D a w' => ∃ g B d k8 k9, RL24 w13 a0 A none c 0 zs L id st op arg pc til per can r0 r1 r2 r3 r4 code res now wk q id' st' op' arg' pc' til' per' can' s0 s1 s2 s3 s4 code' res' D a w' g B d k8 k9) (fun a0 a w' => ∃ B d k8 k9, Agree a0 a [20, 21, 22, 23, 115, 116, 117, 118, 119, 120, 121, 122, 123, 124, 125] ∧ a.eval (.tmp 20) = .pointer (some ⟨k8, 0, none⟩) ∧ a.eval (.tmp 21) = .pointer (some ⟨k9, 0, none⟩) ∧ a.eval (.tmp 22) = .int .i64 wk ∧ a.eval (.tmp 23) = .int .i64 q ∧ BoxA w' k8 (.slice B L.length d) ∧ BoxT w' k9 #[.int .i64 id', .int .i64 st', .int .i64 op', .int .i64 arg', .int .i64 pc', .int .i64 til', .bool per', .bool can', .int .i64 s0, .int .i64 s1, .int .i64 s2, .int .i64 s3, .int .i64 s4, .int .i64 code', .int .i64 res'] ∧ NewA w13.heap.size w' B d L ∧ w13.heap.size ≤ k8 ∧ w13.heap.size ≤ k9 ∧ Below w13.heap.size w13 w') (by kernel_rfl) (by kernel_rfl) ?_ ?_ ?_ ?_
  · exact ⟨0, none, 0, 0, 0, ⟨Agree.refl _ _, below_drew0 _, fun x => x.elim, fun x => x.elim, fun x => x.elim, fun x => x.elim, fun x => x.elim, fun x => x.elim, fun x => x.elim, fun x => x.elim, fun x => x.elim, fun x => x.elim, fun x => x.elim, fun x => x.elim, fun x => x.elim, fun x => x.elim, fun x => x.elim, fun x => x.elim, fun x => x.elim, fun x => x.elim, fun x => x.elim, fun x => x.elim, fun x => x.elim, fun x => x.elim, fun x => x.elim⟩⟩
  · intro K'
    refine Steps.cons (i := 0) (j := 1) rfl ?_ (Steps.cons (i := 1) (j := 2) rfl ?_ (Steps.cons (i := 2) (j := 3) rfl ?_ (Steps.cons (i := 3) (j := 4) rfl ?_ (Steps.cons (i := 4) (j := 5) rfl ?_ (Steps.cons (i := 5) (j := 6) rfl ?_ (Steps.cons (i := 6) (j := 7) rfl ?_ (Steps.cons (i := 7) (j := 8) rfl ?_ (Steps.cons (i := 8) (j := 9) rfl ?_ (Steps.cons (i := 9) (j := 10) rfl ?_ (Steps.cons (i := 10) (j := 11) rfl ?_ (Steps.cons (i := 11) (j := 12) rfl ?_ (Steps.cons (i := 12) (j := 13) rfl ?_ (Steps.cons (i := 13) (j := 14) rfl ?_ (Steps.cons (i := 14) (j := 15) rfl ?_ (Steps.cons (i := 15) (j := 16) rfl ?_ (Steps.cons (i := 16) (j := 17) rfl ?_ (Steps.nil)))))))))))))))))
    · intro D a w' hI hD hdep hcl
      obtain ⟨g, B, d, k8, k9, h⟩ := hI
      have hc : w'.cell? ⟨w.heap.size, 0, none⟩ = some (.slice A zs.length c) := cell_keep h.be c12
      have he : a.tmps[3]?.getD undef = .pointer (some ⟨w.heap.size, 0, none⟩) := eval_get ((h.ag.eval (show 3 ∉ [20, 21, 22, 23, 115, 116, 117, 118, 119, 120, 121, 122, 123, 124, 125] by decide)).trans rfl)
      refine wp_yield (v := .agg #[.slice A zs.length c]) (w' := w') (by clear h hdep hcl hD; go_simp) ?_
      exact ⟨g, B, d, k8, k9, ⟨h.ag.put (by decide) _, h.be, fun _ => eval_put_same a _ (h.ag.lt rfl), fun x => absurd (dep_of 0 rfl (hcl 1 _ rfl (x.resolve_left (by decide)))) hD, fun x => absurd (dep_of 0 rfl (hcl 1 _ rfl (x.resolve_left (by decide)))) hD, slot_keep h.e2 (by decide) (by decide), fun x => absurd (dep_of 0 rfl (hcl 1 _ rfl (dep_of 1 rfl (hcl 3 _ rfl (x.resolve_left (by decide)))))) hD, slot_keep h.e4 (by decide) (by decide), fun x => absurd (dep_of 0 rfl (hcl 1 _ rfl (dep_of 1 rfl (hcl 5 _ rfl (x.resolve_left (by decide)))))) hD, fun x => absurd (dep_of 0 rfl (hcl 1 _ rfl (dep_of 1 rfl (hcl 5 _ rfl (x.resolve_left (by decide)))))) hD, fun x => absurd (dep_of 0 rfl (hcl 1 _ rfl (dep_of 1 rfl (hcl 5 _ rfl (dep_of 5 rfl (hcl 6 _ rfl (x.resolve_left (by decide)))))))) hD, fun x => absurd (dep_of 0 rfl (hcl 1 _ rfl (dep_of 1 rfl (hcl 5 _ rfl (dep_of 5 rfl (hcl 6 _ rfl (dep_of 6 rfl (hcl 7 _ rfl (x.resolve_left (by decide)))))))))) hD, fun x => absurd (dep_of 0 rfl (hcl 1 _ rfl (dep_of 1 rfl (hcl 5 _ rfl (dep_of 5 rfl (hcl 6 _ rfl (dep_of 6 rfl (hcl 8 _ rfl (x.resolve_left (by decide)))))))))) hD, fun x => absurd (dep_of 0 rfl (hcl 1 _ rfl (dep_of 1 rfl (hcl 5 _ rfl (dep_of 5 rfl (hcl 6 _ rfl (dep_of 6 rfl (hcl 9 _ rfl (x.resolve_left (by decide)))))))))) hD, fun x => absurd (dep_of 0 rfl (hcl 1 _ rfl (dep_of 1 rfl (hcl 5 _ rfl (dep_of 5 rfl (hcl 6 _ rfl (dep_of 6 rfl (hcl 10 _ rfl (x.resolve_left (by decide)))))))))) hD, slot_keep h.e11 (by decide) (by decide), fun x => h.h11 (x.resolve_left (by decide)), fun x n => (h.z11 (x.resolve_left (by decide)) (fun y => n (Or.inr y))), slot_keep h.e12 (by decide) (by decide), fun x => h.h12 (x.resolve_left (by decide)), fun x n => (h.z12 (x.resolve_left (by decide)) (fun y => n (Or.inr y))), fun x => absurd (dep_of 0 rfl (hcl 13 _ rfl (x.resolve_left (by decide)))) hD, fun x => absurd (dep_of 0 rfl (hcl 14 _ rfl (x.resolve_left (by decide)))) hD, fun x => absurd (dep_of 0 rfl (hcl 15 _ rfl (x.resolve_left (by decide)))) hD, fun x => absurd (dep_of 0 rfl (hcl 16 _ rfl (x.resolve_left (by decide)))) hD⟩⟩
    · intro D a w' hI hD hdep hcl
      obtain ⟨g, B, d, k8, k9, h⟩ := hI
      have he0 := eval_get (h.e0 (dep_of 0 rfl hdep))
      refine wp_call_fn (f := 16) (vs := #[.agg #[.slice A zs.length c]]) (by clear h hdep hcl hD; go_simp) ?_
      refine (toArena_any _ _ zs _ hs (HA.out.below (below_trans B12.out h.be))).mono ?_
      rintro e v1 ⟨g', rfl, hown, hb⟩
      have hnew : NewA w'.heap.size v1 (some ⟨g', 0, none⟩) zs.length zs := hown
      refine ⟨_, rfl, ?_⟩
      exact ⟨g', B, d, k8, k9, ⟨h.ag.put (by decide) _, below_trans h.be hb, slot_keep h.e0 (by decide) (by decide), fun _ => eval_put_same a _ (h.ag.lt rfl), fun _ => hnew.base h.be.size, slot_keep h.e2 (by decide) (by decide), fun x => absurd (dep_of 1 rfl (hcl 3 _ rfl (x.resolve_left (by decide)))) hD, slot_keep h.e4 (by decide) (by decide), fun x => absurd (dep_of 1 rfl (hcl 5 _ rfl (x.resolve_left (by decide)))) hD, fun x => absurd (dep_of 1 rfl (hcl 5 _ rfl (x.resolve_left (by decide)))) hD, fun x => absurd (dep_of 1 rfl (hcl 5 _ rfl (dep_of 5 rfl (hcl 6 _ rfl (x.resolve_left (by decide)))))) hD, fun x => absurd (dep_of 1 rfl (hcl 5 _ rfl (dep_of 5 rfl (hcl 6 _ rfl (dep_of 6 rfl (hcl 7 _ rfl (x.resolve_left (by decide)))))))) hD, fun x => absurd (dep_of 1 rfl (hcl 5 _ rfl (dep_of 5 rfl (hcl 6 _ rfl (dep_of 6 rfl (hcl 8 _ rfl (x.resolve_left (by decide)))))))) hD, fun x => absurd (dep_of 1 rfl (hcl 5 _ rfl (dep_of 5 rfl (hcl 6 _ rfl (dep_of 6 rfl (hcl 9 _ rfl (x.resolve_left (by decide)))))))) hD, fun x => absurd (dep_of 1 rfl (hcl 5 _ rfl (dep_of 5 rfl (hcl 6 _ rfl (dep_of 6 rfl (hcl 10 _ rfl (x.resolve_left (by decide)))))))) hD, slot_keep h.e11 (by decide) (by decide), fun x => h.h11 (x.resolve_left (by decide)), fun x n => (h.z11 (x.resolve_left (by decide)) (fun y => n (Or.inr y))).below hb, slot_keep h.e12 (by decide) (by decide), fun x => h.h12 (x.resolve_left (by decide)), fun x n => (h.z12 (x.resolve_left (by decide)) (fun y => n (Or.inr y))).below hb, fun x => absurd (dep_of 1 rfl (hcl 13 _ rfl (x.resolve_left (by decide)))) hD, fun x => absurd (dep_of 1 rfl (hcl 14 _ rfl (x.resolve_left (by decide)))) hD, fun x => absurd (dep_of 1 rfl (hcl 15 _ rfl (x.resolve_left (by decide)))) hD, fun x => absurd (dep_of 1 rfl (hcl 16 _ rfl (x.resolve_left (by decide)))) hD⟩⟩
    · intro D a w' hI hD hdep hcl
      obtain ⟨g, B, d, k8, k9, h⟩ := hI
      refine wp_load_row 42 _ rfl (w.heap.size + 1) ((h.ag.eval (show 4 ∉ [20, 21, 22, 23, 115, 116, 117, 118, 119, 120, 121, 122, 123, 124, 125] by decide)).trans rfl) 42 _ (0, 0) _ ((h.be.block _ L12.out.lt).trans L12.out) Try.underlying42 rfl info_lth ?_
      exact ⟨g, B, d, k8, k9, ⟨h.ag.put (by decide) _, h.be, slot_keep h.e0 (by decide) (by decide), slot_keep h.e1 (by decide) (by decide), fun x => h.h1 (x.resolve_left (by decide)), fun _ => eval_put_same a _ (h.ag.lt rfl), fun x => absurd (dep_of 2 rfl (hcl 3 _ rfl (x.resolve_left (by decide)))) hD, slot_keep h.e4 (by decide) (by decide), fun x => absurd (dep_of 2 rfl (hcl 3 _ rfl (dep_of 3 rfl (hcl 5 _ rfl (x.resolve_left (by decide)))))) hD, fun x => absurd (dep_of 2 rfl (hcl 3 _ rfl (dep_of 3 rfl (hcl 5 _ rfl (x.resolve_left (by decide)))))) hD, fun x => absurd (dep_of 2 rfl (hcl 3 _ rfl (dep_of 3 rfl (hcl 5 _ rfl (dep_of 5 rfl (hcl 6 _ rfl (x.resolve_left (by decide)))))))) hD, fun x => absurd (dep_of 2 rfl (hcl 3 _ rfl (dep_of 3 rfl (hcl 5 _ rfl (dep_of 5 rfl (hcl 6 _ rfl (dep_of 6 rfl (hcl 7 _ rfl (x.resolve_left (by decide)))))))))) hD, fun x => absurd (dep_of 2 rfl (hcl 3 _ rfl (dep_of 3 rfl (hcl 5 _ rfl (dep_of 5 rfl (hcl 6 _ rfl (dep_of 6 rfl (hcl 8 _ rfl (x.resolve_left (by decide)))))))))) hD, fun x => absurd (dep_of 2 rfl (hcl 3 _ rfl (dep_of 3 rfl (hcl 5 _ rfl (dep_of 5 rfl (hcl 6 _ rfl (dep_of 6 rfl (hcl 9 _ rfl (x.resolve_left (by decide)))))))))) hD, fun x => absurd (dep_of 2 rfl (hcl 3 _ rfl (dep_of 3 rfl (hcl 5 _ rfl (dep_of 5 rfl (hcl 6 _ rfl (dep_of 6 rfl (hcl 10 _ rfl (x.resolve_left (by decide)))))))))) hD, slot_keep h.e11 (by decide) (by decide), fun x => h.h11 (x.resolve_left (by decide)), fun x n => (h.z11 (x.resolve_left (by decide)) (fun y => n (Or.inr y))), slot_keep h.e12 (by decide) (by decide), fun x => h.h12 (x.resolve_left (by decide)), fun x n => (h.z12 (x.resolve_left (by decide)) (fun y => n (Or.inr y))), fun x => absurd (dep_of 2 rfl (hcl 13 _ rfl (x.resolve_left (by decide)))) hD, fun x => absurd (dep_of 2 rfl (hcl 14 _ rfl (x.resolve_left (by decide)))) hD, fun x => absurd (dep_of 2 rfl (hcl 15 _ rfl (x.resolve_left (by decide)))) hD, fun x => absurd (dep_of 2 rfl (hcl 16 _ rfl (x.resolve_left (by decide)))) hD⟩⟩
    · intro D a w' hI hD hdep hcl
      obtain ⟨g, B, d, k8, k9, h⟩ := hI
      have he0 := eval_get (h.e2 (dep_of 2 rfl hdep))
      refine wp_call_fn (f := 17) (vs := #[.agg #[.int .i64 id, .int .i64 st, .int .i64 op, .int .i64 arg, .int .i64 pc, .int .i64 til, .bool per, .bool can, .int .i64 r0, .int .i64 r1, .int .i64 r2, .int .i64 r3, .int .i64 r4, .int .i64 code, .int .i64 res]]) (by clear h hdep hcl hD; go_simp) ?_
      refine (toThread_any _ _ _ _ _ _ _ _ _ _ _ _ _ _ _ _).mono ?_
      rintro e v1 ⟨rfl, hb⟩
      refine ⟨_, rfl, ?_⟩
      exact ⟨g, B, d, k8, k9, ⟨h.ag.put (by decide) _, below_trans h.be hb, slot_keep h.e0 (by decide) (by decide), slot_keep h.e1 (by decide) (by decide), fun x => (h.h1 (x.resolve_left (by decide))).below hb, slot_keep h.e2 (by decide) (by decide), fun _ => eval_put_same a _ (h.ag.lt rfl), slot_keep h.e4 (by decide) (by decide), fun x => absurd (dep_of 3 rfl (hcl 5 _ rfl (x.resolve_left (by decide)))) hD, fun x => absurd (dep_of 3 rfl (hcl 5 _ rfl (x.resolve_left (by decide)))) hD, fun x => absurd (dep_of 3 rfl (hcl 5 _ rfl (dep_of 5 rfl (hcl 6 _ rfl (x.resolve_left (by decide)))))) hD, fun x => absurd (dep_of 3 rfl (hcl 5 _ rfl (dep_of 5 rfl (hcl 6 _ rfl (dep_of 6 rfl (hcl 7 _ rfl (x.resolve_left (by decide)))))))) hD, fun x => absurd (dep_of 3 rfl (hcl 5 _ rfl (dep_of 5 rfl (hcl 6 _ rfl (dep_of 6 rfl (hcl 8 _ rfl (x.resolve_left (by decide)))))))) hD, fun x => absurd (dep_of 3 rfl (hcl 5 _ rfl (dep_of 5 rfl (hcl 6 _ rfl (dep_of 6 rfl (hcl 9 _ rfl (x.resolve_left (by decide)))))))) hD, fun x => absurd (dep_of 3 rfl (hcl 5 _ rfl (dep_of 5 rfl (hcl 6 _ rfl (dep_of 6 rfl (hcl 10 _ rfl (x.resolve_left (by decide)))))))) hD, slot_keep h.e11 (by decide) (by decide), fun x => h.h11 (x.resolve_left (by decide)), fun x n => (h.z11 (x.resolve_left (by decide)) (fun y => n (Or.inr y))).below hb, slot_keep h.e12 (by decide) (by decide), fun x => h.h12 (x.resolve_left (by decide)), fun x n => (h.z12 (x.resolve_left (by decide)) (fun y => n (Or.inr y))).below hb, fun x => absurd (dep_of 3 rfl (hcl 13 _ rfl (x.resolve_left (by decide)))) hD, fun x => absurd (dep_of 3 rfl (hcl 14 _ rfl (x.resolve_left (by decide)))) hD, fun x => absurd (dep_of 3 rfl (hcl 15 _ rfl (x.resolve_left (by decide)))) hD, fun x => absurd (dep_of 3 rfl (hcl 16 _ rfl (x.resolve_left (by decide)))) hD⟩⟩
    · intro D a w' hI hD hdep hcl
      obtain ⟨g, B, d, k8, k9, h⟩ := hI
      have he : a.tmps[2]?.getD undef = .int .i64 now := eval_get ((h.ag.eval (show 2 ∉ [20, 21, 22, 23, 115, 116, 117, 118, 119, 120, 121, 122, 123, 124, 125] by decide)).trans rfl)
      refine wp_yield (v := .int .i64 now) (w' := w') (by clear h hdep hcl hD; go_simp) ?_
      exact ⟨g, B, d, k8, k9, ⟨h.ag.put (by decide) _, h.be, slot_keep h.e0 (by decide) (by decide), slot_keep h.e1 (by decide) (by decide), fun x => h.h1 (x.resolve_left (by decide)), slot_keep h.e2 (by decide) (by decide), slot_keep h.e3 (by decide) (by decide), fun _ => eval_put_same a _ (h.ag.lt rfl), fun x => absurd (dep_of 4 rfl (hcl 5 _ rfl (x.resolve_left (by decide)))) hD, fun x => absurd (dep_of 4 rfl (hcl 5 _ rfl (x.resolve_left (by decide)))) hD, fun x => absurd (dep_of 4 rfl (hcl 5 _ rfl (dep_of 5 rfl (hcl 6 _ rfl (x.resolve_left (by decide)))))) hD, fun x => absurd (dep_of 4 rfl (hcl 5 _ rfl (dep_of 5 rfl (hcl 6 _ rfl (dep_of 6 rfl (hcl 7 _ rfl (x.resolve_left (by decide)))))))) hD, fun x => absurd (dep_of 4 rfl (hcl 5 _ rfl (dep_of 5 rfl (hcl 6 _ rfl (dep_of 6 rfl (hcl 8 _ rfl (x.resolve_left (by decide)))))))) hD, fun x => absurd (dep_of 4 rfl (hcl 5 _ rfl (dep_of 5 rfl (hcl 6 _ rfl (dep_of 6 rfl (hcl 9 _ rfl (x.resolve_left (by decide)))))))) hD, fun x => absurd (dep_of 4 rfl (hcl 5 _ rfl (dep_of 5 rfl (hcl 6 _ rfl (dep_of 6 rfl (hcl 10 _ rfl (x.resolve_left (by decide)))))))) hD, slot_keep h.e11 (by decide) (by decide), fun x => h.h11 (x.resolve_left (by decide)), fun x n => (h.z11 (x.resolve_left (by decide)) (fun y => n (Or.inr y))), slot_keep h.e12 (by decide) (by decide), fun x => h.h12 (x.resolve_left (by decide)), fun x n => (h.z12 (x.resolve_left (by decide)) (fun y => n (Or.inr y))), fun x => absurd (dep_of 4 rfl (hcl 13 _ rfl (x.resolve_left (by decide)))) hD, fun x => absurd (dep_of 4 rfl (hcl 14 _ rfl (x.resolve_left (by decide)))) hD, fun x => absurd (dep_of 4 rfl (hcl 15 _ rfl (x.resolve_left (by decide)))) hD, fun x => absurd (dep_of 4 rfl (hcl 16 _ rfl (x.resolve_left (by decide)))) hD⟩⟩
    · intro D a w' hI hD hdep hcl
      obtain ⟨g, B, d, k8, k9, h⟩ := hI
      have he0 := eval_get (h.e1 (dep_of 1 rfl hdep))
      have he1 := eval_get (h.e3 (dep_of 3 rfl hdep))
      have he2 := eval_get (h.e4 (dep_of 4 rfl hdep))
      refine wp_call_fn (f := 9) (vs := #[.agg #[.slice (some ⟨g, 0, none⟩) zs.length zs.length], .agg #[.int .i64 id, .int .i64 st, .int .i64 op, .int .i64 arg, .int .i64 pc, .int .i64 til, .bool per, .bool can, .int .i64 r0, .int .i64 r1, .int .i64 r2, .int .i64 r3, .int .i64 r4, .int .i64 code, .int .i64 res], .int .i64 now]) (by clear h hdep hcl hD; go_simp) ?_
      refine (HI.out _ _ _ (h.h1 (dep_of 1 rfl hdep)).rd).mono ?_
      rintro e v1 ⟨B', d', rfl, hnew, hb⟩
      refine ⟨_, rfl, ?_⟩
      exact ⟨g, B', d', k8, k9, ⟨h.ag.put (by decide) _, below_trans h.be hb, slot_keep h.e0 (by decide) (by decide), slot_keep h.e1 (by decide) (by decide), fun x => (h.h1 (x.resolve_left (by decide))).below hb, slot_keep h.e2 (by decide) (by decide), slot_keep h.e3 (by decide) (by decide), slot_keep h.e4 (by decide) (by decide), fun _ => eval_put_same a _ (h.ag.lt rfl), fun _ => hnew.base h.be.size, fun x => absurd (dep_of 5 rfl (hcl 6 _ rfl (x.resolve_left (by decide)))) hD, fun x => absurd (dep_of 5 rfl (hcl 6 _ rfl (dep_of 6 rfl (hcl 7 _ rfl (x.resolve_left (by decide)))))) hD, fun x => absurd (dep_of 5 rfl (hcl 6 _ rfl (dep_of 6 rfl (hcl 8 _ rfl (x.resolve_left (by decide)))))) hD, fun x => absurd (dep_of 5 rfl (hcl 6 _ rfl (dep_of 6 rfl (hcl 9 _ rfl (x.resolve_left (by decide)))))) hD, fun x => absurd (dep_of 5 rfl (hcl 6 _ rfl (dep_of 6 rfl (hcl 10 _ rfl (x.resolve_left (by decide)))))) hD, slot_keep h.e11 (by decide) (by decide), fun x => h.h11 (x.resolve_left (by decide)), fun x n => (h.z11 (x.resolve_left (by decide)) (fun y => n (Or.inr y))).below hb, slot_keep h.e12 (by decide) (by decide), fun x => h.h12 (x.resolve_left (by decide)), fun x n => (h.z12 (x.resolve_left (by decide)) (fun y => n (Or.inr y))).below hb, fun x => absurd (dep_of 5 rfl (hcl 13 _ rfl (x.resolve_left (by decide)))) hD, fun x => absurd (dep_of 5 rfl (hcl 14 _ rfl (x.resolve_left (by decide)))) hD, fun x => absurd (dep_of 5 rfl (hcl 15 _ rfl (x.resolve_left (by decide)))) hD, fun x => absurd (dep_of 5 rfl (hcl 16 _ rfl (x.resolve_left (by decide)))) hD⟩⟩
    · intro D a w' hI hD hdep hcl
      obtain ⟨g, B, d, k8, k9, h⟩ := hI
      have he := eval_get (h.e5 (dep_of 5 rfl hdep))
      refine wp_yield (v := .tuple #[.agg #[.slice B L.length d], .agg #[.int .i64 id', .int .i64 st', .int .i64 op', .int .i64 arg', .int .i64 pc', .int .i64 til', .bool per', .bool can', .int .i64 s0, .int .i64 s1, .int .i64 s2, .int .i64 s3, .int .i64 s4, .int .i64 code', .int .i64 res'], .int .i64 wk, .int .i64 q]) (w' := w') (by clear h hdep hcl hD; go_simp) ?_
      exact ⟨g, B, d, k8, k9, ⟨h.ag.put (by decide) _, h.be, slot_keep h.e0 (by decide) (by decide), slot_keep h.e1 (by decide) (by decide), fun x => h.h1 (x.resolve_left (by decide)), slot_keep h.e2 (by decide) (by decide), slot_keep h.e3 (by decide) (by decide), slot_keep h.e4 (by decide) (by decide), slot_keep h.e5 (by decide) (by decide), fun x => h.h5 (x.resolve_left (by decide)), fun _ => eval_put_same a _ (h.ag.lt rfl), fun x => absurd (dep_of 6 rfl (hcl 7 _ rfl (x.resolve_left (by decide)))) hD, fun x => absurd (dep_of 6 rfl (hcl 8 _ rfl (x.resolve_left (by decide)))) hD, fun x => absurd (dep_of 6 rfl (hcl 9 _ rfl (x.resolve_left (by decide)))) hD, fun x => absurd (dep_of 6 rfl (hcl 10 _ rfl (x.resolve_left (by decide)))) hD, slot_keep h.e11 (by decide) (by decide), fun x => h.h11 (x.resolve_left (by decide)), fun x n => (h.z11 (x.resolve_left (by decide)) (fun y => n (Or.inr y))), slot_keep h.e12 (by decide) (by decide), fun x => h.h12 (x.resolve_left (by decide)), fun x n => (h.z12 (x.resolve_left (by decide)) (fun y => n (Or.inr y))), fun x => absurd (dep_of 6 rfl (hcl 13 _ rfl (x.resolve_left (by decide)))) hD, fun x => absurd (dep_of 6 rfl (hcl 14 _ rfl (x.resolve_left (by decide)))) hD, fun x => absurd (dep_of 6 rfl (hcl 15 _ rfl (x.resolve_left (by decide)))) hD, fun x => absurd (dep_of 6 rfl (hcl 16 _ rfl (x.resolve_left (by decide)))) hD⟩⟩
    · intro D a w' hI hD hdep hcl
      obtain ⟨g, B, d, k8, k9, h⟩ := hI
      have he := eval_get (h.e6 (dep_of 6 rfl hdep))
      refine wp_yield (v := .agg #[.slice B L.length d]) (w' := w') (by clear h hdep hcl hD; go_simp) ?_
      exact ⟨g, B, d, k8, k9, ⟨h.ag.put (by decide) _, h.be, slot_keep h.e0 (by decide) (by decide), slot_keep h.e1 (by decide) (by decide), fun x => h.h1 (x.resolve_left (by decide)), slot_keep h.e2 (by decide) (by decide), slot_keep h.e3 (by decide) (by decide), slot_keep h.e4 (by decide) (by decide), slot_keep h.e5 (by decide) (by decide), fun x => h.h5 (x.resolve_left (by decide)), slot_keep h.e6 (by decide) (by decide), fun _ => eval_put_same a _ (h.ag.lt rfl), slot_keep h.e8 (by decide) (by decide), slot_keep h.e9 (by decide) (by decide), slot_keep h.e10 (by decide) (by decide), slot_keep h.e11 (by decide) (by decide), fun x => h.h11 (x.resolve_left (by decide)), fun x n => (h.z11 (x.resolve_left (by decide)) (fun y => n (Or.inr y))), slot_keep h.e12 (by decide) (by decide), fun x => h.h12 (x.resolve_left (by decide)), fun x n => (h.z12 (x.resolve_left (by decide)) (fun y => n (Or.inr y))), fun x => absurd (dep_of 7 rfl (hcl 13 _ rfl (x.resolve_left (by decide)))) hD, fun x => absurd (dep_of 7 rfl (hcl 14 _ rfl (x.resolve_left (by decide)))) hD, fun x => absurd (dep_of 7 rfl (hcl 15 _ rfl (x.resolve_left (by decide)))) hD, fun x => absurd (dep_of 7 rfl (hcl 16 _ rfl (x.resolve_left (by decide)))) hD⟩⟩
    · intro D a w' hI hD hdep hcl
      obtain ⟨g, B, d, k8, k9, h⟩ := hI
      have he := eval_get (h.e6 (dep_of 6 rfl hdep))
      refine wp_yield (v := .agg #[.int .i64 id', .int .i64 st', .int .i64 op', .int .i64 arg', .int .i64 pc', .int .i64 til', .bool per', .bool can', .int .i64 s0, .int .i64 s1, .int .i64 s2, .int .i64 s3, .int .i64 s4, .int .i64 code', .int .i64 res']) (w' := w') (by clear h hdep hcl hD; go_simp) ?_
      exact ⟨g, B, d, k8, k9, ⟨h.ag.put (by decide) _, h.be, slot_keep h.e0 (by decide) (by decide), slot_keep h.e1 (by decide) (by decide), fun x => h.h1 (x.resolve_left (by decide)), slot_keep h.e2 (by decide) (by decide), slot_keep h.e3 (by decide) (by decide), slot_keep h.e4 (by decide) (by decide), slot_keep h.e5 (by decide) (by decide), fun x => h.h5 (x.resolve_left (by decide)), slot_keep h.e6 (by decide) (by decide), slot_keep h.e7 (by decide) (by decide), fun _ => eval_put_same a _ (h.ag.lt rfl), slot_keep h.e9 (by decide) (by decide), slot_keep h.e10 (by decide) (by decide), slot_keep h.e11 (by decide) (by decide), fun x => h.h11 (x.resolve_left (by decide)), fun x n => (h.z11 (x.resolve_left (by decide)) (fun y => n (Or.inr y))), slot_keep h.e12 (by decide) (by decide), fun x => h.h12 (x.resolve_left (by decide)), fun x n => (h.z12 (x.resolve_left (by decide)) (fun y => n (Or.inr y))), fun x => (h.z13 (x.resolve_left (by decide))), fun x => absurd (dep_of 8 rfl (hcl 14 _ rfl (x.resolve_left (by decide)))) hD, fun x => absurd (dep_of 8 rfl (hcl 15 _ rfl (x.resolve_left (by decide)))) hD, fun x => absurd (dep_of 8 rfl (hcl 16 _ rfl (x.resolve_left (by decide)))) hD⟩⟩
    · intro D a w' hI hD hdep hcl
      obtain ⟨g, B, d, k8, k9, h⟩ := hI
      have he := eval_get (h.e6 (dep_of 6 rfl hdep))
      refine wp_yield (v := .int .i64 wk) (w' := w') (by clear h hdep hcl hD; go_simp) ?_
      exact ⟨g, B, d, k8, k9, ⟨h.ag.put (by decide) _, h.be, slot_keep h.e0 (by decide) (by decide), slot_keep h.e1 (by decide) (by decide), fun x => h.h1 (x.resolve_left (by decide)), slot_keep h.e2 (by decide) (by decide), slot_keep h.e3 (by decide) (by decide), slot_keep h.e4 (by decide) (by decide), slot_keep h.e5 (by decide) (by decide), fun x => h.h5 (x.resolve_left (by decide)), slot_keep h.e6 (by decide) (by decide), slot_keep h.e7 (by decide) (by decide), slot_keep h.e8 (by decide) (by decide), fun _ => eval_put_same a _ (h.ag.lt rfl), slot_keep h.e10 (by decide) (by decide), slot_keep h.e11 (by decide) (by decide), fun x => h.h11 (x.resolve_left (by decide)), fun x n => (h.z11 (x.resolve_left (by decide)) (fun y => n (Or.inr y))), slot_keep h.e12 (by decide) (by decide), fun x => h.h12 (x.resolve_left (by decide)), fun x n => (h.z12 (x.resolve_left (by decide)) (fun y => n (Or.inr y))), fun x => (h.z13 (x.resolve_left (by decide))), fun x => (h.z14 (x.resolve_left (by decide))), fun x => absurd (dep_of 9 rfl (hcl 15 _ rfl (x.resolve_left (by decide)))) hD, fun x => absurd (dep_of 9 rfl (hcl 16 _ rfl (x.resolve_left (by decide)))) hD⟩⟩
    · intro D a w' hI hD hdep hcl
      obtain ⟨g, B, d, k8, k9, h⟩ := hI
      have he := eval_get (h.e6 (dep_of 6 rfl hdep))
      refine wp_yield (v := .int .i64 q) (w' := w') (by clear h hdep hcl hD; go_simp) ?_
      exact ⟨g, B, d, k8, k9, ⟨h.ag.put (by decide) _, h.be, slot_keep h.e0 (by decide) (by decide), slot_keep h.e1 (by decide) (by decide), fun x => h.h1 (x.resolve_left (by decide)), slot_keep h.e2 (by decide) (by decide), slot_keep h.e3 (by decide) (by decide), slot_keep h.e4 (by decide) (by decide), slot_keep h.e5 (by decide) (by decide), fun x => h.h5 (x.resolve_left (by decide)), slot_keep h.e6 (by decide) (by decide), slot_keep h.e7 (by decide) (by decide), slot_keep h.e8 (by decide) (by decide), slot_keep h.e9 (by decide) (by decide), fun _ => eval_put_same a _ (h.ag.lt rfl), slot_keep h.e11 (by decide) (by decide), fun x => h.h11 (x.resolve_left (by decide)), fun x n => (h.z11 (x.resolve_left (by decide)) (fun y => n (Or.inr y))), slot_keep h.e12 (by decide) (by decide), fun x => h.h12 (x.resolve_left (by decide)), fun x n => (h.z12 (x.resolve_left (by decide)) (fun y => n (Or.inr y))), fun x => (h.z13 (x.resolve_left (by decide))), fun x => (h.z14 (x.resolve_left (by decide))), slot_keep h.e15 (by decide) (by decide), fun x => absurd (dep_of 10 rfl (hcl 16 _ rfl (x.resolve_left (by decide)))) hD⟩⟩
    · intro D a w' hI hD hdep hcl
      obtain ⟨g, B, d, k8, k9, h⟩ := hI
      refine wp_yield (v := .pointer (some ⟨w'.heap.size, 0, none⟩)) (w' := w'.alloc (.cells #[.slice none 0 0] 25)) (by clear h hdep hcl hD; go_simp) ?_
      exact ⟨g, B, d, w'.heap.size, k9, ⟨h.ag.put (by decide) _, below_trans h.be (below_alloc _ _), slot_keep h.e0 (by decide) (by decide), slot_keep h.e1 (by decide) (by decide), fun x => (h.h1 (x.resolve_left (by decide))).below (below_alloc _ _), slot_keep h.e2 (by decide) (by decide), slot_keep h.e3 (by decide) (by decide), slot_keep h.e4 (by decide) (by decide), slot_keep h.e5 (by decide) (by decide), fun x => (h.h5 (x.resolve_left (by decide))).below (below_alloc _ _), slot_keep h.e6 (by decide) (by decide), slot_keep h.e7 (by decide) (by decide), slot_keep h.e8 (by decide) (by decide), slot_keep h.e9 (by decide) (by decide), slot_keep h.e10 (by decide) (by decide), fun _ => eval_put_same a _ (h.ag.lt rfl), fun _ => h.be.size, fun _ _ => BoxA.new _ _, slot_keep h.e12 (by decide) (by decide), fun x => h.h12 (x.resolve_left (by decide)), fun x n => (h.z12 (x.resolve_left (by decide)) (fun y => n (Or.inr y))).below (below_alloc _ _), fun x => absurd (dep_of 11 rfl (hcl 13 _ rfl (x.resolve_left (by decide)))) hD, fun x => absurd (dep_of 11 rfl (hcl 14 _ rfl (x.resolve_left (by decide)))) hD, fun x => absurd (dep_of 11 rfl (hcl 15 _ rfl (x.resolve_left (by decide)))) hD, fun x => absurd (dep_of 11 rfl (hcl 16 _ rfl (x.resolve_left (by decide)))) hD⟩⟩
    · intro D a w' hI hD hdep hcl
      obtain ⟨g, B, d, k8, k9, h⟩ := hI
      refine wp_yield (v := .pointer (some ⟨w'.heap.size, 0, none⟩)) (w' := w'.alloc (.cells #[.int .i64 0, .int .i64 0, .int .i64 0, .int .i64 0, .int .i64 0, .int .i64 0, .bool false, .bool false, .int .i64 0, .int .i64 0, .int .i64 0, .int .i64 0, .int .i64 0, .int .i64 0, .int .i64 0] 29)) (by clear h hdep hcl hD; go_simp) ?_
      exact ⟨g, B, d, k8, w'.heap.size, ⟨h.ag.put (by decide) _, below_trans h.be (below_alloc _ _), slot_keep h.e0 (by decide) (by decide), slot_keep h.e1 (by decide) (by decide), fun x => (h.h1 (x.resolve_left (by decide))).below (below_alloc _ _), slot_keep h.e2 (by decide) (by decide), slot_keep h.e3 (by decide) (by decide), slot_keep h.e4 (by decide) (by decide), slot_keep h.e5 (by decide) (by decide), fun x => (h.h5 (x.resolve_left (by decide))).below (below_alloc _ _), slot_keep h.e6 (by decide) (by decide), slot_keep h.e7 (by decide) (by decide), slot_keep h.e8 (by decide) (by decide), slot_keep h.e9 (by decide) (by decide), slot_keep h.e10 (by decide) (by decide), slot_keep h.e11 (by decide) (by decide), fun x => h.h11 (x.resolve_left (by decide)), fun x n => (h.z11 (x.resolve_left (by decide)) (fun y => n (Or.inr y))).below (below_alloc _ _), fun _ => eval_put_same a _ (h.ag.lt rfl), fun _ => h.be.size, fun _ _ => BoxT.new _ _, fun x => absurd (dep_of 12 rfl (hcl 13 _ rfl (x.resolve_left (by decide)))) hD, fun x => absurd (dep_of 12 rfl (hcl 14 _ rfl (x.resolve_left (by decide)))) hD, fun x => absurd (dep_of 12 rfl (hcl 15 _ rfl (x.resolve_left (by decide)))) hD, fun x => absurd (dep_of 12 rfl (hcl 16 _ rfl (x.resolve_left (by decide)))) hD⟩⟩
    · intro D a w' hI hD hdep hcl
      obtain ⟨g, B, d, k8, k9, h⟩ := hI
      have hal := dep_of 11 rfl hdep
      have hbx := h.z11 hal hD
      have h8 := h.h11 hal
      refine wp_store_row 25 _ _ rfl k8 _ (h.e11 hal) (h.e7 (dep_of 7 rfl hdep)) 25 _ hbx info_ar rfl (BoxA.one _ _ _) ?_
      exact ⟨g, B, d, k8, k9, ⟨h.ag, below_row h.be h8 _, fun x => h.e0 (x.resolve_left (by decide)), fun x => h.e1 (x.resolve_left (by decide)), fun x => (h.h1 (x.resolve_left (by decide))).rowA hbx _, fun x => h.e2 (x.resolve_left (by decide)), fun x => h.e3 (x.resolve_left (by decide)), fun x => h.e4 (x.resolve_left (by decide)), fun x => h.e5 (x.resolve_left (by decide)), fun x => (h.h5 (x.resolve_left (by decide))).rowA hbx _, fun x => h.e6 (x.resolve_left (by decide)), fun x => h.e7 (x.resolve_left (by decide)), fun x => h.e8 (x.resolve_left (by decide)), fun x => h.e9 (x.resolve_left (by decide)), fun x => h.e10 (x.resolve_left (by decide)), fun x => h.e11 (x.resolve_left (by decide)), fun x => h.h11 (x.resolve_left (by decide)), fun _ n => absurd (Or.inl rfl) n, fun x => h.e12 (x.resolve_left (by decide)), fun x => h.h12 (x.resolve_left (by decide)), fun x n => (h.z12 (x.resolve_left (by decide)) (fun y => n (Or.inr y))).rowOther (boxA_ne_boxT hbx (h.z12 (x.resolve_left (by decide)) (fun y => n (Or.inr y)))).symm _, fun _ => hbx.row _, fun x => absurd (dep_of 13 rfl (hcl 14 _ rfl (x.resolve_left (by decide)))) hD, fun x => absurd (dep_of 13 rfl (hcl 15 _ rfl (x.resolve_left (by decide)))) hD, fun x => absurd (dep_of 13 rfl (hcl 16 _ rfl (x.resolve_left (by decide)))) hD⟩⟩
    · intro D a w' hI hD hdep hcl
      obtain ⟨g, B, d, k8, k9, h⟩ := hI
      have hal := dep_of 12 rfl hdep
      have hbx := h.z12 hal hD
      have h9 := h.h12 hal
      refine wp_store_row 29 _ _ rfl k9 _ (h.e12 hal) (h.e8 (dep_of 8 rfl hdep)) 29 _ hbx info_th rfl (one15 _ _ _ _ _ _ _ _ _ _ _ _ _ _ _) ?_
      exact ⟨g, B, d, k8, k9, ⟨h.ag, below_row h.be h9 _, fun x => h.e0 (x.resolve_left (by decide)), fun x => h.e1 (x.resolve_left (by decide)), fun x => (h.h1 (x.resolve_left (by decide))).rowT hbx _, fun x => h.e2 (x.resolve_left (by decide)), fun x => h.e3 (x.resolve_left (by decide)), fun x => h.e4 (x.resolve_left (by decide)), fun x => h.e5 (x.resolve_left (by decide)), fun x => (h.h5 (x.resolve_left (by decide))).rowT hbx _, fun x => h.e6 (x.resolve_left (by decide)), fun x => h.e7 (x.resolve_left (by decide)), fun x => h.e8 (x.resolve_left (by decide)), fun x => h.e9 (x.resolve_left (by decide)), fun x => h.e10 (x.resolve_left (by decide)), fun x => h.e11 (x.resolve_left (by decide)), fun x => h.h11 (x.resolve_left (by decide)), fun _ n => absurd (Or.inr (dep_of 13 rfl hdep)) n, fun x => h.e12 (x.resolve_left (by decide)), fun x => h.h12 (x.resolve_left (by decide)), fun _ n => absurd (Or.inl rfl) n, fun x => (h.z13 (x.resolve_left (by decide))).rowOther (boxA_ne_boxT (h.z13 (x.resolve_left (by decide))) hbx) _, fun _ => hbx.row _, fun x => absurd (dep_of 14 rfl (hcl 15 _ rfl (x.resolve_left (by decide)))) hD, fun x => absurd (dep_of 14 rfl (hcl 16 _ rfl (x.resolve_left (by decide)))) hD⟩⟩
    · intro D a w' hI hD hdep hcl
      obtain ⟨g, B, d, k8, k9, h⟩ := hI
      have he := eval_get (h.e9 (dep_of 9 rfl hdep))
      refine wp_yield (v := .int .i64 wk) (w' := w') (by clear h hdep hcl hD; go_simp) ?_
      exact ⟨g, B, d, k8, k9, ⟨h.ag.put (by decide) _, h.be, slot_keep h.e0 (by decide) (by decide), slot_keep h.e1 (by decide) (by decide), fun x => h.h1 (x.resolve_left (by decide)), slot_keep h.e2 (by decide) (by decide), slot_keep h.e3 (by decide) (by decide), slot_keep h.e4 (by decide) (by decide), slot_keep h.e5 (by decide) (by decide), fun x => h.h5 (x.resolve_left (by decide)), slot_keep h.e6 (by decide) (by decide), slot_keep h.e7 (by decide) (by decide), slot_keep h.e8 (by decide) (by decide), slot_keep h.e9 (by decide) (by decide), slot_keep h.e10 (by decide) (by decide), slot_keep h.e11 (by decide) (by decide), fun x => h.h11 (x.resolve_left (by decide)), fun _ n => absurd (Or.inr (dep_of 13 rfl hdep)) n, slot_keep h.e12 (by decide) (by decide), fun x => h.h12 (x.resolve_left (by decide)), fun _ n => absurd (Or.inr (dep_of 14 rfl hdep)) n, fun x => (h.z13 (x.resolve_left (by decide))), fun x => (h.z14 (x.resolve_left (by decide))), fun _ => eval_put_same a _ (h.ag.lt rfl), fun x => absurd (dep_of 15 rfl (hcl 16 _ rfl (x.resolve_left (by decide)))) hD⟩⟩
    · intro D a w' hI hD hdep hcl
      obtain ⟨g, B, d, k8, k9, h⟩ := hI
      have he := eval_get (h.e10 (dep_of 10 rfl hdep))
      refine wp_yield (v := .int .i64 q) (w' := w') (by clear h hdep hcl hD; go_simp) ?_
      exact ⟨g, B, d, k8, k9, ⟨h.ag.put (by decide) _, h.be, slot_keep h.e0 (by decide) (by decide), slot_keep h.e1 (by decide) (by decide), fun x => h.h1 (x.resolve_left (by decide)), slot_keep h.e2 (by decide) (by decide), slot_keep h.e3 (by decide) (by decide), slot_keep h.e4 (by decide) (by decide), slot_keep h.e5 (by decide) (by decide), fun x => h.h5 (x.resolve_left (by decide)), slot_keep h.e6 (by decide) (by decide), slot_keep h.e7 (by decide) (by decide), slot_keep h.e8 (by decide) (by decide), slot_keep h.e9 (by decide) (by decide), slot_keep h.e10 (by decide) (by decide), slot_keep h.e11 (by decide) (by decide), fun x => h.h11 (x.resolve_left (by decide)), fun _ n => absurd (Or.inr (dep_of 13 rfl hdep)) n, slot_keep h.e12 (by decide) (by decide), fun x => h.h12 (x.resolve_left (by decide)), fun _ n => absurd (Or.inr (dep_of 14 rfl hdep)) n, fun x => (h.z13 (x.resolve_left (by decide))), fun x => (h.z14 (x.resolve_left (by decide))), slot_keep h.e15 (by decide) (by decide), fun _ => eval_put_same a _ (h.ag.lt rfl)⟩⟩
  · rintro D a w' ⟨g, B, d, k8, k9, h⟩ hD
    have hd := fun i (hi : Nat.ble (i + 1) 17 = true) => hD i (Nat.le_of_ble_eq_true hi)
    exact ⟨B, d, k8, k9, h.ag, h.e11 (hd 11 rfl), h.e12 (hd 12 rfl), h.e15 (hd 15 rfl), h.e16 (hd 16 rfl), h.z13 (hd 13 rfl), h.z14 (hd 14 rfl), h.h5 (hd 5 rfl), h.h11 (hd 11 rfl), h.h12 (hd 12 rfl), h.be⟩
  rintro a' w14 ⟨B9, d9, k20, k21, hag, t8, t9, t10, t11, hb8, hb9, hnw, hk8, hk9, hbe⟩
  have he := hag.eq
  clear hag
  simp only [List.foldl_cons, List.foldl_nil] at he
  rw [t8, t9, t10, t11] at he
  clear t8 t9 t10 t11
  generalize a'.eval (.tmp 115) = u115 at he
  generalize a'.eval (.tmp 116) = u116 at he
  generalize a'.eval (.tmp 117) = u117 at he
  generalize a'.eval (.tmp 118) = u118 at he
  generalize a'.eval (.tmp 119) = u119 at he
  generalize a'.eval (.tmp 120) = u120 at he
  generalize a'.eval (.tmp 121) = u121 at he
  generalize a'.eval (.tmp 122) = u122 at he
  generalize a'.eval (.tmp 123) = u123 at he
  generalize a'.eval (.tmp 124) = u124 at he
  generalize a'.eval (.tmp 125) = u125 at he
  simp only [Act.put, List.setIfInBounds_toArray, List.set_cons_zero, List.set_cons_succ] at he
  subst he
  have c13 : w14.cell? ⟨w.heap.size, 0, none⟩ = some (.slice A zs.length c) := cell_keep hbe c12
  have L13 := Lib.hid (BoxL.below L12.out hbe)
  have K813 := Lib.hid (BoxA.below K812.out hbe)
  have K1313 := Lib.hid (BoxA.below K1312.out hbe)
  have K913 := Lib.hid (BoxT.below K912.out hbe)
  have K1413 := Lib.hid (BoxT.below K1412.out hbe)
  have HW13 := Lib.hid (NewA.below HW12.out hbe)
  have HG13 := Lib.hid (NewA.below HG12.out hbe)
  have B13 := Lib.hid (below_trans B12.out hbe)
  have k813 := K813.out.cell
  have k1313 := K1313.out.cell
  have K200 := Lib.hid hb8; have K210 := Lib.hid hb9
  have HH13 := Lib.hid (show NewA (w13.heap.size) w14 (B9) (d9) (L) from hnw)
  have HEH : Hid (∀ k, Value.ownBlock (.slice (B9) (L).length (d9)) = some k → w13.heap.size ≤ k ∧ k < w14.heap.size) := fun k hk => World.ownsRow.lt HH13.out k hk
  have hz14 : w13.heap.size ≤ w14.heap.size := hbe.size
  have k200 := K200.out.cell
  clear K812 K1312 K912 K1412 HW12 HG12 c12 L12 B12 k812 k1312 hb8 hb9 hnw hbe hk8 hk9
  as_aux_lemma =>
  go_wp2_with fail
  refine (eqArena_same _ _ _ _ L _ HRm.out HH13.out.rd HW13.out.rd).mono ?_
  rintro e w15 ⟨rfl, hb⟩
  have c14 : w15.cell? ⟨w.heap.size, 0, none⟩ = some (.slice A zs.length c) := cell_keep hb c13
  have L14 := Lib.hid (BoxL.below L13.out hb)
  have K814 := Lib.hid (BoxA.below K813.out hb)
  have K1314 := Lib.hid (BoxA.below K1313.out hb)
  have K2014 := Lib.hid (BoxA.below K200.out hb)
  have K914 := Lib.hid (BoxT.below K913.out hb)
  have K1414 := Lib.hid (BoxT.below K1413.out hb)
  have K2114 := Lib.hid (BoxT.below K210.out hb)
  have HW14 := Lib.hid (NewA.below HW13.out hb)
  have HG14 := Lib.hid (NewA.below HG13.out hb)
  have HH14 := Lib.hid (NewA.below HH13.out hb)
  have B14 := Lib.hid (below_trans B13.out hb)
  have k814 := K814.out.cell
  have k1314 := K1314.out.cell
  have k2014 := K2014.out.cell
  have hz15 : w14.heap.size ≤ w15.heap.size := hb.size
  clear K813 K1313 K200 K913 K1413 K210 HW13 HG13 HH13 c13 L13 B13 k813 k1313 k200 hb
  go_wp2_with (first | (refine wpList_load_row_g (by rfl) 29 _ rfl (k21) rfl 29 _ (0, 0) _ K2114.out Try.underlying29 rfl info_th ?_) | (refine wpList_load_row_g (by rfl) 29 _ rfl (k9) rfl 29 _ (0, 0) _ K914.out Try.underlying29 rfl info_th ?_))
  refine (eqThread_same _ _ _ _ _ _ _ _ _ _ _ _ _ _ _ _).mono ?_
  rintro e w16 ⟨rfl, hb⟩
  have c15 : w16.cell? ⟨w.heap.size, 0, none⟩ = some (.slice A zs.length c) := cell_keep hb c14
  have L15 := Lib.hid (BoxL.below L14.out hb)
  have K815 := Lib.hid (BoxA.below K814.out hb)
  have K1315 := Lib.hid (BoxA.below K1314.out hb)
  have K2015 := Lib.hid (BoxA.below K2014.out hb)
  have K915 := Lib.hid (BoxT.below K914.out hb)
  have K1415 := Lib.hid (BoxT.below K1414.out hb)
  have K2115 := Lib.hid (BoxT.below K2114.out hb)
  have HW15 := Lib.hid (NewA.below HW14.out hb)
  have HG15 := Lib.hid (NewA.below HG14.out hb)
  have HH15 := Lib.hid (NewA.below HH14.out hb)
  have B15 := Lib.hid (below_trans B14.out hb)
  have k815 := K815.out.cell
  have k1315 := K1315.out.cell
  have k2015 := K2015.out.cell
  have hz16 : w15.heap.size ≤ w16.heap.size := hb.size
  clear K814 K1314 K2014 K914 K1414 K2114 HW14 HG14 HH14 c14 L14 B14 k814 k1314 k2014 hb
  go_wp2_with fail
  refine (heldArena_any _ _ _ _ _ hR (by decide) (by decide) HG15.out.rd).mono ?_
  rintro e w17 ⟨rfl, hb⟩
  have c16 : w17.cell? ⟨w.heap.size, 0, none⟩ = some (.slice A zs.length c) := cell_keep hb c15
  have L16 := Lib.hid (BoxL.below L15.out hb)
  have K816 := Lib.hid (BoxA.below K815.out hb)
  have K1316 := Lib.hid (BoxA.below K1315.out hb)
  have K2016 := Lib.hid (BoxA.below K2015.out hb)
  have K916 := Lib.hid (BoxT.below K915.out hb)
  have K1416 := Lib.hid (BoxT.below K1415.out hb)
  have K2116 := Lib.hid (BoxT.below K2115.out hb)
  have HW16 := Lib.hid (NewA.below HW15.out hb)
  have HG16 := Lib.hid (NewA.below HG15.out hb)
  have HH16 := Lib.hid (NewA.below HH15.out hb)
  have B16 := Lib.hid (below_trans B15.out hb)
  have k816 := K816.out.cell
  have k1316 := K1316.out.cell
  have k2016 := K2016.out.cell
  have hz17 : w16.heap.size ≤ w17.heap.size := hb.size
  clear K815 K1315 K2015 K915 K1415 K2115 HW15 HG15 HH15 c15 L15 B15 k815 k1315 k2015 hb
  go_wp2
  go_ret
  exact ⟨rfl, B16.out⟩
end Go.Proofs.Ytabojajhnhcemaa
