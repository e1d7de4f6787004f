/-
  Threads: contracts of the laws' own helpers: toThread, eqThread.
-/
import Derived.Test.YthianfhfamkcmaaJ03
namespace Go.Proofs.Ythianfhfamkcmaa
open Go.RowKit

set_option maxHeartbeats 4000000 in
theorem toThread_any (id st op arg pc til : Int) (per can : Bool) (r0 r1 r2 r3 r4 code res : Int) (w : World) : Calls Try.prog 138 #[.agg #[.int .i64 id, .int .i64 st, .int .i64 op, .int .i64 arg, .int .i64 pc, .int .i64 til, .bool per, .bool can, .int .i64 r0, .int .i64 r1, .int .i64 r2, .int .i64 r3, .int .i64 r4, .int .i64 code, .int .i64 res]] w fun e w' => e = .returned (.agg #[.int .i64 id, .int .i64 st, .int .i64 op, .int .i64 arg, .int .i64 pc, .int .i64 til, .bool per, .bool can, .int .i64 r0, .int .i64 r1, .int .i64 r2, .int .i64 r3, .int .i64 r4, .int .i64 code, .int .i64 res]) ∧ Below w.heap.size w w' := by
  go_enter Try.func138, Try.ntmps138
  go_wp2_with (go_at_call 165; refine (toIntA5_exact _ _ _ _ _ _).mono ?_; rintro e w' ⟨rfl, rfl⟩)
  refine bodyPost_ret (v := .agg #[.int .i64 id, .int .i64 st, .int .i64 op, .int .i64 arg, .int .i64 pc, .int .i64 til, .bool per, .bool can, .int .i64 r0, .int .i64 r1, .int .i64 r2, .int .i64 r3, .int .i64 r4, .int .i64 code, .int .i64 res]) (by simp [results, Try.results138, go_sem]) rfl ⟨rfl, ?_⟩
  exact below_trans (below_alloc3 _ _ _ _) (below_alloc3 _ _ _ _)

set_option maxHeartbeats 4000000 in
theorem eqThread_same (id st op arg pc til : Int) (per can : Bool) (r0 r1 r2 r3 r4 code res : Int) (w : World) : Calls Try.prog 143 #[.agg #[.int .i64 id, .int .i64 st, .int .i64 op, .int .i64 arg, .int .i64 pc, .int .i64 til, .bool per, .bool can, .int .i64 r0, .int .i64 r1, .int .i64 r2, .int .i64 r3, .int .i64 r4, .int .i64 code, .int .i64 res], .agg #[.int .i64 id, .int .i64 st, .int .i64 op, .int .i64 arg, .int .i64 pc, .int .i64 til, .bool per, .bool can, .int .i64 r0, .int .i64 r1, .int .i64 r2, .int .i64 r3, .int .i64 r4, .int .i64 code, .int .i64 res]] w fun e w' => e = .returned (.bool true) ∧ Below w.heap.size w w' := by
  go_enter Try.func143, Try.ntmps143
  go_wp2_with (go_at_call 170; refine (eqIntA5_same _ _ _ _ _ _).mono ?_; rintro e w1 ⟨rfl, hb⟩; obtain ⟨hc, hf⟩ := bcell hb; have HB := Lib.hid hb; clear hb)
  go_ret
  exact ⟨rfl, below_trans (below_alloc2 _ _ _) HB.out⟩
end Go.Proofs.Ythianfhfamkcmaa
