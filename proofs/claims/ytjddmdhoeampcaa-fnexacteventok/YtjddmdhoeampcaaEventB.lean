/-
  EventOK of the model, of a call that begins: B.
-/
import Derived.Test.YtjddmdhoeampcaaThS
import Derived.BigQuiet
namespace Go.Proofs.Ytjddmdhoeampcaa
open Go.RowKit

set_option maxHeartbeats 4000000 in
theorem specEv_ntt (th op arg n : Int) (h1 : inB th 0 3 = true) (h2 : opB op = true) (h3 : argB op arg = true) (hw : waitB op = true) (h4 : inB n 0 1000 = true) (w : World) : Calls Try.prog 34 #[.agg #[.int .i64 1, .int .i64 th, .int .i64 op, .int .i64 arg, .int .i64 n]] w fun e w' => e = .returned (.bool true) ∧ Below w.heap.size w w' := by
  go_enter Try.func34, Try.ntmps34
  go_wp2_with fail
  go_quiet (first | (go_at_call 50; exact Calls.quiet_of_same ((l01In_any _ _ _ _).mono fun _ _ h => ⟨h.1, h.2.symm⟩)) | (go_at_call 66; exact Calls.quiet_of_same ((l02Op_any _ _).mono fun _ _ h => ⟨h.1, h.2.symm⟩)) | (go_at_call 67; exact Calls.quiet_of_same ((l02Arg_any _ _ _).mono fun _ _ h => ⟨h.1, h.2.symm⟩)) | (go_at_call 84; exact Calls.quiet_of_same ((specIsWaiting_any _ _).mono fun _ _ h => ⟨h.1, h.2.symm⟩)) | (go_at_call 77; exact Calls.quiet_of_same ((bit_true _).mono fun _ _ h => ⟨h.1, h.2.symm⟩)))
  go_wp2
  go_ret
  exact ⟨ret_bool (by first | rfl | exact h4 | (rw [show IntKind.i64.wrap 1000 = 1000 from by decide]; exact h4) | simpa using h4), below_trans (below_alloc _ _) (below_drewN _)⟩

set_option maxHeartbeats 4000000 in
theorem specEv_ntf (th op arg n : Int) (h1 : inB th 0 3 = true) (h2 : opB op = true) (h3 : argB op arg = true) (hw : waitB op = true) (h4 : inB n 0 1000 = false) (w : World) : Calls Try.prog 34 #[.agg #[.int .i64 1, .int .i64 th, .int .i64 op, .int .i64 arg, .int .i64 n]] w fun e w' => e = .returned (.bool false) ∧ Below w.heap.size w w' := by
  go_enter Try.func34, Try.ntmps34
  go_wp2_with fail
  go_quiet (first | (go_at_call 50; exact Calls.quiet_of_same ((l01In_any _ _ _ _).mono fun _ _ h => ⟨h.1, h.2.symm⟩)) | (go_at_call 66; exact Calls.quiet_of_same ((l02Op_any _ _).mono fun _ _ h => ⟨h.1, h.2.symm⟩)) | (go_at_call 67; exact Calls.quiet_of_same ((l02Arg_any _ _ _).mono fun _ _ h => ⟨h.1, h.2.symm⟩)) | (go_at_call 84; exact Calls.quiet_of_same ((specIsWaiting_any _ _).mono fun _ _ h => ⟨h.1, h.2.symm⟩)) | (go_at_call 77; exact Calls.quiet_of_same ((bit_true _).mono fun _ _ h => ⟨h.1, h.2.symm⟩)))
  go_wp2
  go_ret
  exact ⟨ret_bool (by first | rfl | exact h4 | (rw [show IntKind.i64.wrap 1000 = 1000 from by decide]; exact h4) | simpa using h4), below_trans (below_alloc _ _) (below_drewN _)⟩
end Go.Proofs.Ytjddmdhoeampcaa
