/-
  The walk of the law FnExactNewArena.
-/
import Derived.Test.YtjddmdhoeampcaaAllocD
import Derived.Test.YtjddmdhoeampcaaLawArenaOK
namespace Go.Proofs.Ytjddmdhoeampcaa
open Go.RowKit

set_option maxHeartbeats 1000000 in
theorem specNewArena_any (w : World) :
    Calls Try.prog 124 #[] w fun e w' => ∃ B d, e = .returned (.agg #[.slice B ([0] : List Int).length d]) ∧ NewA w.heap.size w' B d [0] ∧ Below w.heap.size w w' := by
  have hO : Hid (NewA (w.heap.size + 1) ((w.alloc (.cells #[.slice (some ⟨w.heap.size + 1, 0, none⟩) 1 1] 26)).alloc (.cells #[.int .i64 0] 3)) (some ⟨w.heap.size + 1, 0, none⟩) 1 [0]) := by
    have h := World.ownsRow_lit (base := w.heap.size + 1) (e := 3) (size := 1) (w.alloc (.cells #[.slice (some ⟨w.heap.size + 1, 0, none⟩) 1 1] 26)) #[.int .i64 0] 1 (by simp) (by unfold maxLen; omega) rfl
    exact Lib.hid (by simpa [NewA, ints] using h)
  go_enter Try.func124, Try.ntmps124
  go_wp2
  refine bodyPost_ret (v := .agg #[.slice (some ⟨w.heap.size + 1, 0, none⟩) 1 1]) (by simp [results, Try.results124, go_sem]) rfl ⟨some ⟨w.heap.size + 1, 0, none⟩, 1, rfl, ?_, ?_⟩
  · exact hO.out.base (by omega)
  · exact below_alloc2 _ _ _

set_option maxHeartbeats 1000000 in
theorem implNewArena_any (w : World) :
    Calls Try.prog 55 #[] w fun e w' => ∃ B d, e = .returned (.agg #[.slice B ([0] : List Int).length d]) ∧ NewA w.heap.size w' B d [0] ∧ Below w.heap.size w w' := by
  have hO : Hid (NewA (w.heap.size + 1) ((w.alloc (.cells #[.slice (some ⟨w.heap.size + 1, 0, none⟩) 1 1] 26)).alloc (.cells #[.int .i64 0] 3)) (some ⟨w.heap.size + 1, 0, none⟩) 1 [0]) := by
    have h := World.ownsRow_lit (base := w.heap.size + 1) (e := 3) (size := 1) (w.alloc (.cells #[.slice (some ⟨w.heap.size + 1, 0, none⟩) 1 1] 26)) #[.int .i64 0] 1 (by simp) (by unfold maxLen; omega) rfl
    exact Lib.hid (by simpa [NewA, ints] using h)
  go_enter Try.func55, Try.ntmps55
  go_wp2
  refine bodyPost_ret (v := .agg #[.slice (some ⟨w.heap.size + 1, 0, none⟩) 1 1]) (by simp [results, Try.results55, go_sem]) rfl ⟨some ⟨w.heap.size + 1, 0, none⟩, 1, rfl, ?_, ?_⟩
  · exact hO.out.base (by omega)
  · exact below_alloc2 _ _ _

end Go.Proofs.Ytjddmdhoeampcaa
