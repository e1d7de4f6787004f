/-
  InitSwap: the model's contract; InitQueue's in the same words.
-/
import Derived.Test.YtjddmdhoeampcaaInitT
import Derived.Test.YtjddmdhoeampcaaLaid
namespace Go.Proofs.Ytjddmdhoeampcaa
open Go.RowKit

theorem init_laid (zs : List Int) : initZs zs = laidZs zs 1 [6, 6, -1, 0, 0] ∧ initCode zs = laidCode zs 1 := by
  refine ⟨?_, rfl⟩
  unfold initZs laidZs
  by_cases h : arenaB zs = true ∧ zs.length = 1
  · rw [if_pos h, if_pos h, arena_one h.1 h.2]; rfl
  · rw [if_neg h, if_neg h]
theorem allocOnly (A B : Option Addr) (c d : Nat) (zs : List Int) (w : World) (h6 : zs.length = 6) (hA : Rd w A zs) (hB : Rd w B [0]) :
    Calls Try.prog 41 #[.agg #[.slice A zs.length c], .slice B 1 d] w fun e w' => ∃ C k, e = .returned (.tuple #[.agg #[.slice C (zs ++ [0]).length k], .int .i64 6]) ∧
      NewA w.heap.size w' C k (zs ++ [0]) ∧ Below w.heap.size w w' := by
  have h := l01Alloc_any A B c d zs [0] w (by omega) (by decide) hA hB
  have hf : ¬ 400 < zs.length + [(0 : Int)].length := by simp; omega
  rw [if_neg hf, if_neg hf, show (zs.length : Int) = 6 by omega] at h
  exact h

end Go.Proofs.Ytjddmdhoeampcaa
