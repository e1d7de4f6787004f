/-
  The same contracts, the list that comes out under a name of the caller's.
-/
import Derived.Test.YtjddmdhoeampcaaGoodA
namespace Go.Proofs.Ytjddmdhoeampcaa
open Go.RowKit

theorem rd_lit (ls : List Int) (w : World) (k : Nat) (hk : w.heap.size = k) : Rd (w.alloc (.cells (ints ls).toArray 3)) (some ⟨k, 0, none⟩) ls := by
  subst hk
  intro i hi
  refine ⟨_, 0, rfl, ?_⟩
  rw [Nat.zero_add, cell_of_row _ _ i _ _ _ (heap_alloc_new w _)]
  rw [List.getElem?_toArray]
  exact ints_get ls i hi
theorem allocGoodL (A B : Option Addr) (c d : Nat) (zs ls : List Int) (w : World) (ha : arenaB zs = true) (h1 : 1 ≤ ls.length) (h8 : ls.length ≤ 8) (hw : wordsB ls = true) (hfit : zs.length + ls.length ≤ 400) (hA : Rd w A zs) (hB : Rd w B ls) (L : List Int) (hL : L = zs ++ ls) :
    Calls Try.prog 93 #[.agg #[.slice A zs.length c], .slice B ls.length d] w fun e w' => ∃ C k, e = .returned (.tuple #[.agg #[.slice C L.length k], .int .i64 zs.length, .int .i64 0]) ∧ NewA w.heap.size w' C k L ∧ Below w.heap.size w w' := by
  subst hL; exact allocGood A B c d zs ls w ha h1 h8 hw hfit hA hB
end Go.Proofs.Ytjddmdhoeampcaa
