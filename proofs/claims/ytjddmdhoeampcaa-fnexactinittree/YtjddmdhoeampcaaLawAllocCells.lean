/-
  The walk of the law FnExactAllocCells.
-/
import Derived.Test.YtjddmdhoeampcaaAllocD
import Derived.Test.YtjddmdhoeampcaaLawArenaOK
namespace Go.Proofs.Ytjddmdhoeampcaa
open Go.RowKit

theorem eqIntS_same (A B : Option Addr) (c d : Nat) (xs : List Int) (w : World) (hn : xs.length ≤ maxLen) (hA : Rd w A xs) (hB : Rd w B xs) :
    Calls Try.prog 44 #[.slice A xs.length c, .slice B xs.length d] w fun e w' => e = .returned (.bool true) ∧ Below w.heap.size w w' :=
  (eqIntS_any A B c d xs xs w hn hn hA hB).mono fun e w' ⟨he, n, hw⟩ => ⟨by rw [he, decide_eq_true rfl], by rw [hw]; exact below_drewN n⟩

end Go.Proofs.Ytjddmdhoeampcaa
