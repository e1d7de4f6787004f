/-
  Two closed facts on the program, for the tied cards.
-/
import Derived.Test.YtdnkhddhkdegbaaDoorRows
import Derived.WalkKit
import Derived.ProofKit
import Derived.OpenShut
namespace Go.Proofs.YtdnkhddhkdegbaaDoor
open Go.RowKit

theorem own : ownKnob Tryd.prog.godebug = none := by kernel_rfl
theorem laidOut : laidOutB Tryd.prog = true := by kernel_rfl
end Go.Proofs.YtdnkhddhkdegbaaDoor
