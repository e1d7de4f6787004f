/-
  Two closed facts on the program, for the tied cards.
-/
import Derived.Test.YtepjaahclcpaaaaDoorRows
import Derived.WalkKit
import Derived.ProofKit
import Derived.OpenShut
namespace Go.Proofs.YtepjaahclcpaaaaDoor
open Go.RowKit

theorem own : ownKnob Tryd.prog.godebug = none := by kernel_rfl
theorem laidOut : laidOutB Tryd.prog = true := by kernel_rfl
end Go.Proofs.YtepjaahclcpaaaaDoor
