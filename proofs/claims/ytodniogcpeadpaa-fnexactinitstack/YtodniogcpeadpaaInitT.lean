/-
  InitQueue: the model's contract.
-/
import Derived.Test.YtodniogcpeadpaaInitS
namespace Go.Proofs.Ytodniogcpeadpaa
open Go.RowKit

end Go.Proofs.Ytodniogcpeadpaa
