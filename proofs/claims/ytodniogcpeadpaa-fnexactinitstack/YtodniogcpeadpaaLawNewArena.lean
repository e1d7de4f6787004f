/-
  The walk of the law FnExactNewArena.
-/
import Derived.Test.YtodniogcpeadpaaAllocD
import Derived.Test.YtodniogcpeadpaaLawArenaOK
namespace Go.Proofs.Ytodniogcpeadpaa
open Go.RowKit

end Go.Proofs.Ytodniogcpeadpaa
