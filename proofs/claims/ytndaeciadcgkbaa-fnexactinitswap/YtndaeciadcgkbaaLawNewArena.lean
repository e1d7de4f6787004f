/-
  The walk of the law FnExactNewArena.
-/
import Derived.Test.YtndaeciadcgkbaaAllocD
import Derived.Test.YtndaeciadcgkbaaLawArenaOK
namespace Go.Proofs.Ytndaeciadcgkbaa
open Go.RowKit

end Go.Proofs.Ytndaeciadcgkbaa
