/-
  Contracts: lists that are compared (the model's l01Same, the library's slices.Equal, the laws' sameInts), SameArena of both (chapter 2).
-/
import Derived.Test.YtndaeciadcgkbaaAddB
namespace Go.Proofs.Ytndaeciadcgkbaa
open Go.RowKit

end Go.Proofs.Ytndaeciadcgkbaa
