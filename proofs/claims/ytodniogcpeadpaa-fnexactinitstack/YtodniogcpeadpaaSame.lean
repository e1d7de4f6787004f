/-
  Contracts: lists that are compared (the model's l01Same, the library's slices.Equal, the laws' sameInts), SameArena of both (chapter 2).
-/
import Derived.Test.YtodniogcpeadpaaAddB
namespace Go.Proofs.Ytodniogcpeadpaa
open Go.RowKit

end Go.Proofs.Ytodniogcpeadpaa
