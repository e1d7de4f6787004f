/-
  Contract: AddCell of the model (chapter 2).
-/
import Derived.Test.YtodniogcpeadpaaCasB
namespace Go.Proofs.Ytodniogcpeadpaa
open Go.RowKit

end Go.Proofs.Ytodniogcpeadpaa
