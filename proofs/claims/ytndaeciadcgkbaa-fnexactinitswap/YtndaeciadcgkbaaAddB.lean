/-
  Contract: AddCell of the model (chapter 2).
-/
import Derived.Test.YtndaeciadcgkbaaCasB
namespace Go.Proofs.Ytndaeciadcgkbaa
open Go.RowKit

end Go.Proofs.Ytndaeciadcgkbaa
