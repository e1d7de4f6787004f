/-
  Contract: AddCell of the model (chapter 2).
-/
import Derived.Test.YtkjkbkioekiecaaCasB
namespace Go.Proofs.Ytkjkbkioekiecaa
open Go.RowKit

end Go.Proofs.Ytkjkbkioekiecaa
