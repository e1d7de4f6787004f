/-
  Contract: AddCell of the model (chapter 2).
-/
import Derived.Test.YtiogebflfnicgaaCasB
namespace Go.Proofs.Ytiogebflfnicgaa
open Go.RowKit

end Go.Proofs.Ytiogebflfnicgaa
