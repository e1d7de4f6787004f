/-
  Contract: AddCell of the model (chapter 2).
-/
import Derived.Test.YtjddmdhoeampcaaCasB
namespace Go.Proofs.Ytjddmdhoeampcaa
open Go.RowKit

end Go.Proofs.Ytjddmdhoeampcaa
