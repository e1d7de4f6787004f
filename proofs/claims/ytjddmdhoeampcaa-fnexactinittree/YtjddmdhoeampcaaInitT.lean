/-
  InitQueue: the model's contract.
-/
import Derived.Test.YtjddmdhoeampcaaInitS
namespace Go.Proofs.Ytjddmdhoeampcaa
open Go.RowKit

end Go.Proofs.Ytjddmdhoeampcaa
