/-
  Threads (chapter 3): BeginCall in one contract.
-/
import Derived.Test.YtankgijibenehaaThP
namespace Go.Proofs.Ytankgijibenehaa
open Go.RowKit

end Go.Proofs.Ytankgijibenehaa
