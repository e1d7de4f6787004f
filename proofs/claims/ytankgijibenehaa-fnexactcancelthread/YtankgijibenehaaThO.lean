/-
  Threads (chapter 3): BeginCall.
-/
import Derived.Test.YtankgijibenehaaThN
import Derived.Test.YtankgijibenehaaThT
import Derived.Test.YtankgijibenehaaBoxT
namespace Go.Proofs.Ytankgijibenehaa
open Go.RowKit

end Go.Proofs.Ytankgijibenehaa
