/-
  Threads (chapter 3): BeginCall, the program's and the model's.
-/
import Derived.Test.YtankgijibenehaaThO
namespace Go.Proofs.Ytankgijibenehaa
open Go.RowKit

end Go.Proofs.Ytankgijibenehaa
