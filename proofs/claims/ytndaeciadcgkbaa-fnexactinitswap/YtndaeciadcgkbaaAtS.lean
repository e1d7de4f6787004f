/-
  The laws' choices out of bytes: at.
-/
import Derived.Test.YtndaeciadcgkbaaSrc
namespace Go.Proofs.Ytndaeciadcgkbaa
open Go.RowKit

end Go.Proofs.Ytndaeciadcgkbaa
