/-
  The source of choices: next, l00Source.
-/
import Derived.Test.YtndaeciadcgkbaaSrc
namespace Go.Proofs.Ytndaeciadcgkbaa
open Go.RowKit

end Go.Proofs.Ytndaeciadcgkbaa
