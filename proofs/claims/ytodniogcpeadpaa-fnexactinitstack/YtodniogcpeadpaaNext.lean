/-
  The source of choices: next, l00Source.
-/
import Derived.Test.YtodniogcpeadpaaSrc
namespace Go.Proofs.Ytodniogcpeadpaa
open Go.RowKit

end Go.Proofs.Ytodniogcpeadpaa
