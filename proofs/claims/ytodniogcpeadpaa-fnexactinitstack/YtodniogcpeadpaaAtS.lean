/-
  The laws' choices out of bytes: at.
-/
import Derived.Test.YtodniogcpeadpaaSrc
namespace Go.Proofs.Ytodniogcpeadpaa
open Go.RowKit

end Go.Proofs.Ytodniogcpeadpaa
