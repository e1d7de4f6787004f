/-
  The laws' choices out of bytes: at.
-/
import Derived.Test.YtjddmdhoeampcaaSrc
namespace Go.Proofs.Ytjddmdhoeampcaa
open Go.RowKit

end Go.Proofs.Ytjddmdhoeampcaa
