/-
  The source of choices: next, l00Source.
-/
import Derived.Test.YtjddmdhoeampcaaSrc
namespace Go.Proofs.Ytjddmdhoeampcaa
open Go.RowKit

end Go.Proofs.Ytjddmdhoeampcaa
