/-
  The walks of the laws FnExactArenaOK and FnExactLoadCell.
-/
import Derived.Test.YtjddmdhoeampcaaLoad
import Derived.Test.YtjddmdhoeampcaaLists
import Derived.Deep.RegionWith
namespace Go.Proofs.Ytjddmdhoeampcaa
open Go.RowKit



theorem leftB_small {n : Nat} (h : ¬ leftB 1048576 n < 0) : n ≤ 1048576 := by
  unfold leftB at h
  by_cases h' : (1048576 : Int) - n < 0
  · rw [if_pos h'] at h; omega
  · omega

end Go.Proofs.Ytjddmdhoeampcaa
