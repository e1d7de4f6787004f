/-
  The walks of the laws FnExactArenaOK and FnExactLoadCell.
-/
import Derived.Test.YtodniogcpeadpaaLoad
import Derived.Test.YtodniogcpeadpaaLists
import Derived.Deep.RegionWith
namespace Go.Proofs.Ytodniogcpeadpaa
open Go.RowKit



theorem leftB_small {n : Nat} (h : ¬ leftB 1048576 n < 0) : n ≤ 1048576 := by
  unfold leftB at h
  by_cases h' : (1048576 : Int) - n < 0
  · rw [if_pos h'] at h; omega
  · omega

end Go.Proofs.Ytodniogcpeadpaa
