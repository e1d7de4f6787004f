/-
  InitQueue: the program's and the model's.
-/
import Derived.Test.YtjddmdhoeampcaaNodesB
import Derived.Test.YtjddmdhoeampcaaGoodB
import Derived.Test.YtjddmdhoeampcaaLawNewArena
namespace Go.Proofs.Ytjddmdhoeampcaa
open Go.RowKit

/-- The arena that InitQueue answers. -/
def initZs (zs : List Int) : List Int := if arenaB zs = true ∧ zs.length = 1 then [0, 6, 6, -1, 0, 0] else []
/-- The code that InitQueue answers. -/
def initCode (zs : List Int) : Int := if arenaB zs = true then (if zs.length = 1 then 0 else 8) else 1
theorem initZs_len (zs : List Int) : (initZs zs).length ≤ 6 := by
  unfold initZs; split <;> decide
theorem init_bad {zs : List Int} (h : arenaB zs = false) : initZs zs = [] ∧ initCode zs = 1 := by
  unfold initZs initCode; rw [h]; exact ⟨rfl, rfl⟩
theorem init_size {zs : List Int} (h : arenaB zs = true) (hl : zs.length ≠ 1) : initZs zs = [] ∧ initCode zs = 8 := by
  unfold initZs initCode; rw [if_neg (by simp [hl]), if_pos h, if_neg hl]; exact ⟨rfl, rfl⟩
theorem init_ok : initZs [0] = [0, 6, 6, -1, 0, 0] ∧ initCode [0] = 0 := by decide
theorem arena_one {zs : List Int} (h : arenaB zs = true) (hl : zs.length = 1) : zs = [0] := by
  obtain ⟨_, _, h3, _⟩ := arenaB_parts h
  match zs, hl with
  | [z], _ => simp [List.getD] at h3; rw [h3]

end Go.Proofs.Ytjddmdhoeampcaa
