/-
  Contracts: CasCell of the model; AddCell of the program and of the model (chapter 2).
-/
import Derived.Test.YtiogebflfnicgaaCas
import Derived.Deep.RegionWith
namespace Go.Proofs.Ytiogebflfnicgaa
open Go.RowKit

def addCode (zs : List Int) (p n : Int) : Int := if writeCode zs p n = 0 then (if wordB (zs.getD p.toNat 0 + n) = true then 0 else 4) else writeCode zs p n
def addZs (zs : List Int) (p n : Int) : List Int := if addCode zs p n = 0 then zs.set p.toNat (zs.getD p.toNat 0 + n) else []
def addWas (zs : List Int) (p n : Int) : Int := if addCode zs p n = 0 then zs.getD p.toNat 0 else 0
theorem addZs_len (zs : List Int) (p n : Int) : (addZs zs p n).length ≤ zs.length := by
  unfold addZs; split <;> simp
theorem word_at {zs : List Int} {k : Nat} (ha : arenaB zs = true) (hk : k < zs.length) : -1000000000 ≤ zs.getD k 0 ∧ zs.getD k 0 ≤ 1000000000 :=
  (wordB_iff _).1 ((wordsB_iff zs).1 (arenaB_parts ha).2.2.2 k hk)

end Go.Proofs.Ytiogebflfnicgaa
