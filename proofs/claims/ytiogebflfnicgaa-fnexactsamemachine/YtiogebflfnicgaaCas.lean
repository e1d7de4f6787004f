/-
  Contracts: CasCell of the program; l01Cas, CasCell of the model (chapter 2).
-/
import Derived.Test.YtiogebflfnicgaaStoreB
namespace Go.Proofs.Ytiogebflfnicgaa
open Go.RowKit

def casB (zs : List Int) (p old v : Int) : Bool := (writeCode zs p v == 0) && (zs.getD p.toNat 0 == old)
def casZs (zs : List Int) (p old v : Int) : List Int := if writeCode zs p v = 0 then (if (zs.getD p.toNat 0 == old) = true then zs.set p.toNat v else zs) else []
theorem casZs_len (zs : List Int) (p old v : Int) : (casZs zs p old v).length ≤ zs.length := by
  unfold casZs; split
  · split <;> simp
  · simp
theorem ret_agg_bool_int {k : IntKind} {v : Value} {b b' : Bool} {x y : Int} (h : x = y) (hb : b = b') : Ending.returned (.tuple #[.agg #[v], .bool b, .int k x]) = .returned (.tuple #[.agg #[v], .bool b', .int k y]) := by rw [h, hb]
theorem ret_agg_int_int {k : IntKind} {v : Value} {b b' : Int} {x y : Int} (h : x = y) (hb : b = b') : Ending.returned (.tuple #[.agg #[v], .int k b, .int k x]) = .returned (.tuple #[.agg #[v], .int k b', .int k y]) := by rw [h, hb]

/-- l01Cas: where the cell is there and the number fits. -/
theorem putZ_of {zs : List Int} {k : Nat} {v : Int} (hk1 : 1 ≤ k) (hk : k < zs.length) (hw : wordB v = true) : putZ zs k v = zs.set k v := by
  unfold putZ; rw [if_pos ⟨by simp [inB]; omega, hw⟩, Int.toNat_natCast]
theorem loadZ_of {zs : List Int} {k : Nat} (hk1 : 1 ≤ k) (hk : k < zs.length) : loadZ zs k = zs.getD k 0 := by
  unfold loadZ; rw [if_pos (by simp [inB]; omega), Int.toNat_natCast]

end Go.Proofs.Ytiogebflfnicgaa
