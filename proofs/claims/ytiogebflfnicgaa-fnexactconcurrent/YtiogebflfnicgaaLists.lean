/-
  Contracts of the program's list of cells: grown, with, joined; list, copyArena (chapter 2).
-/
import Derived.Test.YtiogebflfnicgaaArenaB
namespace Go.Proofs.Ytiogebflfnicgaa
open Go.RowKit

theorem Try.sizeInt : (Try.prog.info? 3).map (·.size) = some 1 := by kernel_rfl
theorem splice_front (zs : List Int) (m : Nat) : splice (ints (List.replicate (zs.length + m) 0)) 0 (ints zs) = ints (zs ++ List.replicate m 0) := by
  simp [splice, ints, List.drop_replicate]

theorem set_toNat (zs : List Int) (k : Nat) (v : Int) : zs.set ((k : Int).toNat) v = zs.set k v := by rw [Int.toNat_natCast]

set_option maxHeartbeats 1000000 in
theorem list_any (A : Option Addr) (n c : Nat) (w : World) :
    Calls Try.prog 120 #[.agg #[.slice A n c]] w fun e w' => e = .returned (.slice A n c) ∧ Below w.heap.size w w' := by
  go_enter Try.func120, Try.ntmps120
  go_wp2
  go_ret
  exact ⟨rfl, below_alloc _ _⟩

/-- A new arena of the list zs, in memory from B on. -/
def NewA (B : Nat) (w : World) (A : Option Addr) (c : Nat) (zs : List Int) : Prop := w.ownsRow B 3 1 (.slice A zs.length c) zs.length (ints zs)
theorem NewA.rd {B : Nat} {w : World} {A : Option Addr} {c : Nat} {zs : List Int} (h : NewA B w A c zs) : Rd w A zs := Rd.of_own h
theorem NewA.nil (B : Nat) (w : World) : NewA B w none 0 [] := World.ownsRow_nil _ _ _ _
theorem NewA.below {B : Nat} {w w' : World} {A : Option Addr} {c : Nat} {zs : List Int} (h : NewA B w A c zs) (hb : Below w.heap.size w w') : NewA B w' A c zs := own_below h hb
theorem NewA.base {B B' : Nat} {w : World} {A : Option Addr} {c : Nat} {zs : List Int} (h : NewA B w A c zs) (hb : B' ≤ B) : NewA B' w A c zs := own_base h hb
theorem NewA.setCell {B : Nat} {w : World} {A : Option Addr} {c : Nat} {zs : List Int} (h : NewA B w A c zs) {a : Addr} (ha : a.block < B) (u : Value) : NewA B (w.setCell a u) A c zs := ownsRow_setCell_below h ha u

end Go.Proofs.Ytiogebflfnicgaa
