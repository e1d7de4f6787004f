/-
  Contracts: l01Load, l01Store, StoreCell of the model (chapter 2).
-/
import Derived.Test.YtiogebflfnicgaaStore
namespace Go.Proofs.Ytiogebflfnicgaa
open Go.RowKit

def loadZ (zs : List Int) (p : Int) : Int := if inB p 1 ((zs.length : Int) - 1) = true then zs.getD p.toNat 0 else 0
def putZ (zs : List Int) (p v : Int) : List Int := if inB p 1 ((zs.length : Int) - 1) = true ∧ wordB v = true then zs.set p.toNat v else zs
theorem putZ_length (zs : List Int) (p v : Int) : (putZ zs p v).length = zs.length := by
  unfold putZ; split <;> simp

theorem NewA.put {B : Nat} {w : World} {g c : Nat} {zs : List Int} (h : NewA B w (some ⟨g, 0, none⟩) c zs) (k : Nat) (v : Int) : NewA B (w.setCell ⟨g, k, none⟩ (.int .i64 v)) (some ⟨g, 0, none⟩) c (zs.set k v) := by
  unfold NewA at *
  have := (h.stored k (.int .i64 v)).1
  rw [ints_set] at this
  rwa [List.length_set]

theorem eqArena_same (A B : Option Addr) (c d : Nat) (xs : List Int) (w : World) (hn : xs.length ≤ maxLen) (hA : Rd w A xs) (hB : Rd w B xs) :
    Calls Try.prog 83 #[.agg #[.slice A xs.length c], .agg #[.slice B xs.length d]] w fun e w' => e = .returned (.bool true) ∧ Below w.heap.size w w' :=
  (eqArena_any A B c d xs xs w hn hn hA hB).mono fun e w' ⟨he, hb⟩ => ⟨by rw [he, decide_eq_true rfl], hb⟩
theorem NewA.kept {B : Nat} {w w' : World} {A : Option Addr} {c : Nat} {zs : List Int} {row : Option Nat} (h : NewA B w A c zs) (hg : w.grownBy w' row) (hne : Value.ownBlock (.slice A zs.length c) = none ∨ Value.ownBlock (.slice A zs.length c) ≠ row) : NewA B w' A c zs := World.ownsRow.kept h hg hne
theorem ranges_ne {v u : Value} {lo hi lo' hi' : Nat} (h1 : ∀ k, v.ownBlock = some k → lo ≤ k ∧ k < hi) (h2 : ∀ k, u.ownBlock = some k → lo' ≤ k ∧ k < hi') (hd : hi ≤ lo' ∨ hi' ≤ lo) : v.ownBlock = none ∨ v.ownBlock ≠ u.ownBlock := by
  cases hv : v.ownBlock with
  | none => exact .inl rfl
  | some k =>
    refine .inr fun e => ?_
    have a := h1 k hv
    have b := h2 k e.symm
    omega
theorem storeZs_len (zs : List Int) (p v : Int) : (storeZs zs p v).length ≤ zs.length := by
  unfold storeZs; split <;> simp

theorem frozen_keep {w w' : World} (hb : Below w.heap.size w w') {b o : Nat} (hlt : b < w.heap.size) (h : w.frozen? ⟨b, o, none⟩ = false) : w'.frozen? ⟨b, o, none⟩ = false :=
  (hb.frozen (p := ⟨b, o, none⟩) hlt).trans h

end Go.Proofs.Ytiogebflfnicgaa
