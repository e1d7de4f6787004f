/-
  The source of choices: byte, next (the draws of the laws).
-/
import Derived.Test.YtjddmdhoeampcaaMem
import Derived.Deep.RegionWith
import Derived.StillTailTactics
import Derived.BigRegion
namespace Go.Proofs.Ytjddmdhoeampcaa
open Go.RowKit

/-- A slice of bytes at A, n of them. -/
def RdB (w : World) (A : Option Addr) (n : Nat) : Prop :=
  ∀ i, i < n → ∃ b o u, A = some ⟨b, o, none⟩ ∧ w.cell? ⟨b, o + i, none⟩ = some (.int .u8 u) ∧ 0 ≤ u ∧ u ≤ 255
theorem RdB.below {w w' : World} {A : Option Addr} {n : Nat} (h : RdB w A n) (hb : Below w.heap.size w w') : RdB w' A n := by
  intro i hi
  obtain ⟨b, o, u, hA, hc, hu⟩ := h i hi
  exact ⟨b, o, u, hA, by rw [hb.cell (p := ⟨b, o + i, none⟩) (block_lt_of_cell hc)]; exact hc, hu⟩

/-- The source at block g over the bytes at A: how many bytes were asked for is at most m. B: the bytes lie below block B, the source from B on. -/
structure Src (w : World) (g B : Nat) (A : Option Addr) (n c : Nat) (m : Int) : Prop where
  code : w.cell? ⟨g, 0, none⟩ = some (.slice A n c)
  rest : ∃ p s : Int, w.cell? ⟨g, 1, none⟩ = some (.int .i64 p) ∧ w.cell? ⟨g, 2, none⟩ = some (.int .i64 s) ∧ 0 ≤ p ∧ p ≤ m ∧ 0 ≤ s ∧ s < 2147483648
  froz : ∀ i, w.frozen? ⟨g, i, none⟩ = false
  bytes : RdB w A n
  low : ∀ a, A = some a → 0 < n → a.block < B
  high : B ≤ g

theorem Src.mono {w : World} {g B : Nat} {A : Option Addr} {n c : Nat} {m m' : Int} (h : Src w g B A n c m) (hm : m ≤ m') : Src w g B A n c m' := by
  obtain ⟨p, s, h1, h2, h3, h4, h5, h6⟩ := h.rest
  exact ⟨h.code, ⟨p, s, h1, h2, h3, by omega, h5, h6⟩, h.froz, h.bytes, h.low, h.high⟩
theorem Src.lt {w : World} {g B : Nat} {A : Option Addr} {n c : Nat} {m : Int} (h : Src w g B A n c m) : g < w.heap.size := block_lt_of_cell h.code
/-- It stays where its block and all below B stay. -/
theorem Src.kept {w w' : World} {g B : Nat} {A : Option Addr} {n c : Nat} {m : Int} (h : Src w g B A n c m) (hg : w'.heap[g]? = w.heap[g]?) (hb : ∀ k, k < B → w'.heap[k]? = w.heap[k]?) : Src w' g B A n c m := by
  have hc : ∀ i, w'.cell? ⟨g, i, none⟩ = w.cell? ⟨g, i, none⟩ := fun i => World.cell?_of_block (a := ⟨g, i, none⟩) hg
  have hf : ∀ i, w'.frozen? ⟨g, i, none⟩ = w.frozen? ⟨g, i, none⟩ := fun i => World.frozen?_of_block (a := ⟨g, i, none⟩) hg
  refine ⟨by rw [hc]; exact h.code, ?_, fun i => by rw [hf]; exact h.froz i, ?_, h.low, h.high⟩
  · obtain ⟨p, s, h1, h2, h3⟩ := h.rest
    exact ⟨p, s, by rw [hc]; exact h1, by rw [hc]; exact h2, h3⟩
  · intro i hi
    obtain ⟨b, o, u, hA, hcell, hu⟩ := h.bytes i hi
    have hlt := h.low _ hA (by omega)
    exact ⟨b, o, u, hA, (World.cell?_of_block (a := ⟨b, o + i, none⟩) (hb b hlt)).trans hcell, hu⟩
theorem Src.below {w w' : World} {g B : Nat} {A : Option Addr} {n c : Nat} {m : Int} (h : Src w g B A n c m) (hb : Below w.heap.size w w') : Src w' g B A n c m :=
  h.kept (hb.block g h.lt) (fun k hk => hb.block k (by have := h.high; have := h.lt; omega))
theorem Src.grown {w w' : World} {g B : Nat} {A : Option Addr} {n c : Nat} {m : Int} {row : Option Nat} (h : Src w g B A n c m) (hg : w.grownBy w' row) (hr : ∀ k, row = some k → B ≤ k ∧ k ≠ g) : Src w' g B A n c m :=
  h.kept (hg.block g h.lt (fun e => (hr g e.symm).2 rfl)) (fun k hk => hg.block k (by have := h.high; have := h.lt; omega) (fun e => by have := (hr k e.symm).1; omega))

theorem Src.heap {w w' : World} {g B : Nat} {A : Option Addr} {n c : Nat} {m : Int} (h : Src w g B A n c m) (hh : w'.heap = w.heap) : Src w' g B A n c m := h.kept (by rw [hh]) (fun k _ => by rw [hh])
/-- One number of the source is stored anew. -/
theorem Src.put1 {w : World} {g B : Nat} {A : Option Addr} {n c : Nat} {m m' p : Int} (h : Src w g B A n c m) (hp : 0 ≤ p) (hpm : p ≤ m') : Src (w.setCell ⟨g, 1, none⟩ (.int .i64 p)) g B A n c m' := by
  obtain ⟨p0, s0, h1, h2, _, _, h5, h6⟩ := h.rest
  refine ⟨(World.cell?_setCell_other _ _ _ _ (by simp)).trans h.code, ⟨p, s0, World.cell?_setCell_same _ _ _ h1, (World.cell?_setCell_other _ _ _ _ (by simp)).trans h2, hp, hpm, h5, h6⟩, fun i => ?_, ?_, h.low, h.high⟩
  · rw [World.frozen?_setCell]; exact h.froz i
  · intro i hi
    obtain ⟨b, o, u, hA, hcell, hu⟩ := h.bytes i hi
    have hlt := h.low _ hA (by omega)
    have hh := h.high
    exact ⟨b, o, u, hA, (World.cell?_setCell_other _ _ _ _ (by simp; intro e; dsimp only at hlt; omega)).trans hcell, hu⟩
theorem Src.put2 {w : World} {g B : Nat} {A : Option Addr} {n c : Nat} {m s : Int} (h : Src w g B A n c m) (hs : 0 ≤ s) (hsm : s < 2147483648) : Src (w.setCell ⟨g, 2, none⟩ (.int .i64 s)) g B A n c m := by
  obtain ⟨p0, s0, h1, h2, h3, h4, _, _⟩ := h.rest
  refine ⟨(World.cell?_setCell_other _ _ _ _ (by simp)).trans h.code, ⟨p0, s, (World.cell?_setCell_other _ _ _ _ (by simp)).trans h1, World.cell?_setCell_same _ _ _ h2, h3, h4, hs, hsm⟩, fun i => ?_, ?_, h.low, h.high⟩
  · rw [World.frozen?_setCell]; exact h.froz i
  · intro i hi
    obtain ⟨b, o, u, hA, hcell, hu⟩ := h.bytes i hi
    have hlt := h.low _ hA (by omega)
    have hh := h.high
    exact ⟨b, o, u, hA, (World.cell?_setCell_other _ _ _ _ (by simp; intro e; dsimp only at hlt; omega)).trans hcell, hu⟩
theorem grown_setCell (w : World) (g i : Nat) (v : Value) : w.grownBy (w.setCell ⟨g, i, none⟩ v) (some g) :=
  ⟨rfl, rfl, rfl, by simp [World.setCell], fun k _ hk => Below.heap_setCell w ⟨g, i, none⟩ v k (fun e => hk (by rw [e]))⟩

end Go.Proofs.Ytjddmdhoeampcaa
