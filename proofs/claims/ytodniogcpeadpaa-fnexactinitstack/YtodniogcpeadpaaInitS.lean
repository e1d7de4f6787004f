/-
  InitQueue: the model's.
-/
import Derived.Test.YtodniogcpeadpaaInit
import Derived.Deep.DeepCutAuto
namespace Go.Proofs.Ytodniogcpeadpaa
open Go.RowKit

theorem allocOne (A B : Option Addr) (c d : Nat) (w : World) (hA : Rd w A [0]) (hB : Rd w B [6, 6, -1, 0, 0]) :
    Calls Try.prog 34 #[.agg #[.slice A 1 c], .slice B 5 d] w fun e w' => ∃ C k, e = .returned (.tuple #[.agg #[.slice C 6 k], .int .i64 1]) ∧
      NewA w.heap.size w' C k [0, 6, 6, -1, 0, 0] ∧ Below w.heap.size w w' :=
  l01Alloc_any A B c d [0] [6, 6, -1, 0, 0] w (by decide) (by decide) hA hB
theorem rd_lit2 (ls : List Int) (w : World) (o : Obj) (k : Nat) (hk : w.heap.size = k) : Rd ((w.alloc (.cells (ints ls).toArray 3)).alloc o) (some ⟨k, 0, none⟩) ls :=
  (rd_lit ls w k hk).below (below_alloc _ _)

theorem alloc2_cell (w : World) (o : Obj) (v : Value) (t : TypeId) : ((w.alloc o).alloc (.cells #[v] t)).cell? ⟨w.heap.size + 1, 0, none⟩ = some v := by simp
theorem alloc2_froz (w : World) (o : Obj) (v : Value) (t : TypeId) : ((w.alloc o).alloc (.cells #[v] t)).frozen? ⟨w.heap.size + 1, 0, none⟩ = false := by simp
theorem alloc1_cell (w : World) (o : Obj) (v : Value) (t : TypeId) : ((w.alloc (.cells #[v] t)).alloc o).cell? ⟨w.heap.size, 0, none⟩ = some v := by simp
theorem alloc1_froz (w : World) (o : Obj) (v : Value) (t : TypeId) : ((w.alloc (.cells #[v] t)).alloc o).frozen? ⟨w.heap.size, 0, none⟩ = false := by simp
theorem alloc2_lt (w : World) (o p : Obj) : w.heap.size + 1 < ((w.alloc o).alloc p).heap.size := by simp

/-- A box that holds an arena of our own, and a second one that is as it was. -/
def BoxedA (w : World) (L : List Int) (s : Value) (wx : World) : Prop :=
  ∃ g C k, s = .pointer (some ⟨g, 0, none⟩) ∧ w.heap.size + 1 < g ∧ wx.cell? ⟨g, 0, none⟩ = some (.slice C L.length k) ∧ NewA (w.heap.size + 1 + 1) wx C k L ∧ wx.cell? ⟨w.heap.size + 1, 0, none⟩ = some (.slice none 0 0) ∧ wx.frozen? ⟨w.heap.size + 1, 0, none⟩ = false ∧ Below w.heap.size w wx
theorem BoxedA.late {w u w1 : World} {L : List Int} {C : Option Addr} {k : Nat} {lo : Nat} (hz : u.heap.size = w.heap.size + 1 + 1) (hb : Below w.heap.size w u) (hr : u.cell? ⟨w.heap.size + 1, 0, none⟩ = some (.slice none 0 0)) (hf : u.frozen? ⟨w.heap.size + 1, 0, none⟩ = false) (hu : Below u.heap.size u w1) (hn : NewA lo w1 C k L) (hlo : u.heap.size ≤ lo) :
    BoxedA w L (.pointer (some ⟨w1.heap.size, 0, none⟩)) (w1.alloc (.cells #[.slice C L.length k] 29)) := by
  have hu2 := below_trans hu (below_alloc w1 (.cells #[.slice C L.length k] 29))
  refine ⟨_, C, k, rfl, ?_, by simp, (hn.below (below_alloc _ _)).base (by omega), cell_keep hu2 hr, frozen_keep hu2 (by omega) hf, below_trans hb hu2⟩
  have := hu.size; omega
theorem BoxedA.early {w u w1 : World} {L : List Int} {C : Option Addr} {k : Nat} {lo g : Nat} {v : Value} (hz : u.heap.size = w.heap.size + 1 + 1) (hb : Below w.heap.size w u) (hr : u.cell? ⟨w.heap.size + 1, 0, none⟩ = some (.slice none 0 0)) (hf : u.frozen? ⟨w.heap.size + 1, 0, none⟩ = false) (hu : Below u.heap.size u w1) (hn : NewA lo w1 C k L) (hlo : g < lo) (hlo2 : u.heap.size ≤ lo) (hg : u.heap.size ≤ g) (hx : w1.cell? ⟨g, 0, none⟩ = some v) :
    BoxedA w L (.pointer (some ⟨g, 0, none⟩)) (w1.setCell ⟨g, 0, none⟩ (.slice C L.length k)) := by
  refine ⟨g, C, k, rfl, by omega, World.cell?_setCell_same _ _ _ hx, (hn.setCell hlo _).base (by omega), ?_, ?_, ?_⟩
  · rw [World.cell?_setCell_other _ _ _ _ (by simp <;> omega)]; exact cell_keep hu hr
  · rw [World.frozen?_setCell]; exact frozen_keep hu (by omega) hf
  · exact (below_trans hb hu).setCell (by simp; omega) _

end Go.Proofs.Ytodniogcpeadpaa
