/-
  The source of choices: arena, ArenaDrawn.
-/
import Derived.Test.YtjddmdhoeampcaaNext
import Derived.Test.YtjddmdhoeampcaaLists
import Derived.Test.YtjddmdhoeampcaaAllocC
import Derived.Test.YtjddmdhoeampcaaLawNewArena
namespace Go.Proofs.Ytjddmdhoeampcaa
open Go.RowKit

/-- What a drawn arena is. -/
def Good (zs : List Int) : Prop := 1 ≤ zs.length ∧ zs.getD 0 0 = 0 ∧ wordsB zs = true
theorem Good.start : Good [0] := ⟨by simp, rfl, by decide⟩
theorem Good.snoc {zs : List Int} (h : Good zs) {x : Int} (hx : wordB x = true) : Good (zs ++ [x]) := by
  obtain ⟨h1, h2, h3⟩ := h
  refine ⟨by simp, ?_, ?_⟩
  · rw [List.getD, List.getElem?_append_left (by omega)]; exact h2
  · unfold wordsB at *; rw [List.all_append, h3]; simp [hx]
theorem Good.arena {zs : List Int} (h : Good zs) (hl : zs.length ≤ 400) : arenaB zs = true := arenaB_true h.1 hl (by rw [h.2.1]; rfl) h.2.2

/-- A struct of one slice in a block of its own. -/
def BoxA (w : World) (k : Nat) (v : Value) : Prop := w.heap[k]? = some (.cells #[v] 26 (0, 0))
theorem BoxA.cell {w : World} {k : Nat} {v : Value} (h : BoxA w k v) : w.cell? ⟨k, 0, none⟩ = some v := by rw [cell_of_row w k 0 #[v] _ _ h]; rfl
theorem BoxA.froz {w : World} {k : Nat} {v : Value} (h : BoxA w k v) : w.frozen? ⟨k, 0, none⟩ = false := frozen_of_row w k 0 #[v] _ h
theorem BoxA.new (w : World) (v : Value) : BoxA (w.alloc (.cells #[v] 26)) w.heap.size v := heap_alloc_new w _
theorem BoxA.set {w : World} {k : Nat} {v : Value} (h : BoxA w k v) (u : Value) : BoxA (w.setCell ⟨k, 0, none⟩ u) k u := heap_setCell_same w k 0 #[v] _ u h
theorem BoxA.lt {w : World} {k : Nat} {v : Value} (h : BoxA w k v) : k < w.heap.size := block_lt_of_cell h.cell
theorem BoxA.grown {w w' : World} {k : Nat} {v : Value} {row : Option Nat} (h : BoxA w k v) (hg : w.grownBy w' row) (hne : some k ≠ row) : BoxA w' k v := (hg.block k h.lt hne).trans h
theorem BoxA.below {w w' : World} {k : Nat} {v : Value} (h : BoxA w k v) (hb : Below w.heap.size w w') : BoxA w' k v := (hb.block k h.lt).trans h
/-- A row of integers never lies in such a block. -/
theorem BoxA.ne_own {w : World} {k base n : Nat} {v u : Value} {xs : List Value} (h : BoxA w k v) (ho : w.ownsRow base 3 1 u n xs) : some k ≠ u.ownBlock := by
  rcases ho.2 with ⟨rfl, _⟩ | ⟨g', cap, cur, rfl, _, hh, _⟩
  · simp [Value.ownBlock]
  · intro he
    have : k = g' := by simpa [Value.ownBlock] using he
    subst this
    unfold BoxA at h
    rw [h] at hh
    injection hh with hh
    injection hh with _ ht
    exact absurd ht (by decide)

theorem le_alloc {w : World} {k : Nat} (h : k ≤ w.heap.size) (o : Obj) : k ≤ (w.alloc o).heap.size := by rw [size_alloc]; omega
theorem rd_one (w : World) (x : Int) (k : Nat) (hk : w.heap.size = k) : Rd (w.alloc (.cells #[.int .i64 x] 3)) (some ⟨k, 0, none⟩) [x] := by
  subst hk
  intro i hi
  obtain rfl : i = 0 := by simp at hi; omega
  exact ⟨_, 0, rfl, by simp⟩

/-- One integer appended to a row of the call's own, as a step of a region that draws its order. -/
theorem step_append_one {ops : Array Oper} {o : Oper} {a : Act} {w : World} {K : Act → World → Prop} {Q : Exit → Act → World → Prop} {E : Prop}
    (hgd : o.guard = none) (s x : Operand) (ho : o.op = Op.call { callee := Callee.builtin Builtin.append, args := #[s, x], argTypes := #[22, 22] })
    (base : Nat) (C : Option Addr) (d : Nat) (xs : List Int) (y : Int) (hs : a.eval s = .slice C xs.length d) (hx : a.eval x = .slice (some ⟨w.heap.size, 0, none⟩) 1 1)
    (hown : NewA base w C d xs) (hlen : xs.length ≤ 1048576) (hbase : base ≤ w.heap.size)
    (h : ∀ C' d' w', NewA base w' C' d' (xs ++ [y]) → (w.alloc (.cells #[.int .i64 y] 3)).grownBy w' (Value.ownBlock (.slice C xs.length d)) → K (a.put o.dst (.slice C' (xs.length + 1) d')) w') :
    if Region.wanted o (yielded ops a.tmps) = true then Oper.wp Try.prog o a (w.alloc (.cells #[.int .i64 y] 3)) K Q else E := by
  obtain ⟨i0, hi, hz0, hz1, hz2⟩ := info_parts Try.infoInt
  refine step_append_rd hgd s x 22 ho base 3 i0 (.int .i64 0) 8 Try.underlying22 hi hz0 hz1 hz2 rfl _ xs hs (World.ownsRow.alloc hown _) _ _ [y] hx (rd_one _ _ _ rfl) ?_ ?_ (le_alloc hbase _) ?_
  · show (xs.length + 1) * 8 ≤ _; omega
  · unfold maxLen; show xs.length + 1 ≤ _; omega
  · intro C' d' w' h1 h2
    have e : (xs ++ [y]).length = xs.length + 1 := by simp
    have := h C' d' w' h1 h2
    rw [e]
    exact this

/-- What holds at each round of the drawing of an arena. -/
def ARel (w : World) (a g B : Nat) (A : Option Addr) (n c : Nat) (m : Int) (i : Value) (wr : World) : Prop :=
  ∃ (j : Nat) (zs : List Int) (C : Option Addr) (d : Nat), i = .int .i64 j ∧ zs.length + j ≤ 9 ∧ Good zs ∧ BoxA wr a (.slice C zs.length d) ∧ BoxA wr w.heap.size (.slice none 0 0) ∧ NewA (w.heap.size + 1) wr C d zs ∧ Src wr g B A n c (m + 9 - j) ∧ w.grownBy wr (some g)

theorem arel_step {w w3 w4 wr : World} {a g B n c j d d4 : Nat} {A C C4 : Option Addr} {m x : Int} {zs : List Int} (hj : 0 < j) (hj9 : zs.length + j ≤ 9) (hgood : Good zs) (hx : wordB x = true) (hga : g < w.heap.size) (haw : w.heap.size < a)
    (hw : w.grownBy wr (some g)) (hg3 : wr.drew.grownBy w3 (some g)) (hS3 : Src w3 g B A n c (m + 9 - j + 1)) (_hX3 : BoxA w3 a (.slice C zs.length d)) (hR3 : BoxA w3 w.heap.size (.slice none 0 0)) (hN3 : NewA (w.heap.size + 1) w3 C d zs)
    (hnew4 : NewA (w.heap.size + 1) w4 C4 d4 (zs ++ [x])) (hgr4 : (w3.alloc (.cells #[.int .i64 x] 3)).grownBy w4 (Value.ownBlock (.slice C zs.length d))) (hb4 : BoxA w4 a (.slice C zs.length d)) :
    ARel w a g B A n c m (.int .i64 ((j : Int) - 1)) (w4.setCell ⟨a, 0, none⟩ (.slice C4 (zs.length + 1) d4)) := by
  have hrow : ∀ q, Value.ownBlock (.slice C zs.length d) = some q → w.heap.size + 1 ≤ q := fun q hq => (World.ownsRow.lt hN3 q hq).1
  have hl : (zs ++ [x]).length = zs.length + 1 := by simp
  have hset := grown_setCell w4 a 0 (.slice C4 (zs.length + 1) d4)
  refine ⟨j - 1, zs ++ [x], C4, d4, ?_, by rw [hl]; omega, hgood.snoc hx, ?_, ?_, ?_, ?_, ?_⟩
  · congr 1; omega
  · rw [hl]; exact hb4.set _
  · exact (((hR3.below (below_alloc _ _)).grown hgr4 (BoxA.ne_own hR3 hN3)).grown hset (by simp; omega))
  · exact hnew4.kept hset (.inr fun e => BoxA.ne_own hb4 hnew4 e.symm)
  · refine ((Src.grown (hS3.below (below_alloc _ _)) hgr4 (fun k hk => ?_)).grown hset (fun k hk => ?_)).mono (by omega)
    · have := hrow k hk; have := hS3.high; omega
    · have := hS3.high; simp only [Option.some.injEq] at hk; omega
  · have h1 : w.grownBy w3 (some g) := grown_trans (b := wr.drew) (grown_drew hw) hg3
    have h2 := grown_trans h1 (grown_below (some g) (below_alloc w3 (.cells #[.int .i64 x] 3)))
    have h3 := grown_new h2 hgr4 (fun q hq => by have := hrow q hq; omega)
    exact grown_new h3 hset (fun q hq => by simp only [Option.some.injEq] at hq; omega)

end Go.Proofs.Ytjddmdhoeampcaa
