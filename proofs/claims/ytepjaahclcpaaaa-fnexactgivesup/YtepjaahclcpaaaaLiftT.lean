/-
  How the arguments of the laws over threads are opened.
-/
import Derived.Test.YtepjaahclcpaaaaClosed
import Derived.Test.YtepjaahclcpaaaaMem
import Derived.ProofKit
import Derived.OpenShut
import Derived.ShutString
import Derived.ChangeOld
import Derived.Lib.SmallJoins
namespace Go.Proofs.Ytepjaahclcpaaaa
open Go.ChangeShapes Go.WideShapes Go.ChangeAt Go.RowKit Go.Joins
set_option maxRecDepth 100000

theorem array15 {α : Type} {cs : Array α} (h : cs.size = 15) : ∃ c0 c1 c2 c3 c4 c5 c6 c7 c8 c9 c10 c11 c12 c13 c14, cs = #[c0, c1, c2, c3, c4, c5, c6, c7, c8, c9, c10, c11, c12, c13, c14] := by
  obtain ⟨l⟩ := cs
  match l, h with
  | [c0, c1, c2, c3, c4, c5, c6, c7, c8, c9, c10, c11, c12, c13, c14], _ => exact ⟨c0, c1, c2, c3, c4, c5, c6, c7, c8, c9, c10, c11, c12, c13, c14, rfl⟩
theorem get_some {α : Type} {l : List α} {i n : Nat} (h : l.length = n) (hi : i < n) : ∃ y, l[i]? = some y := ⟨_, List.getElem?_eq_getElem (by omega)⟩

section
variable {H : Type} {enc : TypeId × Value → H} {w : World} {base : Nat} {spare : Nat → Bool} {held : Bool}

theorem int_cell {fuel : Nat} {c : Value} {x : DataW H × List MemPlace} (h : DataW.trod enc Try.prog w base spare held fuel 3 [c] = some x) : ∃ a, c = .int .i64 a := by
  obtain ⟨a, e, _⟩ := DataW.trod_int Try.underlying3 h
  exact ⟨a, by simpa using e⟩
theorem bool_cell {fuel : Nat} {c : Value} {x : DataW H × List MemPlace} (h : DataW.trod enc Try.prog w base spare held fuel 4 [c] = some x) : ∃ a, c = .bool a := by
  obtain ⟨a, e, _⟩ := DataW.trod_bool Try.underlying4 h
  exact ⟨a, by simpa using e⟩

/-- A thread among the arguments. -/
theorem open_thread {v : Value} {d : DataW H} {p : List MemPlace} {b0 : Nat} (hv : Value.okWide Try.prog w .any b0 37 v)
    (h : DataW.Trod enc Try.prog w base spare held 37 v d p) :
    ∃ (id st op arg pc til : Int) (per can : Bool) (r0 r1 r2 r3 r4 code res : Int), v = .agg #[.int .i64 id, .int .i64 st, .int .i64 op, .int .i64 arg, .int .i64 pc, .int .i64 til, .bool per, .bool can, .int .i64 r0, .int .i64 r1, .int .i64 r2, .int .i64 r3, .int .i64 r4, .int .i64 code, .int .i64 res] := by
  obtain ⟨cs, rfl, hsz⟩ := okWide_struct Try.underlying37 hv
  obtain ⟨c0, c1, c2, c3, c4, c5, c6, c7, c8, c9, c10, c11, c12, c13, c14, rfl⟩ := array15 (hsz.trans (by kernel_rfl))
  obtain ⟨fuel, hf⟩ := h
  obtain ⟨xs, n, _, _, _, hlen, hi⟩ := DataW.trod_struct Try.underlying37 hf
  have hlen' : xs.length = 11 := hlen
  have h3 : Try.prog.cellsOf 3 = 1 := by kernel_rfl
  have h4 : Try.prog.cellsOf 4 = 1 := by kernel_rfl
  have h5 : Try.prog.cellsOf 23 = 5 := by kernel_rfl
  obtain ⟨x0, rfl⟩ : ∃ a, c0 = .int .i64 a := by
    obtain ⟨y, hy⟩ := get_some hlen' (show 0 < 11 by decide)
    have f := hi 0 _ rfl
    rw [hy] at f
    exact int_cell (by simpa [Value.cells, h3] using f)
  obtain ⟨x1, rfl⟩ : ∃ a, c1 = .int .i64 a := by
    obtain ⟨y, hy⟩ := get_some hlen' (show 1 < 11 by decide)
    have f := hi 1 _ rfl
    rw [hy] at f
    exact int_cell (by simpa [Value.cells, h3] using f)
  obtain ⟨x2, rfl⟩ : ∃ a, c2 = .int .i64 a := by
    obtain ⟨y, hy⟩ := get_some hlen' (show 2 < 11 by decide)
    have f := hi 2 _ rfl
    rw [hy] at f
    exact int_cell (by simpa [Value.cells, h3] using f)
  obtain ⟨x3, rfl⟩ : ∃ a, c3 = .int .i64 a := by
    obtain ⟨y, hy⟩ := get_some hlen' (show 3 < 11 by decide)
    have f := hi 3 _ rfl
    rw [hy] at f
    exact int_cell (by simpa [Value.cells, h3] using f)
  obtain ⟨x4, rfl⟩ : ∃ a, c4 = .int .i64 a := by
    obtain ⟨y, hy⟩ := get_some hlen' (show 4 < 11 by decide)
    have f := hi 4 _ rfl
    rw [hy] at f
    exact int_cell (by simpa [Value.cells, h3] using f)
  obtain ⟨x5, rfl⟩ : ∃ a, c5 = .int .i64 a := by
    obtain ⟨y, hy⟩ := get_some hlen' (show 5 < 11 by decide)
    have f := hi 5 _ rfl
    rw [hy] at f
    exact int_cell (by simpa [Value.cells, h3] using f)
  obtain ⟨x6, rfl⟩ : ∃ a, c6 = .bool a := by
    obtain ⟨y, hy⟩ := get_some hlen' (show 6 < 11 by decide)
    have f := hi 6 _ rfl
    rw [hy] at f
    exact bool_cell (by simpa [Value.cells, h4] using f)
  obtain ⟨x7, rfl⟩ : ∃ a, c7 = .bool a := by
    obtain ⟨y, hy⟩ := get_some hlen' (show 7 < 11 by decide)
    have f := hi 7 _ rfl
    rw [hy] at f
    exact bool_cell (by simpa [Value.cells, h4] using f)
  obtain ⟨x13, rfl⟩ : ∃ a, c13 = .int .i64 a := by
    obtain ⟨y, hy⟩ := get_some hlen' (show 9 < 11 by decide)
    have f := hi 9 _ rfl
    rw [hy] at f
    exact int_cell (by simpa [Value.cells, h3] using f)
  obtain ⟨x14, rfl⟩ : ∃ a, c14 = .int .i64 a := by
    obtain ⟨y, hy⟩ := get_some hlen' (show 10 < 11 by decide)
    have f := hi 10 _ rfl
    rw [hy] at f
    exact int_cell (by simpa [Value.cells, h3] using f)
  obtain ⟨y, hy⟩ := get_some hlen' (show 8 < 11 by decide)
  have f8 := hi 8 _ rfl
  rw [hy] at f8
  obtain ⟨ys, m, _, _, _, hm, hj⟩ := DataW.trod_array Try.underlying23 f8
  obtain ⟨x8, rfl⟩ : ∃ a, c8 = .int .i64 a := by
    obtain ⟨z, hz⟩ := get_some hm (show 0 < 5 by decide)
    have f := hj 0 (by decide)
    rw [hz] at f
    exact int_cell (by simpa [Value.cells, h3, h5] using f)
  obtain ⟨x9, rfl⟩ : ∃ a, c9 = .int .i64 a := by
    obtain ⟨z, hz⟩ := get_some hm (show 1 < 5 by decide)
    have f := hj 1 (by decide)
    rw [hz] at f
    exact int_cell (by simpa [Value.cells, h3, h5] using f)
  obtain ⟨x10, rfl⟩ : ∃ a, c10 = .int .i64 a := by
    obtain ⟨z, hz⟩ := get_some hm (show 2 < 5 by decide)
    have f := hj 2 (by decide)
    rw [hz] at f
    exact int_cell (by simpa [Value.cells, h3, h5] using f)
  obtain ⟨x11, rfl⟩ : ∃ a, c11 = .int .i64 a := by
    obtain ⟨z, hz⟩ := get_some hm (show 3 < 5 by decide)
    have f := hj 3 (by decide)
    rw [hz] at f
    exact int_cell (by simpa [Value.cells, h3, h5] using f)
  obtain ⟨x12, rfl⟩ : ∃ a, c12 = .int .i64 a := by
    obtain ⟨z, hz⟩ := get_some hm (show 4 < 5 by decide)
    have f := hj 4 (by decide)
    rw [hz] at f
    exact int_cell (by simpa [Value.cells, h3, h5] using f)
  exact ⟨x0, x1, x2, x3, x4, x5, x6, x7, x8, x9, x10, x11, x12, x13, x14, rfl⟩
end
end Go.Proofs.Ytepjaahclcpaaaa
