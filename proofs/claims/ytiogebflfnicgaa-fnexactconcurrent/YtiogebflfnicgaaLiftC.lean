/-
  How the arguments of the laws over calls and events are opened.
-/
import Derived.Test.YtiogebflfnicgaaLiftT
namespace Go.Proofs.Ytiogebflfnicgaa
open Go.ChangeShapes Go.WideShapes Go.ChangeAt Go.RowKit Go.Joins
set_option maxRecDepth 100000

theorem array5 {α : Type} {cs : Array α} (h : cs.size = 5) : ∃ c0 c1 c2 c3 c4, cs = #[c0, c1, c2, c3, c4] := by
  obtain ⟨l⟩ := cs
  match l, h with
  | [c0, c1, c2, c3, c4], _ => exact ⟨c0, c1, c2, c3, c4, rfl⟩

theorem array7 {α : Type} {cs : Array α} (h : cs.size = 7) : ∃ c0 c1 c2 c3 c4 c5 c6, cs = #[c0, c1, c2, c3, c4, c5, c6] := by
  obtain ⟨l⟩ := cs
  match l, h with
  | [c0, c1, c2, c3, c4, c5, c6], _ => exact ⟨c0, c1, c2, c3, c4, c5, c6, rfl⟩

section
variable {H : Type} {enc : TypeId × Value → H} {w : World} {base : Nat} {spare : Nat → Bool} {held : Bool}

/-- A struct of 7 ints among the arguments. -/
theorem open_call {v : Value} {d : DataW H} {p : List MemPlace} {b0 : Nat} (hv : Value.okWide Try.prog w .any b0 138 v)
    (h : DataW.Trod enc Try.prog w base spare held 138 v d p) :
    ∃ (x0 x1 x2 x3 x4 x5 x6 : Int), v = .agg #[.int .i64 x0, .int .i64 x1, .int .i64 x2, .int .i64 x3, .int .i64 x4, .int .i64 x5, .int .i64 x6] := by
  obtain ⟨cs, rfl, hsz⟩ := okWide_struct Try.underlying138 hv
  obtain ⟨c0, c1, c2, c3, c4, c5, c6, rfl⟩ := array7 (hsz.trans (by kernel_rfl))
  obtain ⟨fuel, hf⟩ := h
  obtain ⟨xs, n, _, _, _, hlen, hi⟩ := DataW.trod_struct Try.underlying138 hf
  have hlen' : xs.length = 7 := hlen
  have h3 : Try.prog.cellsOf 3 = 1 := by kernel_rfl
  obtain ⟨x0, rfl⟩ : ∃ a, c0 = .int .i64 a := by
    obtain ⟨y, hy⟩ := get_some hlen' (show 0 < 7 by decide)
    have f := hi 0 _ rfl
    rw [hy] at f
    exact int_cell (by simpa [Value.cells, h3] using f)
  obtain ⟨x1, rfl⟩ : ∃ a, c1 = .int .i64 a := by
    obtain ⟨y, hy⟩ := get_some hlen' (show 1 < 7 by decide)
    have f := hi 1 _ rfl
    rw [hy] at f
    exact int_cell (by simpa [Value.cells, h3] using f)
  obtain ⟨x2, rfl⟩ : ∃ a, c2 = .int .i64 a := by
    obtain ⟨y, hy⟩ := get_some hlen' (show 2 < 7 by decide)
    have f := hi 2 _ rfl
    rw [hy] at f
    exact int_cell (by simpa [Value.cells, h3] using f)
  obtain ⟨x3, rfl⟩ : ∃ a, c3 = .int .i64 a := by
    obtain ⟨y, hy⟩ := get_some hlen' (show 3 < 7 by decide)
    have f := hi 3 _ rfl
    rw [hy] at f
    exact int_cell (by simpa [Value.cells, h3] using f)
  obtain ⟨x4, rfl⟩ : ∃ a, c4 = .int .i64 a := by
    obtain ⟨y, hy⟩ := get_some hlen' (show 4 < 7 by decide)
    have f := hi 4 _ rfl
    rw [hy] at f
    exact int_cell (by simpa [Value.cells, h3] using f)
  obtain ⟨x5, rfl⟩ : ∃ a, c5 = .int .i64 a := by
    obtain ⟨y, hy⟩ := get_some hlen' (show 5 < 7 by decide)
    have f := hi 5 _ rfl
    rw [hy] at f
    exact int_cell (by simpa [Value.cells, h3] using f)
  obtain ⟨x6, rfl⟩ : ∃ a, c6 = .int .i64 a := by
    obtain ⟨y, hy⟩ := get_some hlen' (show 6 < 7 by decide)
    have f := hi 6 _ rfl
    rw [hy] at f
    exact int_cell (by simpa [Value.cells, h3] using f)
  exact ⟨x0, x1, x2, x3, x4, x5, x6, rfl⟩

end
end Go.Proofs.Ytiogebflfnicgaa
