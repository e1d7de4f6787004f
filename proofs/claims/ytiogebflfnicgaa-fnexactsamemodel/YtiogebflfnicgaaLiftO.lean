/-
  A waiter and a model (chapter 11) among the arguments of the laws.
-/
import Derived.Test.YtiogebflfnicgaaLift
import Derived.Test.YtiogebflfnicgaaLiftC
import Derived.Test.YtiogebflfnicgaaMod
import Derived.Deep.Slices
namespace Go.Proofs.Ytiogebflfnicgaa
open Go.ChangeShapes Go.WideShapes Go.ChangeAt Go.RowKit Go.Joins Go.Deep
set_option maxRecDepth 100000

theorem arrayO3 {α : Type} {cs : Array α} (h : cs.size = 3) : ∃ c0 c1 c2, cs = #[c0, c1, c2] := by
  obtain ⟨l⟩ := cs
  match l, h with
  | [c0, c1, c2], _ => exact ⟨c0, c1, c2, rfl⟩

theorem arrayO4 {α : Type} {cs : Array α} (h : cs.size = 4) : ∃ c0 c1 c2 c3, cs = #[c0, c1, c2, c3] := by
  obtain ⟨l⟩ := cs
  match l, h with
  | [c0, c1, c2, c3], _ => exact ⟨c0, c1, c2, c3, rfl⟩

section
variable {H : Type} {enc : TypeId × Value → H} {w : World} {base : Nat} {spare : Nat → Bool} {held : Bool}

/-- A struct of 3 ints among the arguments. -/
theorem open_waiter {v : Value} {d : DataW H} {p : List MemPlace} {b0 : Nat} (hv : Value.okWide Try.prog w .any b0 38 v)
    (h : DataW.Trod enc Try.prog w base spare held 38 v d p) :
    ∃ (x0 x1 x2 : Int), v = .agg #[.int .i64 x0, .int .i64 x1, .int .i64 x2] := by
  obtain ⟨cs, rfl, hsz⟩ := okWide_struct Try.underlying38 hv
  obtain ⟨c0, c1, c2, rfl⟩ := arrayO3 (hsz.trans (by kernel_rfl))
  obtain ⟨fuel, hf⟩ := h
  obtain ⟨xs, n, _, _, _, hlen, hi⟩ := DataW.trod_struct Try.underlying38 hf
  have hlen' : xs.length = 3 := hlen
  have h3 : Try.prog.cellsOf 3 = 1 := by kernel_rfl
  obtain ⟨x0, rfl⟩ : ∃ a, c0 = .int .i64 a := by
    obtain ⟨y, hy⟩ := get_some hlen' (show 0 < 3 by decide)
    have f := hi 0 _ rfl
    rw [hy] at f
    exact int_cell (by simpa [Value.cells, h3] using f)
  obtain ⟨x1, rfl⟩ : ∃ a, c1 = .int .i64 a := by
    obtain ⟨y, hy⟩ := get_some hlen' (show 1 < 3 by decide)
    have f := hi 1 _ rfl
    rw [hy] at f
    exact int_cell (by simpa [Value.cells, h3] using f)
  obtain ⟨x2, rfl⟩ : ∃ a, c2 = .int .i64 a := by
    obtain ⟨y, hy⟩ := get_some hlen' (show 2 < 3 by decide)
    have f := hi 2 _ rfl
    rw [hy] at f
    exact int_cell (by simpa [Value.cells, h3] using f)
  exact ⟨x0, x1, x2, rfl⟩

theorem cell_Waiter {fuel : Nat} {l : List Value} {x : DataW H × List MemPlace} (hl : l.length = 3) (hf : DataW.trod enc Try.prog w base spare held fuel 38 l = some x) : ∃ t : Wtr, l = t.cs := by
  match l, hl with
  | [c0, c1, c2], _ =>
    obtain ⟨xs, n, _, _, _, hlen, hi⟩ := DataW.trod_struct Try.underlying38 hf
    have hlen' : xs.length = 3 := hlen
    have h3 : Try.prog.cellsOf 3 = 1 := by kernel_rfl
    obtain ⟨x0, rfl⟩ : ∃ a, c0 = .int .i64 a := by
      obtain ⟨y, hy⟩ := get_some hlen' (show 0 < 3 by decide)
      have f := hi 0 _ rfl
      rw [hy] at f
      exact int_cell (by simpa [Value.cells, h3] using f)
    obtain ⟨x1, rfl⟩ : ∃ a, c1 = .int .i64 a := by
      obtain ⟨y, hy⟩ := get_some hlen' (show 1 < 3 by decide)
      have f := hi 1 _ rfl
      rw [hy] at f
      exact int_cell (by simpa [Value.cells, h3] using f)
    obtain ⟨x2, rfl⟩ : ∃ a, c2 = .int .i64 a := by
      obtain ⟨y, hy⟩ := get_some hlen' (show 2 < 3 by decide)
      have f := hi 2 _ rfl
      rw [hy] at f
      exact int_cell (by simpa [Value.cells, h3] using f)
    exact ⟨⟨x0, x1, x2⟩, rfl⟩

theorem open_rowsWaiter {fuel : Nat} {v : Value} {x : DataW H × List MemPlace} (h : DataW.trod enc Try.prog w base (fun _ => true) held fuel 23 [v] = some x) :
    ∃ (a : Option Addr) (c : Nat) (l : List Wtr), v = .slice a l.length c ∧ l.length ≤ maxLen ∧ RdR Wtr.cs w a l := by
  rcases open_slice Try.underlying23 h with ⟨h0, _⟩ | ⟨a, len, cap, m, n, D, Pl, h0, hb, hl, hm, hmm, _, hx⟩
  · simp only [List.cons.injEq, and_true] at h0
    exact ⟨none, 0, [], h0, Nat.zero_le _, .inl rfl⟩
  · simp only [List.cons.injEq, and_true] at h0
    have hlm : len ≤ m := by rw [hmm]; split <;> omega
    have hce : Try.prog.cellsOf 38 = 3 := by kernel_rfl
    have each : ∀ i, i < len → ∃ t : Wtr, ∀ j v, (t.cs)[j]? = some v → w.cell? (a.add (i * 3 + j)) = some v := by
      intro i hi
      obtain ⟨cs', h1, h2⟩ := hx i (by omega)
      rw [hce] at h1
      obtain ⟨_, hlen, hcell⟩ := World.cells?_some h1
      obtain ⟨t, rfl⟩ := cell_Waiter hlen h2
      refine ⟨t, fun j v hv => ?_⟩
      have hj : j < 3 := by have := (List.getElem?_eq_some_iff.1 hv).1; rwa [Wtr.len] at this
      have := hcell j hj
      rw [add_add] at this
      rw [this]; exact hv
    have : Inhabited Wtr := ⟨Wtr.zero⟩
    obtain ⟨q, hq⟩ := choose_lt each
    refine ⟨some a, cap, (List.range len).map q, by rw [h0]; simp, by simp; omega, ?_⟩
    rcases Nat.eq_zero_or_pos len with hz | hpos
    · left; rw [hz]; rfl
    right
    have hsp : a.spot = none := World.cell?_spot (hq 0 hpos 0 _ rfl)
    obtain ⟨b, off, spot⟩ := a
    simp only at hsp
    subst hsp
    refine ⟨b, off, rfl, fun j v hv => ?_⟩
    have hjl : j < len * 3 := by have := (List.getElem?_eq_some_iff.1 hv).1; rwa [flatV_len Wtr.len, List.length_map, List.length_range] at this
    have h1 : j / 3 < len := (Nat.div_lt_iff_lt_mul (by decide)).2 hjl
    have h2 : j % 3 < 3 := Nat.mod_lt _ (by decide)
    have h3 : j / 3 * 3 + j % 3 = j := by rw [Nat.mul_comm]; exact Nat.div_add_mod j 3
    have h4 := flatV_get Wtr.len ((List.range len).map q) (j / 3) (j % 3) (q (j / 3)) (by simp [h1]) h2
    rw [h3, hv] at h4
    have h5 := hq (j / 3) h1 (j % 3) v h4.symm
    rw [h3, Addr.add_mid] at h5
    exact h5

/-- A model among the arguments. -/
theorem open_model {v : Value} {d : DataW H} {p : List MemPlace} {b0 : Nat} (hv : Value.okWide Try.prog w .any b0 25 v)
    (h : DataW.Trod enc Try.prog w base (fun _ => true) held 25 v d p) :
    ∃ (A B O : Option Addr) (ca cb co : Nat) (zs : List Int) (bs os : List Wtr) (cnt : Int), v = .agg #[.slice A zs.length ca, .int .i64 cnt, .slice B bs.length cb, .slice O os.length co] ∧
      zs.length ≤ maxLen ∧ Rd w A zs ∧ bs.length ≤ maxLen ∧ RdR Wtr.cs w B bs ∧ os.length ≤ maxLen ∧ RdR Wtr.cs w O os := by
  obtain ⟨vs, rfl, hsz⟩ := okWide_struct Try.underlying25 hv
  obtain ⟨c0, c1, c2, c3, rfl⟩ := arrayO4 (hsz.trans (by kernel_rfl))
  obtain ⟨fuel, hf⟩ := h
  obtain ⟨xs, n, _, _, _, hlen, hi⟩ := DataW.trod_struct Try.underlying25 hf
  have hlen' : xs.length = 4 := hlen
  have e1 : Try.prog.cellsOf 23 = 1 := by kernel_rfl
  have e3 : Try.prog.cellsOf 3 = 1 := by kernel_rfl
  have e5 : Try.prog.cellsOf 22 = 1 := by kernel_rfl
  obtain ⟨A, ca, zs, rfl, hz, hzr⟩ : ∃ (a : Option Addr) (c : Nat) (zs : List Int), c0 = .slice a zs.length c ∧ zs.length ≤ maxLen ∧ Rd w a zs := by
    obtain ⟨y, hy⟩ := get_some hlen' (show 0 < 4 by decide)
    have f := hi 0 _ rfl
    rw [hy] at f
    have h0 : DataW.trod enc Try.prog w base (fun _ => true) held n 22 [c0] = some y := by simpa [Value.cells, e5] using f
    obtain ⟨a, l, c, hcs⟩ := slice_form Try.underlying22 h0
    simp only [List.cons.injEq, and_true] at hcs
    subst hcs
    obtain ⟨zs, h1, h2, h3, _⟩ := open_rd h0
    exact ⟨a, c, zs, by rw [h1], h2, h3⟩
  obtain ⟨cnt, rfl⟩ : ∃ a, c1 = .int .i64 a := by
    obtain ⟨y, hy⟩ := get_some hlen' (show 1 < 4 by decide)
    have f := hi 1 _ rfl
    rw [hy] at f
    exact int_cell (by simpa [Value.cells, e3] using f)
  obtain ⟨B, cb, bs, rfl, ht, htr⟩ : ∃ (a : Option Addr) (c : Nat) (l : List Wtr), c2 = .slice a l.length c ∧ l.length ≤ maxLen ∧ RdR Wtr.cs w a l := by
    obtain ⟨y, hy⟩ := get_some hlen' (show 2 < 4 by decide)
    have f := hi 2 _ rfl
    rw [hy] at f
    exact open_rowsWaiter (by simpa [Value.cells, e1] using f)
  obtain ⟨O, co, os, rfl, hc, hcr⟩ : ∃ (a : Option Addr) (c : Nat) (l : List Wtr), c3 = .slice a l.length c ∧ l.length ≤ maxLen ∧ RdR Wtr.cs w a l := by
    obtain ⟨y, hy⟩ := get_some hlen' (show 3 < 4 by decide)
    have f := hi 3 _ rfl
    rw [hy] at f
    exact open_rowsWaiter (by simpa [Value.cells, e1] using f)
  exact ⟨A, B, O, ca, cb, co, zs, bs, os, cnt, rfl, hz, hzr, ht, htr, hc, hcr⟩
end
end Go.Proofs.Ytiogebflfnicgaa
