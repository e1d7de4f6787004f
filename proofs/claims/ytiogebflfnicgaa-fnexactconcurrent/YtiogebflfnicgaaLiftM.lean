/-
  A machine among the arguments of the laws.
-/
import Derived.Test.YtiogebflfnicgaaLift
import Derived.Test.YtiogebflfnicgaaLiftC
import Derived.Test.YtiogebflfnicgaaMach
import Derived.Deep.Slices
namespace Go.Proofs.Ytiogebflfnicgaa
open Go.ChangeShapes Go.WideShapes Go.ChangeAt Go.RowKit Go.Joins Go.Deep
set_option maxRecDepth 100000

section
variable {H : Type} {enc : TypeId × Value → H} {w : World} {base : Nat} {spare : Nat → Bool} {held : Bool}

theorem cell_Thread {fuel : Nat} {l : List Value} {x : DataW H × List MemPlace} (hl : l.length = 15) (hf : DataW.trod enc Try.prog w base spare held fuel 136 l = some x) : ∃ t : Thd, l = t.cs := by
  match l, hl with
  | [c0, c1, c2, c3, c4, c5, c6, c7, c8, c9, c10, c11, c12, c13, c14], _ =>
    obtain ⟨xs, n, _, _, _, hlen, hi⟩ := DataW.trod_struct Try.underlying136 hf
    have hlen' : xs.length = 11 := hlen
    have h3 : Try.prog.cellsOf 3 = 1 := by kernel_rfl
    have h4 : Try.prog.cellsOf 4 = 1 := by kernel_rfl
    have h5 : Try.prog.cellsOf 101 = 5 := by kernel_rfl
    obtain ⟨x0, rfl⟩ : ∃ a, c0 = .int .i64 a := by
      obtain ⟨y, hy⟩ := get_some hlen' (show 0 < 11 by decide)
      have f := hi 0 _ rfl
      rw [hy] at f
      exact int_cell (by simpa [Value.cells, h3] using f)
    obtain ⟨x1, rfl⟩ : ∃ a, c1 = .int .i64 a := by
      obtain ⟨y, hy⟩ := get_some hlen' (show 1 < 11 by decide)
      have f := hi 1 _ rfl
      rw [hy] at f
      exact int_cell (by simpa [Value.cells, h3] using f)
    obtain ⟨x2, rfl⟩ : ∃ a, c2 = .int .i64 a := by
      obtain ⟨y, hy⟩ := get_some hlen' (show 2 < 11 by decide)
      have f := hi 2 _ rfl
      rw [hy] at f
      exact int_cell (by simpa [Value.cells, h3] using f)
    obtain ⟨x3, rfl⟩ : ∃ a, c3 = .int .i64 a := by
      obtain ⟨y, hy⟩ := get_some hlen' (show 3 < 11 by decide)
      have f := hi 3 _ rfl
      rw [hy] at f
      exact int_cell (by simpa [Value.cells, h3] using f)
    obtain ⟨x4, rfl⟩ : ∃ a, c4 = .int .i64 a := by
      obtain ⟨y, hy⟩ := get_some hlen' (show 4 < 11 by decide)
      have f := hi 4 _ rfl
      rw [hy] at f
      exact int_cell (by simpa [Value.cells, h3] using f)
    obtain ⟨x5, rfl⟩ : ∃ a, c5 = .int .i64 a := by
      obtain ⟨y, hy⟩ := get_some hlen' (show 5 < 11 by decide)
      have f := hi 5 _ rfl
      rw [hy] at f
      exact int_cell (by simpa [Value.cells, h3] using f)
    obtain ⟨x6, rfl⟩ : ∃ a, c6 = .bool a := by
      obtain ⟨y, hy⟩ := get_some hlen' (show 6 < 11 by decide)
      have f := hi 6 _ rfl
      rw [hy] at f
      exact bool_cell (by simpa [Value.cells, h4] using f)
    obtain ⟨x7, rfl⟩ : ∃ a, c7 = .bool a := by
      obtain ⟨y, hy⟩ := get_some hlen' (show 7 < 11 by decide)
      have f := hi 7 _ rfl
      rw [hy] at f
      exact bool_cell (by simpa [Value.cells, h4] using f)
    obtain ⟨x13, rfl⟩ : ∃ a, c13 = .int .i64 a := by
      obtain ⟨y, hy⟩ := get_some hlen' (show 9 < 11 by decide)
      have f := hi 9 _ rfl
      rw [hy] at f
      exact int_cell (by simpa [Value.cells, h3] using f)
    obtain ⟨x14, rfl⟩ : ∃ a, c14 = .int .i64 a := by
      obtain ⟨y, hy⟩ := get_some hlen' (show 10 < 11 by decide)
      have f := hi 10 _ rfl
      rw [hy] at f
      exact int_cell (by simpa [Value.cells, h3] using f)
    obtain ⟨y, hy⟩ := get_some hlen' (show 8 < 11 by decide)
    have f8 := hi 8 _ rfl
    rw [hy] at f8
    obtain ⟨ys, m, _, _, _, hm, hj⟩ := DataW.trod_array Try.underlying101 f8
    obtain ⟨x8, rfl⟩ : ∃ a, c8 = .int .i64 a := by
      obtain ⟨z, hz⟩ := get_some hm (show 0 < 5 by decide)
      have f := hj 0 (by decide)
      rw [hz] at f
      exact int_cell (by simpa [Value.cells, h3, h5] using f)
    obtain ⟨x9, rfl⟩ : ∃ a, c9 = .int .i64 a := by
      obtain ⟨z, hz⟩ := get_some hm (show 1 < 5 by decide)
      have f := hj 1 (by decide)
      rw [hz] at f
      exact int_cell (by simpa [Value.cells, h3, h5] using f)
    obtain ⟨x10, rfl⟩ : ∃ a, c10 = .int .i64 a := by
      obtain ⟨z, hz⟩ := get_some hm (show 2 < 5 by decide)
      have f := hj 2 (by decide)
      rw [hz] at f
      exact int_cell (by simpa [Value.cells, h3, h5] using f)
    obtain ⟨x11, rfl⟩ : ∃ a, c11 = .int .i64 a := by
      obtain ⟨z, hz⟩ := get_some hm (show 3 < 5 by decide)
      have f := hj 3 (by decide)
      rw [hz] at f
      exact int_cell (by simpa [Value.cells, h3, h5] using f)
    obtain ⟨x12, rfl⟩ : ∃ a, c12 = .int .i64 a := by
      obtain ⟨z, hz⟩ := get_some hm (show 4 < 5 by decide)
      have f := hj 4 (by decide)
      rw [hz] at f
      exact int_cell (by simpa [Value.cells, h3, h5] using f)
    exact ⟨⟨x0, x1, x2, x3, x4, x5, x6, x7, x8, x9, x10, x11, x12, x13, x14⟩, rfl⟩

theorem open_rowsThread {fuel : Nat} {v : Value} {x : DataW H × List MemPlace} (h : DataW.trod enc Try.prog w base (fun _ => true) held fuel 54 [v] = some x) :
    ∃ (a : Option Addr) (c : Nat) (l : List Thd), v = .slice a l.length c ∧ l.length ≤ maxLen ∧ RdR Thd.cs w a l := by
  rcases open_slice Try.underlying54 h with ⟨h0, _⟩ | ⟨a, len, cap, m, n, D, Pl, h0, hb, hl, hm, hmm, _, hx⟩
  · simp only [List.cons.injEq, and_true] at h0
    exact ⟨none, 0, [], h0, Nat.zero_le _, .inl rfl⟩
  · simp only [List.cons.injEq, and_true] at h0
    have hlm : len ≤ m := by rw [hmm]; split <;> omega
    have hce : Try.prog.cellsOf 136 = 15 := by kernel_rfl
    have each : ∀ i, i < len → ∃ t : Thd, ∀ j v, (t.cs)[j]? = some v → w.cell? (a.add (i * 15 + j)) = some v := by
      intro i hi
      obtain ⟨cs', h1, h2⟩ := hx i (by omega)
      rw [hce] at h1
      obtain ⟨_, hlen, hcell⟩ := World.cells?_some h1
      obtain ⟨t, rfl⟩ := cell_Thread hlen h2
      refine ⟨t, fun j v hv => ?_⟩
      have hj : j < 15 := by have := (List.getElem?_eq_some_iff.1 hv).1; rwa [Thd.len] at this
      have := hcell j hj
      rw [add_add] at this
      rw [this]; exact hv
    have : Inhabited Thd := ⟨Thd.zero⟩
    obtain ⟨q, hq⟩ := choose_lt each
    refine ⟨some a, cap, (List.range len).map q, by rw [h0]; simp, by simp; omega, ?_⟩
    rcases Nat.eq_zero_or_pos len with hz | hpos
    · left; rw [hz]; rfl
    right
    have hsp : a.spot = none := World.cell?_spot (hq 0 hpos 0 _ rfl)
    obtain ⟨b, off, spot⟩ := a
    simp only at hsp
    subst hsp
    refine ⟨b, off, rfl, fun j v hv => ?_⟩
    have hjl : j < len * 15 := by have := (List.getElem?_eq_some_iff.1 hv).1; rwa [flatV_len Thd.len, List.length_map, List.length_range] at this
    have h1 : j / 15 < len := (Nat.div_lt_iff_lt_mul (by decide)).2 hjl
    have h2 : j % 15 < 15 := Nat.mod_lt _ (by decide)
    have h3 : j / 15 * 15 + j % 15 = j := by rw [Nat.mul_comm]; exact Nat.div_add_mod j 15
    have h4 := flatV_get Thd.len ((List.range len).map q) (j / 15) (j % 15) (q (j / 15)) (by simp [h1]) h2
    rw [h3, hv] at h4
    have h5 := hq (j / 15) h1 (j % 15) v h4.symm
    rw [h3, Addr.add_mid] at h5
    exact h5

theorem cell_Call {fuel : Nat} {l : List Value} {x : DataW H × List MemPlace} (hl : l.length = 7) (hf : DataW.trod enc Try.prog w base spare held fuel 138 l = some x) : ∃ t : Cll, l = t.cs := by
  match l, hl with
  | [c0, c1, c2, c3, c4, c5, c6], _ =>
    obtain ⟨xs, n, _, _, _, hlen, hi⟩ := DataW.trod_struct Try.underlying138 hf
    have hlen' : xs.length = 7 := hlen
    have h3 : Try.prog.cellsOf 3 = 1 := by kernel_rfl
    obtain ⟨x0, rfl⟩ : ∃ a, c0 = .int .i64 a := by
      obtain ⟨y, hy⟩ := get_some hlen' (show 0 < 7 by decide)
      have f := hi 0 _ rfl
      rw [hy] at f
      exact int_cell (by simpa [Value.cells, h3] using f)
    obtain ⟨x1, rfl⟩ : ∃ a, c1 = .int .i64 a := by
      obtain ⟨y, hy⟩ := get_some hlen' (show 1 < 7 by decide)
      have f := hi 1 _ rfl
      rw [hy] at f
      exact int_cell (by simpa [Value.cells, h3] using f)
    obtain ⟨x2, rfl⟩ : ∃ a, c2 = .int .i64 a := by
      obtain ⟨y, hy⟩ := get_some hlen' (show 2 < 7 by decide)
      have f := hi 2 _ rfl
      rw [hy] at f
      exact int_cell (by simpa [Value.cells, h3] using f)
    obtain ⟨x3, rfl⟩ : ∃ a, c3 = .int .i64 a := by
      obtain ⟨y, hy⟩ := get_some hlen' (show 3 < 7 by decide)
      have f := hi 3 _ rfl
      rw [hy] at f
      exact int_cell (by simpa [Value.cells, h3] using f)
    obtain ⟨x4, rfl⟩ : ∃ a, c4 = .int .i64 a := by
      obtain ⟨y, hy⟩ := get_some hlen' (show 4 < 7 by decide)
      have f := hi 4 _ rfl
      rw [hy] at f
      exact int_cell (by simpa [Value.cells, h3] using f)
    obtain ⟨x5, rfl⟩ : ∃ a, c5 = .int .i64 a := by
      obtain ⟨y, hy⟩ := get_some hlen' (show 5 < 7 by decide)
      have f := hi 5 _ rfl
      rw [hy] at f
      exact int_cell (by simpa [Value.cells, h3] using f)
    obtain ⟨x6, rfl⟩ : ∃ a, c6 = .int .i64 a := by
      obtain ⟨y, hy⟩ := get_some hlen' (show 6 < 7 by decide)
      have f := hi 6 _ rfl
      rw [hy] at f
      exact int_cell (by simpa [Value.cells, h3] using f)
    exact ⟨⟨x0, x1, x2, x3, x4, x5, x6⟩, rfl⟩

theorem open_rowsCall {fuel : Nat} {v : Value} {x : DataW H × List MemPlace} (h : DataW.trod enc Try.prog w base (fun _ => true) held fuel 55 [v] = some x) :
    ∃ (a : Option Addr) (c : Nat) (l : List Cll), v = .slice a l.length c ∧ l.length ≤ maxLen ∧ RdR Cll.cs w a l := by
  rcases open_slice Try.underlying55 h with ⟨h0, _⟩ | ⟨a, len, cap, m, n, D, Pl, h0, hb, hl, hm, hmm, _, hx⟩
  · simp only [List.cons.injEq, and_true] at h0
    exact ⟨none, 0, [], h0, Nat.zero_le _, .inl rfl⟩
  · simp only [List.cons.injEq, and_true] at h0
    have hlm : len ≤ m := by rw [hmm]; split <;> omega
    have hce : Try.prog.cellsOf 138 = 7 := by kernel_rfl
    have each : ∀ i, i < len → ∃ t : Cll, ∀ j v, (t.cs)[j]? = some v → w.cell? (a.add (i * 7 + j)) = some v := by
      intro i hi
      obtain ⟨cs', h1, h2⟩ := hx i (by omega)
      rw [hce] at h1
      obtain ⟨_, hlen, hcell⟩ := World.cells?_some h1
      obtain ⟨t, rfl⟩ := cell_Call hlen h2
      refine ⟨t, fun j v hv => ?_⟩
      have hj : j < 7 := by have := (List.getElem?_eq_some_iff.1 hv).1; rwa [Cll.len] at this
      have := hcell j hj
      rw [add_add] at this
      rw [this]; exact hv
    have : Inhabited Cll := ⟨Cll.zero⟩
    obtain ⟨q, hq⟩ := choose_lt each
    refine ⟨some a, cap, (List.range len).map q, by rw [h0]; simp, by simp; omega, ?_⟩
    rcases Nat.eq_zero_or_pos len with hz | hpos
    · left; rw [hz]; rfl
    right
    have hsp : a.spot = none := World.cell?_spot (hq 0 hpos 0 _ rfl)
    obtain ⟨b, off, spot⟩ := a
    simp only at hsp
    subst hsp
    refine ⟨b, off, rfl, fun j v hv => ?_⟩
    have hjl : j < len * 7 := by have := (List.getElem?_eq_some_iff.1 hv).1; rwa [flatV_len Cll.len, List.length_map, List.length_range] at this
    have h1 : j / 7 < len := (Nat.div_lt_iff_lt_mul (by decide)).2 hjl
    have h2 : j % 7 < 7 := Nat.mod_lt _ (by decide)
    have h3 : j / 7 * 7 + j % 7 = j := by rw [Nat.mul_comm]; exact Nat.div_add_mod j 7
    have h4 := flatV_get Cll.len ((List.range len).map q) (j / 7) (j % 7) (q (j / 7)) (by simp [h1]) h2
    rw [h3, hv] at h4
    have h5 := hq (j / 7) h1 (j % 7) v h4.symm
    rw [h3, Addr.add_mid] at h5
    exact h5

/-- A machine among the arguments. -/
theorem open_machine {v : Value} {d : DataW H} {p : List MemPlace} {b0 : Nat} (hv : Value.okWide Try.prog w .any b0 57 v)
    (h : DataW.Trod enc Try.prog w base (fun _ => true) held 57 v d p) :
    ∃ (A T C : Option Addr) (ca ct cc : Nat) (zs : List Int) (ts : List Thd) (cs : List Cll) (clk stp : Int), v = .agg #[.slice A zs.length ca, .slice T ts.length ct, .int .i64 clk, .int .i64 stp, .slice C cs.length cc] ∧
      zs.length ≤ maxLen ∧ Rd w A zs ∧ ts.length ≤ maxLen ∧ RdR Thd.cs w T ts ∧ cs.length ≤ maxLen ∧ RdR Cll.cs w C cs := by
  obtain ⟨vs, rfl, hsz⟩ := okWide_struct Try.underlying57 hv
  obtain ⟨c0, c1, c2, c3, c4, rfl⟩ := array5 (hsz.trans (by kernel_rfl))
  obtain ⟨fuel, hf⟩ := h
  obtain ⟨xs, n, _, _, _, hlen, hi⟩ := DataW.trod_struct Try.underlying57 hf
  have hlen' : xs.length = 5 := hlen
  have e0 : Try.prog.cellsOf 53 = 1 := by kernel_rfl
  have e1 : Try.prog.cellsOf 54 = 1 := by kernel_rfl
  have e3 : Try.prog.cellsOf 3 = 1 := by kernel_rfl
  have e4 : Try.prog.cellsOf 55 = 1 := by kernel_rfl
  have e5 : Try.prog.cellsOf 22 = 1 := by kernel_rfl
  obtain ⟨A, ca, zs, rfl, hz, hzr⟩ : ∃ (a : Option Addr) (c : Nat) (zs : List Int), c0 = .slice a zs.length c ∧ zs.length ≤ maxLen ∧ Rd w a zs := by
    obtain ⟨y, hy⟩ := get_some hlen' (show 0 < 5 by decide)
    have f := hi 0 _ rfl
    rw [hy] at f
    obtain ⟨y0, n0, hx, _, h0⟩ := trod_struct1 Try.underlying53 (by simpa [Value.cells, e0] using f)
    simp only [e5, List.drop_zero, List.take_succ_cons, List.take_zero] at h0
    obtain ⟨a, l, c, hcs⟩ := slice_form Try.underlying22 h0
    simp only [List.cons.injEq, and_true] at hcs
    subst hcs
    obtain ⟨zs, h1, h2, h3, _⟩ := open_rd h0
    exact ⟨a, c, zs, by rw [h1], h2, h3⟩
  obtain ⟨T, ct, ts, rfl, ht, htr⟩ : ∃ (a : Option Addr) (c : Nat) (l : List Thd), c1 = .slice a l.length c ∧ l.length ≤ maxLen ∧ RdR Thd.cs w a l := by
    obtain ⟨y, hy⟩ := get_some hlen' (show 1 < 5 by decide)
    have f := hi 1 _ rfl
    rw [hy] at f
    exact open_rowsThread (by simpa [Value.cells, e1] using f)
  obtain ⟨clk, rfl⟩ : ∃ a, c2 = .int .i64 a := by
    obtain ⟨y, hy⟩ := get_some hlen' (show 2 < 5 by decide)
    have f := hi 2 _ rfl
    rw [hy] at f
    exact int_cell (by simpa [Value.cells, e3] using f)
  obtain ⟨stp, rfl⟩ : ∃ a, c3 = .int .i64 a := by
    obtain ⟨y, hy⟩ := get_some hlen' (show 3 < 5 by decide)
    have f := hi 3 _ rfl
    rw [hy] at f
    exact int_cell (by simpa [Value.cells, e3] using f)
  obtain ⟨C, cc, cs, rfl, hc, hcr⟩ : ∃ (a : Option Addr) (c : Nat) (l : List Cll), c4 = .slice a l.length c ∧ l.length ≤ maxLen ∧ RdR Cll.cs w a l := by
    obtain ⟨y, hy⟩ := get_some hlen' (show 4 < 5 by decide)
    have f := hi 4 _ rfl
    rw [hy] at f
    exact open_rowsCall (by simpa [Value.cells, e4] using f)
  exact ⟨A, T, C, ca, ct, cc, zs, ts, cs, clk, stp, rfl, hz, hzr, ht, htr, hc, hcr⟩
end
end Go.Proofs.Ytiogebflfnicgaa
