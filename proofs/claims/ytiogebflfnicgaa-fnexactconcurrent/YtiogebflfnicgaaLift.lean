/-
  How the arguments of the laws are opened: arenas, lists of integers.
-/
import Derived.Test.YtiogebflfnicgaaClosed
import Derived.Test.YtiogebflfnicgaaMem
import Derived.ProofKit
import Derived.OpenShut
import Derived.ShutString
import Derived.ChangeOld
import Derived.Lib.SmallJoins
namespace Go.Proofs.Ytiogebflfnicgaa
open Go.ChangeShapes Go.WideShapes Go.ChangeAt Go.RowKit Go.Joins
set_option maxRecDepth 100000

section
variable {H : Type} {enc : TypeId × Value → H} {w : World} {base : Nat} {spare : Nat → Bool} {held : Bool}

/-- A slice of ints that reads at its type reads as a list. -/
theorem open_rd {fuel : Nat} {a : Option Addr} {len cap : Nat} {x : DataW H × List MemPlace}
    (hf : DataW.trod enc Try.prog w base (fun _ => true) held fuel 22 [.slice a len cap] = some x) :
    ∃ zs : List Int, zs.length = len ∧ zs.length ≤ maxLen ∧ Rd w a zs ∧ ∀ z ∈ zs, (Lit.int .i64 z).wf = true := by
  rcases open_ints Try.underlying22 Try.underlying3 (by kernel_rfl) hf with ⟨hcs, _⟩ | ⟨y, l, c, zs, hcs, _, hl, hm, hz, _, hcell, hwz⟩
  · simp at hcs
    obtain ⟨rfl, rfl, rfl⟩ := hcs
    exact ⟨[], rfl, by simp, Rd.nil _ _, by simp⟩
  · simp at hcs
    obtain ⟨rfl, rfl, rfl⟩ := hcs
    have hz' : zs.length = cap := by simpa using hz
    have hlen : (zs.take len).length = len := by rw [List.length_take]; omega
    refine ⟨zs.take len, hlen, by omega, ?_, fun z hz => hwz z (List.mem_of_mem_take hz)⟩
    intro i hi
    rw [hlen] at hi
    have hc := hcell i (by omega)
    obtain ⟨b, off, spot⟩ := y
    have hspot : spot = none := by simpa [Addr.add] using World.cell?_spot (hcell 0 (by omega))
    subst hspot
    refine ⟨b, off, rfl, ?_⟩
    rw [Addr.add_lit] at hc
    rw [hc]
    congr 2
    simp [List.getD, hi]

theorem array1 {α : Type} {cs : Array α} (h : cs.size = 1) : ∃ c0, cs = #[c0] := by
  obtain ⟨l⟩ := cs
  match l, h with
  | [c0], _ => exact ⟨c0, rfl⟩

/-- A list of ints among the arguments. -/
theorem open_list {v : Value} {d : DataW H} {p : List MemPlace} {b0 : Nat} (hv : Value.okWide Try.prog w .any b0 22 v)
    (h : DataW.Trod enc Try.prog w base (fun _ => true) held 22 v d p) :
    ∃ (a : Option Addr) (c : Nat) (zs : List Int), v = .slice a zs.length c ∧ zs.length ≤ maxLen ∧ Rd w a zs ∧ ∀ z ∈ zs, (Lit.int .i64 z).wf = true := by
  obtain ⟨a, len, cap, rfl⟩ := okWide_slice Try.underlying22 hv
  obtain ⟨fuel, hf⟩ := h
  obtain ⟨zs, h1, h2, h3, h4⟩ := open_rd (by simpa [Value.cells] using hf)
  exact ⟨a, cap, zs, by rw [h1], h2, h3, h4⟩

/-- An arena among the arguments. -/
theorem open_arena {v : Value} {d : DataW H} {p : List MemPlace} {b0 : Nat} (hv : Value.okWide Try.prog w .any b0 53 v)
    (h : DataW.Trod enc Try.prog w base (fun _ => true) held 53 v d p) :
    ∃ (a : Option Addr) (c : Nat) (zs : List Int), v = .agg #[.slice a zs.length c] ∧ zs.length ≤ maxLen ∧ Rd w a zs ∧ ∀ z ∈ zs, (Lit.int .i64 z).wf = true := by
  obtain ⟨cs, rfl, hsz⟩ := okWide_struct Try.underlying53 hv
  obtain ⟨c0, rfl⟩ := array1 (hsz.trans (by kernel_rfl))
  obtain ⟨fuel, hf⟩ := h
  obtain ⟨y0, n, hx, _, h0⟩ := trod_struct1 Try.underlying53 hf
  have hcf : Try.prog.cellsOf 22 = 1 := by kernel_rfl
  simp only [Value.cells, hcf, List.drop_zero, List.take_succ_cons, List.take_zero] at h0
  obtain ⟨a, l, c, hcs⟩ := slice_form Try.underlying22 h0
  simp only [List.cons.injEq, and_true] at hcs
  subst hcs
  obtain ⟨zs, h1, h2, h3, h4⟩ := open_rd h0
  exact ⟨a, c, zs, by rw [h1], h2, h3, h4⟩
end
end Go.Proofs.Ytiogebflfnicgaa
