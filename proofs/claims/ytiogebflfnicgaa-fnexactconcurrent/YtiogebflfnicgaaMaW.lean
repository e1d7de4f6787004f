/-
  Machines (chapter 9): the model's MachineOK answers as the program's.
-/
import Derived.Test.YtiogebflfnicgaaMaU
import Derived.Test.YtiogebflfnicgaaMaV
namespace Go.Proofs.Ytiogebflfnicgaa
open Go.RowKit

theorem four_of {α : Type} (l : List α) (h : l.length = 4) : ∃ a b c d, l = [a, b, c, d] := by
  rcases l with _ | ⟨a, _ | ⟨b, _ | ⟨c, _ | ⟨d, _ | ⟨e, l⟩⟩⟩⟩⟩
  all_goals first | exact ⟨_, _, _, _, rfl⟩ | (simp only [List.length_nil, List.length_cons] at h; omega)
theorem mod_mach (stp : Int) (ts : List Thd) (cs : List Cll) (h : ts.length = 4) : modB stp ts cs = (thFrom 0 ts && cs.all (stepB stp ts) && hcFrom cs 0 ts) := by
  obtain ⟨t0, t1, t2, t3, rfl⟩ := four_of ts h
  have e : hasTo cs 4 = hasO cs 0 + hasO cs 1 + hasO cs 2 + hasO cs 3 := by simp [hasTo]
  rw [← mach_one, modB, e]
theorem mach_no {zs : List Int} {ts : List Thd} {cs : List Cll} {clk stp : Int} (h : numB zs ts.length cs.length clk stp = false) : machB zs ts cs clk stp = false := by
  revert h
  unfold numB machB callsB
  cases arenaB zs <;> cases decide (15 ≤ zs.length) <;> cases decide (ts.length = 4) <;> cases inB clk 0 1000000 <;> cases inB stp 0 1000000 <;> cases decide (cs.length ≤ 4096) <;> simp
theorem mach_yes {zs : List Int} {ts : List Thd} {cs : List Cll} {clk stp : Int} (h : numB zs ts.length cs.length clk stp = true) : ts.length = 4 ∧ machB zs ts cs clk stp = (thFrom 0 ts && cs.all (stepB stp ts) && hcFrom cs 0 ts) := by
  unfold numB at h
  simp only [Bool.and_eq_true, decide_eq_true_eq] at h
  obtain ⟨⟨⟨⟨⟨q1, q2⟩, q3⟩, q4⟩, q5⟩, q6⟩ := h
  refine ⟨q3, ?_⟩
  unfold machB callsB
  rw [q1, q4, q5, decide_eq_true q2, decide_eq_true q3, decide_eq_true q6]
  simp [Bool.and_assoc]

theorem specMachineOK_any (A T C : Option Addr) (ca ct cc nt : Nat) (zs : List Int) (ts : List Thd) (cs : List Cll) (clk stp : Int) (w : World) (hnt : nt = ts.length) (hz : zs.length ≤ 1048576) (hA : Rd w A zs) (hT : RdR Thd.cs w T ts) (hC : RdR Cll.cs w C cs) :
    Calls Try.prog 73 #[.agg #[.slice A zs.length ca, .slice T nt ct, .int .i64 clk, .int .i64 stp, .slice C cs.length cc]] w fun e w' => e = .returned (.bool (machB zs ts cs clk stp)) ∧ Below w.heap.size w w' := by
  cases q : numB zs ts.length cs.length clk stp
  · rw [mach_no q]
    exact specMachine_no A T C ca ct cc nt zs cs clk stp w hz hA (by rw [hnt]; exact q)
  · obtain ⟨hl, hm⟩ := mach_yes q
    have h4 : nt = 4 := hnt.trans hl
    subst h4
    rw [hm, ← mod_mach stp ts cs hl]
    exact specMachine_yes A T C ca ct cc zs ts cs clk stp w hz hA hl hT hC (by rw [hl] at q; exact q)
end Go.Proofs.Ytiogebflfnicgaa
