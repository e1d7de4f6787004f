/-
  Parking (chapter 4): what its functions answer.
-/
import Derived.Test.YtepjaahclcpaaaaThR
import Derived.Test.YtepjaahclcpaaaaPkA
namespace Go.Proofs.Ytepjaahclcpaaaa
open Go.RowKit

theorem results_th1 {fn : Func} {p : Tmp} (h : fn.results = #[.cell p 25]) (tmps : Array Value) (w : World) (g : Nat) (cs : Array Value)
    (hp : tmps.getD p undef = .pointer (some ⟨g, 0, none⟩)) (hg : BoxT w g cs) (hs : cs.size = 15) :
    (results fn tmps).run Try.prog w = .ok (.agg cs) w := by
  have hp' : tmps[p]?.getD undef = .pointer (some ⟨g, 0, none⟩) := by simpa using hp
  have hl := run_loadVar_row w g 25 25 cs (0, 0) _ hg Try.underlying25 rfl (by rw [hs]; exact info_th)
  simp [results, h, hp', asAddr, hl]

def parkB (id st op arg pc til : Int) (per can : Bool) (r0 r1 r2 r3 r4 code res : Int) : Th × Int :=
  if thB id st op arg pc til per can r0 r1 r2 r3 r4 code res = true then (if waitB op = true then (if (st == 2) = true then (⟨id, st, op, arg, pc, til, per, can, r0, r1, r2, r3, r4, code, res⟩, 11) else if per = true then (⟨id, st, op, arg, pc, til, false, can, r0, r1, r2, r3, r4, code, res⟩, 0) else (⟨id, 2, op, arg, pc, til, per, can, r0, r1, r2, r3, r4, code, res⟩, 0)) else (⟨id, st, op, arg, pc, til, per, can, r0, r1, r2, r3, r4, code, res⟩, 10)) else (thZero, 1)
def unpB (id st op arg pc til : Int) (per can : Bool) (r0 r1 r2 r3 r4 code res : Int) : Th × Int :=
  if thB id st op arg pc til per can r0 r1 r2 r3 r4 code res = true then (if (st == 2) = true then (⟨id, frB st, op, arg, pc, til, per, can, r0, r1, r2, r3, r4, code, res⟩, 0) else (⟨id, st, op, arg, pc, til, waitB op, can, r0, r1, r2, r3, r4, code, res⟩, 0)) else (thZero, 1)
def wakB (id st op arg pc til : Int) (per can : Bool) (r0 r1 r2 r3 r4 code res : Int) : Th × Int :=
  if thB id st op arg pc til per can r0 r1 r2 r3 r4 code res = true then (if (st == 2) = true then (⟨id, frB st, op, arg, pc, til, per, can, r0, r1, r2, r3, r4, code, res⟩, 0) else (⟨id, st, op, arg, pc, til, per, can, r0, r1, r2, r3, r4, code, res⟩, 10)) else (thZero, 1)
/-- It gives up: cancelled, or its time is over. -/
def gvB (can : Bool) (til now : Int) : Bool := can || (!(til == 0) && decide (til ≤ now))
def givB (id st op arg pc til : Int) (per can : Bool) (r0 r1 r2 r3 r4 code res : Int) (now : Int) : Bool × Int :=
  if thB id st op arg pc til per can r0 r1 r2 r3 r4 code res = true then (if inB now 0 1000000 = true then (gvB can til now, 0) else (false, 4)) else (false, 1)
def expB (id st op arg pc til : Int) (per can : Bool) (r0 r1 r2 r3 r4 code res : Int) (now : Int) : Th × Int :=
  if thB id st op arg pc til per can r0 r1 r2 r3 r4 code res = true then (if inB now 0 1000000 = true then (if gvB can til now = true then (⟨id, frB st, op, arg, pc, til, per, can, r0, r1, r2, r3, r4, code, res⟩, 0) else (⟨id, st, op, arg, pc, til, per, can, r0, r1, r2, r3, r4, code, res⟩, 0)) else (thZero, 4)) else (thZero, 1)

theorem parkB_bad (id st op arg pc til : Int) (per can : Bool) (r0 r1 r2 r3 r4 code res : Int) (h : thB id st op arg pc til per can r0 r1 r2 r3 r4 code res = false) : parkB id st op arg pc til per can r0 r1 r2 r3 r4 code res = (thZero, 1) := by unfold parkB; rw [h]; rfl
theorem parkB_idle (id st op arg pc til : Int) (per can : Bool) (r0 r1 r2 r3 r4 code res : Int) (h : thB id st op arg pc til per can r0 r1 r2 r3 r4 code res = true) (h1 : waitB op = false) : parkB id st op arg pc til per can r0 r1 r2 r3 r4 code res = (⟨id, st, op, arg, pc, til, per, can, r0, r1, r2, r3, r4, code, res⟩, 10) := by unfold parkB; rw [h, h1]; rfl
theorem parkB_parked (id st op arg pc til : Int) (per can : Bool) (r0 r1 r2 r3 r4 code res : Int) (h : thB id st op arg pc til per can r0 r1 r2 r3 r4 code res = true) (h1 : waitB op = true) (h2 : (st == 2) = true) : parkB id st op arg pc til per can r0 r1 r2 r3 r4 code res = (⟨id, st, op, arg, pc, til, per, can, r0, r1, r2, r3, r4, code, res⟩, 11) := by unfold parkB; rw [h, h1, h2]; rfl
theorem parkB_permit (id st op arg pc til : Int) (per can : Bool) (r0 r1 r2 r3 r4 code res : Int) (h : thB id st op arg pc til per can r0 r1 r2 r3 r4 code res = true) (h1 : waitB op = true) (h2 : (st == 2) = false) (h3 : per = true) : parkB id st op arg pc til per can r0 r1 r2 r3 r4 code res = (⟨id, st, op, arg, pc, til, false, can, r0, r1, r2, r3, r4, code, res⟩, 0) := by unfold parkB; rw [if_pos h, if_pos h1, if_neg (by rw [h2]; decide), if_pos h3]
theorem parkB_parks (id st op arg pc til : Int) (per can : Bool) (r0 r1 r2 r3 r4 code res : Int) (h : thB id st op arg pc til per can r0 r1 r2 r3 r4 code res = true) (h1 : waitB op = true) (h2 : (st == 2) = false) (h3 : per = false) : parkB id st op arg pc til per can r0 r1 r2 r3 r4 code res = (⟨id, 2, op, arg, pc, til, per, can, r0, r1, r2, r3, r4, code, res⟩, 0) := by unfold parkB; rw [if_pos h, if_pos h1, if_neg (by rw [h2]; decide), if_neg (by rw [h3]; decide)]
theorem unpB_bad (id st op arg pc til : Int) (per can : Bool) (r0 r1 r2 r3 r4 code res : Int) (h : thB id st op arg pc til per can r0 r1 r2 r3 r4 code res = false) : unpB id st op arg pc til per can r0 r1 r2 r3 r4 code res = (thZero, 1) := by unfold unpB; rw [h]; rfl
theorem unpB_parked (id st op arg pc til : Int) (per can : Bool) (r0 r1 r2 r3 r4 code res : Int) (h : thB id st op arg pc til per can r0 r1 r2 r3 r4 code res = true) (h1 : (st == 2) = true) : unpB id st op arg pc til per can r0 r1 r2 r3 r4 code res = (⟨id, frB st, op, arg, pc, til, per, can, r0, r1, r2, r3, r4, code, res⟩, 0) := by unfold unpB; rw [h, h1]; rfl
theorem unpB_other (id st op arg pc til : Int) (per can : Bool) (r0 r1 r2 r3 r4 code res : Int) (h : thB id st op arg pc til per can r0 r1 r2 r3 r4 code res = true) (h1 : (st == 2) = false) : unpB id st op arg pc til per can r0 r1 r2 r3 r4 code res = (⟨id, st, op, arg, pc, til, waitB op, can, r0, r1, r2, r3, r4, code, res⟩, 0) := by unfold unpB; rw [h, h1]; rfl
theorem wakB_bad (id st op arg pc til : Int) (per can : Bool) (r0 r1 r2 r3 r4 code res : Int) (h : thB id st op arg pc til per can r0 r1 r2 r3 r4 code res = false) : wakB id st op arg pc til per can r0 r1 r2 r3 r4 code res = (thZero, 1) := by unfold wakB; rw [h]; rfl
theorem wakB_ok (id st op arg pc til : Int) (per can : Bool) (r0 r1 r2 r3 r4 code res : Int) (h : thB id st op arg pc til per can r0 r1 r2 r3 r4 code res = true) (h1 : (st == 2) = true) : wakB id st op arg pc til per can r0 r1 r2 r3 r4 code res = (⟨id, frB st, op, arg, pc, til, per, can, r0, r1, r2, r3, r4, code, res⟩, 0) := by unfold wakB; rw [h, h1]; rfl
theorem wakB_idle (id st op arg pc til : Int) (per can : Bool) (r0 r1 r2 r3 r4 code res : Int) (h : thB id st op arg pc til per can r0 r1 r2 r3 r4 code res = true) (h1 : (st == 2) = false) : wakB id st op arg pc til per can r0 r1 r2 r3 r4 code res = (⟨id, st, op, arg, pc, til, per, can, r0, r1, r2, r3, r4, code, res⟩, 10) := by unfold wakB; rw [h, h1]; rfl
theorem givB_bad (id st op arg pc til : Int) (per can : Bool) (r0 r1 r2 r3 r4 code res : Int) (now : Int) (h : thB id st op arg pc til per can r0 r1 r2 r3 r4 code res = false) : givB id st op arg pc til per can r0 r1 r2 r3 r4 code res now = (false, 1) := by unfold givB; rw [h]; rfl
theorem givB_range (id st op arg pc til : Int) (per can : Bool) (r0 r1 r2 r3 r4 code res : Int) (now : Int) (h : thB id st op arg pc til per can r0 r1 r2 r3 r4 code res = true) (h1 : inB now 0 1000000 = false) : givB id st op arg pc til per can r0 r1 r2 r3 r4 code res now = (false, 4) := by unfold givB; rw [h, h1]; rfl
theorem givB_ok (id st op arg pc til : Int) (per can : Bool) (r0 r1 r2 r3 r4 code res : Int) (now : Int) (h : thB id st op arg pc til per can r0 r1 r2 r3 r4 code res = true) (h1 : inB now 0 1000000 = true) : givB id st op arg pc til per can r0 r1 r2 r3 r4 code res now = (gvB can til now, 0) := by unfold givB; rw [h, h1]; rfl
theorem expB_bad (id st op arg pc til : Int) (per can : Bool) (r0 r1 r2 r3 r4 code res : Int) (now : Int) (h : thB id st op arg pc til per can r0 r1 r2 r3 r4 code res = false) : expB id st op arg pc til per can r0 r1 r2 r3 r4 code res now = (thZero, 1) := by unfold expB; rw [h]; rfl
theorem expB_range (id st op arg pc til : Int) (per can : Bool) (r0 r1 r2 r3 r4 code res : Int) (now : Int) (h : thB id st op arg pc til per can r0 r1 r2 r3 r4 code res = true) (h1 : inB now 0 1000000 = false) : expB id st op arg pc til per can r0 r1 r2 r3 r4 code res now = (thZero, 4) := by unfold expB; rw [h, h1]; rfl
theorem expB_over (id st op arg pc til : Int) (per can : Bool) (r0 r1 r2 r3 r4 code res : Int) (now : Int) (h : thB id st op arg pc til per can r0 r1 r2 r3 r4 code res = true) (h1 : inB now 0 1000000 = true) (h2 : gvB can til now = true) : expB id st op arg pc til per can r0 r1 r2 r3 r4 code res now = (⟨id, frB st, op, arg, pc, til, per, can, r0, r1, r2, r3, r4, code, res⟩, 0) := by unfold expB; rw [h, h1, h2]; rfl
theorem expB_waits (id st op arg pc til : Int) (per can : Bool) (r0 r1 r2 r3 r4 code res : Int) (now : Int) (h : thB id st op arg pc til per can r0 r1 r2 r3 r4 code res = true) (h1 : inB now 0 1000000 = true) (h2 : gvB can til now = false) : expB id st op arg pc til per can r0 r1 r2 r3 r4 code res now = (⟨id, st, op, arg, pc, til, per, can, r0, r1, r2, r3, r4, code, res⟩, 0) := by unfold expB; rw [h, h1, h2]; rfl

theorem thB_til (id st op arg pc til : Int) (per can : Bool) (r0 r1 r2 r3 r4 code res : Int) (h : thB id st op arg pc til per can r0 r1 r2 r3 r4 code res = true) : 0 ≤ til := by
  cases hq : inB til 0 1000000
  · rw [thB_bad id st op arg pc til per can r0 r1 r2 r3 r4 code res (.inr (.inr (.inr (.inl hq))))] at h; cases h
  · exact (inB_true hq).1
/-- An idle thread has no permit. -/
theorem idle_per (id op arg pc til : Int) (per can : Bool) (r0 r1 r2 r3 r4 code res : Int) (h : thB id 0 op arg pc til per can r0 r1 r2 r3 r4 code res = true) : per = false := by
  cases h0 : inB id 0 3
  · rw [thB_id _ _ _ _ _ _ _ _ _ _ _ _ _ _ _ h0] at h; cases h
  rw [thB_idle _ _ _ _ _ _ _ _ _ _ _ _ _ _ h0] at h
  simp [idleB, bareB] at h
  exact h.1.1.1.1.2
theorem gvB_pos {can : Bool} {til now : Int} (h : 0 ≤ til) : (can || (decide (0 < til) && decide (til ≤ now))) = gvB can til now := by
  unfold gvB
  congr 2
  by_cases h0 : til = 0
  · subst h0; rfl
  · have : 0 < til := by omega
    simp [h0, this]
end Go.Proofs.Ytepjaahclcpaaaa
