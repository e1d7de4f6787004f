/-
  Histories: when a call is over, whether two overlap; Overlaps, IsBefore and SpanOf, the program's and the model's.
-/
import Derived.Test.YtiogebflfnicgaaHCall
import Derived.Test.YtiogebflfnicgaaBoxC
namespace Go.Proofs.Ytiogebflfnicgaa
open Go.RowKit

/-- Whether a call is over by a step. -/
def overB (to st : Int) : Bool := (!(to == 0)) && decide (to ≤ st)
theorem overB_open (st : Int) : overB 0 st = false := rfl
theorem overB_le {to st : Int} (h0 : (to == 0) = false) (h : to ≤ st) : overB to st = true := by simp [overB, h0, h]
theorem overB_gt {to st : Int} (h : st < to) : overB to st = false := by simp [overB]; omega
/-- The model's end of a call. -/
def endB (to : Int) : Int := if to = 0 then 1000001 else to
theorem endB_open : endB 0 = 1000001 := rfl
theorem endB_over {to : Int} (h : to ≠ 0) : endB to = to := if_neg h
theorem end_lt {to st : Int} (h : st ≤ 1000000) : decide (st < endB to) = !overB to st := by
  by_cases h0 : to = 0
  · subst h0; rw [endB_open, overB_open]; simp; omega
  · rw [endB_over h0]
    by_cases h1 : to ≤ st
    · rw [overB_le (by simpa using h0) h1]; simp; omega
    · rw [overB_gt (by omega)]; simp; omega
theorem end_le {to st : Int} (h : st ≤ 1000000) : decide (endB to ≤ st) = overB to st := by
  have := end_lt (to := to) h
  by_cases h1 : endB to ≤ st
  · have h2 : ¬ st < endB to := by omega
    rw [decide_eq_false h2] at this
    rw [decide_eq_true h1]; cases hq : overB to st <;> simp_all
  · have h2 : st < endB to := by omega
    rw [decide_eq_true h2] at this
    rw [decide_eq_false h1]; cases hq : overB to st <;> simp_all
theorem clB_from {th op arg fr to code res : Int} (h : clB th op arg fr to code res = true) : fr ≤ 1000000 := by
  cases h4 : inB fr 0 1000000
  · rw [clB_fr _ _ _ _ _ _ _ h4] at h; cases h
  · have := inB_true h4; omega
/-- Whether two calls overlap. -/
def ovB (fra toa frb tob : Int) : Bool := (!overB toa frb) && (!overB tob fra)

theorem keep2C {w w' : World} {b b2 : Nat} (tha opa arga fra toa codea resa : Int) (thb opb argb frb tob codeb resb : Int) (hb : Below w.heap.size w w') (h : (w.cell? ⟨b, 0, none⟩ = some (.int .i64 tha) ∧ w.cell? ⟨b, 1, none⟩ = some (.int .i64 opa) ∧ w.cell? ⟨b, 2, none⟩ = some (.int .i64 arga) ∧ w.cell? ⟨b, 3, none⟩ = some (.int .i64 fra) ∧ w.cell? ⟨b, 4, none⟩ = some (.int .i64 toa) ∧ w.cell? ⟨b, 5, none⟩ = some (.int .i64 codea) ∧ w.cell? ⟨b, 6, none⟩ = some (.int .i64 resa)) ∧ (w.cell? ⟨b2, 0, none⟩ = some (.int .i64 thb) ∧ w.cell? ⟨b2, 1, none⟩ = some (.int .i64 opb) ∧ w.cell? ⟨b2, 2, none⟩ = some (.int .i64 argb) ∧ w.cell? ⟨b2, 3, none⟩ = some (.int .i64 frb) ∧ w.cell? ⟨b2, 4, none⟩ = some (.int .i64 tob) ∧ w.cell? ⟨b2, 5, none⟩ = some (.int .i64 codeb) ∧ w.cell? ⟨b2, 6, none⟩ = some (.int .i64 resb))) : (w'.cell? ⟨b, 0, none⟩ = some (.int .i64 tha) ∧ w'.cell? ⟨b, 1, none⟩ = some (.int .i64 opa) ∧ w'.cell? ⟨b, 2, none⟩ = some (.int .i64 arga) ∧ w'.cell? ⟨b, 3, none⟩ = some (.int .i64 fra) ∧ w'.cell? ⟨b, 4, none⟩ = some (.int .i64 toa) ∧ w'.cell? ⟨b, 5, none⟩ = some (.int .i64 codea) ∧ w'.cell? ⟨b, 6, none⟩ = some (.int .i64 resa)) ∧ (w'.cell? ⟨b2, 0, none⟩ = some (.int .i64 thb) ∧ w'.cell? ⟨b2, 1, none⟩ = some (.int .i64 opb) ∧ w'.cell? ⟨b2, 2, none⟩ = some (.int .i64 argb) ∧ w'.cell? ⟨b2, 3, none⟩ = some (.int .i64 frb) ∧ w'.cell? ⟨b2, 4, none⟩ = some (.int .i64 tob) ∧ w'.cell? ⟨b2, 5, none⟩ = some (.int .i64 codeb) ∧ w'.cell? ⟨b2, 6, none⟩ = some (.int .i64 resb)) := by
  obtain ⟨⟨h0, h1, h2, h3, h4, h5, h6⟩, ⟨g0, g1, g2, g3, g4, g5, g6⟩⟩ := h
  exact ⟨⟨cell_keep hb h0, cell_keep hb h1, cell_keep hb h2, cell_keep hb h3, cell_keep hb h4, cell_keep hb h5, cell_keep hb h6⟩, ⟨cell_keep hb g0, cell_keep hb g1, cell_keep hb g2, cell_keep hb g3, cell_keep hb g4, cell_keep hb g5, cell_keep hb g6⟩⟩
theorem keep1C {w w' : World} {b : Nat} (tha opa arga fra toa codea resa : Int) (hb : Below w.heap.size w w') (h : (w.cell? ⟨b, 0, none⟩ = some (.int .i64 tha) ∧ w.cell? ⟨b, 1, none⟩ = some (.int .i64 opa) ∧ w.cell? ⟨b, 2, none⟩ = some (.int .i64 arga) ∧ w.cell? ⟨b, 3, none⟩ = some (.int .i64 fra) ∧ w.cell? ⟨b, 4, none⟩ = some (.int .i64 toa) ∧ w.cell? ⟨b, 5, none⟩ = some (.int .i64 codea) ∧ w.cell? ⟨b, 6, none⟩ = some (.int .i64 resa))) : (w'.cell? ⟨b, 0, none⟩ = some (.int .i64 tha) ∧ w'.cell? ⟨b, 1, none⟩ = some (.int .i64 opa) ∧ w'.cell? ⟨b, 2, none⟩ = some (.int .i64 arga) ∧ w'.cell? ⟨b, 3, none⟩ = some (.int .i64 fra) ∧ w'.cell? ⟨b, 4, none⟩ = some (.int .i64 toa) ∧ w'.cell? ⟨b, 5, none⟩ = some (.int .i64 codea) ∧ w'.cell? ⟨b, 6, none⟩ = some (.int .i64 resa)) := by
  obtain ⟨h0, h1, h2, h3, h4, h5, h6⟩ := h
  exact ⟨cell_keep hb h0, cell_keep hb h1, cell_keep hb h2, cell_keep hb h3, cell_keep hb h4, cell_keep hb h5, cell_keep hb h6⟩
theorem new2C (t t2 : TypeId) (tha opa arga fra toa codea resa : Int) (thb opb argb frb tob codeb resb : Int) (w : World) : (((w.alloc (.cells #[.int .i64 tha, .int .i64 opa, .int .i64 arga, .int .i64 fra, .int .i64 toa, .int .i64 codea, .int .i64 resa] t)).alloc (.cells #[.int .i64 thb, .int .i64 opb, .int .i64 argb, .int .i64 frb, .int .i64 tob, .int .i64 codeb, .int .i64 resb] t2)).cell? ⟨w.heap.size, 0, none⟩ = some (.int .i64 tha) ∧ ((w.alloc (.cells #[.int .i64 tha, .int .i64 opa, .int .i64 arga, .int .i64 fra, .int .i64 toa, .int .i64 codea, .int .i64 resa] t)).alloc (.cells #[.int .i64 thb, .int .i64 opb, .int .i64 argb, .int .i64 frb, .int .i64 tob, .int .i64 codeb, .int .i64 resb] t2)).cell? ⟨w.heap.size, 1, none⟩ = some (.int .i64 opa) ∧ ((w.alloc (.cells #[.int .i64 tha, .int .i64 opa, .int .i64 arga, .int .i64 fra, .int .i64 toa, .int .i64 codea, .int .i64 resa] t)).alloc (.cells #[.int .i64 thb, .int .i64 opb, .int .i64 argb, .int .i64 frb, .int .i64 tob, .int .i64 codeb, .int .i64 resb] t2)).cell? ⟨w.heap.size, 2, none⟩ = some (.int .i64 arga) ∧ ((w.alloc (.cells #[.int .i64 tha, .int .i64 opa, .int .i64 arga, .int .i64 fra, .int .i64 toa, .int .i64 codea, .int .i64 resa] t)).alloc (.cells #[.int .i64 thb, .int .i64 opb, .int .i64 argb, .int .i64 frb, .int .i64 tob, .int .i64 codeb, .int .i64 resb] t2)).cell? ⟨w.heap.size, 3, none⟩ = some (.int .i64 fra) ∧ ((w.alloc (.cells #[.int .i64 tha, .int .i64 opa, .int .i64 arga, .int .i64 fra, .int .i64 toa, .int .i64 codea, .int .i64 resa] t)).alloc (.cells #[.int .i64 thb, .int .i64 opb, .int .i64 argb, .int .i64 frb, .int .i64 tob, .int .i64 codeb, .int .i64 resb] t2)).cell? ⟨w.heap.size, 4, none⟩ = some (.int .i64 toa) ∧ ((w.alloc (.cells #[.int .i64 tha, .int .i64 opa, .int .i64 arga, .int .i64 fra, .int .i64 toa, .int .i64 codea, .int .i64 resa] t)).alloc (.cells #[.int .i64 thb, .int .i64 opb, .int .i64 argb, .int .i64 frb, .int .i64 tob, .int .i64 codeb, .int .i64 resb] t2)).cell? ⟨w.heap.size, 5, none⟩ = some (.int .i64 codea) ∧ ((w.alloc (.cells #[.int .i64 tha, .int .i64 opa, .int .i64 arga, .int .i64 fra, .int .i64 toa, .int .i64 codea, .int .i64 resa] t)).alloc (.cells #[.int .i64 thb, .int .i64 opb, .int .i64 argb, .int .i64 frb, .int .i64 tob, .int .i64 codeb, .int .i64 resb] t2)).cell? ⟨w.heap.size, 6, none⟩ = some (.int .i64 resa)) ∧ (((w.alloc (.cells #[.int .i64 tha, .int .i64 opa, .int .i64 arga, .int .i64 fra, .int .i64 toa, .int .i64 codea, .int .i64 resa] t)).alloc (.cells #[.int .i64 thb, .int .i64 opb, .int .i64 argb, .int .i64 frb, .int .i64 tob, .int .i64 codeb, .int .i64 resb] t2)).cell? ⟨w.heap.size + 1, 0, none⟩ = some (.int .i64 thb) ∧ ((w.alloc (.cells #[.int .i64 tha, .int .i64 opa, .int .i64 arga, .int .i64 fra, .int .i64 toa, .int .i64 codea, .int .i64 resa] t)).alloc (.cells #[.int .i64 thb, .int .i64 opb, .int .i64 argb, .int .i64 frb, .int .i64 tob, .int .i64 codeb, .int .i64 resb] t2)).cell? ⟨w.heap.size + 1, 1, none⟩ = some (.int .i64 opb) ∧ ((w.alloc (.cells #[.int .i64 tha, .int .i64 opa, .int .i64 arga, .int .i64 fra, .int .i64 toa, .int .i64 codea, .int .i64 resa] t)).alloc (.cells #[.int .i64 thb, .int .i64 opb, .int .i64 argb, .int .i64 frb, .int .i64 tob, .int .i64 codeb, .int .i64 resb] t2)).cell? ⟨w.heap.size + 1, 2, none⟩ = some (.int .i64 argb) ∧ ((w.alloc (.cells #[.int .i64 tha, .int .i64 opa, .int .i64 arga, .int .i64 fra, .int .i64 toa, .int .i64 codea, .int .i64 resa] t)).alloc (.cells #[.int .i64 thb, .int .i64 opb, .int .i64 argb, .int .i64 frb, .int .i64 tob, .int .i64 codeb, .int .i64 resb] t2)).cell? ⟨w.heap.size + 1, 3, none⟩ = some (.int .i64 frb) ∧ ((w.alloc (.cells #[.int .i64 tha, .int .i64 opa, .int .i64 arga, .int .i64 fra, .int .i64 toa, .int .i64 codea, .int .i64 resa] t)).alloc (.cells #[.int .i64 thb, .int .i64 opb, .int .i64 argb, .int .i64 frb, .int .i64 tob, .int .i64 codeb, .int .i64 resb] t2)).cell? ⟨w.heap.size + 1, 4, none⟩ = some (.int .i64 tob) ∧ ((w.alloc (.cells #[.int .i64 tha, .int .i64 opa, .int .i64 arga, .int .i64 fra, .int .i64 toa, .int .i64 codea, .int .i64 resa] t)).alloc (.cells #[.int .i64 thb, .int .i64 opb, .int .i64 argb, .int .i64 frb, .int .i64 tob, .int .i64 codeb, .int .i64 resb] t2)).cell? ⟨w.heap.size + 1, 5, none⟩ = some (.int .i64 codeb) ∧ ((w.alloc (.cells #[.int .i64 tha, .int .i64 opa, .int .i64 arga, .int .i64 fra, .int .i64 toa, .int .i64 codea, .int .i64 resa] t)).alloc (.cells #[.int .i64 thb, .int .i64 opb, .int .i64 argb, .int .i64 frb, .int .i64 tob, .int .i64 codeb, .int .i64 resb] t2)).cell? ⟨w.heap.size + 1, 6, none⟩ = some (.int .i64 resb)) := by
  refine ⟨⟨?_, ?_, ?_, ?_, ?_, ?_, ?_⟩, ⟨?_, ?_, ?_, ?_, ?_, ?_, ?_⟩⟩ <;> simp
theorem new1C (t : TypeId) (tha opa arga fra toa codea resa : Int) (w : World) : ((w.alloc (.cells #[.int .i64 tha, .int .i64 opa, .int .i64 arga, .int .i64 fra, .int .i64 toa, .int .i64 codea, .int .i64 resa] t)).cell? ⟨w.heap.size, 0, none⟩ = some (.int .i64 tha) ∧ (w.alloc (.cells #[.int .i64 tha, .int .i64 opa, .int .i64 arga, .int .i64 fra, .int .i64 toa, .int .i64 codea, .int .i64 resa] t)).cell? ⟨w.heap.size, 1, none⟩ = some (.int .i64 opa) ∧ (w.alloc (.cells #[.int .i64 tha, .int .i64 opa, .int .i64 arga, .int .i64 fra, .int .i64 toa, .int .i64 codea, .int .i64 resa] t)).cell? ⟨w.heap.size, 2, none⟩ = some (.int .i64 arga) ∧ (w.alloc (.cells #[.int .i64 tha, .int .i64 opa, .int .i64 arga, .int .i64 fra, .int .i64 toa, .int .i64 codea, .int .i64 resa] t)).cell? ⟨w.heap.size, 3, none⟩ = some (.int .i64 fra) ∧ (w.alloc (.cells #[.int .i64 tha, .int .i64 opa, .int .i64 arga, .int .i64 fra, .int .i64 toa, .int .i64 codea, .int .i64 resa] t)).cell? ⟨w.heap.size, 4, none⟩ = some (.int .i64 toa) ∧ (w.alloc (.cells #[.int .i64 tha, .int .i64 opa, .int .i64 arga, .int .i64 fra, .int .i64 toa, .int .i64 codea, .int .i64 resa] t)).cell? ⟨w.heap.size, 5, none⟩ = some (.int .i64 codea) ∧ (w.alloc (.cells #[.int .i64 tha, .int .i64 opa, .int .i64 arga, .int .i64 fra, .int .i64 toa, .int .i64 codea, .int .i64 resa] t)).cell? ⟨w.heap.size, 6, none⟩ = some (.int .i64 resa)) := by
  refine ⟨?_, ?_, ?_, ?_, ?_, ?_, ?_⟩ <;> simp

theorem isOverBy_any (th op arg fr to code res st : Int) (w : World) : Calls Try.prog 125 #[.agg #[.int .i64 th, .int .i64 op, .int .i64 arg, .int .i64 fr, .int .i64 to, .int .i64 code, .int .i64 res], .int .i64 st] w fun e w' => e = .returned (.bool (overB to st)) ∧ Below w.heap.size w w' := by
  go_enter Try.func125, Try.ntmps125
  go_wp2_with fail
  refine (isOpen_any _ _ _ _ _ _ _ _).mono ?_
  rintro e w1 ⟨rfl, hb⟩
  have HB := Lib.hid (below_trans (below_alloc _ _) hb)
  have hx4 : w1.cell? ⟨w.heap.size, 4, none⟩ = some (.int .i64 to) := cell_keep hb (by simp)
  clear hb
  cases h0 : to == 0
  · by_cases h1 : to ≤ st
    · go_wp2
      go_ret
      exact ⟨ret_bool (overB_le h0 h1).symm, HB.out⟩
    · have h1 : st < to := by omega
      go_wp2
      go_ret
      exact ⟨ret_bool (by rw [overB_gt h1]; simp; omega), HB.out⟩
  · have h2 : to = 0 := by simpa using h0
    subst h2
    go_wp2
    go_ret
    exact ⟨ret_bool (overB_open st).symm, HB.out⟩

theorem l09End_any (th op arg fr to code res : Int) (w : World) : Calls Try.prog 124 #[.agg #[.int .i64 th, .int .i64 op, .int .i64 arg, .int .i64 fr, .int .i64 to, .int .i64 code, .int .i64 res]] w fun e w' => e = .returned (.int .i64 (endB to)) ∧ Below w.heap.size w w' := by
  by_cases h0 : to = 0
  · subst h0
    go_enter Try.func124, Try.ntmps124
    go_wp2
    go_ret
    exact ⟨rfl, below_alloc _ _⟩
  · have HV := Lib.hid (endB_over h0)
    have hz : (to == 0) = false := by simpa using h0
    go_enter Try.func124, Try.ntmps124
    go_wp2
    go_ret
    rw [HV.out]
    exact ⟨rfl, below_alloc _ _⟩

set_option maxHeartbeats 2000000 in
theorem overlaps_any (tha opa arga fra toa codea resa : Int) (thb opb argb frb tob codeb resb : Int) (w : World) : Calls Try.prog 88 #[.agg #[.int .i64 tha, .int .i64 opa, .int .i64 arga, .int .i64 fra, .int .i64 toa, .int .i64 codea, .int .i64 resa], .agg #[.int .i64 thb, .int .i64 opb, .int .i64 argb, .int .i64 frb, .int .i64 tob, .int .i64 codeb, .int .i64 resb]] w fun e w' => e = .returned (.bool (ovB fra toa frb tob)) ∧ Below w.heap.size w w' := by
  cases q1 : overB toa frb
  · cases q2 : overB tob fra
    · go_enter Try.func88, Try.ntmps88
      have HC := Lib.hid (new2C 109 109 tha opa arga fra toa codea resa thb opb argb frb tob codeb resb w)
      go_wp2_with fail
      refine (isOverBy_any _ _ _ _ _ _ _ _ _).mono ?_
      rintro e w1 ⟨rfl, hb⟩
      have HB := Lib.hid (below_trans (below_alloc2 _ _ _) hb)
      obtain ⟨⟨h0, h1, h2, h3, h4, h5, h6⟩, ⟨g0, g1, g2, g3, g4, g5, g6⟩⟩ := keep2C _ _ _ _ _ _ _ _ _ _ _ _ _ _ hb HC.out
      clear hb
      rw [q1]
      go_wp2_with fail
      refine (isOverBy_any _ _ _ _ _ _ _ _ _).mono ?_
      rintro e w2 ⟨rfl, hb⟩
      have HB2 := Lib.hid (below_trans HB.out hb)
      clear hb
      rw [q2]
      go_wp2
      go_ret
      exact ⟨ret_bool (by simp [ovB, q1, q2]), HB2.out⟩
    · go_enter Try.func88, Try.ntmps88
      have HC := Lib.hid (new2C 109 109 tha opa arga fra toa codea resa thb opb argb frb tob codeb resb w)
      go_wp2_with fail
      refine (isOverBy_any _ _ _ _ _ _ _ _ _).mono ?_
      rintro e w1 ⟨rfl, hb⟩
      have HB := Lib.hid (below_trans (below_alloc2 _ _ _) hb)
      obtain ⟨⟨h0, h1, h2, h3, h4, h5, h6⟩, ⟨g0, g1, g2, g3, g4, g5, g6⟩⟩ := keep2C _ _ _ _ _ _ _ _ _ _ _ _ _ _ hb HC.out
      clear hb
      rw [q1]
      go_wp2_with fail
      refine (isOverBy_any _ _ _ _ _ _ _ _ _).mono ?_
      rintro e w2 ⟨rfl, hb⟩
      have HB2 := Lib.hid (below_trans HB.out hb)
      clear hb
      rw [q2]
      go_wp2
      go_ret
      exact ⟨ret_bool (by simp [ovB, q1, q2]), HB2.out⟩
  · go_enter Try.func88, Try.ntmps88
    have HC := Lib.hid (new2C 109 109 tha opa arga fra toa codea resa thb opb argb frb tob codeb resb w)
    go_wp2_with fail
    refine (isOverBy_any _ _ _ _ _ _ _ _ _).mono ?_
    rintro e w1 ⟨rfl, hb⟩
    have HB := Lib.hid (below_trans (below_alloc2 _ _ _) hb)
    obtain ⟨⟨h0, h1, h2, h3, h4, h5, h6⟩, ⟨g0, g1, g2, g3, g4, g5, g6⟩⟩ := keep2C _ _ _ _ _ _ _ _ _ _ _ _ _ _ hb HC.out
    clear hb
    rw [q1]
    go_wp2
    go_ret
    exact ⟨ret_bool (by simp [ovB, q1]), HB.out⟩

set_option maxHeartbeats 4000000 in
set_option maxRecDepth 100000 in
theorem l09Overlap_any (tha opa arga fra toa codea resa : Int) (thb opb argb frb tob codeb resb : Int) (w : World) (ha : fra ≤ 1000000) (hb : frb ≤ 1000000) : Calls Try.prog 87 #[.agg #[.int .i64 tha, .int .i64 opa, .int .i64 arga, .int .i64 fra, .int .i64 toa, .int .i64 codea, .int .i64 resa], .agg #[.int .i64 thb, .int .i64 opb, .int .i64 argb, .int .i64 frb, .int .i64 tob, .int .i64 codeb, .int .i64 resb]] w fun e w' => e = .returned (.bool (ovB fra toa frb tob)) ∧ Below w.heap.size w w' := by
  have K1 := Lib.hid (end_lt (to := tob) ha)
  have K2 := Lib.hid (end_lt (to := toa) hb)
  clear ha hb
  have HC := Lib.hid (new2C 109 109 tha opa arga fra toa codea resa thb opb argb frb tob codeb resb w)
  obtain ⟨ea, hea⟩ : ∃ x, endB toa = x := ⟨_, rfl⟩
  obtain ⟨eb, heb⟩ : ∃ x, endB tob = x := ⟨_, rfl⟩
  rw [heb] at K1; rw [hea] at K2
  have HEA := Lib.hid hea; have HEB := Lib.hid heb; clear hea heb
  by_cases h1 : fra < eb
  · by_cases h2 : frb < ea
    · skip
      go_enter Try.func87, Try.ntmps87
      go_wp2_with fail
      go_region_held3 (fun w' => (w'.cell? ⟨w.heap.size, 0, none⟩ = some (.int .i64 tha) ∧ w'.cell? ⟨w.heap.size, 1, none⟩ = some (.int .i64 opa) ∧ w'.cell? ⟨w.heap.size, 2, none⟩ = some (.int .i64 arga) ∧ w'.cell? ⟨w.heap.size, 3, none⟩ = some (.int .i64 fra) ∧ w'.cell? ⟨w.heap.size, 4, none⟩ = some (.int .i64 toa) ∧ w'.cell? ⟨w.heap.size, 5, none⟩ = some (.int .i64 codea) ∧ w'.cell? ⟨w.heap.size, 6, none⟩ = some (.int .i64 resa)) ∧ (w'.cell? ⟨(w.heap.size + 1), 0, none⟩ = some (.int .i64 thb) ∧ w'.cell? ⟨(w.heap.size + 1), 1, none⟩ = some (.int .i64 opb) ∧ w'.cell? ⟨(w.heap.size + 1), 2, none⟩ = some (.int .i64 argb) ∧ w'.cell? ⟨(w.heap.size + 1), 3, none⟩ = some (.int .i64 frb) ∧ w'.cell? ⟨(w.heap.size + 1), 4, none⟩ = some (.int .i64 tob) ∧ w'.cell? ⟨(w.heap.size + 1), 5, none⟩ = some (.int .i64 codeb) ∧ w'.cell? ⟨(w.heap.size + 1), 6, none⟩ = some (.int .i64 resb))) (first | exact HC.out | exact keep2C _ _ _ _ _ _ _ _ _ _ _ _ _ _ (below_drew_trans hb1) HC.out | exact keep2C _ _ _ _ _ _ _ _ _ _ _ _ _ _ hb2 (keep2C _ _ _ _ _ _ _ _ _ _ _ _ _ _ (below_drew_trans hb1) HC.out))
        (first | (go_at_call 124; (with_reducible refine (l09End_any thb opb argb frb tob codeb resb _).mono ?_); rintro e u1 ⟨rfl, hb1⟩; rw [HEB.out]) | (go_at_call 124; (with_reducible refine (l09End_any tha opa arga fra toa codea resa _).mono ?_); rintro e u2 ⟨rfl, hb2⟩; rw [HEA.out]))
      have HB := Lib.hid (below_trans (below_alloc2 _ _ _) (below_trans (below_drew_trans hb1) hb2))
      clear hb1 hb2
      go_wp2
      go_ret
      exact ⟨ret_bool (by rw [ovB, ← K1.out, ← K2.out]; simp; omega), HB.out⟩
    · have h2 : ea ≤ frb := by omega
      go_enter Try.func87, Try.ntmps87
      go_wp2_with fail
      go_region_held3 (fun w' => (w'.cell? ⟨w.heap.size, 0, none⟩ = some (.int .i64 tha) ∧ w'.cell? ⟨w.heap.size, 1, none⟩ = some (.int .i64 opa) ∧ w'.cell? ⟨w.heap.size, 2, none⟩ = some (.int .i64 arga) ∧ w'.cell? ⟨w.heap.size, 3, none⟩ = some (.int .i64 fra) ∧ w'.cell? ⟨w.heap.size, 4, none⟩ = some (.int .i64 toa) ∧ w'.cell? ⟨w.heap.size, 5, none⟩ = some (.int .i64 codea) ∧ w'.cell? ⟨w.heap.size, 6, none⟩ = some (.int .i64 resa)) ∧ (w'.cell? ⟨(w.heap.size + 1), 0, none⟩ = some (.int .i64 thb) ∧ w'.cell? ⟨(w.heap.size + 1), 1, none⟩ = some (.int .i64 opb) ∧ w'.cell? ⟨(w.heap.size + 1), 2, none⟩ = some (.int .i64 argb) ∧ w'.cell? ⟨(w.heap.size + 1), 3, none⟩ = some (.int .i64 frb) ∧ w'.cell? ⟨(w.heap.size + 1), 4, none⟩ = some (.int .i64 tob) ∧ w'.cell? ⟨(w.heap.size + 1), 5, none⟩ = some (.int .i64 codeb) ∧ w'.cell? ⟨(w.heap.size + 1), 6, none⟩ = some (.int .i64 resb))) (first | exact HC.out | exact keep2C _ _ _ _ _ _ _ _ _ _ _ _ _ _ (below_drew_trans hb1) HC.out | exact keep2C _ _ _ _ _ _ _ _ _ _ _ _ _ _ hb2 (keep2C _ _ _ _ _ _ _ _ _ _ _ _ _ _ (below_drew_trans hb1) HC.out))
        (first | (go_at_call 124; (with_reducible refine (l09End_any thb opb argb frb tob codeb resb _).mono ?_); rintro e u1 ⟨rfl, hb1⟩; rw [HEB.out]) | (go_at_call 124; (with_reducible refine (l09End_any tha opa arga fra toa codea resa _).mono ?_); rintro e u2 ⟨rfl, hb2⟩; rw [HEA.out]))
      have HB := Lib.hid (below_trans (below_alloc2 _ _ _) (below_trans (below_drew_trans hb1) hb2))
      clear hb1 hb2
      go_wp2
      go_ret
      exact ⟨ret_bool (by rw [ovB, ← K1.out, ← K2.out]; simp; omega), HB.out⟩
  · have h1 : eb ≤ fra := by omega
    go_enter Try.func87, Try.ntmps87
    go_wp2_with fail
    obtain ⟨⟨h0, h1, h2, h3, h4, h5, h6⟩, ⟨g0, g1, g2, g3, g4, g5, g6⟩⟩ := HC.out
    first | (go_region_with ((go_at_call 124; (with_reducible refine (l09End_any thb opb argb frb tob codeb resb _).mono ?_); rintro e u1 ⟨rfl, hb1⟩; rw [HEB.out]); obtain ⟨⟨h0, h1, h2, h3, h4, h5, h6⟩, ⟨g0, g1, g2, g3, g4, g5, g6⟩⟩ := keep2C _ _ _ _ _ _ _ _ _ _ _ _ _ _ (below_drew_trans hb1) HC.out; have HB := Lib.hid (below_trans (below_alloc2 _ _ _) (below_drew_trans hb1)); clear hb1)) | fail
    all_goals
      go_wp2
      go_ret
      exact ⟨ret_bool (by rw [ovB, ← K1.out, ← K2.out]; simp; omega), by first | exact HB.out | exact HB.out.drew⟩
end Go.Proofs.Ytiogebflfnicgaa
