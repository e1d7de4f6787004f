/-
  Histories: Overlaps, IsBefore and SpanOf, the program's and the model's.
-/
import Derived.Test.YtankgijibenehaaHistA
namespace Go.Proofs.Ytankgijibenehaa
open Go.RowKit

theorem ret_pair {a b : Bool} {k l : Int} (h : a = b) (h2 : k = l) : Ending.returned (.tuple #[.bool a, .int .i64 k]) = .returned (.tuple #[.bool b, .int .i64 l]) := by rw [h, h2]
theorem ret_pairi {a b : Int} {k l : Int} (h : a = b) (h2 : k = l) : Ending.returned (.tuple #[.int .i64 a, .int .i64 k]) = .returned (.tuple #[.int .i64 b, .int .i64 l]) := by rw [h, h2]
/-- The code of what asks two calls. -/
def twoC (a b : Bool) : Int := if a && b then 0 else 1
/-- What SpanOf answers, and its code. -/
def spanR (ok : Bool) (fr to : Int) : Int := if ok && !(to == 0) then to - fr else 0
def spanC (ok : Bool) (to : Int) : Int := if ok then (if to = 0 then 5 else 0) else 1
theorem clB_span {th op arg fr to code res : Int} (h : clB th op arg fr to code res = true) (h2 : to ≠ 0) : 0 ≤ fr ∧ fr ≤ to ∧ to ≤ 1000000 := by
  cases h4 : inB fr 0 1000000
  · rw [clB_fr _ _ _ _ _ _ _ h4] at h; cases h
  unfold clB at h
  simp only [if_neg h2, Bool.and_eq_true] at h
  have a := inB_iff.1 h4
  have b := inB_iff.1 h.2.1.1
  omega

set_option maxHeartbeats 4000000 in
set_option maxRecDepth 100000 in
theorem implOverlaps_any (tha opa arga fra toa codea resa : Int) (thb opb argb frb tob codeb resb : Int) (w : World) : Calls Try.prog 15 #[.agg #[.int .i64 tha, .int .i64 opa, .int .i64 arga, .int .i64 fra, .int .i64 toa, .int .i64 codea, .int .i64 resa], .agg #[.int .i64 thb, .int .i64 opb, .int .i64 argb, .int .i64 frb, .int .i64 tob, .int .i64 codeb, .int .i64 resb]] w fun e w' => e = .returned (.tuple #[.bool (clB tha opa arga fra toa codea resa && clB thb opb argb frb tob codeb resb && ovB fra toa frb tob), .int .i64 (twoC (clB tha opa arga fra toa codea resa) (clB thb opb argb frb tob codeb resb))]) ∧ Below w.heap.size w w' := by
  have HC := Lib.hid (new2C 24 24 tha opa arga fra toa codea resa thb opb argb frb tob codeb resb w)
  cases QA : clB tha opa arga fra toa codea resa
  · go_enter Try.func15, Try.ntmps15
    go_wp2_with fail
    refine (implCallOK_any _ _ _ _ _ _ _ _).mono ?_
    rintro e w1 ⟨rfl, hb⟩
    have HB := Lib.hid (below_trans (below_alloc2 _ _ _) hb)
    rw [QA]
    clear hb
    go_wp2
    refine bodyPost_ret (v := .tuple #[.bool false, .int .i64 1]) (by simp [results, Try.results15, go_sem]) rfl ⟨ret_pair (by simp) (by simp [twoC]), HB.out⟩
  cases QB : clB thb opb argb frb tob codeb resb
  · go_enter Try.func15, Try.ntmps15
    go_wp2_with fail
    refine (implCallOK_any _ _ _ _ _ _ _ _).mono ?_
    rintro e w1 ⟨rfl, hb⟩
    have HB := Lib.hid (below_trans (below_alloc2 _ _ _) hb)
    rw [QA]
    have HC1 := Lib.hid (keep2C _ _ _ _ _ _ _ _ _ _ _ _ _ _ hb HC.out)
    clear hb
    obtain ⟨⟨h0, h1, h2, h3, h4, h5, h6⟩, ⟨g0, g1, g2, g3, g4, g5, g6⟩⟩ := HC1.out
    go_wp2_with fail
    refine (implCallOK_any _ _ _ _ _ _ _ _).mono ?_
    rintro e w2 ⟨rfl, hb⟩
    have HB2 := Lib.hid (below_trans HB.out hb)
    rw [QB]
    have HC2 := Lib.hid (keep2C _ _ _ _ _ _ _ _ _ _ _ _ _ _ hb HC1.out)
    clear hb HC1 h0 g0 h1 g1 h2 g2 h3 g3 h4 g4 h5 g5 h6 g6
    go_wp2
    refine bodyPost_ret (v := .tuple #[.bool false, .int .i64 1]) (by simp [results, Try.results15, go_sem]) rfl ⟨ret_pair (by simp) (by simp [twoC]), HB2.out⟩
  go_enter Try.func15, Try.ntmps15
  go_wp2_with fail
  refine (implCallOK_any _ _ _ _ _ _ _ _).mono ?_
  rintro e w1 ⟨rfl, hb⟩
  have HB := Lib.hid (below_trans (below_alloc2 _ _ _) hb)
  rw [QA]
  have HC1 := Lib.hid (keep2C _ _ _ _ _ _ _ _ _ _ _ _ _ _ hb HC.out)
  clear hb
  obtain ⟨⟨h0, h1, h2, h3, h4, h5, h6⟩, ⟨g0, g1, g2, g3, g4, g5, g6⟩⟩ := HC1.out
  go_wp2_with fail
  refine (implCallOK_any _ _ _ _ _ _ _ _).mono ?_
  rintro e w2 ⟨rfl, hb⟩
  have HB2 := Lib.hid (below_trans HB.out hb)
  rw [QB]
  have HC2 := Lib.hid (keep2C _ _ _ _ _ _ _ _ _ _ _ _ _ _ hb HC1.out)
  clear hb HC1 h0 g0 h1 g1 h2 g2 h3 g3 h4 g4 h5 g5 h6 g6
  obtain ⟨⟨h0, h1, h2, h3, h4, h5, h6⟩, ⟨g0, g1, g2, g3, g4, g5, g6⟩⟩ := HC2.out
  go_wp2_with fail
  refine (overlaps_any _ _ _ _ _ _ _ _ _ _ _ _ _ _ _).mono ?_
  rintro e w3 ⟨rfl, hb⟩
  have HB3 := Lib.hid (below_trans HB2.out hb)
  clear hb
  go_wp2
  refine bodyPost_ret (v := .tuple #[.bool (ovB fra toa frb tob), .int .i64 0]) (by simp [results, Try.results15, go_sem]) rfl ⟨ret_pair (by simp) (by simp [twoC]), HB3.out⟩

set_option maxHeartbeats 4000000 in
set_option maxRecDepth 100000 in
theorem implIsBefore_any (tha opa arga fra toa codea resa : Int) (thb opb argb frb tob codeb resb : Int) (w : World) : Calls Try.prog 16 #[.agg #[.int .i64 tha, .int .i64 opa, .int .i64 arga, .int .i64 fra, .int .i64 toa, .int .i64 codea, .int .i64 resa], .agg #[.int .i64 thb, .int .i64 opb, .int .i64 argb, .int .i64 frb, .int .i64 tob, .int .i64 codeb, .int .i64 resb]] w fun e w' => e = .returned (.tuple #[.bool (clB tha opa arga fra toa codea resa && clB thb opb argb frb tob codeb resb && overB toa frb), .int .i64 (twoC (clB tha opa arga fra toa codea resa) (clB thb opb argb frb tob codeb resb))]) ∧ Below w.heap.size w w' := by
  have HC := Lib.hid (new2C 24 24 tha opa arga fra toa codea resa thb opb argb frb tob codeb resb w)
  cases QA : clB tha opa arga fra toa codea resa
  · go_enter Try.func16, Try.ntmps16
    go_wp2_with fail
    refine (implCallOK_any _ _ _ _ _ _ _ _).mono ?_
    rintro e w1 ⟨rfl, hb⟩
    have HB := Lib.hid (below_trans (below_alloc2 _ _ _) hb)
    rw [QA]
    clear hb
    go_wp2
    refine bodyPost_ret (v := .tuple #[.bool false, .int .i64 1]) (by simp [results, Try.results16, go_sem]) rfl ⟨ret_pair (by simp) (by simp [twoC]), HB.out⟩
  cases QB : clB thb opb argb frb tob codeb resb
  · go_enter Try.func16, Try.ntmps16
    go_wp2_with fail
    refine (implCallOK_any _ _ _ _ _ _ _ _).mono ?_
    rintro e w1 ⟨rfl, hb⟩
    have HB := Lib.hid (below_trans (below_alloc2 _ _ _) hb)
    rw [QA]
    have HC1 := Lib.hid (keep2C _ _ _ _ _ _ _ _ _ _ _ _ _ _ hb HC.out)
    clear hb
    obtain ⟨⟨h0, h1, h2, h3, h4, h5, h6⟩, ⟨g0, g1, g2, g3, g4, g5, g6⟩⟩ := HC1.out
    go_wp2_with fail
    refine (implCallOK_any _ _ _ _ _ _ _ _).mono ?_
    rintro e w2 ⟨rfl, hb⟩
    have HB2 := Lib.hid (below_trans HB.out hb)
    rw [QB]
    have HC2 := Lib.hid (keep2C _ _ _ _ _ _ _ _ _ _ _ _ _ _ hb HC1.out)
    clear hb HC1 h0 g0 h1 g1 h2 g2 h3 g3 h4 g4 h5 g5 h6 g6
    go_wp2
    refine bodyPost_ret (v := .tuple #[.bool false, .int .i64 1]) (by simp [results, Try.results16, go_sem]) rfl ⟨ret_pair (by simp) (by simp [twoC]), HB2.out⟩
  go_enter Try.func16, Try.ntmps16
  go_wp2_with fail
  refine (implCallOK_any _ _ _ _ _ _ _ _).mono ?_
  rintro e w1 ⟨rfl, hb⟩
  have HB := Lib.hid (below_trans (below_alloc2 _ _ _) hb)
  rw [QA]
  have HC1 := Lib.hid (keep2C _ _ _ _ _ _ _ _ _ _ _ _ _ _ hb HC.out)
  clear hb
  obtain ⟨⟨h0, h1, h2, h3, h4, h5, h6⟩, ⟨g0, g1, g2, g3, g4, g5, g6⟩⟩ := HC1.out
  go_wp2_with fail
  refine (implCallOK_any _ _ _ _ _ _ _ _).mono ?_
  rintro e w2 ⟨rfl, hb⟩
  have HB2 := Lib.hid (below_trans HB.out hb)
  rw [QB]
  have HC2 := Lib.hid (keep2C _ _ _ _ _ _ _ _ _ _ _ _ _ _ hb HC1.out)
  clear hb HC1 h0 g0 h1 g1 h2 g2 h3 g3 h4 g4 h5 g5 h6 g6
  obtain ⟨⟨h0, h1, h2, h3, h4, h5, h6⟩, ⟨g0, g1, g2, g3, g4, g5, g6⟩⟩ := HC2.out
  go_wp2_with fail
  refine (isOverBy_any _ _ _ _ _ _ _ _ _).mono ?_
  rintro e w3 ⟨rfl, hb⟩
  have HB3 := Lib.hid (below_trans HB2.out hb)
  clear hb
  go_wp2
  refine bodyPost_ret (v := .tuple #[.bool (overB toa frb), .int .i64 0]) (by simp [results, Try.results16, go_sem]) rfl ⟨ret_pair (by simp) (by simp [twoC]), HB3.out⟩

set_option maxHeartbeats 4000000 in
set_option maxRecDepth 100000 in
theorem specOverlaps_any (tha opa arga fra toa codea resa : Int) (thb opb argb frb tob codeb resb : Int) (w : World) : Calls Try.prog 17 #[.agg #[.int .i64 tha, .int .i64 opa, .int .i64 arga, .int .i64 fra, .int .i64 toa, .int .i64 codea, .int .i64 resa], .agg #[.int .i64 thb, .int .i64 opb, .int .i64 argb, .int .i64 frb, .int .i64 tob, .int .i64 codeb, .int .i64 resb]] w fun e w' => e = .returned (.tuple #[.bool (clB tha opa arga fra toa codea resa && clB thb opb argb frb tob codeb resb && ovB fra toa frb tob), .int .i64 (twoC (clB tha opa arga fra toa codea resa) (clB thb opb argb frb tob codeb resb))]) ∧ Below w.heap.size w w' := by
  have HC := Lib.hid (new2C 24 24 tha opa arga fra toa codea resa thb opb argb frb tob codeb resb w)
  cases QA : clB tha opa arga fra toa codea resa
  · go_enter Try.func17, Try.ntmps17
    go_wp2_with fail
    refine (specCallOK_any _ _ _ _ _ _ _ _).mono ?_
    rintro e w1 ⟨rfl, hb⟩
    have HB := Lib.hid (below_trans (below_alloc2 _ _ _) hb)
    rw [QA]
    clear hb
    go_wp2
    refine bodyPost_ret (v := .tuple #[.bool false, .int .i64 1]) (by simp [results, Try.results17, go_sem]) rfl ⟨ret_pair (by simp) (by simp [twoC]), HB.out⟩
  cases QB : clB thb opb argb frb tob codeb resb
  · go_enter Try.func17, Try.ntmps17
    go_wp2_with fail
    refine (specCallOK_any _ _ _ _ _ _ _ _).mono ?_
    rintro e w1 ⟨rfl, hb⟩
    have HB := Lib.hid (below_trans (below_alloc2 _ _ _) hb)
    rw [QA]
    have HC1 := Lib.hid (keep2C _ _ _ _ _ _ _ _ _ _ _ _ _ _ hb HC.out)
    clear hb
    obtain ⟨⟨h0, h1, h2, h3, h4, h5, h6⟩, ⟨g0, g1, g2, g3, g4, g5, g6⟩⟩ := HC1.out
    go_wp2_with fail
    refine (specCallOK_any _ _ _ _ _ _ _ _).mono ?_
    rintro e w2 ⟨rfl, hb⟩
    have HB2 := Lib.hid (below_trans HB.out hb)
    rw [QB]
    have HC2 := Lib.hid (keep2C _ _ _ _ _ _ _ _ _ _ _ _ _ _ hb HC1.out)
    clear hb HC1 h0 g0 h1 g1 h2 g2 h3 g3 h4 g4 h5 g5 h6 g6
    go_wp2
    refine bodyPost_ret (v := .tuple #[.bool false, .int .i64 1]) (by simp [results, Try.results17, go_sem]) rfl ⟨ret_pair (by simp) (by simp [twoC]), HB2.out⟩
  go_enter Try.func17, Try.ntmps17
  go_wp2_with fail
  refine (specCallOK_any _ _ _ _ _ _ _ _).mono ?_
  rintro e w1 ⟨rfl, hb⟩
  have HB := Lib.hid (below_trans (below_alloc2 _ _ _) hb)
  rw [QA]
  have HC1 := Lib.hid (keep2C _ _ _ _ _ _ _ _ _ _ _ _ _ _ hb HC.out)
  clear hb
  obtain ⟨⟨h0, h1, h2, h3, h4, h5, h6⟩, ⟨g0, g1, g2, g3, g4, g5, g6⟩⟩ := HC1.out
  go_wp2_with fail
  refine (specCallOK_any _ _ _ _ _ _ _ _).mono ?_
  rintro e w2 ⟨rfl, hb⟩
  have HB2 := Lib.hid (below_trans HB.out hb)
  rw [QB]
  have HC2 := Lib.hid (keep2C _ _ _ _ _ _ _ _ _ _ _ _ _ _ hb HC1.out)
  clear hb HC1 h0 g0 h1 g1 h2 g2 h3 g3 h4 g4 h5 g5 h6 g6
  obtain ⟨⟨h0, h1, h2, h3, h4, h5, h6⟩, ⟨g0, g1, g2, g3, g4, g5, g6⟩⟩ := HC2.out
  go_wp2_with fail
  refine (l09Overlap_any _ _ _ _ _ _ _ _ _ _ _ _ _ _ _ (clB_from QA) (clB_from QB)).mono ?_
  rintro e w3 ⟨rfl, hb⟩
  have HB3 := Lib.hid (below_trans HB2.out hb)
  clear hb
  go_wp2
  refine bodyPost_ret (v := .tuple #[.bool (ovB fra toa frb tob), .int .i64 0]) (by simp [results, Try.results17, go_sem]) rfl ⟨ret_pair (by simp) (by simp [twoC]), HB3.out⟩

set_option maxHeartbeats 4000000 in
set_option maxRecDepth 100000 in
theorem specIsBefore_any (tha opa arga fra toa codea resa : Int) (thb opb argb frb tob codeb resb : Int) (w : World) : Calls Try.prog 21 #[.agg #[.int .i64 tha, .int .i64 opa, .int .i64 arga, .int .i64 fra, .int .i64 toa, .int .i64 codea, .int .i64 resa], .agg #[.int .i64 thb, .int .i64 opb, .int .i64 argb, .int .i64 frb, .int .i64 tob, .int .i64 codeb, .int .i64 resb]] w fun e w' => e = .returned (.tuple #[.bool (clB tha opa arga fra toa codea resa && clB thb opb argb frb tob codeb resb && overB toa frb), .int .i64 (twoC (clB tha opa arga fra toa codea resa) (clB thb opb argb frb tob codeb resb))]) ∧ Below w.heap.size w w' := by
  have HC := Lib.hid (new2C 24 24 tha opa arga fra toa codea resa thb opb argb frb tob codeb resb w)
  cases QA : clB tha opa arga fra toa codea resa
  · go_enter Try.func21, Try.ntmps21
    go_wp2_with fail
    refine (specCallOK_any _ _ _ _ _ _ _ _).mono ?_
    rintro e w1 ⟨rfl, hb⟩
    have HB := Lib.hid (below_trans (below_alloc2 _ _ _) hb)
    rw [QA]
    clear hb
    go_wp2
    refine bodyPost_ret (v := .tuple #[.bool false, .int .i64 1]) (by simp [results, Try.results21, go_sem]) rfl ⟨ret_pair (by simp) (by simp [twoC]), HB.out⟩
  cases QB : clB thb opb argb frb tob codeb resb
  · go_enter Try.func21, Try.ntmps21
    go_wp2_with fail
    refine (specCallOK_any _ _ _ _ _ _ _ _).mono ?_
    rintro e w1 ⟨rfl, hb⟩
    have HB := Lib.hid (below_trans (below_alloc2 _ _ _) hb)
    rw [QA]
    have HC1 := Lib.hid (keep2C _ _ _ _ _ _ _ _ _ _ _ _ _ _ hb HC.out)
    clear hb
    obtain ⟨⟨h0, h1, h2, h3, h4, h5, h6⟩, ⟨g0, g1, g2, g3, g4, g5, g6⟩⟩ := HC1.out
    go_wp2_with fail
    refine (specCallOK_any _ _ _ _ _ _ _ _).mono ?_
    rintro e w2 ⟨rfl, hb⟩
    have HB2 := Lib.hid (below_trans HB.out hb)
    rw [QB]
    have HC2 := Lib.hid (keep2C _ _ _ _ _ _ _ _ _ _ _ _ _ _ hb HC1.out)
    clear hb HC1 h0 g0 h1 g1 h2 g2 h3 g3 h4 g4 h5 g5 h6 g6
    go_wp2
    refine bodyPost_ret (v := .tuple #[.bool false, .int .i64 1]) (by simp [results, Try.results21, go_sem]) rfl ⟨ret_pair (by simp) (by simp [twoC]), HB2.out⟩
  go_enter Try.func21, Try.ntmps21
  go_wp2_with fail
  refine (specCallOK_any _ _ _ _ _ _ _ _).mono ?_
  rintro e w1 ⟨rfl, hb⟩
  have HB := Lib.hid (below_trans (below_alloc2 _ _ _) hb)
  rw [QA]
  have HC1 := Lib.hid (keep2C _ _ _ _ _ _ _ _ _ _ _ _ _ _ hb HC.out)
  clear hb
  obtain ⟨⟨h0, h1, h2, h3, h4, h5, h6⟩, ⟨g0, g1, g2, g3, g4, g5, g6⟩⟩ := HC1.out
  go_wp2_with fail
  refine (specCallOK_any _ _ _ _ _ _ _ _).mono ?_
  rintro e w2 ⟨rfl, hb⟩
  have HB2 := Lib.hid (below_trans HB.out hb)
  rw [QB]
  have HC2 := Lib.hid (keep2C _ _ _ _ _ _ _ _ _ _ _ _ _ _ hb HC1.out)
  clear hb HC1 h0 g0 h1 g1 h2 g2 h3 g3 h4 g4 h5 g5 h6 g6
  obtain ⟨⟨h0, h1, h2, h3, h4, h5, h6⟩, ⟨g0, g1, g2, g3, g4, g5, g6⟩⟩ := HC2.out
  have HK := Lib.hid (end_le (to := toa) (clB_from QB))
  obtain ⟨ea, hea⟩ : ∃ x, endB toa = x := ⟨_, rfl⟩
  rw [hea] at HK
  have HEA := Lib.hid hea
  clear hea
  go_wp2_with fail
  go_region_held3 (fun w' => (w'.cell? ⟨w.heap.size, 0, none⟩ = some (.int .i64 tha) ∧ w'.cell? ⟨w.heap.size, 1, none⟩ = some (.int .i64 opa) ∧ w'.cell? ⟨w.heap.size, 2, none⟩ = some (.int .i64 arga) ∧ w'.cell? ⟨w.heap.size, 3, none⟩ = some (.int .i64 fra) ∧ w'.cell? ⟨w.heap.size, 4, none⟩ = some (.int .i64 toa) ∧ w'.cell? ⟨w.heap.size, 5, none⟩ = some (.int .i64 codea) ∧ w'.cell? ⟨w.heap.size, 6, none⟩ = some (.int .i64 resa)) ∧ (w'.cell? ⟨(w.heap.size + 1), 0, none⟩ = some (.int .i64 thb) ∧ w'.cell? ⟨(w.heap.size + 1), 1, none⟩ = some (.int .i64 opb) ∧ w'.cell? ⟨(w.heap.size + 1), 2, none⟩ = some (.int .i64 argb) ∧ w'.cell? ⟨(w.heap.size + 1), 3, none⟩ = some (.int .i64 frb) ∧ w'.cell? ⟨(w.heap.size + 1), 4, none⟩ = some (.int .i64 tob) ∧ w'.cell? ⟨(w.heap.size + 1), 5, none⟩ = some (.int .i64 codeb) ∧ w'.cell? ⟨(w.heap.size + 1), 6, none⟩ = some (.int .i64 resb))) (first | exact HC2.out | exact keep2C _ _ _ _ _ _ _ _ _ _ _ _ _ _ (below_drew_trans hb1) HC2.out)
    (first | (go_at_call 55; (with_reducible refine (l09End_any tha opa arga fra toa codea resa _).mono ?_); rintro e u1 ⟨rfl, hb1⟩; rw [HEA.out]))
  have HB3 := Lib.hid (below_trans HB2.out (below_drew_trans hb1))
  clear hb1
  go_wp2
  refine bodyPost_ret (v := .tuple #[.bool (decide (ea ≤ frb)), .int .i64 0]) (by simp [results, Try.results21, go_sem]) rfl ⟨ret_pair (by simp [HK.out]) (by simp [twoC]), HB3.out⟩

set_option maxHeartbeats 2000000 in
theorem implSpanOf_any (tha opa arga fra toa codea resa : Int) (w : World) : Calls Try.prog 18 #[.agg #[.int .i64 tha, .int .i64 opa, .int .i64 arga, .int .i64 fra, .int .i64 toa, .int .i64 codea, .int .i64 resa]] w fun e w' => e = .returned (.tuple #[.int .i64 (spanR (clB tha opa arga fra toa codea resa) fra toa), .int .i64 (spanC (clB tha opa arga fra toa codea resa) toa)]) ∧ Below w.heap.size w w' := by
  have HC := Lib.hid (new1C 24 tha opa arga fra toa codea resa w)
  cases QA : clB tha opa arga fra toa codea resa
  · go_enter Try.func18, Try.ntmps18
    go_wp2_with fail
    refine (implCallOK_any _ _ _ _ _ _ _ _).mono ?_
    rintro e w1 ⟨rfl, hb⟩
    have HB := Lib.hid (below_trans (below_alloc _ _) hb)
    rw [QA]
    have HC1 := Lib.hid (keep1C _ _ _ _ _ _ _ hb HC.out)
    clear hb
    obtain ⟨h0, h1, h2, h3, h4, h5, h6⟩ := HC1.out
    go_wp2
    refine bodyPost_ret (v := .tuple #[.int .i64 0, .int .i64 1]) (by simp [results, Try.results18, go_sem]) rfl ⟨ret_pairi (by simp [spanR]) (by simp [spanC]), HB.out⟩
  by_cases hz : toa = 0
  · subst hz
    go_enter Try.func18, Try.ntmps18
    go_wp2_with fail
    refine (implCallOK_any _ _ _ _ _ _ _ _).mono ?_
    rintro e w1 ⟨rfl, hb⟩
    have HB := Lib.hid (below_trans (below_alloc _ _) hb)
    rw [QA]
    have HC1 := Lib.hid (keep1C _ _ _ _ _ _ _ hb HC.out)
    clear hb
    obtain ⟨h0, h1, h2, h3, h4, h5, h6⟩ := HC1.out
    go_wp2_with fail
    refine (isOpen_any _ _ _ _ _ _ _ _).mono ?_
    rintro e w2 ⟨rfl, hb⟩
    have HB2 := Lib.hid (below_trans HB.out hb)
    have HC2 := Lib.hid (keep1C _ _ _ _ _ _ _ hb HC1.out)
    clear hb HC1 h0 h1 h2 h3 h4 h5 h6
    obtain ⟨h0, h1, h2, h3, h4, h5, h6⟩ := HC2.out
    go_wp2
    refine bodyPost_ret (v := .tuple #[.int .i64 0, .int .i64 5]) (by simp [results, Try.results18, go_sem]) rfl ⟨ret_pairi (by simp [spanR]) (by simp [spanC]), HB2.out⟩
  have hz2 : (toa == 0) = false := by simpa using hz
  obtain ⟨s1, s2, s3⟩ := clB_span QA hz
  have hw : IntKind.i64.wrap (toa - fra) = toa - fra := IntWalk.i64_in _ (by omega)
  go_enter Try.func18, Try.ntmps18
  go_wp2_with fail
  refine (implCallOK_any _ _ _ _ _ _ _ _).mono ?_
  rintro e w1 ⟨rfl, hb⟩
  have HB := Lib.hid (below_trans (below_alloc _ _) hb)
  rw [QA]
  have HC1 := Lib.hid (keep1C _ _ _ _ _ _ _ hb HC.out)
  clear hb
  obtain ⟨h0, h1, h2, h3, h4, h5, h6⟩ := HC1.out
  go_wp2_with fail
  refine (isOpen_any _ _ _ _ _ _ _ _).mono ?_
  rintro e w2 ⟨rfl, hb⟩
  have HB2 := Lib.hid (below_trans HB.out hb)
  have HC2 := Lib.hid (keep1C _ _ _ _ _ _ _ hb HC1.out)
  clear hb HC1 h0 h1 h2 h3 h4 h5 h6
  obtain ⟨h0, h1, h2, h3, h4, h5, h6⟩ := HC2.out
  go_wp2
  refine bodyPost_ret (v := .tuple #[.int .i64 (toa - fra), .int .i64 0]) (by simp [results, Try.results18, go_sem]) rfl ⟨ret_pairi (by simp [spanR, hz]) (by simp [spanC, hz]), HB2.out⟩

set_option maxHeartbeats 2000000 in
theorem specSpanOf_any (tha opa arga fra toa codea resa : Int) (w : World) : Calls Try.prog 22 #[.agg #[.int .i64 tha, .int .i64 opa, .int .i64 arga, .int .i64 fra, .int .i64 toa, .int .i64 codea, .int .i64 resa]] w fun e w' => e = .returned (.tuple #[.int .i64 (spanR (clB tha opa arga fra toa codea resa) fra toa), .int .i64 (spanC (clB tha opa arga fra toa codea resa) toa)]) ∧ Below w.heap.size w w' := by
  have HC := Lib.hid (new1C 24 tha opa arga fra toa codea resa w)
  cases QA : clB tha opa arga fra toa codea resa
  · go_enter Try.func22, Try.ntmps22
    go_wp2_with fail
    refine (specCallOK_any _ _ _ _ _ _ _ _).mono ?_
    rintro e w1 ⟨rfl, hb⟩
    have HB := Lib.hid (below_trans (below_alloc _ _) hb)
    rw [QA]
    have HC1 := Lib.hid (keep1C _ _ _ _ _ _ _ hb HC.out)
    clear hb
    obtain ⟨h0, h1, h2, h3, h4, h5, h6⟩ := HC1.out
    go_wp2
    refine bodyPost_ret (v := .tuple #[.int .i64 0, .int .i64 1]) (by simp [results, Try.results22, go_sem]) rfl ⟨ret_pairi (by simp [spanR]) (by simp [spanC]), HB.out⟩
  by_cases hz : toa = 0
  · subst hz
    go_enter Try.func22, Try.ntmps22
    go_wp2_with fail
    refine (specCallOK_any _ _ _ _ _ _ _ _).mono ?_
    rintro e w1 ⟨rfl, hb⟩
    have HB := Lib.hid (below_trans (below_alloc _ _) hb)
    rw [QA]
    have HC1 := Lib.hid (keep1C _ _ _ _ _ _ _ hb HC.out)
    clear hb
    obtain ⟨h0, h1, h2, h3, h4, h5, h6⟩ := HC1.out
    have HB2 := HB
    go_wp2
    refine bodyPost_ret (v := .tuple #[.int .i64 0, .int .i64 5]) (by simp [results, Try.results22, go_sem]) rfl ⟨ret_pairi (by simp [spanR]) (by simp [spanC]), HB2.out⟩
  have hz2 : (toa == 0) = false := by simpa using hz
  obtain ⟨s1, s2, s3⟩ := clB_span QA hz
  have hw : IntKind.i64.wrap (toa - fra) = toa - fra := IntWalk.i64_in _ (by omega)
  go_enter Try.func22, Try.ntmps22
  go_wp2_with fail
  refine (specCallOK_any _ _ _ _ _ _ _ _).mono ?_
  rintro e w1 ⟨rfl, hb⟩
  have HB := Lib.hid (below_trans (below_alloc _ _) hb)
  rw [QA]
  have HC1 := Lib.hid (keep1C _ _ _ _ _ _ _ hb HC.out)
  clear hb
  obtain ⟨h0, h1, h2, h3, h4, h5, h6⟩ := HC1.out
  have HB2 := HB
  go_wp2
  refine bodyPost_ret (v := .tuple #[.int .i64 (toa - fra), .int .i64 0]) (by simp [results, Try.results22, go_sem]) rfl ⟨ret_pairi (by simp [spanR, hz]) (by simp [spanC, hz]), HB2.out⟩

end Go.Proofs.Ytankgijibenehaa
