/-
  The walk of the law FnExactIsBefore.
-/
import Derived.Test.YtankgijibenehaaHistB
namespace Go.Proofs.Ytankgijibenehaa
open Go.RowKit

set_option maxHeartbeats 4000000 in
set_option maxRecDepth 100000 in
theorem lawIsBefore_walk (tha opa arga fra toa codea resa : Int) (thb opb argb frb tob codeb resb : Int) (w : World) : Calls Try.prog 5 #[.agg #[.int .i64 tha, .int .i64 opa, .int .i64 arga, .int .i64 fra, .int .i64 toa, .int .i64 codea, .int .i64 resa], .agg #[.int .i64 thb, .int .i64 opb, .int .i64 argb, .int .i64 frb, .int .i64 tob, .int .i64 codeb, .int .i64 resb]] w fun e w' => e = .returned (.bool true) ∧ Below w.heap.size w w' := by
  have HC := Lib.hid (new2C 33 33 tha opa arga fra toa codea resa thb opb argb frb tob codeb resb w)
  obtain ⟨v, hv⟩ : ∃ v, (clB tha opa arga fra toa codea resa && clB thb opb argb frb tob codeb resb && overB toa frb) = v := ⟨_, rfl⟩
  obtain ⟨k, hk⟩ : ∃ k, twoC (clB tha opa arga fra toa codea resa) (clB thb opb argb frb tob codeb resb) = k := ⟨_, rfl⟩
  have HV := Lib.hid hv; have HK := Lib.hid hk; clear hv hk
  go_enter Try.func5, Try.ntmps5
  go_wp2_with fail
  go_region_held3 (fun w' => (w'.cell? ⟨w.heap.size, 0, none⟩ = some (.int .i64 tha) ∧ w'.cell? ⟨w.heap.size, 1, none⟩ = some (.int .i64 opa) ∧ w'.cell? ⟨w.heap.size, 2, none⟩ = some (.int .i64 arga) ∧ w'.cell? ⟨w.heap.size, 3, none⟩ = some (.int .i64 fra) ∧ w'.cell? ⟨w.heap.size, 4, none⟩ = some (.int .i64 toa) ∧ w'.cell? ⟨w.heap.size, 5, none⟩ = some (.int .i64 codea) ∧ w'.cell? ⟨w.heap.size, 6, none⟩ = some (.int .i64 resa)) ∧ (w'.cell? ⟨(w.heap.size + 1), 0, none⟩ = some (.int .i64 thb) ∧ w'.cell? ⟨(w.heap.size + 1), 1, none⟩ = some (.int .i64 opb) ∧ w'.cell? ⟨(w.heap.size + 1), 2, none⟩ = some (.int .i64 argb) ∧ w'.cell? ⟨(w.heap.size + 1), 3, none⟩ = some (.int .i64 frb) ∧ w'.cell? ⟨(w.heap.size + 1), 4, none⟩ = some (.int .i64 tob) ∧ w'.cell? ⟨(w.heap.size + 1), 5, none⟩ = some (.int .i64 codeb) ∧ w'.cell? ⟨(w.heap.size + 1), 6, none⟩ = some (.int .i64 resb))) (first | exact HC.out | exact keep2C _ _ _ _ _ _ _ _ _ _ _ _ _ _ (below_drew_trans h11) HC.out | exact keep2C _ _ _ _ _ _ _ _ _ _ _ _ _ _ h12 (keep2C _ _ _ _ _ _ _ _ _ _ _ _ _ _ (below_drew_trans h11) HC.out) | exact keep2C _ _ _ _ _ _ _ _ _ _ _ _ _ _ h13 (keep2C _ _ _ _ _ _ _ _ _ _ _ _ _ _ h12 (keep2C _ _ _ _ _ _ _ _ _ _ _ _ _ _ (below_drew_trans h11) HC.out)))
    (first
      | (go_at_call 20; (with_reducible refine (toCall_any tha opa arga fra toa codea resa _).mono ?_); rintro e u1a ⟨rfl, h11⟩)
      | (go_at_call 20; (with_reducible refine (toCall_any thb opb argb frb tob codeb resb _).mono ?_); rintro e u1b ⟨rfl, h12⟩)
      | (go_at_call 21; (with_reducible refine (specIsBefore_any _ _ _ _ _ _ _ _ _ _ _ _ _ _ _).mono ?_); rintro e u1c ⟨rfl, h13⟩; rw [HV.out, HK.out]))
  have HB1 := Lib.hid (below_trans (below_alloc2 _ _ _) (below_trans (below_trans (below_drew_trans h11) h12) h13))
  have HC1 := Lib.hid (keep2C _ _ _ _ _ _ _ _ _ _ _ _ _ _ h13 (keep2C _ _ _ _ _ _ _ _ _ _ _ _ _ _ h12 (keep2C _ _ _ _ _ _ _ _ _ _ _ _ _ _ (below_drew_trans h11) HC.out)))
  clear h11 h12 h13 HC
  go_wp2_with fail
  go_region_held3 (fun w' => (w'.cell? ⟨w.heap.size, 0, none⟩ = some (.int .i64 tha) ∧ w'.cell? ⟨w.heap.size, 1, none⟩ = some (.int .i64 opa) ∧ w'.cell? ⟨w.heap.size, 2, none⟩ = some (.int .i64 arga) ∧ w'.cell? ⟨w.heap.size, 3, none⟩ = some (.int .i64 fra) ∧ w'.cell? ⟨w.heap.size, 4, none⟩ = some (.int .i64 toa) ∧ w'.cell? ⟨w.heap.size, 5, none⟩ = some (.int .i64 codea) ∧ w'.cell? ⟨w.heap.size, 6, none⟩ = some (.int .i64 resa)) ∧ (w'.cell? ⟨(w.heap.size + 1), 0, none⟩ = some (.int .i64 thb) ∧ w'.cell? ⟨(w.heap.size + 1), 1, none⟩ = some (.int .i64 opb) ∧ w'.cell? ⟨(w.heap.size + 1), 2, none⟩ = some (.int .i64 argb) ∧ w'.cell? ⟨(w.heap.size + 1), 3, none⟩ = some (.int .i64 frb) ∧ w'.cell? ⟨(w.heap.size + 1), 4, none⟩ = some (.int .i64 tob) ∧ w'.cell? ⟨(w.heap.size + 1), 5, none⟩ = some (.int .i64 codeb) ∧ w'.cell? ⟨(w.heap.size + 1), 6, none⟩ = some (.int .i64 resb))) (first | exact HC1.out | exact keep2C _ _ _ _ _ _ _ _ _ _ _ _ _ _ (below_drew_trans h21) HC1.out | exact keep2C _ _ _ _ _ _ _ _ _ _ _ _ _ _ h22 (keep2C _ _ _ _ _ _ _ _ _ _ _ _ _ _ (below_drew_trans h21) HC1.out) | exact keep2C _ _ _ _ _ _ _ _ _ _ _ _ _ _ h23 (keep2C _ _ _ _ _ _ _ _ _ _ _ _ _ _ h22 (keep2C _ _ _ _ _ _ _ _ _ _ _ _ _ _ (below_drew_trans h21) HC1.out)))
    (first
      | (go_at_call 20; (with_reducible refine (toCall_any tha opa arga fra toa codea resa _).mono ?_); rintro e u2a ⟨rfl, h21⟩)
      | (go_at_call 20; (with_reducible refine (toCall_any thb opb argb frb tob codeb resb _).mono ?_); rintro e u2b ⟨rfl, h22⟩)
      | (go_at_call 16; (with_reducible refine (implIsBefore_any _ _ _ _ _ _ _ _ _ _ _ _ _ _ _).mono ?_); rintro e u2c ⟨rfl, h23⟩; rw [HV.out, HK.out]))
  have HB2 := Lib.hid (below_trans HB1.out (below_trans (below_trans (below_drew_trans h21) h22) h23))
  clear h21 h22 h23 HC1
  cases v
  all_goals
    go_wp2
    go_ret
    exact ⟨rfl, HB2.out⟩
end Go.Proofs.Ytankgijibenehaa
