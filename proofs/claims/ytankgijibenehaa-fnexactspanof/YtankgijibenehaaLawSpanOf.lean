/-
  The walk of the law FnExactSpanOf.
-/
import Derived.Test.YtankgijibenehaaHistB
namespace Go.Proofs.Ytankgijibenehaa
open Go.RowKit

set_option maxHeartbeats 4000000 in
set_option maxRecDepth 100000 in
theorem lawSpanOf_walk (tha opa arga fra toa codea resa : Int) (w : World) : Calls Try.prog 6 #[.agg #[.int .i64 tha, .int .i64 opa, .int .i64 arga, .int .i64 fra, .int .i64 toa, .int .i64 codea, .int .i64 resa]] w fun e w' => e = .returned (.bool true) ∧ Below w.heap.size w w' := by
  have HC := Lib.hid (new1C 33 tha opa arga fra toa codea resa w)
  obtain ⟨v, hv⟩ : ∃ v, spanR (clB tha opa arga fra toa codea resa) fra toa = v := ⟨_, rfl⟩
  obtain ⟨k, hk⟩ : ∃ k, spanC (clB tha opa arga fra toa codea resa) toa = k := ⟨_, rfl⟩
  have HV := Lib.hid hv; have HK := Lib.hid hk; clear hv hk
  go_enter Try.func6, Try.ntmps6
  go_wp2_with fail
  refine (toCall_any _ _ _ _ _ _ _ _).mono ?_
  rintro e w1 ⟨rfl, hb⟩
  have HB1 := Lib.hid (below_trans (below_alloc _ _) hb)
  have HC1 := Lib.hid (keep1C _ _ _ _ _ _ _ hb HC.out)
  clear hb HC
  go_wp2_with fail
  refine (specSpanOf_any _ _ _ _ _ _ _ _).mono ?_
  rintro e w2 ⟨rfl, hb⟩
  rw [HV.out, HK.out]
  have HB2 := Lib.hid (below_trans HB1.out hb)
  have HC2 := Lib.hid (keep1C _ _ _ _ _ _ _ hb HC1.out)
  clear hb HB1 HC1
  obtain ⟨h0, h1, h2, h3, h4, h5, h6⟩ := HC2.out
  go_wp2_with fail
  refine (toCall_any _ _ _ _ _ _ _ _).mono ?_
  rintro e w3 ⟨rfl, hb⟩
  have HB3 := Lib.hid (below_trans HB2.out hb)
  clear hb HB2 h0 h1 h2 h3 h4 h5 h6
  go_wp2_with fail
  refine (implSpanOf_any _ _ _ _ _ _ _ _).mono ?_
  rintro e w4 ⟨rfl, hb⟩
  rw [HV.out, HK.out]
  have HB4 := Lib.hid (below_trans HB3.out hb)
  clear hb HB3
  go_wp2
  go_ret
  exact ⟨rfl, HB4.out⟩
end Go.Proofs.Ytankgijibenehaa
