/-
  l04Ask: what the model refuses.
-/
import Derived.Test.YtabojajhnhcemaaJ16
import Derived.Test.YtabojajhnhcemaaJ05
import Derived.Test.YtabojajhnhcemaaJ07
namespace Go.Proofs.Ytabojajhnhcemaa
open Go.RowKit

set_option maxHeartbeats 2000000 in
theorem askS_bad1 (A : Option Addr) (c : Nat) (zs : List Int) (id st op arg pc til : Int) (per can : Bool) (r0 r1 r2 r3 r4 code res : Int) (now : Int) (w : World) (hn : zs.length ≤ 1048576) (hA : Rd w A zs) (h1 : arenaB zs = false) :
    Calls Try.prog 31 #[.agg #[.slice A zs.length c], .agg #[.int .i64 id, .int .i64 st, .int .i64 op, .int .i64 arg, .int .i64 pc, .int .i64 til, .bool per, .bool can, .int .i64 r0, .int .i64 r1, .int .i64 r2, .int .i64 r3, .int .i64 r4, .int .i64 code, .int .i64 res], .int .i64 now, .int .i64 1, .int .i64 2] w fun e w' => e = .returned (.int .i64 1) ∧ Below w.heap.size w w' := by
  have HA := Lib.hid (hA.below (below_alloc2 w (.cells #[.slice A zs.length c] 25) (.cells #[.int .i64 id, .int .i64 st, .int .i64 op, .int .i64 arg, .int .i64 pc, .int .i64 til, .bool per, .bool can, .int .i64 r0, .int .i64 r1, .int .i64 r2, .int .i64 r3, .int .i64 r4, .int .i64 code, .int .i64 res] 29))); clear hA
  have HX : Hid (BoxA ((w.alloc (.cells #[.slice A zs.length c] 25)).alloc (.cells #[.int .i64 id, .int .i64 st, .int .i64 op, .int .i64 arg, .int .i64 pc, .int .i64 til, .bool per, .bool can, .int .i64 r0, .int .i64 r1, .int .i64 r2, .int .i64 r3, .int .i64 r4, .int .i64 code, .int .i64 res] 29)) w.heap.size (.slice A zs.length c)) := (BoxA.new w _).below (below_alloc _ _)
  have HT : Hid (BoxT ((w.alloc (.cells #[.slice A zs.length c] 25)).alloc (.cells #[.int .i64 id, .int .i64 st, .int .i64 op, .int .i64 arg, .int .i64 pc, .int .i64 til, .bool per, .bool can, .int .i64 r0, .int .i64 r1, .int .i64 r2, .int .i64 r3, .int .i64 r4, .int .i64 code, .int .i64 res] 29)) (w.heap.size + 1) #[.int .i64 id, .int .i64 st, .int .i64 op, .int .i64 arg, .int .i64 pc, .int .i64 til, .bool per, .bool can, .int .i64 r0, .int .i64 r1, .int .i64 r2, .int .i64 r3, .int .i64 r4, .int .i64 code, .int .i64 res]) := by
    have h := BoxT.new (w.alloc (.cells #[.slice A zs.length c] 25)) #[.int .i64 id, .int .i64 st, .int .i64 op, .int .i64 arg, .int .i64 pc, .int .i64 til, .bool per, .bool can, .int .i64 r0, .int .i64 r1, .int .i64 r2, .int .i64 r3, .int .i64 r4, .int .i64 code, .int .i64 res]
    rw [size_alloc] at h; exact h
  have H1 := Lib.hid h1; clear h1
  go_enter Try.func31, Try.ntmps31
  go_wp2_with fail
  refine (specArenaOK_any _ _ zs _ hn HA.out).mono ?_
  rintro e w1 ⟨rfl, hb⟩
  rw [H1.out]
  have HB1 := Lib.hid (below_trans (below_alloc2 _ _ _) hb)
  have HT1 := Lib.hid (HT.out.below hb); have HX1 := Lib.hid (HX.out.below hb)
  have ht1 := HT1.out.cell; have hx1 := HX1.out.cell
  clear hb HT HX HA
  go_wp2
  go_ret
  exact ⟨rfl, HB1.out⟩

set_option maxHeartbeats 2000000 in
theorem askS_bad2 (A : Option Addr) (c : Nat) (zs : List Int) (id st op arg pc til : Int) (per can : Bool) (r0 r1 r2 r3 r4 code res : Int) (now : Int) (w : World) (hn : zs.length ≤ 1048576) (hA : Rd w A zs) (h1 : arenaB zs = true) (h2 : thB id st op arg pc til per can r0 r1 r2 r3 r4 code res = false) :
    Calls Try.prog 31 #[.agg #[.slice A zs.length c], .agg #[.int .i64 id, .int .i64 st, .int .i64 op, .int .i64 arg, .int .i64 pc, .int .i64 til, .bool per, .bool can, .int .i64 r0, .int .i64 r1, .int .i64 r2, .int .i64 r3, .int .i64 r4, .int .i64 code, .int .i64 res], .int .i64 now, .int .i64 1, .int .i64 2] w fun e w' => e = .returned (.int .i64 1) ∧ Below w.heap.size w w' := by
  have HA := Lib.hid (hA.below (below_alloc2 w (.cells #[.slice A zs.length c] 25) (.cells #[.int .i64 id, .int .i64 st, .int .i64 op, .int .i64 arg, .int .i64 pc, .int .i64 til, .bool per, .bool can, .int .i64 r0, .int .i64 r1, .int .i64 r2, .int .i64 r3, .int .i64 r4, .int .i64 code, .int .i64 res] 29))); clear hA
  have HX : Hid (BoxA ((w.alloc (.cells #[.slice A zs.length c] 25)).alloc (.cells #[.int .i64 id, .int .i64 st, .int .i64 op, .int .i64 arg, .int .i64 pc, .int .i64 til, .bool per, .bool can, .int .i64 r0, .int .i64 r1, .int .i64 r2, .int .i64 r3, .int .i64 r4, .int .i64 code, .int .i64 res] 29)) w.heap.size (.slice A zs.length c)) := (BoxA.new w _).below (below_alloc _ _)
  have HT : Hid (BoxT ((w.alloc (.cells #[.slice A zs.length c] 25)).alloc (.cells #[.int .i64 id, .int .i64 st, .int .i64 op, .int .i64 arg, .int .i64 pc, .int .i64 til, .bool per, .bool can, .int .i64 r0, .int .i64 r1, .int .i64 r2, .int .i64 r3, .int .i64 r4, .int .i64 code, .int .i64 res] 29)) (w.heap.size + 1) #[.int .i64 id, .int .i64 st, .int .i64 op, .int .i64 arg, .int .i64 pc, .int .i64 til, .bool per, .bool can, .int .i64 r0, .int .i64 r1, .int .i64 r2, .int .i64 r3, .int .i64 r4, .int .i64 code, .int .i64 res]) := by
    have h := BoxT.new (w.alloc (.cells #[.slice A zs.length c] 25)) #[.int .i64 id, .int .i64 st, .int .i64 op, .int .i64 arg, .int .i64 pc, .int .i64 til, .bool per, .bool can, .int .i64 r0, .int .i64 r1, .int .i64 r2, .int .i64 r3, .int .i64 r4, .int .i64 code, .int .i64 res]
    rw [size_alloc] at h; exact h
  have H1 := Lib.hid h1; clear h1
  have H2 := Lib.hid h2; clear h2
  go_enter Try.func31, Try.ntmps31
  go_wp2_with fail
  refine (specArenaOK_any _ _ zs _ hn HA.out).mono ?_
  rintro e w1 ⟨rfl, hb⟩
  rw [H1.out]
  have HB1 := Lib.hid (below_trans (below_alloc2 _ _ _) hb)
  have HT1 := Lib.hid (HT.out.below hb); have HX1 := Lib.hid (HX.out.below hb)
  have ht1 := HT1.out.cell; have hx1 := HX1.out.cell
  clear hb HT HX HA
  go_wp2_with fail
  refine (specThreadOK_any _ _ _ _ _ _ _ _ _ _ _ _ _ _ _ _).mono ?_
  rintro e w2 ⟨rfl, hb⟩
  rw [H2.out]
  have HB2 := Lib.hid (below_trans HB1.out hb)
  have HT2 := Lib.hid (HT1.out.below hb); have HX2 := Lib.hid (HX1.out.below hb)
  have ht2 := HT2.out.cell; have hx2 := HX2.out.cell
  clear hb ht1 hx1 HT1 HX1 HB1
  go_wp2
  go_ret
  exact ⟨rfl, HB2.out⟩

set_option maxHeartbeats 2000000 in
theorem askS_rng1 (A : Option Addr) (c : Nat) (zs : List Int) (id st op arg pc til : Int) (per can : Bool) (r0 r1 r2 r3 r4 code res : Int) (now : Int) (w : World) (hn : zs.length ≤ 1048576) (hA : Rd w A zs) (h1 : arenaB zs = true) (h2 : thB id st op arg pc til per can r0 r1 r2 r3 r4 code res = true) (h3 : decide ((zs.length : Int) < 6) = true) :
    Calls Try.prog 31 #[.agg #[.slice A zs.length c], .agg #[.int .i64 id, .int .i64 st, .int .i64 op, .int .i64 arg, .int .i64 pc, .int .i64 til, .bool per, .bool can, .int .i64 r0, .int .i64 r1, .int .i64 r2, .int .i64 r3, .int .i64 r4, .int .i64 code, .int .i64 res], .int .i64 now, .int .i64 1, .int .i64 2] w fun e w' => e = .returned (.int .i64 4) ∧ Below w.heap.size w w' := by
  have HA := Lib.hid (hA.below (below_alloc2 w (.cells #[.slice A zs.length c] 25) (.cells #[.int .i64 id, .int .i64 st, .int .i64 op, .int .i64 arg, .int .i64 pc, .int .i64 til, .bool per, .bool can, .int .i64 r0, .int .i64 r1, .int .i64 r2, .int .i64 r3, .int .i64 r4, .int .i64 code, .int .i64 res] 29))); clear hA
  have HX : Hid (BoxA ((w.alloc (.cells #[.slice A zs.length c] 25)).alloc (.cells #[.int .i64 id, .int .i64 st, .int .i64 op, .int .i64 arg, .int .i64 pc, .int .i64 til, .bool per, .bool can, .int .i64 r0, .int .i64 r1, .int .i64 r2, .int .i64 r3, .int .i64 r4, .int .i64 code, .int .i64 res] 29)) w.heap.size (.slice A zs.length c)) := (BoxA.new w _).below (below_alloc _ _)
  have HT : Hid (BoxT ((w.alloc (.cells #[.slice A zs.length c] 25)).alloc (.cells #[.int .i64 id, .int .i64 st, .int .i64 op, .int .i64 arg, .int .i64 pc, .int .i64 til, .bool per, .bool can, .int .i64 r0, .int .i64 r1, .int .i64 r2, .int .i64 r3, .int .i64 r4, .int .i64 code, .int .i64 res] 29)) (w.heap.size + 1) #[.int .i64 id, .int .i64 st, .int .i64 op, .int .i64 arg, .int .i64 pc, .int .i64 til, .bool per, .bool can, .int .i64 r0, .int .i64 r1, .int .i64 r2, .int .i64 r3, .int .i64 r4, .int .i64 code, .int .i64 res]) := by
    have h := BoxT.new (w.alloc (.cells #[.slice A zs.length c] 25)) #[.int .i64 id, .int .i64 st, .int .i64 op, .int .i64 arg, .int .i64 pc, .int .i64 til, .bool per, .bool can, .int .i64 r0, .int .i64 r1, .int .i64 r2, .int .i64 r3, .int .i64 r4, .int .i64 code, .int .i64 res]
    rw [size_alloc] at h; exact h
  have H1 := Lib.hid h1; clear h1
  have H2 := Lib.hid h2; clear h2
  go_enter Try.func31, Try.ntmps31
  go_wp2_with fail
  refine (specArenaOK_any _ _ zs _ hn HA.out).mono ?_
  rintro e w1 ⟨rfl, hb⟩
  rw [H1.out]
  have HB1 := Lib.hid (below_trans (below_alloc2 _ _ _) hb)
  have HT1 := Lib.hid (HT.out.below hb); have HX1 := Lib.hid (HX.out.below hb)
  have ht1 := HT1.out.cell; have hx1 := HX1.out.cell
  clear hb HT HX HA
  go_wp2_with fail
  refine (specThreadOK_any _ _ _ _ _ _ _ _ _ _ _ _ _ _ _ _).mono ?_
  rintro e w2 ⟨rfl, hb⟩
  rw [H2.out]
  have HB2 := Lib.hid (below_trans HB1.out hb)
  have HT2 := Lib.hid (HT1.out.below hb); have HX2 := Lib.hid (HX1.out.below hb)
  have ht2 := HT2.out.cell; have hx2 := HX2.out.cell
  clear hb ht1 hx1 HT1 HX1 HB1
  go_wp2
  go_ret
  exact ⟨rfl, HB2.out⟩

set_option maxHeartbeats 2000000 in
theorem askS_rng2 (A : Option Addr) (c : Nat) (zs : List Int) (id st op arg pc til : Int) (per can : Bool) (r0 r1 r2 r3 r4 code res : Int) (now : Int) (w : World) (hn : zs.length ≤ 1048576) (hA : Rd w A zs) (h1 : arenaB zs = true) (h2 : thB id st op arg pc til per can r0 r1 r2 r3 r4 code res = true) (h3 : decide ((zs.length : Int) < 6) = false) (h4 : inB now 0 1000000 = false) :
    Calls Try.prog 31 #[.agg #[.slice A zs.length c], .agg #[.int .i64 id, .int .i64 st, .int .i64 op, .int .i64 arg, .int .i64 pc, .int .i64 til, .bool per, .bool can, .int .i64 r0, .int .i64 r1, .int .i64 r2, .int .i64 r3, .int .i64 r4, .int .i64 code, .int .i64 res], .int .i64 now, .int .i64 1, .int .i64 2] w fun e w' => e = .returned (.int .i64 4) ∧ Below w.heap.size w w' := by
  have HA := Lib.hid (hA.below (below_alloc2 w (.cells #[.slice A zs.length c] 25) (.cells #[.int .i64 id, .int .i64 st, .int .i64 op, .int .i64 arg, .int .i64 pc, .int .i64 til, .bool per, .bool can, .int .i64 r0, .int .i64 r1, .int .i64 r2, .int .i64 r3, .int .i64 r4, .int .i64 code, .int .i64 res] 29))); clear hA
  have HX : Hid (BoxA ((w.alloc (.cells #[.slice A zs.length c] 25)).alloc (.cells #[.int .i64 id, .int .i64 st, .int .i64 op, .int .i64 arg, .int .i64 pc, .int .i64 til, .bool per, .bool can, .int .i64 r0, .int .i64 r1, .int .i64 r2, .int .i64 r3, .int .i64 r4, .int .i64 code, .int .i64 res] 29)) w.heap.size (.slice A zs.length c)) := (BoxA.new w _).below (below_alloc _ _)
  have HT : Hid (BoxT ((w.alloc (.cells #[.slice A zs.length c] 25)).alloc (.cells #[.int .i64 id, .int .i64 st, .int .i64 op, .int .i64 arg, .int .i64 pc, .int .i64 til, .bool per, .bool can, .int .i64 r0, .int .i64 r1, .int .i64 r2, .int .i64 r3, .int .i64 r4, .int .i64 code, .int .i64 res] 29)) (w.heap.size + 1) #[.int .i64 id, .int .i64 st, .int .i64 op, .int .i64 arg, .int .i64 pc, .int .i64 til, .bool per, .bool can, .int .i64 r0, .int .i64 r1, .int .i64 r2, .int .i64 r3, .int .i64 r4, .int .i64 code, .int .i64 res]) := by
    have h := BoxT.new (w.alloc (.cells #[.slice A zs.length c] 25)) #[.int .i64 id, .int .i64 st, .int .i64 op, .int .i64 arg, .int .i64 pc, .int .i64 til, .bool per, .bool can, .int .i64 r0, .int .i64 r1, .int .i64 r2, .int .i64 r3, .int .i64 r4, .int .i64 code, .int .i64 res]
    rw [size_alloc] at h; exact h
  have H1 := Lib.hid h1; clear h1
  have H2 := Lib.hid h2; clear h2
  have H4 := Lib.hid h4; clear h4
  go_enter Try.func31, Try.ntmps31
  go_wp2_with fail
  refine (specArenaOK_any _ _ zs _ hn HA.out).mono ?_
  rintro e w1 ⟨rfl, hb⟩
  rw [H1.out]
  have HB1 := Lib.hid (below_trans (below_alloc2 _ _ _) hb)
  have HT1 := Lib.hid (HT.out.below hb); have HX1 := Lib.hid (HX.out.below hb)
  have ht1 := HT1.out.cell; have hx1 := HX1.out.cell
  clear hb HT HX HA
  go_wp2_with fail
  refine (specThreadOK_any _ _ _ _ _ _ _ _ _ _ _ _ _ _ _ _).mono ?_
  rintro e w2 ⟨rfl, hb⟩
  rw [H2.out]
  have HB2 := Lib.hid (below_trans HB1.out hb)
  have HT2 := Lib.hid (HT1.out.below hb); have HX2 := Lib.hid (HX1.out.below hb)
  have ht2 := HT2.out.cell; have hx2 := HX2.out.cell
  clear hb ht1 hx1 HT1 HX1 HB1
  go_wp2_with (first | (go_at_call 52; (with_reducible refine (l01In_any now 0 1000000 _).mono ?_); rintro e w' ⟨rfl, rfl⟩; rw [H4.out]))
  go_ret
  exact ⟨rfl, HB2.out⟩

set_option maxHeartbeats 2000000 in
theorem askS_idle1 (A : Option Addr) (c : Nat) (zs : List Int) (id st op arg pc til : Int) (per can : Bool) (r0 r1 r2 r3 r4 code res : Int) (now : Int) (w : World) (hn : zs.length ≤ 1048576) (hA : Rd w A zs) (h1 : arenaB zs = true) (h2 : thB id st op arg pc til per can r0 r1 r2 r3 r4 code res = true) (h3 : decide ((zs.length : Int) < 6) = false) (h4 : inB now 0 1000000 = true) (h5 : (st != 1) = true) :
    Calls Try.prog 31 #[.agg #[.slice A zs.length c], .agg #[.int .i64 id, .int .i64 st, .int .i64 op, .int .i64 arg, .int .i64 pc, .int .i64 til, .bool per, .bool can, .int .i64 r0, .int .i64 r1, .int .i64 r2, .int .i64 r3, .int .i64 r4, .int .i64 code, .int .i64 res], .int .i64 now, .int .i64 1, .int .i64 2] w fun e w' => e = .returned (.int .i64 10) ∧ Below w.heap.size w w' := by
  have HA := Lib.hid (hA.below (below_alloc2 w (.cells #[.slice A zs.length c] 25) (.cells #[.int .i64 id, .int .i64 st, .int .i64 op, .int .i64 arg, .int .i64 pc, .int .i64 til, .bool per, .bool can, .int .i64 r0, .int .i64 r1, .int .i64 r2, .int .i64 r3, .int .i64 r4, .int .i64 code, .int .i64 res] 29))); clear hA
  have HX : Hid (BoxA ((w.alloc (.cells #[.slice A zs.length c] 25)).alloc (.cells #[.int .i64 id, .int .i64 st, .int .i64 op, .int .i64 arg, .int .i64 pc, .int .i64 til, .bool per, .bool can, .int .i64 r0, .int .i64 r1, .int .i64 r2, .int .i64 r3, .int .i64 r4, .int .i64 code, .int .i64 res] 29)) w.heap.size (.slice A zs.length c)) := (BoxA.new w _).below (below_alloc _ _)
  have HT : Hid (BoxT ((w.alloc (.cells #[.slice A zs.length c] 25)).alloc (.cells #[.int .i64 id, .int .i64 st, .int .i64 op, .int .i64 arg, .int .i64 pc, .int .i64 til, .bool per, .bool can, .int .i64 r0, .int .i64 r1, .int .i64 r2, .int .i64 r3, .int .i64 r4, .int .i64 code, .int .i64 res] 29)) (w.heap.size + 1) #[.int .i64 id, .int .i64 st, .int .i64 op, .int .i64 arg, .int .i64 pc, .int .i64 til, .bool per, .bool can, .int .i64 r0, .int .i64 r1, .int .i64 r2, .int .i64 r3, .int .i64 r4, .int .i64 code, .int .i64 res]) := by
    have h := BoxT.new (w.alloc (.cells #[.slice A zs.length c] 25)) #[.int .i64 id, .int .i64 st, .int .i64 op, .int .i64 arg, .int .i64 pc, .int .i64 til, .bool per, .bool can, .int .i64 r0, .int .i64 r1, .int .i64 r2, .int .i64 r3, .int .i64 r4, .int .i64 code, .int .i64 res]
    rw [size_alloc] at h; exact h
  have H1 := Lib.hid h1; clear h1
  have H2 := Lib.hid h2; clear h2
  have H4 := Lib.hid h4; clear h4
  go_enter Try.func31, Try.ntmps31
  go_wp2_with fail
  refine (specArenaOK_any _ _ zs _ hn HA.out).mono ?_
  rintro e w1 ⟨rfl, hb⟩
  rw [H1.out]
  have HB1 := Lib.hid (below_trans (below_alloc2 _ _ _) hb)
  have HT1 := Lib.hid (HT.out.below hb); have HX1 := Lib.hid (HX.out.below hb)
  have ht1 := HT1.out.cell; have hx1 := HX1.out.cell
  clear hb HT HX HA
  go_wp2_with fail
  refine (specThreadOK_any _ _ _ _ _ _ _ _ _ _ _ _ _ _ _ _).mono ?_
  rintro e w2 ⟨rfl, hb⟩
  rw [H2.out]
  have HB2 := Lib.hid (below_trans HB1.out hb)
  have HT2 := Lib.hid (HT1.out.below hb); have HX2 := Lib.hid (HX1.out.below hb)
  have ht2 := HT2.out.cell; have hx2 := HX2.out.cell
  clear hb ht1 hx1 HT1 HX1 HB1
  go_wp2_with (first | (go_at_call 52; (with_reducible refine (l01In_any now 0 1000000 _).mono ?_); rintro e w' ⟨rfl, rfl⟩; rw [H4.out]))
  go_ret
  exact ⟨rfl, HB2.out⟩

set_option maxHeartbeats 2000000 in
theorem askS_idle2 (A : Option Addr) (c : Nat) (zs : List Int) (id st op arg pc til : Int) (per can : Bool) (r0 r1 r2 r3 r4 code res : Int) (now : Int) (w : World) (hn : zs.length ≤ 1048576) (hA : Rd w A zs) (h1 : arenaB zs = true) (h2 : thB id st op arg pc til per can r0 r1 r2 r3 r4 code res = true) (h3 : decide ((zs.length : Int) < 6) = false) (h4 : inB now 0 1000000 = true) (h5 : (st != 1) = false) (h6 : (op != 1) = true) (h7 : (op != 2) = true) :
    Calls Try.prog 31 #[.agg #[.slice A zs.length c], .agg #[.int .i64 id, .int .i64 st, .int .i64 op, .int .i64 arg, .int .i64 pc, .int .i64 til, .bool per, .bool can, .int .i64 r0, .int .i64 r1, .int .i64 r2, .int .i64 r3, .int .i64 r4, .int .i64 code, .int .i64 res], .int .i64 now, .int .i64 1, .int .i64 2] w fun e w' => e = .returned (.int .i64 10) ∧ Below w.heap.size w w' := by
  have HA := Lib.hid (hA.below (below_alloc2 w (.cells #[.slice A zs.length c] 25) (.cells #[.int .i64 id, .int .i64 st, .int .i64 op, .int .i64 arg, .int .i64 pc, .int .i64 til, .bool per, .bool can, .int .i64 r0, .int .i64 r1, .int .i64 r2, .int .i64 r3, .int .i64 r4, .int .i64 code, .int .i64 res] 29))); clear hA
  have HX : Hid (BoxA ((w.alloc (.cells #[.slice A zs.length c] 25)).alloc (.cells #[.int .i64 id, .int .i64 st, .int .i64 op, .int .i64 arg, .int .i64 pc, .int .i64 til, .bool per, .bool can, .int .i64 r0, .int .i64 r1, .int .i64 r2, .int .i64 r3, .int .i64 r4, .int .i64 code, .int .i64 res] 29)) w.heap.size (.slice A zs.length c)) := (BoxA.new w _).below (below_alloc _ _)
  have HT : Hid (BoxT ((w.alloc (.cells #[.slice A zs.length c] 25)).alloc (.cells #[.int .i64 id, .int .i64 st, .int .i64 op, .int .i64 arg, .int .i64 pc, .int .i64 til, .bool per, .bool can, .int .i64 r0, .int .i64 r1, .int .i64 r2, .int .i64 r3, .int .i64 r4, .int .i64 code, .int .i64 res] 29)) (w.heap.size + 1) #[.int .i64 id, .int .i64 st, .int .i64 op, .int .i64 arg, .int .i64 pc, .int .i64 til, .bool per, .bool can, .int .i64 r0, .int .i64 r1, .int .i64 r2, .int .i64 r3, .int .i64 r4, .int .i64 code, .int .i64 res]) := by
    have h := BoxT.new (w.alloc (.cells #[.slice A zs.length c] 25)) #[.int .i64 id, .int .i64 st, .int .i64 op, .int .i64 arg, .int .i64 pc, .int .i64 til, .bool per, .bool can, .int .i64 r0, .int .i64 r1, .int .i64 r2, .int .i64 r3, .int .i64 r4, .int .i64 code, .int .i64 res]
    rw [size_alloc] at h; exact h
  have H1 := Lib.hid h1; clear h1
  have H2 := Lib.hid h2; clear h2
  have H4 := Lib.hid h4; clear h4
  have H6 : Hid (inB op 1 2 = false) := by
    simp only [bne_iff_ne, ne_eq] at h6 h7
    show inB op 1 2 = false
    simp [inB]; omega
  clear h6 h7
  go_enter Try.func31, Try.ntmps31
  go_wp2_with fail
  refine (specArenaOK_any _ _ zs _ hn HA.out).mono ?_
  rintro e w1 ⟨rfl, hb⟩
  rw [H1.out]
  have HB1 := Lib.hid (below_trans (below_alloc2 _ _ _) hb)
  have HT1 := Lib.hid (HT.out.below hb); have HX1 := Lib.hid (HX.out.below hb)
  have ht1 := HT1.out.cell; have hx1 := HX1.out.cell
  clear hb HT HX HA
  go_wp2_with fail
  refine (specThreadOK_any _ _ _ _ _ _ _ _ _ _ _ _ _ _ _ _).mono ?_
  rintro e w2 ⟨rfl, hb⟩
  rw [H2.out]
  have HB2 := Lib.hid (below_trans HB1.out hb)
  have HT2 := Lib.hid (HT1.out.below hb); have HX2 := Lib.hid (HX1.out.below hb)
  have ht2 := HT2.out.cell; have hx2 := HX2.out.cell
  clear hb ht1 hx1 HT1 HX1 HB1
  go_wp2_with (first | (go_at_call 52; (with_reducible refine (l01In_any now 0 1000000 _).mono ?_); rintro e w' ⟨rfl, rfl⟩; rw [H4.out]) | (go_at_call 52; (with_reducible refine (l01In_any op 1 2 _).mono ?_); rintro e w' ⟨rfl, rfl⟩; rw [H6.out]))
  go_ret
  exact ⟨rfl, HB2.out⟩

set_option maxHeartbeats 2000000 in
theorem askS_ok1 (A : Option Addr) (c : Nat) (zs : List Int) (id st op arg pc til : Int) (per can : Bool) (r0 r1 r2 r3 r4 code res : Int) (now : Int) (w : World) (hn : zs.length ≤ 1048576) (hA : Rd w A zs) (h1 : arenaB zs = true) (h2 : thB id st op arg pc til per can r0 r1 r2 r3 r4 code res = true) (h3 : decide ((zs.length : Int) < 6) = false) (h4 : inB now 0 1000000 = true) (h5 : (st != 1) = false) (h6 : (op != 1) = false) :
    Calls Try.prog 31 #[.agg #[.slice A zs.length c], .agg #[.int .i64 id, .int .i64 st, .int .i64 op, .int .i64 arg, .int .i64 pc, .int .i64 til, .bool per, .bool can, .int .i64 r0, .int .i64 r1, .int .i64 r2, .int .i64 r3, .int .i64 r4, .int .i64 code, .int .i64 res], .int .i64 now, .int .i64 1, .int .i64 2] w fun e w' => e = .returned (.int .i64 0) ∧ Below w.heap.size w w' := by
  have HA := Lib.hid (hA.below (below_alloc2 w (.cells #[.slice A zs.length c] 25) (.cells #[.int .i64 id, .int .i64 st, .int .i64 op, .int .i64 arg, .int .i64 pc, .int .i64 til, .bool per, .bool can, .int .i64 r0, .int .i64 r1, .int .i64 r2, .int .i64 r3, .int .i64 r4, .int .i64 code, .int .i64 res] 29))); clear hA
  have HX : Hid (BoxA ((w.alloc (.cells #[.slice A zs.length c] 25)).alloc (.cells #[.int .i64 id, .int .i64 st, .int .i64 op, .int .i64 arg, .int .i64 pc, .int .i64 til, .bool per, .bool can, .int .i64 r0, .int .i64 r1, .int .i64 r2, .int .i64 r3, .int .i64 r4, .int .i64 code, .int .i64 res] 29)) w.heap.size (.slice A zs.length c)) := (BoxA.new w _).below (below_alloc _ _)
  have HT : Hid (BoxT ((w.alloc (.cells #[.slice A zs.length c] 25)).alloc (.cells #[.int .i64 id, .int .i64 st, .int .i64 op, .int .i64 arg, .int .i64 pc, .int .i64 til, .bool per, .bool can, .int .i64 r0, .int .i64 r1, .int .i64 r2, .int .i64 r3, .int .i64 r4, .int .i64 code, .int .i64 res] 29)) (w.heap.size + 1) #[.int .i64 id, .int .i64 st, .int .i64 op, .int .i64 arg, .int .i64 pc, .int .i64 til, .bool per, .bool can, .int .i64 r0, .int .i64 r1, .int .i64 r2, .int .i64 r3, .int .i64 r4, .int .i64 code, .int .i64 res]) := by
    have h := BoxT.new (w.alloc (.cells #[.slice A zs.length c] 25)) #[.int .i64 id, .int .i64 st, .int .i64 op, .int .i64 arg, .int .i64 pc, .int .i64 til, .bool per, .bool can, .int .i64 r0, .int .i64 r1, .int .i64 r2, .int .i64 r3, .int .i64 r4, .int .i64 code, .int .i64 res]
    rw [size_alloc] at h; exact h
  have H1 := Lib.hid h1; clear h1
  have H2 := Lib.hid h2; clear h2
  have H4 := Lib.hid h4; clear h4
  have H6 : Hid (inB op 1 2 = true) := by
    simp only [bne_eq_false_iff_eq] at h6
    show inB op 1 2 = true
    rw [h6]; rfl
  clear h6
  go_enter Try.func31, Try.ntmps31
  go_wp2_with fail
  refine (specArenaOK_any _ _ zs _ hn HA.out).mono ?_
  rintro e w1 ⟨rfl, hb⟩
  rw [H1.out]
  have HB1 := Lib.hid (below_trans (below_alloc2 _ _ _) hb)
  have HT1 := Lib.hid (HT.out.below hb); have HX1 := Lib.hid (HX.out.below hb)
  have ht1 := HT1.out.cell; have hx1 := HX1.out.cell
  clear hb HT HX HA
  go_wp2_with fail
  refine (specThreadOK_any _ _ _ _ _ _ _ _ _ _ _ _ _ _ _ _).mono ?_
  rintro e w2 ⟨rfl, hb⟩
  rw [H2.out]
  have HB2 := Lib.hid (below_trans HB1.out hb)
  have HT2 := Lib.hid (HT1.out.below hb); have HX2 := Lib.hid (HX1.out.below hb)
  have ht2 := HT2.out.cell; have hx2 := HX2.out.cell
  clear hb ht1 hx1 HT1 HX1 HB1
  go_wp2_with (first | (go_at_call 52; (with_reducible refine (l01In_any now 0 1000000 _).mono ?_); rintro e w' ⟨rfl, rfl⟩; rw [H4.out]) | (go_at_call 52; (with_reducible refine (l01In_any op 1 2 _).mono ?_); rintro e w' ⟨rfl, rfl⟩; rw [H6.out]))
  go_ret
  exact ⟨rfl, HB2.out⟩

set_option maxHeartbeats 2000000 in
theorem askS_ok2 (A : Option Addr) (c : Nat) (zs : List Int) (id st op arg pc til : Int) (per can : Bool) (r0 r1 r2 r3 r4 code res : Int) (now : Int) (w : World) (hn : zs.length ≤ 1048576) (hA : Rd w A zs) (h1 : arenaB zs = true) (h2 : thB id st op arg pc til per can r0 r1 r2 r3 r4 code res = true) (h3 : decide ((zs.length : Int) < 6) = false) (h4 : inB now 0 1000000 = true) (h5 : (st != 1) = false) (_h6 : (op != 1) = true) (h7 : (op != 2) = false) :
    Calls Try.prog 31 #[.agg #[.slice A zs.length c], .agg #[.int .i64 id, .int .i64 st, .int .i64 op, .int .i64 arg, .int .i64 pc, .int .i64 til, .bool per, .bool can, .int .i64 r0, .int .i64 r1, .int .i64 r2, .int .i64 r3, .int .i64 r4, .int .i64 code, .int .i64 res], .int .i64 now, .int .i64 1, .int .i64 2] w fun e w' => e = .returned (.int .i64 0) ∧ Below w.heap.size w w' := by
  have HA := Lib.hid (hA.below (below_alloc2 w (.cells #[.slice A zs.length c] 25) (.cells #[.int .i64 id, .int .i64 st, .int .i64 op, .int .i64 arg, .int .i64 pc, .int .i64 til, .bool per, .bool can, .int .i64 r0, .int .i64 r1, .int .i64 r2, .int .i64 r3, .int .i64 r4, .int .i64 code, .int .i64 res] 29))); clear hA
  have HX : Hid (BoxA ((w.alloc (.cells #[.slice A zs.length c] 25)).alloc (.cells #[.int .i64 id, .int .i64 st, .int .i64 op, .int .i64 arg, .int .i64 pc, .int .i64 til, .bool per, .bool can, .int .i64 r0, .int .i64 r1, .int .i64 r2, .int .i64 r3, .int .i64 r4, .int .i64 code, .int .i64 res] 29)) w.heap.size (.slice A zs.length c)) := (BoxA.new w _).below (below_alloc _ _)
  have HT : Hid (BoxT ((w.alloc (.cells #[.slice A zs.length c] 25)).alloc (.cells #[.int .i64 id, .int .i64 st, .int .i64 op, .int .i64 arg, .int .i64 pc, .int .i64 til, .bool per, .bool can, .int .i64 r0, .int .i64 r1, .int .i64 r2, .int .i64 r3, .int .i64 r4, .int .i64 code, .int .i64 res] 29)) (w.heap.size + 1) #[.int .i64 id, .int .i64 st, .int .i64 op, .int .i64 arg, .int .i64 pc, .int .i64 til, .bool per, .bool can, .int .i64 r0, .int .i64 r1, .int .i64 r2, .int .i64 r3, .int .i64 r4, .int .i64 code, .int .i64 res]) := by
    have h := BoxT.new (w.alloc (.cells #[.slice A zs.length c] 25)) #[.int .i64 id, .int .i64 st, .int .i64 op, .int .i64 arg, .int .i64 pc, .int .i64 til, .bool per, .bool can, .int .i64 r0, .int .i64 r1, .int .i64 r2, .int .i64 r3, .int .i64 r4, .int .i64 code, .int .i64 res]
    rw [size_alloc] at h; exact h
  have H1 := Lib.hid h1; clear h1
  have H2 := Lib.hid h2; clear h2
  have H4 := Lib.hid h4; clear h4
  have H6 : Hid (inB op 1 2 = true) := by
    simp only [bne_eq_false_iff_eq] at h7
    show inB op 1 2 = true
    rw [h7]; rfl
  clear _h6 h7
  go_enter Try.func31, Try.ntmps31
  go_wp2_with fail
  refine (specArenaOK_any _ _ zs _ hn HA.out).mono ?_
  rintro e w1 ⟨rfl, hb⟩
  rw [H1.out]
  have HB1 := Lib.hid (below_trans (below_alloc2 _ _ _) hb)
  have HT1 := Lib.hid (HT.out.below hb); have HX1 := Lib.hid (HX.out.below hb)
  have ht1 := HT1.out.cell; have hx1 := HX1.out.cell
  clear hb HT HX HA
  go_wp2_with fail
  refine (specThreadOK_any _ _ _ _ _ _ _ _ _ _ _ _ _ _ _ _).mono ?_
  rintro e w2 ⟨rfl, hb⟩
  rw [H2.out]
  have HB2 := Lib.hid (below_trans HB1.out hb)
  have HT2 := Lib.hid (HT1.out.below hb); have HX2 := Lib.hid (HX1.out.below hb)
  have ht2 := HT2.out.cell; have hx2 := HX2.out.cell
  clear hb ht1 hx1 HT1 HX1 HB1
  go_wp2_with (first | (go_at_call 52; (with_reducible refine (l01In_any now 0 1000000 _).mono ?_); rintro e w' ⟨rfl, rfl⟩; rw [H4.out]) | (go_at_call 52; (with_reducible refine (l01In_any op 1 2 _).mono ?_); rintro e w' ⟨rfl, rfl⟩; rw [H6.out]))
  go_ret
  exact ⟨rfl, HB2.out⟩

theorem askS_any (A : Option Addr) (c : Nat) (zs : List Int) (id st op arg pc til : Int) (per can : Bool) (r0 r1 r2 r3 r4 code res : Int) (now : Int) (w : World) (hn : zs.length ≤ 1048576) (hA : Rd w A zs) :
    Calls Try.prog 31 #[.agg #[.slice A zs.length c], .agg #[.int .i64 id, .int .i64 st, .int .i64 op, .int .i64 arg, .int .i64 pc, .int .i64 til, .bool per, .bool can, .int .i64 r0, .int .i64 r1, .int .i64 r2, .int .i64 r3, .int .i64 r4, .int .i64 code, .int .i64 res], .int .i64 now, .int .i64 1, .int .i64 2] w fun e w' => e = .returned (.int .i64 (askB zs id st op arg pc til per can r0 r1 r2 r3 r4 code res now)) ∧ Below w.heap.size w w' := by
  unfold askB
  cases h1 : arenaB zs
  · rw [if_neg (by simp)]; exact askS_bad1 A c zs id st op arg pc til per can r0 r1 r2 r3 r4 code res now w hn hA h1
  cases h2 : thB id st op arg pc til per can r0 r1 r2 r3 r4 code res
  · rw [if_neg (by simp)]; exact askS_bad2 A c zs id st op arg pc til per can r0 r1 r2 r3 r4 code res now w hn hA h1 h2
  rw [if_pos ⟨rfl, rfl⟩]
  by_cases h3 : (zs.length : Int) < 6
  · rw [if_neg (by omega)]; exact askS_rng1 A c zs id st op arg pc til per can r0 r1 r2 r3 r4 code res now w hn hA h1 h2 (decide_eq_true h3)
  cases h4 : inB now 0 1000000
  · rw [if_neg (by simp)]; exact askS_rng2 A c zs id st op arg pc til per can r0 r1 r2 r3 r4 code res now w hn hA h1 h2 (decide_eq_false h3) h4
  rw [if_pos ⟨by omega, rfl⟩]
  by_cases h5 : st = 1
  · by_cases h6 : op = 1
    · rw [if_pos ⟨h5, .inl h6⟩]; exact askS_ok1 A c zs id st op arg pc til per can r0 r1 r2 r3 r4 code res now w hn hA h1 h2 (decide_eq_false h3) h4 (by simp [h5]) (by simp [h6])
    · by_cases h7 : op = 2
      · rw [if_pos ⟨h5, .inr h7⟩]; exact askS_ok2 A c zs id st op arg pc til per can r0 r1 r2 r3 r4 code res now w hn hA h1 h2 (decide_eq_false h3) h4 (by simp [h5]) (by simp [h6]) (by simp [h7])
      · rw [if_neg (by omega)]; exact askS_idle2 A c zs id st op arg pc til per can r0 r1 r2 r3 r4 code res now w hn hA h1 h2 (decide_eq_false h3) h4 (by simp [h5]) (by simp [h6]) (by simp [h7])
  · rw [if_neg (by omega)]; exact askS_idle1 A c zs id st op arg pc til per can r0 r1 r2 r3 r4 code res now w hn hA h1 h2 (decide_eq_false h3) h4 (by simp [h5])
end Go.Proofs.Ytabojajhnhcemaa
