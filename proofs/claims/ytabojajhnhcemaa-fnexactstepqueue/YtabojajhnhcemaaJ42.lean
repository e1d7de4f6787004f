/-
  The model's l04Step: Pc 0 to 5 and 8.
-/
import Derived.Test.YtabojajhnhcemaaJ41
namespace Go.Proofs.Ytabojajhnhcemaa
open Go.RowKit

set_option maxHeartbeats 8000000 in
set_option maxRecDepth 100000 in
theorem lstep_ja (id st op arg pc til : Int) (per can : Bool) (r0 r1 r2 r3 r4 code res : Int) (now wk : Int) (id' st' op' arg' pc' til' : Int) (per' can' : Bool) (s0 s1 s2 s3 s4 code' res' : Int) (w : World) (A : Option Addr) (c : Nat) (zs : List Int) (hC : Cond zs id st op arg pc til per can r0 r1 r2 r3 r4 code res now) (hA : Rd w A zs) (h1 : inB pc 0 5 = true) (L : List Int) (h : StepTo zs id st op arg til per can r0 r1 r2 r3 r4 code res now pc L ⟨id', st', op', arg', pc', til', per', can', s0, s1, s2, s3, s4, code', res'⟩ wk) :
    Calls Try.prog 32 #[.agg #[.slice A zs.length c], .agg #[.int .i64 id, .int .i64 st, .int .i64 op, .int .i64 arg, .int .i64 pc, .int .i64 til, .bool per, .bool can, .int .i64 r0, .int .i64 r1, .int .i64 r2, .int .i64 r3, .int .i64 r4, .int .i64 code, .int .i64 res], .int .i64 now] w fun e w' => ∃ B d, e = .returned (.tuple #[.agg #[.slice B L.length d], .agg #[.int .i64 id', .int .i64 st', .int .i64 op', .int .i64 arg', .int .i64 pc', .int .i64 til', .bool per', .bool can', .int .i64 s0, .int .i64 s1, .int .i64 s2, .int .i64 s3, .int .i64 s4, .int .i64 code', .int .i64 res'], .int .i64 wk]) ∧ Res w.heap.size w' A zs B d L ∧ Below w.heap.size w w' := by
  have HP : Hid (pc = 0 ∨ pc = 1 ∨ pc = 2 ∨ pc = 3 ∨ pc = 4 ∨ pc = 5 ∨ pc = 8) := by
    show pc = 0 ∨ pc = 1 ∨ pc = 2 ∨ pc = 3 ∨ pc = 4 ∨ pc = 5 ∨ pc = 8
    have := inB_iff.1 h1; omega
  have HC := Lib.hid hC; have HS := Lib.hid h; clear hC h
  have H1 := Lib.hid h1; clear h1
  have HF := Lib.hid (Fr.start w A c zs #[.int .i64 id, .int .i64 st, .int .i64 op, .int .i64 arg, .int .i64 pc, .int .i64 til, .bool per, .bool can, .int .i64 r0, .int .i64 r1, .int .i64 r2, .int .i64 r3, .int .i64 r4, .int .i64 code, .int .i64 res] hA); clear hA
  go_enter Try.func32, Try.ntmps32
  go_wp2_with (first | (go_at_call 52; (with_reducible refine (l01In_any pc 0 5 _).mono ?_); rintro e w' ⟨rfl, rfl⟩; rw [H1.out]))
  refine (sjoin_all _ _ _ _ _ _ _ _ _ _ _ _ _ _ _ now wk _ _ _ _ _ _ _ _ _ _ _ _ _ _ _ _ _ _ zs HC.out HP.out HF.out.rd L HS.out).mono ?_
  rintro e w1 ⟨B, d, rfl, hrd, hb, hwk⟩
  simp only [size_alloc] at hrd
  have HWK := Lib.hid hwk; clear hwk
  have HF1 := Lib.hid ((HF.out.below hb).below (below_alloc2 w1 (.cells #[.slice B L.length d] 25) (.cells #[.int .i64 id', .int .i64 st', .int .i64 op', .int .i64 arg', .int .i64 pc', .int .i64 til', .bool per', .bool can', .int .i64 s0, .int .i64 s1, .int .i64 s2, .int .i64 s3, .int .i64 s4, .int .i64 code', .int .i64 res'] 29)))
  have HR1 := Lib.hid (hrd.below (below_alloc2 w1 (.cells #[.slice B L.length d] 25) (.cells #[.int .i64 id', .int .i64 st', .int .i64 op', .int .i64 arg', .int .i64 pc', .int .i64 til', .bool per', .bool can', .int .i64 s0, .int .i64 s1, .int .i64 s2, .int .i64 s3, .int .i64 s4, .int .i64 code', .int .i64 res'] 29)))
  have HX1 : Hid (BoxA ((w1.alloc (.cells #[.slice B L.length d] 25)).alloc (.cells #[.int .i64 id', .int .i64 st', .int .i64 op', .int .i64 arg', .int .i64 pc', .int .i64 til', .bool per', .bool can', .int .i64 s0, .int .i64 s1, .int .i64 s2, .int .i64 s3, .int .i64 s4, .int .i64 code', .int .i64 res'] 29)) w1.heap.size (.slice B L.length d)) := (BoxA.new w1 _).below (below_alloc _ _)
  have HT1 : Hid (BoxT ((w1.alloc (.cells #[.slice B L.length d] 25)).alloc (.cells #[.int .i64 id', .int .i64 st', .int .i64 op', .int .i64 arg', .int .i64 pc', .int .i64 til', .bool per', .bool can', .int .i64 s0, .int .i64 s1, .int .i64 s2, .int .i64 s3, .int .i64 s4, .int .i64 code', .int .i64 res'] 29)) (w1.heap.size + 1) #[.int .i64 id', .int .i64 st', .int .i64 op', .int .i64 arg', .int .i64 pc', .int .i64 til', .bool per', .bool can', .int .i64 s0, .int .i64 s1, .int .i64 s2, .int .i64 s3, .int .i64 s4, .int .i64 code', .int .i64 res']) := by
    have h := BoxT.new (w1.alloc (.cells #[.slice B L.length d] 25)) #[.int .i64 id', .int .i64 st', .int .i64 op', .int .i64 arg', .int .i64 pc', .int .i64 til', .bool per', .bool can', .int .i64 s0, .int .i64 s1, .int .i64 s2, .int .i64 s3, .int .i64 s4, .int .i64 code', .int .i64 res']
    rw [size_alloc] at h; exact h
  have HZZ := Lib.hid (HF.out.below hb).size
  clear hb hrd HF
  go_upto_region 3 with fail
  generalize (w1.alloc (.cells #[.slice B L.length d] 25)).alloc (.cells #[.int .i64 id', .int .i64 st', .int .i64 op', .int .i64 arg', .int .i64 pc', .int .i64 til', .bool per', .bool can', .int .i64 s0, .int .i64 s1, .int .i64 s2, .int .i64 s3, .int .i64 s4, .int .i64 code', .int .i64 res'] 29) = w2 at HF1 HR1 HX1 HT1 ⊢
  have hx1 := HX1.out.cell; have ht1 := HT1.out.cell
  have hra := HF1.out.ra.cell; have hfa := HF1.out.ra.froz; have hrt := HF1.out.rt.cell; have hft := HF1.out.rt.froz
  have hz2 : w.heap.size + 1 + 1 + 1 < w1.heap.size := HZZ.out
  have hn1 : ¬ w1.heap.size = w.heap.size + 1 + 1 := by omega
  have hn2 : ¬ w1.heap.size + 1 = w.heap.size + 1 + 1 := by omega
  have hn3 : ¬ w1.heap.size = w.heap.size + 1 + 1 + 1 := by omega
  have hn4 : ¬ w1.heap.size + 1 = w.heap.size + 1 + 1 + 1 := by omega
  clear hz2
  go_region
  all_goals
    rw [row15 (HF1.out.rtSet _)]
    obtain ⟨g1, g2, g3⟩ := HF1.out.drew.done (.slice B L.length d) #[.int .i64 id', .int .i64 st', .int .i64 op', .int .i64 arg', .int .i64 pc', .int .i64 til', .bool per', .bool can', .int .i64 s0, .int .i64 s1, .int .i64 s2, .int .i64 s3, .int .i64 s4, .int .i64 code', .int .i64 res']
    go_wp2_with fail
    rw [HWK.out]
    exact bodyPost_ret (results_ati Try.results32 _ _ _ _ _ _ _ rfl rfl rfl g1 g2 rfl) rfl ⟨B, d, rfl, HR1.out.drew.done (by omega) (by omega) (by omega) _ _, g3⟩

set_option maxHeartbeats 8000000 in
set_option maxRecDepth 100000 in
theorem lstep_jb (id st op arg pc til : Int) (per can : Bool) (r0 r1 r2 r3 r4 code res : Int) (now wk : Int) (id' st' op' arg' pc' til' : Int) (per' can' : Bool) (s0 s1 s2 s3 s4 code' res' : Int) (w : World) (A : Option Addr) (c : Nat) (zs : List Int) (hC : Cond zs id st op arg pc til per can r0 r1 r2 r3 r4 code res now) (hA : Rd w A zs) (h1 : inB pc 0 5 = false) (h2 : (pc == 8) = true) (L : List Int) (h : StepTo zs id st op arg til per can r0 r1 r2 r3 r4 code res now pc L ⟨id', st', op', arg', pc', til', per', can', s0, s1, s2, s3, s4, code', res'⟩ wk) :
    Calls Try.prog 32 #[.agg #[.slice A zs.length c], .agg #[.int .i64 id, .int .i64 st, .int .i64 op, .int .i64 arg, .int .i64 pc, .int .i64 til, .bool per, .bool can, .int .i64 r0, .int .i64 r1, .int .i64 r2, .int .i64 r3, .int .i64 r4, .int .i64 code, .int .i64 res], .int .i64 now] w fun e w' => ∃ B d, e = .returned (.tuple #[.agg #[.slice B L.length d], .agg #[.int .i64 id', .int .i64 st', .int .i64 op', .int .i64 arg', .int .i64 pc', .int .i64 til', .bool per', .bool can', .int .i64 s0, .int .i64 s1, .int .i64 s2, .int .i64 s3, .int .i64 s4, .int .i64 code', .int .i64 res'], .int .i64 wk]) ∧ Res w.heap.size w' A zs B d L ∧ Below w.heap.size w w' := by
  have HP : Hid (pc = 0 ∨ pc = 1 ∨ pc = 2 ∨ pc = 3 ∨ pc = 4 ∨ pc = 5 ∨ pc = 8) := by
    show pc = 0 ∨ pc = 1 ∨ pc = 2 ∨ pc = 3 ∨ pc = 4 ∨ pc = 5 ∨ pc = 8
    simp only [beq_iff_eq] at h2; omega
  have HC := Lib.hid hC; have HS := Lib.hid h; clear hC h
  have H1 := Lib.hid h1; clear h1
  have HF := Lib.hid (Fr.start w A c zs #[.int .i64 id, .int .i64 st, .int .i64 op, .int .i64 arg, .int .i64 pc, .int .i64 til, .bool per, .bool can, .int .i64 r0, .int .i64 r1, .int .i64 r2, .int .i64 r3, .int .i64 r4, .int .i64 code, .int .i64 res] hA); clear hA
  go_enter Try.func32, Try.ntmps32
  go_wp2_with (first | (go_at_call 52; (with_reducible refine (l01In_any pc 0 5 _).mono ?_); rintro e w' ⟨rfl, rfl⟩; rw [H1.out]))
  refine (sjoin_all _ _ _ _ _ _ _ _ _ _ _ _ _ _ _ now wk _ _ _ _ _ _ _ _ _ _ _ _ _ _ _ _ _ _ zs HC.out HP.out HF.out.rd L HS.out).mono ?_
  rintro e w1 ⟨B, d, rfl, hrd, hb, hwk⟩
  simp only [size_alloc] at hrd
  have HWK := Lib.hid hwk; clear hwk
  have HF1 := Lib.hid ((HF.out.below hb).below (below_alloc2 w1 (.cells #[.slice B L.length d] 25) (.cells #[.int .i64 id', .int .i64 st', .int .i64 op', .int .i64 arg', .int .i64 pc', .int .i64 til', .bool per', .bool can', .int .i64 s0, .int .i64 s1, .int .i64 s2, .int .i64 s3, .int .i64 s4, .int .i64 code', .int .i64 res'] 29)))
  have HR1 := Lib.hid (hrd.below (below_alloc2 w1 (.cells #[.slice B L.length d] 25) (.cells #[.int .i64 id', .int .i64 st', .int .i64 op', .int .i64 arg', .int .i64 pc', .int .i64 til', .bool per', .bool can', .int .i64 s0, .int .i64 s1, .int .i64 s2, .int .i64 s3, .int .i64 s4, .int .i64 code', .int .i64 res'] 29)))
  have HX1 : Hid (BoxA ((w1.alloc (.cells #[.slice B L.length d] 25)).alloc (.cells #[.int .i64 id', .int .i64 st', .int .i64 op', .int .i64 arg', .int .i64 pc', .int .i64 til', .bool per', .bool can', .int .i64 s0, .int .i64 s1, .int .i64 s2, .int .i64 s3, .int .i64 s4, .int .i64 code', .int .i64 res'] 29)) w1.heap.size (.slice B L.length d)) := (BoxA.new w1 _).below (below_alloc _ _)
  have HT1 : Hid (BoxT ((w1.alloc (.cells #[.slice B L.length d] 25)).alloc (.cells #[.int .i64 id', .int .i64 st', .int .i64 op', .int .i64 arg', .int .i64 pc', .int .i64 til', .bool per', .bool can', .int .i64 s0, .int .i64 s1, .int .i64 s2, .int .i64 s3, .int .i64 s4, .int .i64 code', .int .i64 res'] 29)) (w1.heap.size + 1) #[.int .i64 id', .int .i64 st', .int .i64 op', .int .i64 arg', .int .i64 pc', .int .i64 til', .bool per', .bool can', .int .i64 s0, .int .i64 s1, .int .i64 s2, .int .i64 s3, .int .i64 s4, .int .i64 code', .int .i64 res']) := by
    have h := BoxT.new (w1.alloc (.cells #[.slice B L.length d] 25)) #[.int .i64 id', .int .i64 st', .int .i64 op', .int .i64 arg', .int .i64 pc', .int .i64 til', .bool per', .bool can', .int .i64 s0, .int .i64 s1, .int .i64 s2, .int .i64 s3, .int .i64 s4, .int .i64 code', .int .i64 res']
    rw [size_alloc] at h; exact h
  have HZZ := Lib.hid (HF.out.below hb).size
  clear hb hrd HF
  go_upto_region 3 with fail
  generalize (w1.alloc (.cells #[.slice B L.length d] 25)).alloc (.cells #[.int .i64 id', .int .i64 st', .int .i64 op', .int .i64 arg', .int .i64 pc', .int .i64 til', .bool per', .bool can', .int .i64 s0, .int .i64 s1, .int .i64 s2, .int .i64 s3, .int .i64 s4, .int .i64 code', .int .i64 res'] 29) = w2 at HF1 HR1 HX1 HT1 ⊢
  have hx1 := HX1.out.cell; have ht1 := HT1.out.cell
  have hra := HF1.out.ra.cell; have hfa := HF1.out.ra.froz; have hrt := HF1.out.rt.cell; have hft := HF1.out.rt.froz
  have hz2 : w.heap.size + 1 + 1 + 1 < w1.heap.size := HZZ.out
  have hn1 : ¬ w1.heap.size = w.heap.size + 1 + 1 := by omega
  have hn2 : ¬ w1.heap.size + 1 = w.heap.size + 1 + 1 := by omega
  have hn3 : ¬ w1.heap.size = w.heap.size + 1 + 1 + 1 := by omega
  have hn4 : ¬ w1.heap.size + 1 = w.heap.size + 1 + 1 + 1 := by omega
  clear hz2
  go_region
  all_goals
    rw [row15 (HF1.out.rtSet _)]
    obtain ⟨g1, g2, g3⟩ := HF1.out.drew.done (.slice B L.length d) #[.int .i64 id', .int .i64 st', .int .i64 op', .int .i64 arg', .int .i64 pc', .int .i64 til', .bool per', .bool can', .int .i64 s0, .int .i64 s1, .int .i64 s2, .int .i64 s3, .int .i64 s4, .int .i64 code', .int .i64 res']
    go_wp2_with fail
    rw [HWK.out]
    exact bodyPost_ret (results_ati Try.results32 _ _ _ _ _ _ _ rfl rfl rfl g1 g2 rfl) rfl ⟨B, d, rfl, HR1.out.drew.done (by omega) (by omega) (by omega) _ _, g3⟩
end Go.Proofs.Ytabojajhnhcemaa
