/-
  The model's l04Step: the other Pc.
  What the model answers where StepQueue refuses.
-/
import Derived.Test.YtabojajhnhcemaaJ41
import Derived.Test.YtabojajhnhcemaaJ16
import Derived.Test.YtabojajhnhcemaaJ44
namespace Go.Proofs.Ytabojajhnhcemaa
open Go.RowKit

set_option maxHeartbeats 8000000 in
set_option maxRecDepth 100000 in
theorem lstep_ma (id st op arg pc til : Int) (per can : Bool) (r0 r1 r2 r3 r4 code res : Int) (now wk : Int) (id' st' op' arg' pc' til' : Int) (per' can' : Bool) (s0 s1 s2 s3 s4 code' res' : Int) (w : World) (A : Option Addr) (c : Nat) (zs : List Int) (hC : Cond zs id st op arg pc til per can r0 r1 r2 r3 r4 code res now) (hA : Rd w A zs) (h1 : inB pc 0 5 = false) (h2 : (pc == 8) = false) (h3 : inB pc 9 11 = false) (L : List Int) (h : StepTo zs id st op arg til per can r0 r1 r2 r3 r4 code res now pc L ⟨id', st', op', arg', pc', til', per', can', s0, s1, s2, s3, s4, code', res'⟩ wk) :
    Calls Try.prog 32 #[.agg #[.slice A zs.length c], .agg #[.int .i64 id, .int .i64 st, .int .i64 op, .int .i64 arg, .int .i64 pc, .int .i64 til, .bool per, .bool can, .int .i64 r0, .int .i64 r1, .int .i64 r2, .int .i64 r3, .int .i64 r4, .int .i64 code, .int .i64 res], .int .i64 now] w fun e w' => ∃ B d, e = .returned (.tuple #[.agg #[.slice B L.length d], .agg #[.int .i64 id', .int .i64 st', .int .i64 op', .int .i64 arg', .int .i64 pc', .int .i64 til', .bool per', .bool can', .int .i64 s0, .int .i64 s1, .int .i64 s2, .int .i64 s3, .int .i64 s4, .int .i64 code', .int .i64 res'], .int .i64 wk]) ∧ Res w.heap.size w' A zs B d L ∧ Below w.heap.size w w' := by
  have HP : Hid ((pc = 6 ∨ pc = 7) ∨ 12 ≤ pc) := by
    show (pc = 6 ∨ pc = 7) ∨ 12 ≤ pc
    have a1 := inB_false h1; have a3 := inB_false h3; simp only [beq_eq_false_iff_ne, ne_eq] at h2; have := inB_iff.1 hC.parts.2.2.1; omega
  have HC := Lib.hid hC; have HS := Lib.hid h; clear hC h
  have H1 := Lib.hid h1; clear h1
  have H3 := Lib.hid h3; clear h3
  have HF := Lib.hid (Fr.start w A c zs #[.int .i64 id, .int .i64 st, .int .i64 op, .int .i64 arg, .int .i64 pc, .int .i64 til, .bool per, .bool can, .int .i64 r0, .int .i64 r1, .int .i64 r2, .int .i64 r3, .int .i64 r4, .int .i64 code, .int .i64 res] hA); clear hA
  go_enter Try.func32, Try.ntmps32
  go_wp2_with (first | (go_at_call 52; (with_reducible refine (l01In_any pc 0 5 _).mono ?_); rintro e w' ⟨rfl, rfl⟩; rw [H1.out]) | (go_at_call 52; (with_reducible refine (l01In_any pc 9 11 _).mono ?_); rintro e w' ⟨rfl, rfl⟩; rw [H3.out]))
  refine (smatch_all _ _ _ _ _ _ _ _ _ _ _ _ _ _ _ now wk _ _ _ _ _ _ _ _ _ _ _ _ _ _ _ _ _ _ zs HC.out HP.out HF.out.rd L HS.out).mono ?_
  rintro e w1 ⟨B, d, rfl, hrd, hb⟩
  simp only [size_alloc] at hrd
  have HF1 := Lib.hid (HF.out.below hb); have HR1 := Lib.hid hrd; clear hb hrd HF
  have hra := HF1.out.ra.cell; have hfa := HF1.out.ra.froz; have hrt := HF1.out.rt.cell; have hft := HF1.out.rt.froz
  go_wp2_with (refine wpList_store_row rfl 29 _ _ rfl (w.heap.size + 1 + 1 + 1) _ rfl rfl 29 _ (HF1.out.rtSet _) info_th rfl (one15 _ _ _ _ _ _ _ _ _ _ _ _ _ _ _) ?_)
  obtain ⟨g1, g2, g3⟩ := HF1.out.done (.slice B L.length d) #[.int .i64 id', .int .i64 st', .int .i64 op', .int .i64 arg', .int .i64 pc', .int .i64 til', .bool per', .bool can', .int .i64 s0, .int .i64 s1, .int .i64 s2, .int .i64 s3, .int .i64 s4, .int .i64 code', .int .i64 res']
  exact bodyPost_ret (results_ati Try.results32 _ _ _ _ _ _ _ rfl rfl rfl g1 g2 rfl) rfl ⟨B, d, rfl, HR1.out.done (by omega) (by omega) (by omega) _ _, g3⟩
end Go.Proofs.Ytabojajhnhcemaa

namespace Go.Proofs.Ytabojajhnhcemaa
open Go.RowKit

set_option maxHeartbeats 4000000 in
theorem specStep_zero (id st op arg pc til : Int) (per can : Bool) (r0 r1 r2 r3 r4 code res : Int) (now q : Int) (w : World) (A : Option Addr) (c : Nat) (zs : List Int) (hn : zs.length ≤ 1048576) (hq : askB zs id st op arg pc til per can r0 r1 r2 r3 r4 code res now = q) (h0 : (q != 0) = true) (hA : Rd w A zs) :
    Calls Try.prog 10 #[.agg #[.slice A zs.length c], .agg #[.int .i64 id, .int .i64 st, .int .i64 op, .int .i64 arg, .int .i64 pc, .int .i64 til, .bool per, .bool can, .int .i64 r0, .int .i64 r1, .int .i64 r2, .int .i64 r3, .int .i64 r4, .int .i64 code, .int .i64 res], .int .i64 now] w fun e w' => e = .returned (.tuple #[.agg #[.slice none 0 0], .agg #[.int .i64 0, .int .i64 0, .int .i64 0, .int .i64 0, .int .i64 0, .int .i64 0, .bool false, .bool false, .int .i64 0, .int .i64 0, .int .i64 0, .int .i64 0, .int .i64 0, .int .i64 0, .int .i64 0], .int .i64 0, .int .i64 q]) ∧ Below w.heap.size w w' := by
  have HK := Lib.hid hq; clear hq
  have HF := Lib.hid (Fr.start w A c zs #[.int .i64 id, .int .i64 st, .int .i64 op, .int .i64 arg, .int .i64 pc, .int .i64 til, .bool per, .bool can, .int .i64 r0, .int .i64 r1, .int .i64 r2, .int .i64 r3, .int .i64 r4, .int .i64 code, .int .i64 res] hA); clear hA
  go_enter Try.func10, Try.ntmps10
  go_wp2_with fail
  refine (askS_any _ _ zs _ _ _ _ _ _ _ _ _ _ _ _ _ _ _ now _ hn HF.out.rd).mono ?_
  rintro e w1 ⟨rfl, hb⟩
  rw [HK.out]
  have HF1 := Lib.hid (HF.out.below hb); clear hb HF
  have hra := HF1.out.ra.cell; have hfa := HF1.out.ra.froz; have hrt := HF1.out.rt.cell; have hft := HF1.out.rt.froz
  go_wp2_with (refine wpList_store_row rfl 29 _ _ rfl (w.heap.size + 1 + 1 + 1) _ rfl rfl 29 _ (HF1.out.rtSet _) info_th rfl (one15 _ _ _ _ _ _ _ _ _ _ _ _ _ _ _) ?_)
  obtain ⟨g1, g2, g3⟩ := HF1.out.done (.slice none 0 0) #[.int .i64 0, .int .i64 0, .int .i64 0, .int .i64 0, .int .i64 0, .int .i64 0, .bool false, .bool false, .int .i64 0, .int .i64 0, .int .i64 0, .int .i64 0, .int .i64 0, .int .i64 0, .int .i64 0]
  exact bodyPost_ret (results_at4 Try.results10 _ _ _ _ _ _ _ _ rfl rfl rfl rfl g1 g2 rfl) rfl ⟨rfl, g3⟩
end Go.Proofs.Ytabojajhnhcemaa
