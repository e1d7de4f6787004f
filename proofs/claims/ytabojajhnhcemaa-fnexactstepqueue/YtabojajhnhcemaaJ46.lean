/-
  The model's StepQueue.
-/
import Derived.Test.YtabojajhnhcemaaJ42
import Derived.Test.YtabojajhnhcemaaJ43
import Derived.Test.YtabojajhnhcemaaJ45
import Derived.Test.YtabojajhnhcemaaJ44
import Derived.Test.YtabojajhnhcemaaJ16
namespace Go.Proofs.Ytabojajhnhcemaa
open Go.RowKit

theorem StepTo.len {zs : List Int} {id st op arg til : Int} {per can : Bool} {r0 r1 r2 r3 r4 code res now : Int} {pc wk : Int} {L : List Int} {T : Th} (h : StepTo zs id st op arg til per can r0 r1 r2 r3 r4 code res now pc L T wk) (hz : zs.length ≤ 400) : L.length ≤ 1048576 := by
  cases h <;> (try rw [casZ_length]) <;> (try (rw [List.length_append]; show zs.length + 3 ≤ 1048576)) <;> omega
theorem lstep_any (id st op arg pc til : Int) (per can : Bool) (r0 r1 r2 r3 r4 code res : Int) (now wk : Int) (id' st' op' arg' pc' til' : Int) (per' can' : Bool) (s0 s1 s2 s3 s4 code' res' : Int) (w : World) (A : Option Addr) (c : Nat) (zs : List Int) (hC : Cond zs id st op arg pc til per can r0 r1 r2 r3 r4 code res now) (hA : Rd w A zs) (L : List Int) (h : StepTo zs id st op arg til per can r0 r1 r2 r3 r4 code res now pc L ⟨id', st', op', arg', pc', til', per', can', s0, s1, s2, s3, s4, code', res'⟩ wk) :
    Calls Try.prog 32 #[.agg #[.slice A zs.length c], .agg #[.int .i64 id, .int .i64 st, .int .i64 op, .int .i64 arg, .int .i64 pc, .int .i64 til, .bool per, .bool can, .int .i64 r0, .int .i64 r1, .int .i64 r2, .int .i64 r3, .int .i64 r4, .int .i64 code, .int .i64 res], .int .i64 now] w fun e w' => ∃ B d, e = .returned (.tuple #[.agg #[.slice B L.length d], .agg #[.int .i64 id', .int .i64 st', .int .i64 op', .int .i64 arg', .int .i64 pc', .int .i64 til', .bool per', .bool can', .int .i64 s0, .int .i64 s1, .int .i64 s2, .int .i64 s3, .int .i64 s4, .int .i64 code', .int .i64 res'], .int .i64 wk]) ∧ Res w.heap.size w' A zs B d L ∧ Below w.heap.size w w' := by
  cases h1 : inB pc 0 5
  · cases h2 : (pc == 8)
    · cases h3 : inB pc 9 11
      · exact lstep_ma id st op arg pc til per can r0 r1 r2 r3 r4 code res now wk id' st' op' arg' pc' til' per' can' s0 s1 s2 s3 s4 code' res' w A c zs hC hA h1 h2 h3 L h
      · exact lstep_aw id st op arg pc til per can r0 r1 r2 r3 r4 code res now wk id' st' op' arg' pc' til' per' can' s0 s1 s2 s3 s4 code' res' w A c zs hC hA h1 h2 h3 L h
    · exact lstep_jb id st op arg pc til per can r0 r1 r2 r3 r4 code res now wk id' st' op' arg' pc' til' per' can' s0 s1 s2 s3 s4 code' res' w A c zs hC hA h1 h2 L h
  · exact lstep_ja id st op arg pc til per can r0 r1 r2 r3 r4 code res now wk id' st' op' arg' pc' til' per' can' s0 s1 s2 s3 s4 code' res' w A c zs hC hA h1 L h

set_option maxHeartbeats 8000000 in
set_option maxRecDepth 100000 in
theorem specStep_ok (id st op arg pc til : Int) (per can : Bool) (r0 r1 r2 r3 r4 code res : Int) (now wk : Int) (id' st' op' arg' pc' til' : Int) (per' can' : Bool) (s0 s1 s2 s3 s4 code' res' : Int) (w : World) (A : Option Addr) (c : Nat) (zs : List Int) (hK : askB zs id st op arg pc til per can r0 r1 r2 r3 r4 code res now = 0) (hA : Rd w A zs) (L : List Int) (h : StepTo zs id st op arg til per can r0 r1 r2 r3 r4 code res now pc L ⟨id', st', op', arg', pc', til', per', can', s0, s1, s2, s3, s4, code', res'⟩ wk) :
    Calls Try.prog 10 #[.agg #[.slice A zs.length c], .agg #[.int .i64 id, .int .i64 st, .int .i64 op, .int .i64 arg, .int .i64 pc, .int .i64 til, .bool per, .bool can, .int .i64 r0, .int .i64 r1, .int .i64 r2, .int .i64 r3, .int .i64 r4, .int .i64 code, .int .i64 res], .int .i64 now] w fun e w' => ∃ B d, e = .returned (.tuple #[.agg #[.slice B L.length d], .agg #[.int .i64 id', .int .i64 st', .int .i64 op', .int .i64 arg', .int .i64 pc', .int .i64 til', .bool per', .bool can', .int .i64 s0, .int .i64 s1, .int .i64 s2, .int .i64 s3, .int .i64 s4, .int .i64 code', .int .i64 res'], .int .i64 wk, .int .i64 0]) ∧ NewA w.heap.size w' B d L ∧ Below w.heap.size w w' := by
  have hC := askB_cond hK
  have hn := hC.len
  have HLL : Hid (L.length ≤ 1048576) := h.len (arenaB_parts hC.ha).2.1
  have HC := Lib.hid hC; have HK := Lib.hid hK; have HS := Lib.hid h; clear hC hK h
  have HF := Lib.hid (Fr.start w A c zs #[.int .i64 id, .int .i64 st, .int .i64 op, .int .i64 arg, .int .i64 pc, .int .i64 til, .bool per, .bool can, .int .i64 r0, .int .i64 r1, .int .i64 r2, .int .i64 r3, .int .i64 r4, .int .i64 code, .int .i64 res] hA); clear hA
  go_enter Try.func10, Try.ntmps10
  go_wp2_with fail
  refine (askS_any _ _ zs _ _ _ _ _ _ _ _ _ _ _ _ _ _ _ now _ hn HF.out.rd).mono ?_
  rintro e w1 ⟨rfl, hb⟩
  rw [HK.out]
  have HF1 := Lib.hid (HF.out.below hb); clear hb HF
  have ha1 := HF1.out.a.cell; have ht1 := HF1.out.t.cell
  go_wp2_with fail
  refine (lstep_any _ _ _ _ _ _ _ _ _ _ _ _ _ _ _ now wk _ _ _ _ _ _ _ _ _ _ _ _ _ _ _ _ _ _ zs HC.out HF1.out.rd L HS.out).mono ?_
  rintro e w2 ⟨B, d, rfl, hres, hb⟩
  have HF2 := Lib.hid ((HF1.out.below hb).below (below_alloc2 w2 (.cells #[.slice B L.length d] 25) (.cells #[.int .i64 id', .int .i64 st', .int .i64 op', .int .i64 arg', .int .i64 pc', .int .i64 til', .bool per', .bool can', .int .i64 s0, .int .i64 s1, .int .i64 s2, .int .i64 s3, .int .i64 s4, .int .i64 code', .int .i64 res'] 29)))
  have HR2 := Lib.hid ((hres.rd (HF1.out.below hb).rd).below (below_alloc2 w2 (.cells #[.slice B L.length d] 25) (.cells #[.int .i64 id', .int .i64 st', .int .i64 op', .int .i64 arg', .int .i64 pc', .int .i64 til', .bool per', .bool can', .int .i64 s0, .int .i64 s1, .int .i64 s2, .int .i64 s3, .int .i64 s4, .int .i64 code', .int .i64 res'] 29)))
  have HX2 : Hid (BoxA ((w2.alloc (.cells #[.slice B L.length d] 25)).alloc (.cells #[.int .i64 id', .int .i64 st', .int .i64 op', .int .i64 arg', .int .i64 pc', .int .i64 til', .bool per', .bool can', .int .i64 s0, .int .i64 s1, .int .i64 s2, .int .i64 s3, .int .i64 s4, .int .i64 code', .int .i64 res'] 29)) w2.heap.size (.slice B L.length d)) := (BoxA.new w2 _).below (below_alloc _ _)
  have HT2 : Hid (BoxT ((w2.alloc (.cells #[.slice B L.length d] 25)).alloc (.cells #[.int .i64 id', .int .i64 st', .int .i64 op', .int .i64 arg', .int .i64 pc', .int .i64 til', .bool per', .bool can', .int .i64 s0, .int .i64 s1, .int .i64 s2, .int .i64 s3, .int .i64 s4, .int .i64 code', .int .i64 res'] 29)) (w2.heap.size + 1) #[.int .i64 id', .int .i64 st', .int .i64 op', .int .i64 arg', .int .i64 pc', .int .i64 til', .bool per', .bool can', .int .i64 s0, .int .i64 s1, .int .i64 s2, .int .i64 s3, .int .i64 s4, .int .i64 code', .int .i64 res']) := by
    have h := BoxT.new (w2.alloc (.cells #[.slice B L.length d] 25)) #[.int .i64 id', .int .i64 st', .int .i64 op', .int .i64 arg', .int .i64 pc', .int .i64 til', .bool per', .bool can', .int .i64 s0, .int .i64 s1, .int .i64 s2, .int .i64 s3, .int .i64 s4, .int .i64 code', .int .i64 res']
    rw [size_alloc] at h; exact h
  have HZZ := Lib.hid (HF1.out.below hb).size
  clear hb hres HF1 ha1 ht1
  go_upto_region 5 with fail
  generalize (w2.alloc (.cells #[.slice B L.length d] 25)).alloc (.cells #[.int .i64 id', .int .i64 st', .int .i64 op', .int .i64 arg', .int .i64 pc', .int .i64 til', .bool per', .bool can', .int .i64 s0, .int .i64 s1, .int .i64 s2, .int .i64 s3, .int .i64 s4, .int .i64 code', .int .i64 res'] 29) = w3 at HF2 HR2 HX2 HT2 ⊢
  have hx3 := HX2.out.cell; have ht3 := HT2.out.cell
  have hz3 := HF2.out.size
  have HDa : Hid (w3.drew.cell? ⟨w2.heap.size, 0, none⟩ = some (.slice B L.length d)) := hx3
  have HDt : Hid (∀ j : Nat, w3.drew.cell? ⟨w2.heap.size + 1, j, none⟩ = (#[.int .i64 id', .int .i64 st', .int .i64 op', .int .i64 arg', .int .i64 pc', .int .i64 til', .bool per', .bool can', .int .i64 s0, .int .i64 s1, .int .i64 s2, .int .i64 s3, .int .i64 s4, .int .i64 code', .int .i64 res'] : Array Value)[j]?) := ht3
  have hz2 := HZZ.out
  go_region_held3 (fun w' => w'.cell? ⟨w2.heap.size, 0, none⟩ = some (.slice B L.length d) ∧ ∀ j : Nat, w'.cell? ⟨w2.heap.size + 1, j, none⟩ = (#[.int .i64 id', .int .i64 st', .int .i64 op', .int .i64 arg', .int .i64 pc', .int .i64 til', .bool per', .bool can', .int .i64 s0, .int .i64 s1, .int .i64 s2, .int .i64 s3, .int .i64 s4, .int .i64 code', .int .i64 res'] : Array Value)[j]?)
    (first | with_reducible exact ⟨hx3, ht3⟩ | with_reducible exact ⟨HDa.out, HDt.out⟩ | with_reducible exact ⟨gx1, gt1⟩ | (refine ⟨?_, ?_⟩; (repeat (with_reducible refine cell_set2 (by omega) ?_)); with_reducible exact gx1; (repeat (with_reducible refine cells_set2 (by omega) ?_)); with_reducible exact gt1))
    (first
      | (go_at_call 33; (with_reducible refine (l01Own_any B d L w3.drew HLL.out HR2.out.drew).mono ?_); rintro e v1 ⟨B', d', rfl, hnew, hb⟩; have HG1 := Lib.hid (HF2.out.drew.below hb); have HN1 := Lib.hid hnew; have gx1 := cell_keep hb HDa.out; have gt1 := (BoxT.below (show BoxT w3.drew (w2.heap.size + 1) _ from HT2.out) hb).cell; clear hb hnew; have hra := HG1.out.ra.cell; have hfa := HG1.out.ra.froz; have hrt := HG1.out.rt.cell; have hft := HG1.out.rt.froz))
  rw [row15 (HG1.out.rtSet _)]
  obtain ⟨g1, g2, g3⟩ := HG1.out.done (.slice B' L.length d') #[.int .i64 id', .int .i64 st', .int .i64 op', .int .i64 arg', .int .i64 pc', .int .i64 til', .bool per', .bool can', .int .i64 s0, .int .i64 s1, .int .i64 s2, .int .i64 s3, .int .i64 s4, .int .i64 code', .int .i64 res']
  go_wp2_with fail
  exact bodyPost_ret (results_at4 Try.results10 _ _ _ _ _ _ _ _ rfl rfl rfl rfl g1 g2 rfl) rfl ⟨B', d', rfl, ((((show NewA w3.heap.size v1 B' d' L from HN1.out).setCell (by simp; omega) _).row (by omega) _).base (by omega)), g3⟩
end Go.Proofs.Ytabojajhnhcemaa
