/-
  Steps of the model, by Pc.
-/
import Derived.Test.YtabojajhnhcemaaJ22
import Derived.Deep.DeepCutAuto
namespace Go.Proofs.Ytabojajhnhcemaa
open Go.RowKit

set_option maxHeartbeats 16000000 in
set_option maxRecDepth 100000 in
theorem await11 (id : Int) (st : Int) (op : Int) (arg : Int) (til : Int) (per : Bool) (can : Bool) (r0 : Int) (r1 : Int) (r2 : Int) (r3 : Int) (r4 : Int) (code : Int) (res : Int) (A : Option Addr) (c : Nat) (zs : List Int) (now : Int) (y : Int) (L : List Int) (w : World) (hn : zs.length ≤ 1048576) (hA : Rd w A zs) (hb0 : -1000000000000 ≤ r3 ∧ r3 ≤ 1000000000000) (hb4 : -1000000000000 ≤ r4 ∧ r4 ≤ 1000000000000) (hl : casZ zs 1 r0 r3 = L) (hy : wellI op arg r4 = y) :
    Calls Try.prog 77 #[.agg #[.slice A zs.length c], .agg #[.int .i64 id, .int .i64 st, .int .i64 op, .int .i64 arg, .int .i64 11, .int .i64 til, .bool per, .bool can, .int .i64 r0, .int .i64 r1, .int .i64 r2, .int .i64 r3, .int .i64 r4, .int .i64 code, .int .i64 res], .int .i64 now] w fun e w' => ∃ B d, e = .returned (.tuple #[.agg #[.slice B (L).length d], .agg #[.int .i64 id, .int .i64 0, .int .i64 0, .int .i64 0, .int .i64 0, .int .i64 0, .bool false, .bool false, .int .i64 0, .int .i64 0, .int .i64 0, .int .i64 0, .int .i64 0, .int .i64 0, .int .i64 y]]) ∧ NewA w.heap.size w' B d (L) ∧ Below w.heap.size w w' := by
  have hw := wrap_half r3 hb0
  clear hb0
  have HF := Lib.hid (Fr.start w A c zs #[.int .i64 id, .int .i64 st, .int .i64 op, .int .i64 arg, .int .i64 11, .int .i64 til, .bool per, .bool can, .int .i64 r0, .int .i64 r1, .int .i64 r2, .int .i64 r3, .int .i64 r4, .int .i64 code, .int .i64 res] hA)
  have HA := Lib.hid hA; clear hA
  have HL := Lib.hid hl; clear hl
  have HB4 := Lib.hid hb4; clear hb4
  have HY := Lib.hid hy; clear hy
  go_enter Try.func77, Try.ntmps77
  go_upto_region 15 with fail
  generalize hw1 : ((((w.alloc (.cells #[.slice A zs.length c] 25)).alloc (.cells #[.int .i64 id, .int .i64 st, .int .i64 op, .int .i64 arg, .int .i64 11, .int .i64 til, .bool per, .bool can, .int .i64 r0, .int .i64 r1, .int .i64 r2, .int .i64 r3, .int .i64 r4, .int .i64 code, .int .i64 res] 29)).alloc (.cells #[.slice none 0 0] 25)).alloc (.cells #[.int .i64 0, .int .i64 0, .int .i64 0, .int .i64 0, .int .i64 0, .int .i64 0, .bool false, .bool false, .int .i64 0, .int .i64 0, .int .i64 0, .int .i64 0, .int .i64 0, .int .i64 0, .int .i64 0] 29)) = w1 at HF ⊢
  have HF1 := Lib.hid HF.out; clear HF hw1
  have ha1 := HF1.out.a.cell; have ht1 := HF1.out.t.cell; have hf1 := HF1.out.t.froz
  go_wp2_with fail
  refine (l01CasZ_any _ _ zs _ _ _ _ hn HF1.out.rd).mono ?_
  rintro e w2 ⟨B, d, rfl, hnew, hb⟩
  have HF2 := Lib.hid (HF1.out.below hb)
  have hz2 : w.heap.size + 1 + 1 + 1 < w2.heap.size := HF2.out.size
  have HNB2 := Lib.hid (hnew.base (Nat.succ_le_of_lt HF1.out.size)); clear hnew
  clear hb HF1 ha1 ht1 hf1
  rw [HL.out] at HNB2 ⊢
  have HF3 := Lib.hid (HF2.out.below (below_alloc w2 (.cells #[.slice B (L).length d] 25)))
  have HX3 := Lib.hid (BoxA.new w2 (.slice B (L).length d))
  have HNB3 := Lib.hid (HNB2.out.below (below_alloc w2 (.cells #[.slice B (L).length d] 25)))
  go_upto_region 16 with fail
  generalize w2.alloc (.cells #[.slice B (L).length d] 25) = w3 at HF3 HX3 HNB3 ⊢
  clear HF2 HNB2
  have ha3 := HF3.out.a.cell; have ht3 := HF3.out.t.cell; have hf3 := HF3.out.t.froz
  have hx3 := HX3.out.cell
  have HD3 : Hid (BoxA w3.drew w2.heap.size (.slice B (L).length d)) := HX3.out
  have HE3 : Hid (NewA (w.heap.size + 1 + 1 + 1 + 1) w3.drew B d (L)) := HNB3.out
  go_region_law (first
    | (go_simp; go_at_call 109; (with_reducible refine (resultGot id st op arg 11 til per can r0 r1 r2 r3 r4 code res r4 y w3.drew HB4.out HY.out).mono ?_); rintro e v1 ⟨rfl, hb⟩; have HG1 := Lib.hid ((HF3.out.drew).below hb); have HY1 : Hid (BoxA v1 w2.heap.size (.slice B (L).length d)) := BoxA.below HD3.out hb; have HM1 : Hid (NewA (w.heap.size + 1 + 1 + 1 + 1) v1 B d (L)) := NewA.below HE3.out hb; clear hb; have ga1 := HG1.out.a.cell; have gt1 := HG1.out.t.cell; have gx1 := HY1.out.cell; have hra := HG1.out.ra.cell; have hfa := HG1.out.ra.froz; have hrt := HG1.out.rt.cell; have hft := HG1.out.rt.froz))
  all_goals
    rw [row15 (HG1.out.rtSet _)]
    obtain ⟨g1, g2, g3⟩ := HG1.out.done (.slice B (L).length d) #[.int .i64 id, .int .i64 0, .int .i64 0, .int .i64 0, .int .i64 0, .int .i64 0, .bool false, .bool false, .int .i64 0, .int .i64 0, .int .i64 0, .int .i64 0, .int .i64 0, .int .i64 0, .int .i64 y]
    go_wp2_with fail
    exact bodyPost_ret (results_at Try.results77 _ _ _ _ _ _ rfl rfl g1 g2 rfl) rfl ⟨B, d, rfl, (((HM1.out.setCell (by simp) _).row (by simp) _).base (by omega)), g3⟩
end Go.Proofs.Ytabojajhnhcemaa
