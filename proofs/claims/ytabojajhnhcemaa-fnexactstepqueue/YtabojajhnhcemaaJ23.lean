/-
  Steps of the model, by Pc.
  Steps of the model, by Pc.
-/
import Derived.Test.YtabojajhnhcemaaJ10
import Derived.Deep.DeepCutAuto
namespace Go.Proofs.Ytabojajhnhcemaa
open Go.RowKit

set_option maxHeartbeats 16000000 in
set_option maxRecDepth 100000 in
theorem join3 (id : Int) (st : Int) (op : Int) (arg : Int) (til : Int) (per : Bool) (can : Bool) (r0 : Int) (r1 : Int) (r2 : Int) (r3 : Int) (r4 : Int) (code : Int) (res : Int) (A : Option Addr) (c : Nat) (zs : List Int) (now : Int) (L : List Int) (w : World) (hn : zs.length ≤ 1048576) (hA : Rd w A zs) (hl : casZ zs (2) (r0) (r2) = L) :
    Calls Try.prog 76 #[.agg #[.slice A zs.length c], .agg #[.int .i64 id, .int .i64 st, .int .i64 op, .int .i64 arg, .int .i64 3, .int .i64 til, .bool per, .bool can, .int .i64 r0, .int .i64 r1, .int .i64 r2, .int .i64 r3, .int .i64 r4, .int .i64 code, .int .i64 res], .int .i64 now] w fun e w' => ∃ B d, e = .returned (.tuple #[.agg #[.slice B (L).length d], .agg #[.int .i64 id, .int .i64 st, .int .i64 op, .int .i64 arg, .int .i64 0, .int .i64 til, .bool per, .bool can, .int .i64 r0, .int .i64 r1, .int .i64 r2, .int .i64 r3, .int .i64 r4, .int .i64 code, .int .i64 res]]) ∧ NewA w.heap.size w' B d (L) ∧ Below w.heap.size w w' := by
  have HF := Lib.hid (Fr.start w A c zs #[.int .i64 id, .int .i64 st, .int .i64 op, .int .i64 arg, .int .i64 3, .int .i64 til, .bool per, .bool can, .int .i64 r0, .int .i64 r1, .int .i64 r2, .int .i64 r3, .int .i64 r4, .int .i64 code, .int .i64 res] hA)
  have HA := Lib.hid hA; clear hA
  have HL := Lib.hid hl; clear hl
  go_enter Try.func76, Try.ntmps76
  go_wp2_with fail
  refine (l04Mine_any _ _ _ _ _ _ _ _ _ _ _ _ _ _ _ _).mono ?_
  rintro e w1 ⟨rfl, hb⟩
  have HF1 := Lib.hid (HF.out.below hb)
  clear hb HF
  have ha1 := HF1.out.a.cell; have ht1 := HF1.out.t.cell; have hf1 := HF1.out.t.froz
  go_wp2_with fail
  refine (l01CasZ_any _ _ zs _ _ _ _ hn HF1.out.rd).mono ?_
  rintro e w2 ⟨B, d, rfl, hnew, hb⟩
  have HF2 := Lib.hid (HF1.out.below hb)
  have hz2 : w.heap.size + 1 + 1 + 1 < w2.heap.size := HF2.out.size
  have HNB2 := Lib.hid (hnew.base (Nat.succ_le_of_lt HF1.out.size)); clear hnew
  clear hb HF1 ha1 ht1 hf1
  rw [show casZ zs (2) (r0) (r2) = L from HL.out] at HNB2 ⊢
  have HF3 := Lib.hid (HF2.out.below (below_alloc w2 (.cells #[.slice B (L).length d] 25)))
  have HX3 := Lib.hid (BoxA.new w2 (.slice B (L).length d))
  have HNB3 := Lib.hid (HNB2.out.below (below_alloc w2 (.cells #[.slice B (L).length d] 25)))
  go_upto_region 22 with fail
  generalize w2.alloc (.cells #[.slice B (L).length d] 25) = w3 at HF3 HX3 HNB3 ⊢
  clear HF2 HNB2
  have ha3 := HF3.out.a.cell; have ht3 := HF3.out.t.cell; have hf3 := HF3.out.t.froz
  have hx3 := HX3.out.cell
  have HD3 : Hid (BoxA w3.drew w2.heap.size (.slice B (L).length d)) := HX3.out
  have HE3 : Hid (NewA (w.heap.size + 1 + 1 + 1 + 1) w3.drew B d (L)) := HNB3.out
  go_region_law (first
    | (go_simp; go_at_call 102; (with_reducible refine (l04Go_any id st op arg 3 til per can r0 r1 r2 r3 r4 code res 0 w3.drew).mono ?_); rintro e v1 ⟨rfl, hb⟩; have HG1 := Lib.hid ((HF3.out.drew).below hb); have HY1 : Hid (BoxA v1 w2.heap.size (.slice B (L).length d)) := BoxA.below HD3.out hb; have HM1 : Hid (NewA (w.heap.size + 1 + 1 + 1 + 1) v1 B d (L)) := NewA.below HE3.out hb; clear hb; have ga1 := HG1.out.a.cell; have gt1 := HG1.out.t.cell; have gx1 := HY1.out.cell; have hra := HG1.out.ra.cell; have hfa := HG1.out.ra.froz; have hrt := HG1.out.rt.cell; have hft := HG1.out.rt.froz))
  all_goals
    rw [row15 (HG1.out.rtSet _)]
    obtain ⟨g1, g2, g3⟩ := HG1.out.done (.slice B (L).length d) #[.int .i64 id, .int .i64 st, .int .i64 op, .int .i64 arg, .int .i64 0, .int .i64 til, .bool per, .bool can, .int .i64 r0, .int .i64 r1, .int .i64 r2, .int .i64 r3, .int .i64 r4, .int .i64 code, .int .i64 res]
    go_wp2_with fail
    exact bodyPost_ret (results_at Try.results76 _ _ _ _ _ _ rfl rfl g1 g2 rfl) rfl ⟨B, d, rfl, (((HM1.out.setCell (by simp) _).row (by simp) _).base (by omega)), g3⟩
end Go.Proofs.Ytabojajhnhcemaa

namespace Go.Proofs.Ytabojajhnhcemaa
open Go.RowKit

set_option maxHeartbeats 16000000 in
set_option maxRecDepth 100000 in
theorem join2a (id : Int) (st : Int) (op : Int) (arg : Int) (til : Int) (per : Bool) (can : Bool) (r0 : Int) (r1 : Int) (r2 : Int) (r3 : Int) (r4 : Int) (code : Int) (res : Int) (A : Option Addr) (c : Nat) (zs : List Int) (now : Int) (x : Int) (w : World) (hn : zs.length ≤ 1048576) (hA : Rd w A zs) (hb0 : -1000000000000 ≤ r0 ∧ r0 ≤ 1000000000000) (hx : loadZ zs (halfI r0 + 1) = x) (h2 : (x != 0) = true) :
    Calls Try.prog 76 #[.agg #[.slice A zs.length c], .agg #[.int .i64 id, .int .i64 st, .int .i64 op, .int .i64 arg, .int .i64 2, .int .i64 til, .bool per, .bool can, .int .i64 r0, .int .i64 r1, .int .i64 r2, .int .i64 r3, .int .i64 r4, .int .i64 code, .int .i64 res], .int .i64 now] w fun e w' => e = .returned (.tuple #[.agg #[.slice A zs.length c], .agg #[.int .i64 id, .int .i64 st, .int .i64 op, .int .i64 arg, .int .i64 3, .int .i64 til, .bool per, .bool can, .int .i64 r0, .int .i64 r1, .int .i64 x, .int .i64 r3, .int .i64 r4, .int .i64 code, .int .i64 res]]) ∧ Below w.heap.size w w' := by
  have hw := wrap_half r0 hb0
  have hh := half_bounds r0 hb0
  have hw2 : IntKind.i64.wrap (r0.tdiv 2 + 1) = r0.tdiv 2 + 1 := IntWalk.i64_in _ (by omega)
  clear hh
  clear hb0
  have HF := Lib.hid (Fr.start w A c zs #[.int .i64 id, .int .i64 st, .int .i64 op, .int .i64 arg, .int .i64 2, .int .i64 til, .bool per, .bool can, .int .i64 r0, .int .i64 r1, .int .i64 r2, .int .i64 r3, .int .i64 r4, .int .i64 code, .int .i64 res] hA)
  have HA := Lib.hid hA; clear hA
  have HX := Lib.hid hx; clear hx
  go_enter Try.func76, Try.ntmps76
  go_wp2_with fail
  refine (l04Mine_any _ _ _ _ _ _ _ _ _ _ _ _ _ _ _ _).mono ?_
  rintro e w1 ⟨rfl, hb⟩
  have HF1 := Lib.hid (HF.out.below hb)
  clear hb HF
  have ha1 := HF1.out.a.cell; have ht1 := HF1.out.t.cell; have hf1 := HF1.out.t.froz
  go_wp2_with fail
  refine (l01Load_any _ _ zs _ _ hn HF1.out.rd).mono ?_
  rintro e w2 ⟨rfl, hb⟩
  have HF2 := Lib.hid (HF1.out.below hb)
  clear hb HF1 ha1 ht1 hf1
  rw [show loadZ zs (r0.tdiv 2 + 1) = x from HX.out]
  have ha2 := HF2.out.a.cell; have ht2 := HF2.out.t.cell; have hf2 := HF2.out.t.froz
  have HF3 : Hid (Fr w (w2.setCell ⟨w.heap.size + 1, 10, none⟩ (.int .i64 x)) A c zs #[.int .i64 id, .int .i64 st, .int .i64 op, .int .i64 arg, .int .i64 2, .int .i64 til, .bool per, .bool can, .int .i64 r0, .int .i64 r1, .int .i64 x, .int .i64 r3, .int .i64 r4, .int .i64 code, .int .i64 res]) := HF2.out.set HA.out 10 _
  go_upto_region 13 with fail
  generalize w2.setCell ⟨w.heap.size + 1, 10, none⟩ (.int .i64 x) = w3 at HF3 ⊢
  clear HF2 ha2 ht2 hf2
  have ha3 := HF3.out.a.cell; have ht3 := HF3.out.t.cell; have hf3 := HF3.out.t.froz
  go_upto_region 14 with fail
  go_region_law (first
    | (go_simp; go_at_call 102; (with_reducible refine (l04Go_any id st op arg 2 til per can r0 r1 x r3 r4 code res 3 w3.drew).mono ?_); rintro e v1 ⟨rfl, hb⟩; have HG1 := Lib.hid ((HF3.out.drew).below hb); clear hb; have ga1 := HG1.out.a.cell; have gt1 := HG1.out.t.cell; have hra := HG1.out.ra.cell; have hfa := HG1.out.ra.froz; have hrt := HG1.out.rt.cell; have hft := HG1.out.rt.froz))
  all_goals
    rw [row15 (HG1.out.rtSet _)]
    obtain ⟨g1, g2, g3⟩ := HG1.out.done (.slice A zs.length c) #[.int .i64 id, .int .i64 st, .int .i64 op, .int .i64 arg, .int .i64 3, .int .i64 til, .bool per, .bool can, .int .i64 r0, .int .i64 r1, .int .i64 x, .int .i64 r3, .int .i64 r4, .int .i64 code, .int .i64 res]
    go_wp2_with fail
    exact bodyPost_ret (results_at Try.results76 _ _ _ _ _ _ rfl rfl g1 g2 rfl) rfl ⟨rfl, g3⟩
end Go.Proofs.Ytabojajhnhcemaa
