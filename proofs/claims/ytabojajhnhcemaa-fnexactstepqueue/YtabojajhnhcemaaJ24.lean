/-
  Steps of the model, by Pc.
-/
import Derived.Test.YtabojajhnhcemaaJ10
import Derived.Deep.DeepCutAuto
namespace Go.Proofs.Ytabojajhnhcemaa
open Go.RowKit

set_option maxHeartbeats 16000000 in
set_option maxRecDepth 100000 in
theorem join1a (id : Int) (st : Int) (op : Int) (arg : Int) (til : Int) (per : Bool) (can : Bool) (r0 : Int) (r1 : Int) (r2 : Int) (r3 : Int) (r4 : Int) (code : Int) (res : Int) (A : Option Addr) (c : Nat) (zs : List Int) (now : Int)  (w : World) (hn : zs.length ≤ 1048576) (hA : Rd w A zs) (hx : loadZ zs 1 = r0)  :
    Calls Try.prog 76 #[.agg #[.slice A zs.length c], .agg #[.int .i64 id, .int .i64 st, .int .i64 op, .int .i64 arg, .int .i64 1, .int .i64 til, .bool per, .bool can, .int .i64 r0, .int .i64 r1, .int .i64 r2, .int .i64 r3, .int .i64 r4, .int .i64 code, .int .i64 res], .int .i64 now] w fun e w' => e = .returned (.tuple #[.agg #[.slice A zs.length c], .agg #[.int .i64 id, .int .i64 st, .int .i64 op, .int .i64 arg, .int .i64 2, .int .i64 til, .bool per, .bool can, .int .i64 r0, .int .i64 r0, .int .i64 r2, .int .i64 r3, .int .i64 r4, .int .i64 code, .int .i64 res]]) ∧ Below w.heap.size w w' := by
  have hq := wrap_rest r0
  have HF := Lib.hid (Fr.start w A c zs #[.int .i64 id, .int .i64 st, .int .i64 op, .int .i64 arg, .int .i64 1, .int .i64 til, .bool per, .bool can, .int .i64 r0, .int .i64 r1, .int .i64 r2, .int .i64 r3, .int .i64 r4, .int .i64 code, .int .i64 res] hA)
  have HA := Lib.hid hA; clear hA
  have HX := Lib.hid hx; clear hx
  go_enter Try.func76, Try.ntmps76
  go_wp2_with fail
  refine (l04Mine_any _ _ _ _ _ _ _ _ _ _ _ _ _ _ _ _).mono ?_
  rintro e w1 ⟨rfl, hb⟩
  have HF1 := Lib.hid (HF.out.below hb)
  clear hb HF
  have ha1 := HF1.out.a.cell; have ht1 := HF1.out.t.cell; have hf1 := HF1.out.t.froz
  go_wp2_with fail
  refine (l01Load_any _ _ zs _ _ hn HF1.out.rd).mono ?_
  rintro e w2 ⟨rfl, hb⟩
  have HF2 := Lib.hid (HF1.out.below hb)
  clear hb HF1 ha1 ht1 hf1
  rw [HX.out]
  have ha2 := HF2.out.a.cell; have ht2 := HF2.out.t.cell; have hf2 := HF2.out.t.froz
  have HF3 : Hid (Fr w (w2.setCell ⟨w.heap.size + 1, 9, none⟩ (.int .i64 r0)) A c zs #[.int .i64 id, .int .i64 st, .int .i64 op, .int .i64 arg, .int .i64 1, .int .i64 til, .bool per, .bool can, .int .i64 r0, .int .i64 r0, .int .i64 r2, .int .i64 r3, .int .i64 r4, .int .i64 code, .int .i64 res]) := HF2.out.set HA.out 9 _
  go_upto_region 8 with fail
  generalize w2.setCell ⟨w.heap.size + 1, 9, none⟩ (.int .i64 r0) = w3 at HF3 ⊢
  clear HF2 ha2 ht2 hf2
  have ha3 := HF3.out.a.cell; have ht3 := HF3.out.t.cell; have hf3 := HF3.out.t.froz
  go_quiet (first | (go_at_call 49; exact Calls.quiet_of_same ((bitOf_any _ _).mono fun _ _ h => ⟨h.1, h.2.symm⟩)))
  go_upto_region 9 with fail
  have HF4 := Lib.hid (HF3.out.below (below_drewN nq))
  generalize w3.drewN nq = w4 at HF4 ⊢
  clear HF3 ha3 ht3 hf3
  have ha4 := HF4.out.a.cell; have ht4 := HF4.out.t.cell; have hf4 := HF4.out.t.froz
  go_region_law (first
    | (go_simp; go_at_call 102; (with_reducible refine (l04Go_any id st op arg 1 til per can r0 r0 r2 r3 r4 code res 2 w4.drew).mono ?_); rintro e v1 ⟨rfl, hb⟩; have HG1 := Lib.hid ((HF4.out.drew).below hb); clear hb; have ga1 := HG1.out.a.cell; have gt1 := HG1.out.t.cell; have hra := HG1.out.ra.cell; have hfa := HG1.out.ra.froz; have hrt := HG1.out.rt.cell; have hft := HG1.out.rt.froz))
  all_goals
    rw [row15 (HG1.out.rtSet _)]
    obtain ⟨g1, g2, g3⟩ := HG1.out.done (.slice A zs.length c) #[.int .i64 id, .int .i64 st, .int .i64 op, .int .i64 arg, .int .i64 2, .int .i64 til, .bool per, .bool can, .int .i64 r0, .int .i64 r0, .int .i64 r2, .int .i64 r3, .int .i64 r4, .int .i64 code, .int .i64 res]
    go_wp2_with fail
    exact bodyPost_ret (results_at Try.results76 _ _ _ _ _ _ rfl rfl g1 g2 rfl) rfl ⟨rfl, g3⟩

set_option maxHeartbeats 16000000 in
set_option maxRecDepth 100000 in
theorem join1b (id : Int) (st : Int) (op : Int) (arg : Int) (til : Int) (per : Bool) (can : Bool) (r0 : Int) (r1 : Int) (r2 : Int) (r3 : Int) (r4 : Int) (code : Int) (res : Int) (A : Option Addr) (c : Nat) (zs : List Int) (now : Int) (x : Int) (w : World) (hn : zs.length ≤ 1048576) (hA : Rd w A zs) (hx : loadZ zs 1 = x) (h1 : (x == r0) = false) (h2 : (r0.tmod 2 == bitI (mineB op)) = true) :
    Calls Try.prog 76 #[.agg #[.slice A zs.length c], .agg #[.int .i64 id, .int .i64 st, .int .i64 op, .int .i64 arg, .int .i64 1, .int .i64 til, .bool per, .bool can, .int .i64 r0, .int .i64 r1, .int .i64 r2, .int .i64 r3, .int .i64 r4, .int .i64 code, .int .i64 res], .int .i64 now] w fun e w' => e = .returned (.tuple #[.agg #[.slice A zs.length c], .agg #[.int .i64 id, .int .i64 st, .int .i64 op, .int .i64 arg, .int .i64 2, .int .i64 til, .bool per, .bool can, .int .i64 r0, .int .i64 x, .int .i64 r2, .int .i64 r3, .int .i64 r4, .int .i64 code, .int .i64 res]]) ∧ Below w.heap.size w w' := by
  have hq := wrap_rest r0
  have HF := Lib.hid (Fr.start w A c zs #[.int .i64 id, .int .i64 st, .int .i64 op, .int .i64 arg, .int .i64 1, .int .i64 til, .bool per, .bool can, .int .i64 r0, .int .i64 r1, .int .i64 r2, .int .i64 r3, .int .i64 r4, .int .i64 code, .int .i64 res] hA)
  have HA := Lib.hid hA; clear hA
  have HX := Lib.hid hx; clear hx
  go_enter Try.func76, Try.ntmps76
  go_wp2_with fail
  refine (l04Mine_any _ _ _ _ _ _ _ _ _ _ _ _ _ _ _ _).mono ?_
  rintro e w1 ⟨rfl, hb⟩
  have HF1 := Lib.hid (HF.out.below hb)
  clear hb HF
  have ha1 := HF1.out.a.cell; have ht1 := HF1.out.t.cell; have hf1 := HF1.out.t.froz
  go_wp2_with fail
  refine (l01Load_any _ _ zs _ _ hn HF1.out.rd).mono ?_
  rintro e w2 ⟨rfl, hb⟩
  have HF2 := Lib.hid (HF1.out.below hb)
  clear hb HF1 ha1 ht1 hf1
  rw [HX.out]
  have ha2 := HF2.out.a.cell; have ht2 := HF2.out.t.cell; have hf2 := HF2.out.t.froz
  have HF3 : Hid (Fr w (w2.setCell ⟨w.heap.size + 1, 9, none⟩ (.int .i64 x)) A c zs #[.int .i64 id, .int .i64 st, .int .i64 op, .int .i64 arg, .int .i64 1, .int .i64 til, .bool per, .bool can, .int .i64 r0, .int .i64 x, .int .i64 r2, .int .i64 r3, .int .i64 r4, .int .i64 code, .int .i64 res]) := HF2.out.set HA.out 9 _
  go_upto_region 8 with fail
  generalize w2.setCell ⟨w.heap.size + 1, 9, none⟩ (.int .i64 x) = w3 at HF3 ⊢
  clear HF2 ha2 ht2 hf2
  have ha3 := HF3.out.a.cell; have ht3 := HF3.out.t.cell; have hf3 := HF3.out.t.froz
  go_quiet (first | (go_at_call 49; exact Calls.quiet_of_same ((bitOf_any _ _).mono fun _ _ h => ⟨h.1, h.2.symm⟩)))
  go_upto_region 9 with fail
  have HF4 := Lib.hid (HF3.out.below (below_drewN nq))
  generalize w3.drewN nq = w4 at HF4 ⊢
  clear HF3 ha3 ht3 hf3
  have ha4 := HF4.out.a.cell; have ht4 := HF4.out.t.cell; have hf4 := HF4.out.t.froz
  go_region_law (first
    | (go_simp; go_at_call 102; (with_reducible refine (l04Go_any id st op arg 1 til per can r0 x r2 r3 r4 code res 2 w4.drew).mono ?_); rintro e v1 ⟨rfl, hb⟩; have HG1 := Lib.hid ((HF4.out.drew).below hb); clear hb; have ga1 := HG1.out.a.cell; have gt1 := HG1.out.t.cell; have hra := HG1.out.ra.cell; have hfa := HG1.out.ra.froz; have hrt := HG1.out.rt.cell; have hft := HG1.out.rt.froz))
  all_goals
    rw [row15 (HG1.out.rtSet _)]
    obtain ⟨g1, g2, g3⟩ := HG1.out.done (.slice A zs.length c) #[.int .i64 id, .int .i64 st, .int .i64 op, .int .i64 arg, .int .i64 2, .int .i64 til, .bool per, .bool can, .int .i64 r0, .int .i64 x, .int .i64 r2, .int .i64 r3, .int .i64 r4, .int .i64 code, .int .i64 res]
    go_wp2_with fail
    exact bodyPost_ret (results_at Try.results76 _ _ _ _ _ _ rfl rfl g1 g2 rfl) rfl ⟨rfl, g3⟩

set_option maxHeartbeats 16000000 in
set_option maxRecDepth 100000 in
theorem join1c (id : Int) (st : Int) (op : Int) (arg : Int) (til : Int) (per : Bool) (can : Bool) (r0 : Int) (r1 : Int) (r2 : Int) (r3 : Int) (r4 : Int) (code : Int) (res : Int) (A : Option Addr) (c : Nat) (zs : List Int) (now : Int) (x : Int) (w : World) (hn : zs.length ≤ 1048576) (hA : Rd w A zs) (hx : loadZ zs 1 = x) (h1 : (x == r0) = false) (h2 : (r0.tmod 2 == bitI (mineB op)) = false) :
    Calls Try.prog 76 #[.agg #[.slice A zs.length c], .agg #[.int .i64 id, .int .i64 st, .int .i64 op, .int .i64 arg, .int .i64 1, .int .i64 til, .bool per, .bool can, .int .i64 r0, .int .i64 r1, .int .i64 r2, .int .i64 r3, .int .i64 r4, .int .i64 code, .int .i64 res], .int .i64 now] w fun e w' => e = .returned (.tuple #[.agg #[.slice A zs.length c], .agg #[.int .i64 id, .int .i64 st, .int .i64 op, .int .i64 arg, .int .i64 6, .int .i64 til, .bool per, .bool can, .int .i64 r0, .int .i64 x, .int .i64 r2, .int .i64 r3, .int .i64 r4, .int .i64 code, .int .i64 res]]) ∧ Below w.heap.size w w' := by
  have hq := wrap_rest r0
  have HF := Lib.hid (Fr.start w A c zs #[.int .i64 id, .int .i64 st, .int .i64 op, .int .i64 arg, .int .i64 1, .int .i64 til, .bool per, .bool can, .int .i64 r0, .int .i64 r1, .int .i64 r2, .int .i64 r3, .int .i64 r4, .int .i64 code, .int .i64 res] hA)
  have HA := Lib.hid hA; clear hA
  have HX := Lib.hid hx; clear hx
  go_enter Try.func76, Try.ntmps76
  go_wp2_with fail
  refine (l04Mine_any _ _ _ _ _ _ _ _ _ _ _ _ _ _ _ _).mono ?_
  rintro e w1 ⟨rfl, hb⟩
  have HF1 := Lib.hid (HF.out.below hb)
  clear hb HF
  have ha1 := HF1.out.a.cell; have ht1 := HF1.out.t.cell; have hf1 := HF1.out.t.froz
  go_wp2_with fail
  refine (l01Load_any _ _ zs _ _ hn HF1.out.rd).mono ?_
  rintro e w2 ⟨rfl, hb⟩
  have HF2 := Lib.hid (HF1.out.below hb)
  clear hb HF1 ha1 ht1 hf1
  rw [HX.out]
  have ha2 := HF2.out.a.cell; have ht2 := HF2.out.t.cell; have hf2 := HF2.out.t.froz
  have HF3 : Hid (Fr w (w2.setCell ⟨w.heap.size + 1, 9, none⟩ (.int .i64 x)) A c zs #[.int .i64 id, .int .i64 st, .int .i64 op, .int .i64 arg, .int .i64 1, .int .i64 til, .bool per, .bool can, .int .i64 r0, .int .i64 x, .int .i64 r2, .int .i64 r3, .int .i64 r4, .int .i64 code, .int .i64 res]) := HF2.out.set HA.out 9 _
  go_upto_region 8 with fail
  generalize w2.setCell ⟨w.heap.size + 1, 9, none⟩ (.int .i64 x) = w3 at HF3 ⊢
  clear HF2 ha2 ht2 hf2
  have ha3 := HF3.out.a.cell; have ht3 := HF3.out.t.cell; have hf3 := HF3.out.t.froz
  go_quiet (first | (go_at_call 49; exact Calls.quiet_of_same ((bitOf_any _ _).mono fun _ _ h => ⟨h.1, h.2.symm⟩)))
  go_upto_region 10 with fail
  have HF4 := Lib.hid (HF3.out.below (below_drewN nq))
  generalize w3.drewN nq = w4 at HF4 ⊢
  clear HF3 ha3 ht3 hf3
  have ha4 := HF4.out.a.cell; have ht4 := HF4.out.t.cell; have hf4 := HF4.out.t.froz
  go_region_law (first
    | (go_simp; go_at_call 102; (with_reducible refine (l04Go_any id st op arg 1 til per can r0 x r2 r3 r4 code res 6 w4.drew).mono ?_); rintro e v1 ⟨rfl, hb⟩; have HG1 := Lib.hid ((HF4.out.drew).below hb); clear hb; have ga1 := HG1.out.a.cell; have gt1 := HG1.out.t.cell; have hra := HG1.out.ra.cell; have hfa := HG1.out.ra.froz; have hrt := HG1.out.rt.cell; have hft := HG1.out.rt.froz))
  all_goals
    rw [row15 (HG1.out.rtSet _)]
    obtain ⟨g1, g2, g3⟩ := HG1.out.done (.slice A zs.length c) #[.int .i64 id, .int .i64 st, .int .i64 op, .int .i64 arg, .int .i64 6, .int .i64 til, .bool per, .bool can, .int .i64 r0, .int .i64 x, .int .i64 r2, .int .i64 r3, .int .i64 r4, .int .i64 code, .int .i64 res]
    go_wp2_with fail
    exact bodyPost_ret (results_at Try.results76 _ _ _ _ _ _ rfl rfl g1 g2 rfl) rfl ⟨rfl, g3⟩
end Go.Proofs.Ytabojajhnhcemaa
