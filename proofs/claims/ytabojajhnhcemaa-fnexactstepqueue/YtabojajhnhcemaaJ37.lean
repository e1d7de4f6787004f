/-
  Steps of the model, by Pc.
-/
import Derived.Test.YtabojajhnhcemaaJ22
import Derived.Deep.DeepCutAuto
namespace Go.Proofs.Ytabojajhnhcemaa
open Go.RowKit

set_option maxHeartbeats 16000000 in
set_option maxRecDepth 100000 in
theorem match7ftt (id : Int) (st : Int) (op : Int) (arg : Int) (til : Int) (per : Bool) (can : Bool) (r0 : Int) (r1 : Int) (r2 : Int) (r3 : Int) (r4 : Int) (code : Int) (res : Int) (A : Option Addr) (c : Nat) (zs : List Int) (x : Int) (w : World) (hn : zs.length ≤ 1048576) (hA : Rd w A zs) (hb0 : -1000000000000 ≤ r2 ∧ r2 ≤ 1000000000000) (hx : loadZ zs (halfI r2) = x) (hd : (r2.tmod 2 == 1) = false) (hm : mineB op = true) (ht : waitsB false x = true) :
    Calls Try.prog 78 #[.agg #[.slice A zs.length c], .agg #[.int .i64 id, .int .i64 st, .int .i64 op, .int .i64 arg, .int .i64 7, .int .i64 til, .bool per, .bool can, .int .i64 r0, .int .i64 r1, .int .i64 r2, .int .i64 r3, .int .i64 r4, .int .i64 code, .int .i64 res]] w fun e w' => e = .returned (.tuple #[.agg #[.slice A zs.length c], .agg #[.int .i64 id, .int .i64 st, .int .i64 op, .int .i64 arg, .int .i64 13, .int .i64 til, .bool per, .bool can, .int .i64 r0, .int .i64 r1, .int .i64 r2, .int .i64 r3, .int .i64 x, .int .i64 code, .int .i64 res], .int .i64 (-1)]) ∧ Below w.heap.size w w' := by
  have hqr := wrap_rest r2
  have hw := wrap_half r2 hb0
  clear hb0
  have HF := Lib.hid (Fr.start w A c zs #[.int .i64 id, .int .i64 st, .int .i64 op, .int .i64 arg, .int .i64 7, .int .i64 til, .bool per, .bool can, .int .i64 r0, .int .i64 r1, .int .i64 r2, .int .i64 r3, .int .i64 r4, .int .i64 code, .int .i64 res] hA)
  have HA := Lib.hid hA; clear hA
  have HX := Lib.hid hx; clear hx
  have HM := Lib.hid hm; clear hm
  have HT := Lib.hid ht; clear ht
  go_enter Try.func78, Try.ntmps78
  go_upto_region 8 with fail
  generalize hw1 : ((((w.alloc (.cells #[.slice A zs.length c] 25)).alloc (.cells #[.int .i64 id, .int .i64 st, .int .i64 op, .int .i64 arg, .int .i64 7, .int .i64 til, .bool per, .bool can, .int .i64 r0, .int .i64 r1, .int .i64 r2, .int .i64 r3, .int .i64 r4, .int .i64 code, .int .i64 res] 29)).alloc (.cells #[.slice none 0 0] 25)).alloc (.cells #[.int .i64 0, .int .i64 0, .int .i64 0, .int .i64 0, .int .i64 0, .int .i64 0, .bool false, .bool false, .int .i64 0, .int .i64 0, .int .i64 0, .int .i64 0, .int .i64 0, .int .i64 0, .int .i64 0] 29)) = w1 at HF ⊢
  have HF1 := Lib.hid HF.out; clear HF hw1
  have ha1 := HF1.out.a.cell; have ht1 := HF1.out.t.cell; have hf1 := HF1.out.t.froz
  go_wp2_with fail
  refine (l01Load_any _ _ zs _ _ hn HF1.out.rd).mono ?_
  rintro e w2 ⟨rfl, hb⟩
  have HF2 := Lib.hid (HF1.out.below hb)
  clear hb HF1 ha1 ht1 hf1
  rw [show loadZ zs (r2.tdiv 2) = x from HX.out]
  have ha2 := HF2.out.a.cell; have ht2 := HF2.out.t.cell; have hf2 := HF2.out.t.froz
  have HF3 : Hid (Fr w (w2.setCell ⟨w.heap.size + 1, 12, none⟩ (.int .i64 x)) A c zs #[.int .i64 id, .int .i64 st, .int .i64 op, .int .i64 arg, .int .i64 7, .int .i64 til, .bool per, .bool can, .int .i64 r0, .int .i64 r1, .int .i64 r2, .int .i64 r3, .int .i64 x, .int .i64 code, .int .i64 res]) := HF2.out.set HA.out 12 _
  go_upto_region 9 with fail
  generalize w2.setCell ⟨w.heap.size + 1, 12, none⟩ (.int .i64 x) = w3 at HF3 ⊢
  clear HF2 ha2 ht2 hf2
  have ha3 := HF3.out.a.cell; have ht3 := HF3.out.t.cell; have hf3 := HF3.out.t.froz
  go_wp2_with fail
  refine (l04Mine_any _ _ _ _ _ _ _ _ _ _ _ _ _ _ _ _).mono ?_
  rintro e w4 ⟨rfl, hb⟩
  have HF4 := Lib.hid (HF3.out.below hb)
  clear hb HF3 ha3 ht3 hf3
  rw [HM.out]
  have ha4 := HF4.out.a.cell; have ht4 := HF4.out.t.cell; have hf4 := HF4.out.t.froz
  go_wp2_with fail
  refine (specItemWaits_any _ _ _).mono ?_
  rintro e w'' ⟨rfl, rfl⟩; rw [HT.out]
  go_upto_region 11 with fail
  go_region_law (first
    | (go_simp; go_at_call 102; (with_reducible refine (l04Go_any id st op arg 7 til per can r0 r1 r2 r3 x code res 13 w4.drew).mono ?_); rintro e v1 ⟨rfl, hb⟩; have HG1 := Lib.hid ((HF4.out.drew).below hb); clear hb; have ga1 := HG1.out.a.cell; have gt1 := HG1.out.t.cell; have hra := HG1.out.ra.cell; have hfa := HG1.out.ra.froz; have hrt := HG1.out.rt.cell; have hft := HG1.out.rt.froz))
  all_goals
    rw [row15 (HG1.out.rtSet _)]
    obtain ⟨g1, g2, g3⟩ := HG1.out.done (.slice A zs.length c) #[.int .i64 id, .int .i64 st, .int .i64 op, .int .i64 arg, .int .i64 13, .int .i64 til, .bool per, .bool can, .int .i64 r0, .int .i64 r1, .int .i64 r2, .int .i64 r3, .int .i64 x, .int .i64 code, .int .i64 res]
    go_wp2_with fail
    exact bodyPost_ret (results_ati Try.results78 _ _ _ _ _ _ _ rfl rfl rfl g1 g2 rfl) rfl ⟨rfl, g3⟩

set_option maxHeartbeats 16000000 in
set_option maxRecDepth 100000 in
theorem match7ftf (id : Int) (st : Int) (op : Int) (arg : Int) (til : Int) (per : Bool) (can : Bool) (r0 : Int) (r1 : Int) (r2 : Int) (r3 : Int) (r4 : Int) (code : Int) (res : Int) (A : Option Addr) (c : Nat) (zs : List Int) (x : Int) (w : World) (hn : zs.length ≤ 1048576) (hA : Rd w A zs) (hb0 : -1000000000000 ≤ r2 ∧ r2 ≤ 1000000000000) (hx : loadZ zs (halfI r2) = x) (hd : (r2.tmod 2 == 1) = false) (hm : mineB op = true) (ht : waitsB false x = false) :
    Calls Try.prog 78 #[.agg #[.slice A zs.length c], .agg #[.int .i64 id, .int .i64 st, .int .i64 op, .int .i64 arg, .int .i64 7, .int .i64 til, .bool per, .bool can, .int .i64 r0, .int .i64 r1, .int .i64 r2, .int .i64 r3, .int .i64 r4, .int .i64 code, .int .i64 res]] w fun e w' => e = .returned (.tuple #[.agg #[.slice A zs.length c], .agg #[.int .i64 id, .int .i64 st, .int .i64 op, .int .i64 arg, .int .i64 12, .int .i64 til, .bool per, .bool can, .int .i64 r0, .int .i64 r1, .int .i64 r2, .int .i64 r3, .int .i64 x, .int .i64 code, .int .i64 res], .int .i64 (-1)]) ∧ Below w.heap.size w w' := by
  have hqr := wrap_rest r2
  have hw := wrap_half r2 hb0
  clear hb0
  have HF := Lib.hid (Fr.start w A c zs #[.int .i64 id, .int .i64 st, .int .i64 op, .int .i64 arg, .int .i64 7, .int .i64 til, .bool per, .bool can, .int .i64 r0, .int .i64 r1, .int .i64 r2, .int .i64 r3, .int .i64 r4, .int .i64 code, .int .i64 res] hA)
  have HA := Lib.hid hA; clear hA
  have HX := Lib.hid hx; clear hx
  have HM := Lib.hid hm; clear hm
  have HT := Lib.hid ht; clear ht
  go_enter Try.func78, Try.ntmps78
  go_upto_region 8 with fail
  generalize hw1 : ((((w.alloc (.cells #[.slice A zs.length c] 25)).alloc (.cells #[.int .i64 id, .int .i64 st, .int .i64 op, .int .i64 arg, .int .i64 7, .int .i64 til, .bool per, .bool can, .int .i64 r0, .int .i64 r1, .int .i64 r2, .int .i64 r3, .int .i64 r4, .int .i64 code, .int .i64 res] 29)).alloc (.cells #[.slice none 0 0] 25)).alloc (.cells #[.int .i64 0, .int .i64 0, .int .i64 0, .int .i64 0, .int .i64 0, .int .i64 0, .bool false, .bool false, .int .i64 0, .int .i64 0, .int .i64 0, .int .i64 0, .int .i64 0, .int .i64 0, .int .i64 0] 29)) = w1 at HF ⊢
  have HF1 := Lib.hid HF.out; clear HF hw1
  have ha1 := HF1.out.a.cell; have ht1 := HF1.out.t.cell; have hf1 := HF1.out.t.froz
  go_wp2_with fail
  refine (l01Load_any _ _ zs _ _ hn HF1.out.rd).mono ?_
  rintro e w2 ⟨rfl, hb⟩
  have HF2 := Lib.hid (HF1.out.below hb)
  clear hb HF1 ha1 ht1 hf1
  rw [show loadZ zs (r2.tdiv 2) = x from HX.out]
  have ha2 := HF2.out.a.cell; have ht2 := HF2.out.t.cell; have hf2 := HF2.out.t.froz
  have HF3 : Hid (Fr w (w2.setCell ⟨w.heap.size + 1, 12, none⟩ (.int .i64 x)) A c zs #[.int .i64 id, .int .i64 st, .int .i64 op, .int .i64 arg, .int .i64 7, .int .i64 til, .bool per, .bool can, .int .i64 r0, .int .i64 r1, .int .i64 r2, .int .i64 r3, .int .i64 x, .int .i64 code, .int .i64 res]) := HF2.out.set HA.out 12 _
  go_upto_region 9 with fail
  generalize w2.setCell ⟨w.heap.size + 1, 12, none⟩ (.int .i64 x) = w3 at HF3 ⊢
  clear HF2 ha2 ht2 hf2
  have ha3 := HF3.out.a.cell; have ht3 := HF3.out.t.cell; have hf3 := HF3.out.t.froz
  go_wp2_with fail
  refine (l04Mine_any _ _ _ _ _ _ _ _ _ _ _ _ _ _ _ _).mono ?_
  rintro e w4 ⟨rfl, hb⟩
  have HF4 := Lib.hid (HF3.out.below hb)
  clear hb HF3 ha3 ht3 hf3
  rw [HM.out]
  have ha4 := HF4.out.a.cell; have ht4 := HF4.out.t.cell; have hf4 := HF4.out.t.froz
  go_wp2_with fail
  refine (specItemWaits_any _ _ _).mono ?_
  rintro e w'' ⟨rfl, rfl⟩; rw [HT.out]
  go_upto_region 10 with fail
  go_region_law (first
    | (go_simp; go_at_call 102; (with_reducible refine (l04Go_any id st op arg 7 til per can r0 r1 r2 r3 x code res 12 w4.drew).mono ?_); rintro e v1 ⟨rfl, hb⟩; have HG1 := Lib.hid ((HF4.out.drew).below hb); clear hb; have ga1 := HG1.out.a.cell; have gt1 := HG1.out.t.cell; have hra := HG1.out.ra.cell; have hfa := HG1.out.ra.froz; have hrt := HG1.out.rt.cell; have hft := HG1.out.rt.froz))
  all_goals
    rw [row15 (HG1.out.rtSet _)]
    obtain ⟨g1, g2, g3⟩ := HG1.out.done (.slice A zs.length c) #[.int .i64 id, .int .i64 st, .int .i64 op, .int .i64 arg, .int .i64 12, .int .i64 til, .bool per, .bool can, .int .i64 r0, .int .i64 r1, .int .i64 r2, .int .i64 r3, .int .i64 x, .int .i64 code, .int .i64 res]
    go_wp2_with fail
    exact bodyPost_ret (results_ati Try.results78 _ _ _ _ _ _ _ rfl rfl rfl g1 g2 rfl) rfl ⟨rfl, g3⟩
end Go.Proofs.Ytabojajhnhcemaa
