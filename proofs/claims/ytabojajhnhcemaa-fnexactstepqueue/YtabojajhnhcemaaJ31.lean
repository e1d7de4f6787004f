/-
  Steps of the model, by Pc.
-/
import Derived.Test.YtabojajhnhcemaaJ10
import Derived.Deep.DeepCutAuto
namespace Go.Proofs.Ytabojajhnhcemaa
open Go.RowKit

set_option maxHeartbeats 16000000 in
set_option maxRecDepth 100000 in
theorem await9c (id : Int) (st : Int) (op : Int) (arg : Int) (til : Int) (can : Bool) (r0 : Int) (r1 : Int) (r2 : Int) (r3 : Int) (r4 : Int) (code : Int) (res : Int) (A : Option Addr) (c : Nat) (zs : List Int) (now : Int) (x : Int) (w : World) (hn : zs.length ≤ 1048576) (hA : Rd w A zs) (hb0 : -1000000000000 ≤ r3 ∧ r3 ≤ 1000000000000) (hq : -1000000000000 ≤ arg ∧ arg ≤ 1000000000000) (hx : loadZ zs (halfI r3) = x) (h2 : (x != firstI op arg) = false) (ht : 0 ≤ til) (hg : gvB can til now = false) :
    Calls Try.prog 77 #[.agg #[.slice A zs.length c], .agg #[.int .i64 id, .int .i64 st, .int .i64 op, .int .i64 arg, .int .i64 9, .int .i64 til, .bool true, .bool can, .int .i64 r0, .int .i64 r1, .int .i64 r2, .int .i64 r3, .int .i64 r4, .int .i64 code, .int .i64 res], .int .i64 now] w fun e w' => e = .returned (.tuple #[.agg #[.slice A zs.length c], .agg #[.int .i64 id, .int .i64 st, .int .i64 op, .int .i64 arg, .int .i64 9, .int .i64 til, .bool false, .bool can, .int .i64 r0, .int .i64 r1, .int .i64 r2, .int .i64 r3, .int .i64 x, .int .i64 code, .int .i64 res]]) ∧ Below w.heap.size w w' := by
  have hw := wrap_half r3 hb0
  clear hb0
  have HF := Lib.hid (Fr.start w A c zs #[.int .i64 id, .int .i64 st, .int .i64 op, .int .i64 arg, .int .i64 9, .int .i64 til, .bool true, .bool can, .int .i64 r0, .int .i64 r1, .int .i64 r2, .int .i64 r3, .int .i64 r4, .int .i64 code, .int .i64 res] hA)
  have HA := Lib.hid hA; clear hA
  have HX := Lib.hid hx; clear hx
  have HQ := Lib.hid hq; clear hq
  have HT := Lib.hid ht; clear ht
  have HG := Lib.hid hg; clear hg
  go_enter Try.func77, Try.ntmps77
  go_upto_region 4 with fail
  generalize hw1 : ((((w.alloc (.cells #[.slice A zs.length c] 25)).alloc (.cells #[.int .i64 id, .int .i64 st, .int .i64 op, .int .i64 arg, .int .i64 9, .int .i64 til, .bool true, .bool can, .int .i64 r0, .int .i64 r1, .int .i64 r2, .int .i64 r3, .int .i64 r4, .int .i64 code, .int .i64 res] 29)).alloc (.cells #[.slice none 0 0] 25)).alloc (.cells #[.int .i64 0, .int .i64 0, .int .i64 0, .int .i64 0, .int .i64 0, .int .i64 0, .bool false, .bool false, .int .i64 0, .int .i64 0, .int .i64 0, .int .i64 0, .int .i64 0, .int .i64 0, .int .i64 0] 29)) = w1 at HF ⊢
  have HF1 := Lib.hid HF.out; clear HF hw1
  have ha1 := HF1.out.a.cell; have ht1 := HF1.out.t.cell; have hf1 := HF1.out.t.froz
  go_wp2_with fail
  refine (l01Load_any _ _ zs _ _ hn HF1.out.rd).mono ?_
  rintro e w2 ⟨rfl, hb⟩
  have HF2 := Lib.hid (HF1.out.below hb)
  clear hb HF1 ha1 ht1 hf1
  rw [show loadZ zs (r3.tdiv 2) = x from HX.out]
  have ha2 := HF2.out.a.cell; have ht2 := HF2.out.t.cell; have hf2 := HF2.out.t.froz
  have HF3 : Hid (Fr w (w2.setCell ⟨w.heap.size + 1, 12, none⟩ (.int .i64 x)) A c zs #[.int .i64 id, .int .i64 st, .int .i64 op, .int .i64 arg, .int .i64 9, .int .i64 til, .bool true, .bool can, .int .i64 r0, .int .i64 r1, .int .i64 r2, .int .i64 r3, .int .i64 x, .int .i64 code, .int .i64 res]) := HF2.out.set HA.out 12 _
  go_upto_region 5 with fail
  generalize w2.setCell ⟨w.heap.size + 1, 12, none⟩ (.int .i64 x) = w3 at HF3 ⊢
  clear HF2 ha2 ht2 hf2
  have ha3 := HF3.out.a.cell; have ht3 := HF3.out.t.cell; have hf3 := HF3.out.t.froz
  go_cut [31] (fun s31 wx => s31 = .bool false ∧ Fr w wx A c zs #[.int .i64 id, .int .i64 st, .int .i64 op, .int .i64 arg, .int .i64 9, .int .i64 til, .bool true, .bool can, .int .i64 r0, .int .i64 r1, .int .i64 r2, .int .i64 r3, .int .i64 x, .int .i64 code, .int .i64 res])
  case first =>
    go_region_law (first
      | (go_simp; go_at_call 107; (with_reducible refine (l04First_any id st op arg 9 til true can r0 r1 r2 r3 x code res w3.drew HQ.out).mono ?_); rintro e v1 ⟨rfl, hb⟩; have HG1 := Lib.hid (HF3.out.drew.below hb); clear hb; have ga1 := HG1.out.a.cell; have gt1 := HG1.out.t.cell))
    all_goals
      go_wp2_with fail
      go_meet
      exact ⟨rfl, HG1.out⟩
  case rest =>
  generalize wc = w4 at hcut ⊢
  obtain ⟨rfl, hfr⟩ := hcut
  have HF4 := Lib.hid hfr; clear hfr HF3 ha3 ht3 hf3
  have ha4 := HF4.out.a.cell; have ht4 := HF4.out.t.cell; have hf4 := HF4.out.t.froz
  go_wp2_with fail
  refine (l03Gives_any _ _ _ _ _ _ _ _ _ _ _ _ _ _ _ now _ HT.out).mono ?_
  rintro e w5 ⟨rfl, hb⟩
  have HF5 := Lib.hid (HF4.out.below hb)
  clear hb HF4 ha4 ht4 hf4
  rw [HG.out]
  have ha5 := HF5.out.a.cell; have ht5 := HF5.out.t.cell; have hf5 := HF5.out.t.froz
  go_upto_region 9 with fail
  go_region_law (first
    | (go_simp; go_at_call 108; (with_reducible refine (l03Park_permit id st op arg 9 til true can r0 r1 r2 r3 x code res w5.drew rfl).mono ?_); rintro e v1 ⟨rfl, hb⟩; have HG1 := Lib.hid ((HF5.out.drew).below hb); clear hb; have ga1 := HG1.out.a.cell; have gt1 := HG1.out.t.cell; have hra := HG1.out.ra.cell; have hfa := HG1.out.ra.froz; have hrt := HG1.out.rt.cell; have hft := HG1.out.rt.froz))
  all_goals
    rw [row15 (HG1.out.rtSet _)]
    obtain ⟨g1, g2, g3⟩ := HG1.out.done (.slice A zs.length c) #[.int .i64 id, .int .i64 st, .int .i64 op, .int .i64 arg, .int .i64 9, .int .i64 til, .bool false, .bool can, .int .i64 r0, .int .i64 r1, .int .i64 r2, .int .i64 r3, .int .i64 x, .int .i64 code, .int .i64 res]
    go_wp2_with fail
    exact bodyPost_ret (results_at Try.results77 _ _ _ _ _ _ rfl rfl g1 g2 rfl) rfl ⟨rfl, g3⟩

set_option maxHeartbeats 16000000 in
set_option maxRecDepth 100000 in
theorem await9d (id : Int) (st : Int) (op : Int) (arg : Int) (til : Int) (can : Bool) (r0 : Int) (r1 : Int) (r2 : Int) (r3 : Int) (r4 : Int) (code : Int) (res : Int) (A : Option Addr) (c : Nat) (zs : List Int) (now : Int) (x : Int) (w : World) (hn : zs.length ≤ 1048576) (hA : Rd w A zs) (hb0 : -1000000000000 ≤ r3 ∧ r3 ≤ 1000000000000) (hq : -1000000000000 ≤ arg ∧ arg ≤ 1000000000000) (hx : loadZ zs (halfI r3) = x) (h2 : (x != firstI op arg) = false) (ht : 0 ≤ til) (hg : gvB can til now = false) :
    Calls Try.prog 77 #[.agg #[.slice A zs.length c], .agg #[.int .i64 id, .int .i64 st, .int .i64 op, .int .i64 arg, .int .i64 9, .int .i64 til, .bool false, .bool can, .int .i64 r0, .int .i64 r1, .int .i64 r2, .int .i64 r3, .int .i64 r4, .int .i64 code, .int .i64 res], .int .i64 now] w fun e w' => e = .returned (.tuple #[.agg #[.slice A zs.length c], .agg #[.int .i64 id, .int .i64 2, .int .i64 op, .int .i64 arg, .int .i64 9, .int .i64 til, .bool false, .bool can, .int .i64 r0, .int .i64 r1, .int .i64 r2, .int .i64 r3, .int .i64 x, .int .i64 code, .int .i64 res]]) ∧ Below w.heap.size w w' := by
  have hw := wrap_half r3 hb0
  clear hb0
  have HF := Lib.hid (Fr.start w A c zs #[.int .i64 id, .int .i64 st, .int .i64 op, .int .i64 arg, .int .i64 9, .int .i64 til, .bool false, .bool can, .int .i64 r0, .int .i64 r1, .int .i64 r2, .int .i64 r3, .int .i64 r4, .int .i64 code, .int .i64 res] hA)
  have HA := Lib.hid hA; clear hA
  have HX := Lib.hid hx; clear hx
  have HQ := Lib.hid hq; clear hq
  have HT := Lib.hid ht; clear ht
  have HG := Lib.hid hg; clear hg
  go_enter Try.func77, Try.ntmps77
  go_upto_region 4 with fail
  generalize hw1 : ((((w.alloc (.cells #[.slice A zs.length c] 25)).alloc (.cells #[.int .i64 id, .int .i64 st, .int .i64 op, .int .i64 arg, .int .i64 9, .int .i64 til, .bool false, .bool can, .int .i64 r0, .int .i64 r1, .int .i64 r2, .int .i64 r3, .int .i64 r4, .int .i64 code, .int .i64 res] 29)).alloc (.cells #[.slice none 0 0] 25)).alloc (.cells #[.int .i64 0, .int .i64 0, .int .i64 0, .int .i64 0, .int .i64 0, .int .i64 0, .bool false, .bool false, .int .i64 0, .int .i64 0, .int .i64 0, .int .i64 0, .int .i64 0, .int .i64 0, .int .i64 0] 29)) = w1 at HF ⊢
  have HF1 := Lib.hid HF.out; clear HF hw1
  have ha1 := HF1.out.a.cell; have ht1 := HF1.out.t.cell; have hf1 := HF1.out.t.froz
  go_wp2_with fail
  refine (l01Load_any _ _ zs _ _ hn HF1.out.rd).mono ?_
  rintro e w2 ⟨rfl, hb⟩
  have HF2 := Lib.hid (HF1.out.below hb)
  clear hb HF1 ha1 ht1 hf1
  rw [show loadZ zs (r3.tdiv 2) = x from HX.out]
  have ha2 := HF2.out.a.cell; have ht2 := HF2.out.t.cell; have hf2 := HF2.out.t.froz
  have HF3 : Hid (Fr w (w2.setCell ⟨w.heap.size + 1, 12, none⟩ (.int .i64 x)) A c zs #[.int .i64 id, .int .i64 st, .int .i64 op, .int .i64 arg, .int .i64 9, .int .i64 til, .bool false, .bool can, .int .i64 r0, .int .i64 r1, .int .i64 r2, .int .i64 r3, .int .i64 x, .int .i64 code, .int .i64 res]) := HF2.out.set HA.out 12 _
  go_upto_region 5 with fail
  generalize w2.setCell ⟨w.heap.size + 1, 12, none⟩ (.int .i64 x) = w3 at HF3 ⊢
  clear HF2 ha2 ht2 hf2
  have ha3 := HF3.out.a.cell; have ht3 := HF3.out.t.cell; have hf3 := HF3.out.t.froz
  go_cut [31] (fun s31 wx => s31 = .bool false ∧ Fr w wx A c zs #[.int .i64 id, .int .i64 st, .int .i64 op, .int .i64 arg, .int .i64 9, .int .i64 til, .bool false, .bool can, .int .i64 r0, .int .i64 r1, .int .i64 r2, .int .i64 r3, .int .i64 x, .int .i64 code, .int .i64 res])
  case first =>
    go_region_law (first
      | (go_simp; go_at_call 107; (with_reducible refine (l04First_any id st op arg 9 til false can r0 r1 r2 r3 x code res w3.drew HQ.out).mono ?_); rintro e v1 ⟨rfl, hb⟩; have HG1 := Lib.hid (HF3.out.drew.below hb); clear hb; have ga1 := HG1.out.a.cell; have gt1 := HG1.out.t.cell))
    all_goals
      go_wp2_with fail
      go_meet
      exact ⟨rfl, HG1.out⟩
  case rest =>
  generalize wc = w4 at hcut ⊢
  obtain ⟨rfl, hfr⟩ := hcut
  have HF4 := Lib.hid hfr; clear hfr HF3 ha3 ht3 hf3
  have ha4 := HF4.out.a.cell; have ht4 := HF4.out.t.cell; have hf4 := HF4.out.t.froz
  go_wp2_with fail
  refine (l03Gives_any _ _ _ _ _ _ _ _ _ _ _ _ _ _ _ now _ HT.out).mono ?_
  rintro e w5 ⟨rfl, hb⟩
  have HF5 := Lib.hid (HF4.out.below hb)
  clear hb HF4 ha4 ht4 hf4
  rw [HG.out]
  have ha5 := HF5.out.a.cell; have ht5 := HF5.out.t.cell; have hf5 := HF5.out.t.froz
  go_upto_region 9 with fail
  go_region_law (first
    | (go_simp; go_at_call 108; (with_reducible refine (l03Park_parks id st op arg 9 til false can r0 r1 r2 r3 x code res w5.drew rfl).mono ?_); rintro e v1 ⟨rfl, hb⟩; have HG1 := Lib.hid ((HF5.out.drew).below hb); clear hb; have ga1 := HG1.out.a.cell; have gt1 := HG1.out.t.cell; have hra := HG1.out.ra.cell; have hfa := HG1.out.ra.froz; have hrt := HG1.out.rt.cell; have hft := HG1.out.rt.froz))
  all_goals
    rw [row15 (HG1.out.rtSet _)]
    obtain ⟨g1, g2, g3⟩ := HG1.out.done (.slice A zs.length c) #[.int .i64 id, .int .i64 2, .int .i64 op, .int .i64 arg, .int .i64 9, .int .i64 til, .bool false, .bool can, .int .i64 r0, .int .i64 r1, .int .i64 r2, .int .i64 r3, .int .i64 x, .int .i64 code, .int .i64 res]
    go_wp2_with fail
    exact bodyPost_ret (results_at Try.results77 _ _ _ _ _ _ rfl rfl g1 g2 rfl) rfl ⟨rfl, g3⟩
end Go.Proofs.Ytabojajhnhcemaa
