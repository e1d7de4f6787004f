/-
  Steps of the model, by Pc.
-/
import Derived.Test.YtabojajhnhcemaaJ10
import Derived.Deep.DeepCutAuto
namespace Go.Proofs.Ytabojajhnhcemaa
open Go.RowKit

set_option maxHeartbeats 16000000 in
set_option maxRecDepth 100000 in
theorem join2b (id : Int) (st : Int) (op : Int) (arg : Int) (til : Int) (per : Bool) (can : Bool) (r0 : Int) (r1 : Int) (r2 : Int) (r3 : Int) (r4 : Int) (code : Int) (res : Int) (A : Option Addr) (c : Nat) (zs : List Int) (now : Int) (x : Int) (w : World) (hn : zs.length ≤ 1048576) (hA : Rd w A zs) (hb0 : -1000000000000 ≤ r0 ∧ r0 ≤ 1000000000000) (hx : loadZ zs (halfI r0 + 1) = x) (h2 : (x != 0) = false) (ht : 0 ≤ til) (hg : gvB can til now = true) :
    Calls Try.prog 76 #[.agg #[.slice A zs.length c], .agg #[.int .i64 id, .int .i64 st, .int .i64 op, .int .i64 arg, .int .i64 2, .int .i64 til, .bool per, .bool can, .int .i64 r0, .int .i64 r1, .int .i64 r2, .int .i64 r3, .int .i64 r4, .int .i64 code, .int .i64 res], .int .i64 now] w fun e w' => e = .returned (.tuple #[.agg #[.slice A zs.length c], .agg #[.int .i64 id, .int .i64 0, .int .i64 0, .int .i64 0, .int .i64 0, .int .i64 0, .bool false, .bool false, .int .i64 0, .int .i64 0, .int .i64 0, .int .i64 0, .int .i64 0, .int .i64 (gvCode can), .int .i64 0]]) ∧ Below w.heap.size w w' := by
  have hw := wrap_half r0 hb0
  have hh := half_bounds r0 hb0
  have hw2 : IntKind.i64.wrap (r0.tdiv 2 + 1) = r0.tdiv 2 + 1 := IntWalk.i64_in _ (by omega)
  clear hh
  clear hb0
  have HF := Lib.hid (Fr.start w A c zs #[.int .i64 id, .int .i64 st, .int .i64 op, .int .i64 arg, .int .i64 2, .int .i64 til, .bool per, .bool can, .int .i64 r0, .int .i64 r1, .int .i64 r2, .int .i64 r3, .int .i64 r4, .int .i64 code, .int .i64 res] hA)
  have HA := Lib.hid hA; clear hA
  have HX := Lib.hid hx; clear hx
  have HT := Lib.hid ht; clear ht
  have HG := Lib.hid hg; clear hg
  go_enter Try.func76, Try.ntmps76
  go_wp2_with fail
  refine (l04Mine_any _ _ _ _ _ _ _ _ _ _ _ _ _ _ _ _).mono ?_
  rintro e w1 ⟨rfl, hb⟩
  have HF1 := Lib.hid (HF.out.below hb)
  clear hb HF
  have ha1 := HF1.out.a.cell; have ht1 := HF1.out.t.cell; have hf1 := HF1.out.t.froz
  go_wp2_with fail
  refine (l01Load_any _ _ zs _ _ hn HF1.out.rd).mono ?_
  rintro e w2 ⟨rfl, hb⟩
  have HF2 := Lib.hid (HF1.out.below hb)
  clear hb HF1 ha1 ht1 hf1
  rw [show loadZ zs (r0.tdiv 2 + 1) = x from HX.out]
  have ha2 := HF2.out.a.cell; have ht2 := HF2.out.t.cell; have hf2 := HF2.out.t.froz
  have HF3 : Hid (Fr w (w2.setCell ⟨w.heap.size + 1, 10, none⟩ (.int .i64 x)) A c zs #[.int .i64 id, .int .i64 st, .int .i64 op, .int .i64 arg, .int .i64 2, .int .i64 til, .bool per, .bool can, .int .i64 r0, .int .i64 r1, .int .i64 x, .int .i64 r3, .int .i64 r4, .int .i64 code, .int .i64 res]) := HF2.out.set HA.out 10 _
  go_upto_region 13 with fail
  generalize w2.setCell ⟨w.heap.size + 1, 10, none⟩ (.int .i64 x) = w3 at HF3 ⊢
  clear HF2 ha2 ht2 hf2
  have ha3 := HF3.out.a.cell; have ht3 := HF3.out.t.cell; have hf3 := HF3.out.t.froz
  go_wp2_with fail
  refine (l03Gives_any _ _ _ _ _ _ _ _ _ _ _ _ _ _ _ now _ HT.out).mono ?_
  rintro e w4 ⟨rfl, hb⟩
  have HF4 := Lib.hid (HF3.out.below hb)
  clear hb HF3 ha3 ht3 hf3
  rw [HG.out]
  have ha4 := HF4.out.a.cell; have ht4 := HF4.out.t.cell; have hf4 := HF4.out.t.froz
  go_upto_region 16 with fail
  have HDa : Hid (w4.drew.cell? ⟨w.heap.size, 0, none⟩ = some (.slice A zs.length c)) := ha4
  have HDt : Hid (∀ j : Nat, w4.drew.cell? ⟨w.heap.size + 1, j, none⟩ = (#[.int .i64 id, .int .i64 st, .int .i64 op, .int .i64 arg, .int .i64 2, .int .i64 til, .bool per, .bool can, .int .i64 r0, .int .i64 r1, .int .i64 x, .int .i64 r3, .int .i64 r4, .int .i64 code, .int .i64 res] : Array Value)[j]?) := ht4
  go_region_held3 (fun w' => w'.cell? ⟨w.heap.size, 0, none⟩ = some (.slice A zs.length c) ∧ ∀ j : Nat, w'.cell? ⟨w.heap.size + 1, j, none⟩ = (#[.int .i64 id, .int .i64 st, .int .i64 op, .int .i64 arg, .int .i64 2, .int .i64 til, .bool per, .bool can, .int .i64 r0, .int .i64 r1, .int .i64 x, .int .i64 r3, .int .i64 r4, .int .i64 code, .int .i64 res] : Array Value)[j]?)
    (first | with_reducible exact ⟨ha4, ht4⟩ | with_reducible exact ⟨HDa.out, HDt.out⟩ | with_reducible exact ⟨gx1, gt1⟩ | with_reducible exact ⟨gx2, gt2⟩ | (refine ⟨?_, ?_⟩; (repeat (with_reducible refine cell_set2 (by omega) ?_)); with_reducible exact gx2; (repeat (with_reducible refine cells_set2 (by omega) ?_)); with_reducible exact gt2))
    (first
      | (go_at_call 105; (with_reducible refine (l03Code_any id st op arg 2 til per can r0 r1 x r3 r4 code res w4.drew).mono ?_); rintro e v1 ⟨rfl, hb⟩; have HG1 := Lib.hid ((HF4.out.drew).below hb); clear hb; have gt1 := HG1.out.t.cell; have gx1 := HG1.out.a.cell)
      | (go_at_call 104; (with_reducible refine (l02End_any id st op arg 2 til per can r0 r1 x r3 r4 code res (gvCode can) 0 v1).mono ?_); rintro e v2 ⟨rfl, hb⟩; have HG2 := Lib.hid ((HG1.out).below hb); clear hb; have gt2 := HG2.out.t.cell; have gx2 := HG2.out.a.cell; have hra := HG2.out.ra.cell; have hfa := HG2.out.ra.froz; have hrt := HG2.out.rt.cell; have hft := HG2.out.rt.froz))
  rw [row15 (HG2.out.rtSet _)]
  obtain ⟨g1, g2, g3⟩ := HG2.out.done (.slice A zs.length c) #[.int .i64 id, .int .i64 0, .int .i64 0, .int .i64 0, .int .i64 0, .int .i64 0, .bool false, .bool false, .int .i64 0, .int .i64 0, .int .i64 0, .int .i64 0, .int .i64 0, .int .i64 (gvCode can), .int .i64 0]
  go_wp2_with fail
  exact bodyPost_ret (results_at Try.results76 _ _ _ _ _ _ rfl rfl g1 g2 rfl) rfl ⟨rfl, g3⟩
end Go.Proofs.Ytabojajhnhcemaa
