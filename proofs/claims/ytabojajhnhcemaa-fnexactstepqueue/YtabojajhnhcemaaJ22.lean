/-
  The program's wait, by Pc.
  The program's join, wait and serve over the ways of a step.
  The program's StepQueue.
  Calls of the model's steps with their answers named.
-/
import Derived.Test.YtabojajhnhcemaaJ16
import Derived.StillTailTactics
import Derived.Test.YtabojajhnhcemaaJ18
import Derived.Test.YtabojajhnhcemaaJ20
import Derived.Test.YtabojajhnhcemaaJ21
import Derived.Test.YtabojajhnhcemaaJ17
import Derived.Test.YtabojajhnhcemaaJ13
import Derived.Deep.DeepCutAuto
import Derived.Deep.CutBlock
import Derived.Test.YtabojajhnhcemaaJ10
import Derived.Test.YtabojajhnhcemaaJ19
import Derived.Test.YtabojajhnhcemaaJ07
namespace Go.Proofs.Ytabojajhnhcemaa
open Go.RowKit

set_option maxHeartbeats 4000000 in
set_option maxRecDepth 100000 in
theorem qwait9a (id : Int) (st : Int) (op : Int) (arg : Int) (til : Int) (per : Bool) (can : Bool) (r0 : Int) (r1 : Int) (r2 : Int) (r3 : Int) (r4 : Int) (code : Int) (res : Int) (now wk : Int) (x : Int) (k lo : Nat) (w : World) (A : Option Addr) (c : Nat) (zs : List Int) (hn : zs.length ≤ 1048576) (ha : arenaB zs = true) (h0 : zs.getD 0 0 = 0) (hlo : lo ≤ w.heap.size) (hb0 : -1000000000000 ≤ r3 ∧ r3 ≤ 1000000000000) (hr : -1000000000000 ≤ arg ∧ arg ≤ 1000000000000) (hx : loadZ zs (halfI r3) = x) (h2 : (x != firstI op arg) = true) (hQ : BoxQ w k #[.slice A zs.length c, .int .i64 id, .int .i64 st, .int .i64 op, .int .i64 arg, .int .i64 9, .int .i64 til, .bool per, .bool can, .int .i64 r0, .int .i64 r1, .int .i64 r2, .int .i64 r3, .int .i64 r4, .int .i64 code, .int .i64 res, .int .i64 now, .int .i64 wk]) (hA : NewA lo w A c zs) :
    Calls Try.prog 29 #[.pointer (some ⟨k, 0, none⟩)] w fun e w' => ∃ B d, e = .returned (.tuple #[]) ∧ Q w w' k lo B d (zs) #[.slice B (zs).length d, .int .i64 id, .int .i64 st, .int .i64 op, .int .i64 arg, .int .i64 11, .int .i64 til, .bool per, .bool can, .int .i64 r0, .int .i64 r1, .int .i64 r2, .int .i64 r3, .int .i64 x, .int .i64 code, .int .i64 res, .int .i64 now, .int .i64 wk] := by
  have hc := hQ.cell
  have hf := hQ.froz
  have HQ := Lib.hid (Q.start hQ hA); clear hQ hA
  have H0 := Lib.hid h0; have HA := Lib.hid ha; have HLO := Lib.hid hlo; clear h0 ha hlo
  have HB0 := Lib.hid hb0; clear hb0
  have HR := Lib.hid hr; clear hr
  have HX := Lib.hid hx; clear hx
  have H2 := Lib.hid h2; clear h2
  have HD := Lib.hid HQ.out.drew; have HLD : Hid (lo ≤ w.drew.heap.size) := HLO.out
  go_enter Try.func29, Try.ntmps29
  go_upto_region 3 with fail
  go_region_law (first
    | (go_simp; go_at_call 67; refine (itemOf_any _ _ HB0.out).mono ?_; rintro e w' ⟨rfl, rfl⟩)
    | (go_simp; go_at_call 59; (with_reducible refine (qload_any A c zs _ w.drew hn H0.out HD.out.rd).mono ?_); rintro e v1 ⟨rfl, hb⟩; rw [HX.out]; have HQ1 := Lib.hid (HD.out.below hb); clear hb; have hc1 := HQ1.out.box.cell; have hf1 := HQ1.out.box.froz))
  all_goals
    have HQ2 : Hid (Q w (v1.setCell ⟨k, 13, none⟩ (.int .i64 x)) k lo A c zs #[.slice A zs.length c, .int .i64 id, .int .i64 st, .int .i64 op, .int .i64 arg, .int .i64 9, .int .i64 til, .bool per, .bool can, .int .i64 r0, .int .i64 r1, .int .i64 r2, .int .i64 r3, .int .i64 x, .int .i64 code, .int .i64 res, .int .i64 now, .int .i64 wk]) := HQ1.out.set 13 _
    go_upto_region 4 with fail
    generalize v1.setCell ⟨k, 13, none⟩ (.int .i64 x) = w2 at HQ2 ⊢
    clear hc hf hc1 hf1 HQ1 HQ HD
    have hc2 := HQ2.out.box.cell; have hf2 := HQ2.out.box.froz
    go_wp2_with fail
    refine (qAwait_leave _ _ _ _ _ _ _ _ _ _ _ _ _ _ _ _ _ _ lo _ _ _ zs HR.out H2.out HQ2.out.box HQ2.out.own).mono ?_
    rintro e w3 ⟨rfl, hb⟩
    have HQ3 := Lib.hid (HQ2.out.then hb); clear hb
    clear hc2 hf2 HQ2
    go_wp2
    exact bodyPost_end (results_none rfl _ _ _) rfl ⟨_, _, rfl, HQ3.out⟩

set_option maxHeartbeats 4000000 in
set_option maxRecDepth 100000 in
theorem qwait9b (id : Int) (st : Int) (op : Int) (arg : Int) (til : Int) (per : Bool) (can : Bool) (r0 : Int) (r1 : Int) (r2 : Int) (r3 : Int) (r4 : Int) (code : Int) (res : Int) (now wk : Int) (x : Int) (k lo : Nat) (w : World) (A : Option Addr) (c : Nat) (zs : List Int) (hn : zs.length ≤ 1048576) (ha : arenaB zs = true) (h0 : zs.getD 0 0 = 0) (hlo : lo ≤ w.heap.size) (hb0 : -1000000000000 ≤ r3 ∧ r3 ≤ 1000000000000) (hr : -1000000000000 ≤ arg ∧ arg ≤ 1000000000000) (hx : loadZ zs (halfI r3) = x) (h2 : (x != firstI op arg) = false) (ht : thB id st op arg 9 til per can r0 r1 r2 r3 x code res = true) (hi : inB now 0 1000000 = true) (hg : gvB can til now = true) (hQ : BoxQ w k #[.slice A zs.length c, .int .i64 id, .int .i64 st, .int .i64 op, .int .i64 arg, .int .i64 9, .int .i64 til, .bool per, .bool can, .int .i64 r0, .int .i64 r1, .int .i64 r2, .int .i64 r3, .int .i64 r4, .int .i64 code, .int .i64 res, .int .i64 now, .int .i64 wk]) (hA : NewA lo w A c zs) :
    Calls Try.prog 29 #[.pointer (some ⟨k, 0, none⟩)] w fun e w' => ∃ B d, e = .returned (.tuple #[]) ∧ Q w w' k lo B d (zs) #[.slice B (zs).length d, .int .i64 id, .int .i64 st, .int .i64 op, .int .i64 arg, .int .i64 10, .int .i64 til, .bool per, .bool can, .int .i64 r0, .int .i64 r1, .int .i64 r2, .int .i64 r3, .int .i64 x, .int .i64 code, .int .i64 res, .int .i64 now, .int .i64 wk] := by
  have hc := hQ.cell
  have hf := hQ.froz
  have HQ := Lib.hid (Q.start hQ hA); clear hQ hA
  have H0 := Lib.hid h0; have HA := Lib.hid ha; have HLO := Lib.hid hlo; clear h0 ha hlo
  have HB0 := Lib.hid hb0; clear hb0
  have HR := Lib.hid hr; clear hr
  have HX := Lib.hid hx; clear hx
  have H2 := Lib.hid h2; clear h2
  have HT := Lib.hid ht; clear ht
  have HI := Lib.hid hi; clear hi
  have HG := Lib.hid hg; clear hg
  have HD := Lib.hid HQ.out.drew; have HLD : Hid (lo ≤ w.drew.heap.size) := HLO.out
  go_enter Try.func29, Try.ntmps29
  go_upto_region 3 with fail
  go_region_law (first
    | (go_simp; go_at_call 67; refine (itemOf_any _ _ HB0.out).mono ?_; rintro e w' ⟨rfl, rfl⟩)
    | (go_simp; go_at_call 59; (with_reducible refine (qload_any A c zs _ w.drew hn H0.out HD.out.rd).mono ?_); rintro e v1 ⟨rfl, hb⟩; rw [HX.out]; have HQ1 := Lib.hid (HD.out.below hb); clear hb; have hc1 := HQ1.out.box.cell; have hf1 := HQ1.out.box.froz))
  all_goals
    have HQ2 : Hid (Q w (v1.setCell ⟨k, 13, none⟩ (.int .i64 x)) k lo A c zs #[.slice A zs.length c, .int .i64 id, .int .i64 st, .int .i64 op, .int .i64 arg, .int .i64 9, .int .i64 til, .bool per, .bool can, .int .i64 r0, .int .i64 r1, .int .i64 r2, .int .i64 r3, .int .i64 x, .int .i64 code, .int .i64 res, .int .i64 now, .int .i64 wk]) := HQ1.out.set 13 _
    go_upto_region 4 with fail
    generalize v1.setCell ⟨k, 13, none⟩ (.int .i64 x) = w2 at HQ2 ⊢
    clear hc hf hc1 hf1 HQ1 HQ HD
    have hc2 := HQ2.out.box.cell; have hf2 := HQ2.out.box.froz
    go_wp2_with fail
    refine (qAwait_give _ _ _ _ _ _ _ _ _ _ _ _ _ _ _ _ _ _ lo _ _ _ zs HR.out H2.out HT.out HI.out HG.out HQ2.out.box HQ2.out.own).mono ?_
    rintro e w3 ⟨rfl, hb⟩
    have HQ3 := Lib.hid (HQ2.out.then hb); clear hb
    clear hc2 hf2 HQ2
    go_wp2
    exact bodyPost_end (results_none rfl _ _ _) rfl ⟨_, _, rfl, HQ3.out⟩

set_option maxHeartbeats 4000000 in
set_option maxRecDepth 100000 in
theorem qwait9c (id : Int) (st : Int) (op : Int) (arg : Int) (til : Int) (per : Bool) (can : Bool) (r0 : Int) (r1 : Int) (r2 : Int) (r3 : Int) (r4 : Int) (code : Int) (res : Int) (now wk : Int) (x : Int) (st' : Int) (per' : Bool) (k lo : Nat) (w : World) (A : Option Addr) (c : Nat) (zs : List Int) (hn : zs.length ≤ 1048576) (ha : arenaB zs = true) (h0 : zs.getD 0 0 = 0) (hlo : lo ≤ w.heap.size) (hb0 : -1000000000000 ≤ r3 ∧ r3 ≤ 1000000000000) (hr : -1000000000000 ≤ arg ∧ arg ≤ 1000000000000) (hx : loadZ zs (halfI r3) = x) (h2 : (x != firstI op arg) = false) (hp : parkB id st op arg 9 til per can r0 r1 r2 r3 x code res = (⟨id, st', op, arg, 9, til, per', can, r0, r1, r2, r3, x, code, res⟩, 0)) (ht : thB id st op arg 9 til per can r0 r1 r2 r3 x code res = true) (hi : inB now 0 1000000 = true) (hg : gvB can til now = false) (hQ : BoxQ w k #[.slice A zs.length c, .int .i64 id, .int .i64 st, .int .i64 op, .int .i64 arg, .int .i64 9, .int .i64 til, .bool per, .bool can, .int .i64 r0, .int .i64 r1, .int .i64 r2, .int .i64 r3, .int .i64 r4, .int .i64 code, .int .i64 res, .int .i64 now, .int .i64 wk]) (hA : NewA lo w A c zs) :
    Calls Try.prog 29 #[.pointer (some ⟨k, 0, none⟩)] w fun e w' => ∃ B d, e = .returned (.tuple #[]) ∧ Q w w' k lo B d (zs) #[.slice B (zs).length d, .int .i64 id, .int .i64 st', .int .i64 op, .int .i64 arg, .int .i64 9, .int .i64 til, .bool per', .bool can, .int .i64 r0, .int .i64 r1, .int .i64 r2, .int .i64 r3, .int .i64 x, .int .i64 code, .int .i64 res, .int .i64 now, .int .i64 wk] := by
  have hc := hQ.cell
  have hf := hQ.froz
  have HQ := Lib.hid (Q.start hQ hA); clear hQ hA
  have H0 := Lib.hid h0; have HA := Lib.hid ha; have HLO := Lib.hid hlo; clear h0 ha hlo
  have HB0 := Lib.hid hb0; clear hb0
  have HR := Lib.hid hr; clear hr
  have HX := Lib.hid hx; clear hx
  have H2 := Lib.hid h2; clear h2
  have HP := Lib.hid hp; clear hp
  have HT := Lib.hid ht; clear ht
  have HI := Lib.hid hi; clear hi
  have HG := Lib.hid hg; clear hg
  have HD := Lib.hid HQ.out.drew; have HLD : Hid (lo ≤ w.drew.heap.size) := HLO.out
  go_enter Try.func29, Try.ntmps29
  go_upto_region 3 with fail
  go_region_law (first
    | (go_simp; go_at_call 67; refine (itemOf_any _ _ HB0.out).mono ?_; rintro e w' ⟨rfl, rfl⟩)
    | (go_simp; go_at_call 59; (with_reducible refine (qload_any A c zs _ w.drew hn H0.out HD.out.rd).mono ?_); rintro e v1 ⟨rfl, hb⟩; rw [HX.out]; have HQ1 := Lib.hid (HD.out.below hb); clear hb; have hc1 := HQ1.out.box.cell; have hf1 := HQ1.out.box.froz))
  all_goals
    have HQ2 : Hid (Q w (v1.setCell ⟨k, 13, none⟩ (.int .i64 x)) k lo A c zs #[.slice A zs.length c, .int .i64 id, .int .i64 st, .int .i64 op, .int .i64 arg, .int .i64 9, .int .i64 til, .bool per, .bool can, .int .i64 r0, .int .i64 r1, .int .i64 r2, .int .i64 r3, .int .i64 x, .int .i64 code, .int .i64 res, .int .i64 now, .int .i64 wk]) := HQ1.out.set 13 _
    go_upto_region 4 with fail
    generalize v1.setCell ⟨k, 13, none⟩ (.int .i64 x) = w2 at HQ2 ⊢
    clear hc hf hc1 hf1 HQ1 HQ HD
    have hc2 := HQ2.out.box.cell; have hf2 := HQ2.out.box.froz
    go_wp2_with fail
    refine (qAwait_park _ _ _ _ _ _ _ _ _ _ _ _ _ _ _ _ _ _ lo _ _ _ zs HR.out H2.out HT.out HI.out HG.out _ _ HP.out HQ2.out.box HQ2.out.own).mono ?_
    rintro e w3 ⟨rfl, hb⟩
    have HQ3 := Lib.hid (HQ2.out.then hb); clear hb
    clear hc2 hf2 HQ2
    go_wp2
    exact bodyPost_end (results_none rfl _ _ _) rfl ⟨_, _, rfl, HQ3.out⟩

set_option maxHeartbeats 4000000 in
set_option maxRecDepth 100000 in
theorem qwait10t (id : Int) (st : Int) (op : Int) (arg : Int) (til : Int) (per : Bool) (can : Bool) (r0 : Int) (r1 : Int) (r2 : Int) (r3 : Int) (r4 : Int) (code : Int) (res : Int) (now wk : Int) (L : List Int) (k lo : Nat) (w : World) (A : Option Addr) (c : Nat) (zs : List Int) (hn : zs.length ≤ 1048576) (ha : arenaB zs = true) (h0 : zs.getD 0 0 = 0) (hlo : lo ≤ w.heap.size) (hb0 : -1000000000000 ≤ r3 ∧ r3 ≤ 1000000000000) (hr : -1000000000000 ≤ arg ∧ arg ≤ 1000000000000) (hl : casZ zs (halfI r3) (firstI op arg) (-1) = L) (hk : casOk zs (halfI r3) (firstI op arg) = true) (hQ : BoxQ w k #[.slice A zs.length c, .int .i64 id, .int .i64 st, .int .i64 op, .int .i64 arg, .int .i64 10, .int .i64 til, .bool per, .bool can, .int .i64 r0, .int .i64 r1, .int .i64 r2, .int .i64 r3, .int .i64 r4, .int .i64 code, .int .i64 res, .int .i64 now, .int .i64 wk]) (hA : NewA lo w A c zs) :
    Calls Try.prog 29 #[.pointer (some ⟨k, 0, none⟩)] w fun e w' => ∃ B d, e = .returned (.tuple #[]) ∧ Q w w' k lo B d (L) #[.slice B (L).length d, .int .i64 id, .int .i64 0, .int .i64 0, .int .i64 0, .int .i64 0, .int .i64 0, .bool false, .bool false, .int .i64 0, .int .i64 0, .int .i64 0, .int .i64 0, .int .i64 0, .int .i64 (gvCode can), .int .i64 0, .int .i64 now, .int .i64 wk] := by
  have hc := hQ.cell
  have hf := hQ.froz
  have HQ := Lib.hid (Q.start hQ hA); clear hQ hA
  have H0 := Lib.hid h0; have HA := Lib.hid ha; have HLO := Lib.hid hlo; clear h0 ha hlo
  have HB0 := Lib.hid hb0; clear hb0
  have HR := Lib.hid hr; clear hr
  have HL := Lib.hid hl; clear hl
  have HK := Lib.hid hk; clear hk
  have HD := Lib.hid HQ.out.drew; have HLD : Hid (lo ≤ w.drew.heap.size) := HLO.out
  go_enter Try.func29, Try.ntmps29
  go_upto_region 6 with fail
  go_wp2_with (first | (go_at_call 67; refine (itemOf_any _ _ HB0.out).mono ?_; rintro e w' ⟨rfl, rfl⟩) | (go_at_call 69; refine (qFirst_any _ _ _ _ _ _ _ _ _ _ _ _ _ _ _ _ _ _ _ _ HR.out HQ.out.box).mono ?_; rintro e w' ⟨rfl, rfl⟩))
  refine (qChange_any _ _ _ _ _ _ _ _ _ _ _ _ _ _ _ _ _ _ _ _ _ lo _ _ _ zs hn HA.out H0.out (by decide) HLO.out HQ.out.box HQ.out.own).mono ?_
  rintro e w1 ⟨B, d, rfl, hq⟩
  have HQ1 := Lib.hid (HQ.out.then hq); clear hq
  rw [HL.out] at HQ1; rw [HK.out]
  have hc1 := HQ1.out.box.cell; have hf1 := HQ1.out.box.froz
  clear hc hf HQ HD
  go_wp2_with fail
  refine (givenUp_any _ _ _ _ _ _ _ _ _ _ _ _ _ _ _ _).mono ?_
  rintro e w2 ⟨rfl, hb⟩
  have HQ2 := Lib.hid (HQ1.out.below hb); clear hb
  have hc2 := HQ2.out.box.cell; have hf2 := HQ2.out.box.froz
  clear hc1 hf1 HQ1
  go_wp2
  exact bodyPost_end (results_none rfl _ _ _) rfl ⟨_, _, rfl, HQ2.out.thread _ _ _ _ _ _ _ _ _ _ _ _ _ _ _⟩

set_option maxHeartbeats 4000000 in
set_option maxRecDepth 100000 in
theorem qwait10f (id : Int) (st : Int) (op : Int) (arg : Int) (til : Int) (per : Bool) (can : Bool) (r0 : Int) (r1 : Int) (r2 : Int) (r3 : Int) (r4 : Int) (code : Int) (res : Int) (now wk : Int) (L : List Int) (k lo : Nat) (w : World) (A : Option Addr) (c : Nat) (zs : List Int) (hn : zs.length ≤ 1048576) (ha : arenaB zs = true) (h0 : zs.getD 0 0 = 0) (hlo : lo ≤ w.heap.size) (hb0 : -1000000000000 ≤ r3 ∧ r3 ≤ 1000000000000) (hr : -1000000000000 ≤ arg ∧ arg ≤ 1000000000000) (hl : casZ zs (halfI r3) (firstI op arg) (-1) = L) (hk : casOk zs (halfI r3) (firstI op arg) = false) (hQ : BoxQ w k #[.slice A zs.length c, .int .i64 id, .int .i64 st, .int .i64 op, .int .i64 arg, .int .i64 10, .int .i64 til, .bool per, .bool can, .int .i64 r0, .int .i64 r1, .int .i64 r2, .int .i64 r3, .int .i64 r4, .int .i64 code, .int .i64 res, .int .i64 now, .int .i64 wk]) (hA : NewA lo w A c zs) :
    Calls Try.prog 29 #[.pointer (some ⟨k, 0, none⟩)] w fun e w' => ∃ B d, e = .returned (.tuple #[]) ∧ Q w w' k lo B d (L) #[.slice B (L).length d, .int .i64 id, .int .i64 st, .int .i64 op, .int .i64 arg, .int .i64 9, .int .i64 til, .bool per, .bool can, .int .i64 r0, .int .i64 r1, .int .i64 r2, .int .i64 r3, .int .i64 r4, .int .i64 code, .int .i64 res, .int .i64 now, .int .i64 wk] := by
  have hc := hQ.cell
  have hf := hQ.froz
  have HQ := Lib.hid (Q.start hQ hA); clear hQ hA
  have H0 := Lib.hid h0; have HA := Lib.hid ha; have HLO := Lib.hid hlo; clear h0 ha hlo
  have HB0 := Lib.hid hb0; clear hb0
  have HR := Lib.hid hr; clear hr
  have HL := Lib.hid hl; clear hl
  have HK := Lib.hid hk; clear hk
  have HD := Lib.hid HQ.out.drew; have HLD : Hid (lo ≤ w.drew.heap.size) := HLO.out
  go_enter Try.func29, Try.ntmps29
  go_upto_region 6 with fail
  go_wp2_with (first | (go_at_call 67; refine (itemOf_any _ _ HB0.out).mono ?_; rintro e w' ⟨rfl, rfl⟩) | (go_at_call 69; refine (qFirst_any _ _ _ _ _ _ _ _ _ _ _ _ _ _ _ _ _ _ _ _ HR.out HQ.out.box).mono ?_; rintro e w' ⟨rfl, rfl⟩))
  refine (qChange_any _ _ _ _ _ _ _ _ _ _ _ _ _ _ _ _ _ _ _ _ _ lo _ _ _ zs hn HA.out H0.out (by decide) HLO.out HQ.out.box HQ.out.own).mono ?_
  rintro e w1 ⟨B, d, rfl, hq⟩
  have HQ1 := Lib.hid (HQ.out.then hq); clear hq
  rw [HL.out] at HQ1; rw [HK.out]
  have hc1 := HQ1.out.box.cell; have hf1 := HQ1.out.box.froz
  clear hc hf HQ HD
  go_wp2
  exact bodyPost_end (results_none rfl _ _ _) rfl ⟨_, _, rfl, HQ1.out.set 5 _⟩

set_option maxHeartbeats 4000000 in
set_option maxRecDepth 100000 in
theorem qwait11 (id : Int) (st : Int) (op : Int) (arg : Int) (til : Int) (per : Bool) (can : Bool) (r0 : Int) (r1 : Int) (r2 : Int) (r3 : Int) (r4 : Int) (code : Int) (res : Int) (now wk : Int) (L : List Int) (y : Int) (k lo : Nat) (w : World) (A : Option Addr) (c : Nat) (zs : List Int) (hn : zs.length ≤ 1048576) (ha : arenaB zs = true) (h0 : zs.getD 0 0 = 0) (hlo : lo ≤ w.heap.size) (hw : wordB r3 = true) (hb4 : -1000000000000 ≤ r4 ∧ r4 ≤ 1000000000000) (hl : casZ zs (1) (r0) (r3) = L) (hy : wellI op arg r4 = y) (hQ : BoxQ w k #[.slice A zs.length c, .int .i64 id, .int .i64 st, .int .i64 op, .int .i64 arg, .int .i64 11, .int .i64 til, .bool per, .bool can, .int .i64 r0, .int .i64 r1, .int .i64 r2, .int .i64 r3, .int .i64 r4, .int .i64 code, .int .i64 res, .int .i64 now, .int .i64 wk]) (hA : NewA lo w A c zs) :
    Calls Try.prog 29 #[.pointer (some ⟨k, 0, none⟩)] w fun e w' => ∃ B d, e = .returned (.tuple #[]) ∧ Q w w' k lo B d (L) #[.slice B (L).length d, .int .i64 id, .int .i64 0, .int .i64 0, .int .i64 0, .int .i64 0, .int .i64 0, .bool false, .bool false, .int .i64 0, .int .i64 0, .int .i64 0, .int .i64 0, .int .i64 0, .int .i64 0, .int .i64 y, .int .i64 now, .int .i64 wk] := by
  have hc := hQ.cell
  have hf := hQ.froz
  have HQ := Lib.hid (Q.start hQ hA); clear hQ hA
  have H0 := Lib.hid h0; have HA := Lib.hid ha; have HLO := Lib.hid hlo; clear h0 ha hlo
  have HW := Lib.hid hw; clear hw
  have HB4 := Lib.hid hb4; clear hb4
  have HL := Lib.hid hl; clear hl
  have HY := Lib.hid hy; clear hy
  have HD := Lib.hid HQ.out.drew; have HLD : Hid (lo ≤ w.drew.heap.size) := HLO.out
  go_enter Try.func29, Try.ntmps29
  go_upto_region 10 with fail
  go_region_law (first
    | (go_simp; go_at_call 65; (with_reducible refine (qChange_any _ _ _ id st op arg 11 til per can r0 r1 r2 r3 r4 code res now wk k lo w.drew A c zs hn HA.out H0.out HW.out HLD.out HD.out.box HD.out.own).mono ?_); rintro e v1 ⟨B, d, rfl, hq⟩; have HQ1 := Lib.hid (HD.out.then hq); clear hq; rw [HL.out] at HQ1; have hc1 := HQ1.out.box.cell; have hf1 := HQ1.out.box.froz))
  all_goals
    clear hc hf HQ HD
    go_wp2_with fail
    refine (qEnd_any _ _ _ _ _ _ _ _ _ _ _ _ _ _ _ _ _ y _ lo _ _ _ L HY.out HB4.out HQ1.out.box HQ1.out.own).mono ?_
    rintro e w2 ⟨rfl, hb⟩
    have HQ2 := Lib.hid (HQ1.out.then hb); clear hb
    clear hc1 hf1 HQ1
    go_wp2
    exact bodyPost_end (results_none rfl _ _ _) rfl ⟨_, _, rfl, HQ2.out⟩
end Go.Proofs.Ytabojajhnhcemaa

namespace Go.Proofs.Ytabojajhnhcemaa
open Go.RowKit

set_option maxHeartbeats 1000000 in
theorem qjoin_all (id st op arg pc til : Int) (per can : Bool) (r0 r1 r2 r3 r4 code res : Int) (now wk0 wk : Int) (id' st' op' arg' pc' til' : Int) (per' can' : Bool) (s0 s1 s2 s3 s4 code' res' : Int) (k lo : Nat) (w : World) (A : Option Addr) (c : Nat) (zs : List Int) (hC : Cond zs id st op arg pc til per can r0 r1 r2 r3 r4 code res now) (hp : pc = 0 ∨ pc = 1 ∨ pc = 2 ∨ pc = 3 ∨ pc = 4 ∨ pc = 5 ∨ pc = 8) (hw : wk0 = -1) (hlo : lo ≤ w.heap.size) (hQ : BoxQ w k #[.slice A zs.length c, .int .i64 id, .int .i64 st, .int .i64 op, .int .i64 arg, .int .i64 pc, .int .i64 til, .bool per, .bool can, .int .i64 r0, .int .i64 r1, .int .i64 r2, .int .i64 r3, .int .i64 r4, .int .i64 code, .int .i64 res, .int .i64 now, .int .i64 wk0]) (hA : NewA lo w A c zs)
    (L : List Int) (h : StepTo zs id st op arg til per can r0 r1 r2 r3 r4 code res now pc L ⟨id', st', op', arg', pc', til', per', can', s0, s1, s2, s3, s4, code', res'⟩ wk) :
    Calls Try.prog 28 #[.pointer (some ⟨k, 0, none⟩)] w fun e w' => ∃ B d, e = .returned (.tuple #[]) ∧ Q w w' k lo B d L #[.slice B L.length d, .int .i64 id', .int .i64 st', .int .i64 op', .int .i64 arg', .int .i64 pc', .int .i64 til', .bool per', .bool can', .int .i64 s0, .int .i64 s1, .int .i64 s2, .int .i64 s3, .int .i64 s4, .int .i64 code', .int .i64 res', .int .i64 now, .int .i64 wk] := by
  have hn := hC.len
  have ha := hC.ha
  have h0 := hC.zero
  obtain ⟨b0, b1, b2, b3, b4⟩ := hC.regs
  subst hw
  cases h
  case s0 => exact qjoin0 id st op arg til per can r0 r1 r2 r3 r4 code res now (-1) (loadZ zs 2) k lo w A c zs hn ha h0 hlo rfl hQ hA
  case s1a h1 => exact qjoin1a id st op arg til per can r0 r1 r2 r3 r4 code res now (-1) k lo w A c zs hn ha h0 hlo h1 hQ hA
  case s1b h1 h2 => exact qjoin1b id st op arg til per can r0 r1 r2 r3 r4 code res now (-1) (loadZ zs 1) k lo w A c zs hn ha h0 hlo rfl h1 h2 hQ hA
  case s1c h1 h2 => exact qjoin1c id st op arg til per can r0 r1 r2 r3 r4 code res now (-1) (loadZ zs 1) k lo w A c zs hn ha h0 hlo rfl h1 h2 hQ hA
  case s2a h1 => exact qjoin2a id st op arg til per can r0 r1 r2 r3 r4 code res now (-1) (loadZ zs (halfI r0 + 1)) k lo w A c zs hn ha h0 hlo (wide b0) rfl h1 hQ hA
  case s2b h1 h2 => exact qjoin2b id st op arg til per can r0 r1 r2 r3 r4 code res now (-1) (loadZ zs (halfI r0 + 1)) k lo w A c zs hn ha h0 hlo (wide b0) rfl h1 (hC.reg2 (halfI r0 + 1)) hC.hi h2 hQ hA
  case s2c h1 h2 h3 => exact qjoin2c id st op arg til per can r0 r1 r2 r3 r4 code res now (-1) (loadZ zs (halfI r0 + 1)) 4 k lo w A c zs hn ha h0 hlo (wide b0) rfl h1 (by rw [h3]; rfl) (hC.reg2 (halfI r0 + 1)) hC.hi h2 hQ hA
  case s2d h1 h2 h3 => exact qjoin2c id st op arg til per can r0 r1 r2 r3 r4 code res now (-1) (loadZ zs (halfI r0 + 1)) 5 k lo w A c zs hn ha h0 hlo (wide b0) rfl h1 (by rw [h3]; rfl) (hC.reg2 (halfI r0 + 1)) hC.hi h2 hQ hA
  case s3 => exact qjoin3 id st op arg til per can r0 r1 r2 r3 r4 code res now (-1) (casZ zs 2 r0 r2) k lo w A c zs hn ha h0 hlo b2 rfl hQ hA
  case s4a h1 => exact qjoin4a id st op arg til per can r0 r1 r2 r3 r4 code res now (-1) (firstI op arg) (2 * (zs.length : Int) + bitI (mineB op)) (zs ++ [firstI op arg, 0, id + 1]) k lo w A c zs hn ha h0 hlo hC.argw hC.idw rfl hC.three h1 rfl rfl hQ hA
  case s4b h1 => exact qjoin4b id st op arg til per can r0 r1 r2 r3 r4 code res now (-1) (firstI op arg) k lo w A c zs hn ha h0 hlo hC.argw hC.idw rfl hC.three h1 hQ hA
  case s5t h1 => exact qjoin5t id st op arg til per can r0 r1 r2 r3 r4 code res now (-1) (casZ zs (halfI r0 + 1) 0 r3) k lo w A c zs hn ha h0 hlo b3 (wide b0) rfl h1 hQ hA
  case s5f h1 => exact qjoin5f id st op arg til per can r0 r1 r2 r3 r4 code res now (-1) (casZ zs (halfI r0 + 1) 0 r3) k lo w A c zs hn ha h0 hlo b3 (wide b0) rfl h1 hQ hA
  case s8 => exact qjoin8 id st op arg til per can r0 r1 r2 r3 r4 code res now (-1) (casZ zs 2 r0 r3) k lo w A c zs hn ha h0 hlo b3 rfl hQ hA
  case s9a h1 => exact absurd hp (by omega)
  case s9b h1 h2 => exact absurd hp (by omega)
  case s9c h1 h2 h3 => exact absurd hp (by omega)
  case s9d h1 h2 h3 => exact absurd hp (by omega)
  case s10t h1 => exact absurd hp (by omega)
  case s10f h1 => exact absurd hp (by omega)
  case s11 => exact absurd hp (by omega)
  case s6t h1 => exact absurd hp (by omega)
  case s6f h1 => exact absurd hp (by omega)
  case s7tt h1 h2 => exact absurd hp (by omega)
  case s7ff h1 h2 => exact absurd hp (by omega)
  case s7tft h1 h2 h3 => exact absurd hp (by omega)
  case s7tff h1 h2 h3 => exact absurd hp (by omega)
  case s7ftt h1 h2 h3 => exact absurd hp (by omega)
  case s7ftf h1 h2 h3 => exact absurd hp (by omega)
  case s12 => exact absurd hp (by omega)
  case s13t h1 => exact absurd hp (by omega)
  case s13f h1 => exact absurd hp (by omega)
  case s14 => exact absurd hp (by omega)
  case s15 h6 h7 h12 h13 h14 hl => exact absurd hp (by omega)

set_option maxHeartbeats 1000000 in
theorem qwait_all (id st op arg pc til : Int) (per can : Bool) (r0 r1 r2 r3 r4 code res : Int) (now wk0 wk : Int) (id' st' op' arg' pc' til' : Int) (per' can' : Bool) (s0 s1 s2 s3 s4 code' res' : Int) (k lo : Nat) (w : World) (A : Option Addr) (c : Nat) (zs : List Int) (hC : Cond zs id st op arg pc til per can r0 r1 r2 r3 r4 code res now) (hp : pc = 9 ∨ pc = 10 ∨ pc = 11) (hw : wk0 = -1) (hlo : lo ≤ w.heap.size) (hQ : BoxQ w k #[.slice A zs.length c, .int .i64 id, .int .i64 st, .int .i64 op, .int .i64 arg, .int .i64 pc, .int .i64 til, .bool per, .bool can, .int .i64 r0, .int .i64 r1, .int .i64 r2, .int .i64 r3, .int .i64 r4, .int .i64 code, .int .i64 res, .int .i64 now, .int .i64 wk0]) (hA : NewA lo w A c zs)
    (L : List Int) (h : StepTo zs id st op arg til per can r0 r1 r2 r3 r4 code res now pc L ⟨id', st', op', arg', pc', til', per', can', s0, s1, s2, s3, s4, code', res'⟩ wk) :
    Calls Try.prog 29 #[.pointer (some ⟨k, 0, none⟩)] w fun e w' => ∃ B d, e = .returned (.tuple #[]) ∧ Q w w' k lo B d L #[.slice B L.length d, .int .i64 id', .int .i64 st', .int .i64 op', .int .i64 arg', .int .i64 pc', .int .i64 til', .bool per', .bool can', .int .i64 s0, .int .i64 s1, .int .i64 s2, .int .i64 s3, .int .i64 s4, .int .i64 code', .int .i64 res', .int .i64 now, .int .i64 wk] := by
  have hn := hC.len
  have ha := hC.ha
  have h0 := hC.zero
  obtain ⟨b0, b1, b2, b3, b4⟩ := hC.regs
  subst hw
  cases h
  case s0 => exact absurd hp (by omega)
  case s1a h1 => exact absurd hp (by omega)
  case s1b h1 h2 => exact absurd hp (by omega)
  case s1c h1 h2 => exact absurd hp (by omega)
  case s2a h1 => exact absurd hp (by omega)
  case s2b h1 h2 => exact absurd hp (by omega)
  case s2c h1 h2 h3 => exact absurd hp (by omega)
  case s2d h1 h2 h3 => exact absurd hp (by omega)
  case s3 => exact absurd hp (by omega)
  case s4a h1 => exact absurd hp (by omega)
  case s4b h1 => exact absurd hp (by omega)
  case s5t h1 => exact absurd hp (by omega)
  case s5f h1 => exact absurd hp (by omega)
  case s8 => exact absurd hp (by omega)
  case s9a h1 => exact qwait9a id st op arg til per can r0 r1 r2 r3 r4 code res now (-1) (loadZ zs (halfI r3)) k lo w A c zs hn ha h0 hlo (wide b3) hC.argw rfl h1 hQ hA
  case s9b h1 h2 => exact qwait9b id st op arg til per can r0 r1 r2 r3 r4 code res now (-1) (loadZ zs (halfI r3)) k lo w A c zs hn ha h0 hlo (wide b3) hC.argw rfl h1 (hC.reg4 (halfI r3)) hC.hi h2 hQ hA
  case s9c h1 h2 h3 => exact qwait9c id st op arg til per can r0 r1 r2 r3 r4 code res now (-1) (loadZ zs (halfI r3)) st false k lo w A c zs hn ha h0 hlo (wide b3) hC.argw rfl h1 (parkB_permit id st op arg 9 til per can r0 r1 r2 r3 (loadZ zs (halfI r3)) code res (hC.reg4 (halfI r3)) hC.waits (by rw [hC.hs]; rfl) h3) (hC.reg4 (halfI r3)) hC.hi h2 hQ hA
  case s9d h1 h2 h3 => exact qwait9c id st op arg til per can r0 r1 r2 r3 r4 code res now (-1) (loadZ zs (halfI r3)) 2 per k lo w A c zs hn ha h0 hlo (wide b3) hC.argw rfl h1 (parkB_parks id st op arg 9 til per can r0 r1 r2 r3 (loadZ zs (halfI r3)) code res (hC.reg4 (halfI r3)) hC.waits (by rw [hC.hs]; rfl) h3) (hC.reg4 (halfI r3)) hC.hi h2 hQ hA
  case s10t h1 => exact qwait10t id st op arg til per can r0 r1 r2 r3 r4 code res now (-1) (casZ zs (halfI r3) (firstI op arg) (-1)) k lo w A c zs hn ha h0 hlo (wide b3) hC.argw rfl h1 hQ hA
  case s10f h1 => exact qwait10f id st op arg til per can r0 r1 r2 r3 r4 code res now (-1) (casZ zs (halfI r3) (firstI op arg) (-1)) k lo w A c zs hn ha h0 hlo (wide b3) hC.argw rfl h1 hQ hA
  case s11 => exact qwait11 id st op arg til per can r0 r1 r2 r3 r4 code res now (-1) (casZ zs 1 r0 r3) (wellI op arg r4) k lo w A c zs hn ha h0 hlo b3 (wide b4) rfl rfl hQ hA
  case s6t h1 => exact absurd hp (by omega)
  case s6f h1 => exact absurd hp (by omega)
  case s7tt h1 h2 => exact absurd hp (by omega)
  case s7ff h1 h2 => exact absurd hp (by omega)
  case s7tft h1 h2 h3 => exact absurd hp (by omega)
  case s7tff h1 h2 h3 => exact absurd hp (by omega)
  case s7ftt h1 h2 h3 => exact absurd hp (by omega)
  case s7ftf h1 h2 h3 => exact absurd hp (by omega)
  case s12 => exact absurd hp (by omega)
  case s13t h1 => exact absurd hp (by omega)
  case s13f h1 => exact absurd hp (by omega)
  case s14 => exact absurd hp (by omega)
  case s15 h6 h7 h12 h13 h14 hl => exact absurd hp (by omega)

set_option maxHeartbeats 1000000 in
theorem qserve_all (id st op arg pc til : Int) (per can : Bool) (r0 r1 r2 r3 r4 code res : Int) (now wk0 wk : Int) (id' st' op' arg' pc' til' : Int) (per' can' : Bool) (s0 s1 s2 s3 s4 code' res' : Int) (k lo : Nat) (w : World) (A : Option Addr) (c : Nat) (zs : List Int) (hC : Cond zs id st op arg pc til per can r0 r1 r2 r3 r4 code res now) (hp : (pc = 6 ∨ pc = 7) ∨ 12 ≤ pc) (hw : wk0 = -1) (hlo : lo ≤ w.heap.size) (hQ : BoxQ w k #[.slice A zs.length c, .int .i64 id, .int .i64 st, .int .i64 op, .int .i64 arg, .int .i64 pc, .int .i64 til, .bool per, .bool can, .int .i64 r0, .int .i64 r1, .int .i64 r2, .int .i64 r3, .int .i64 r4, .int .i64 code, .int .i64 res, .int .i64 now, .int .i64 wk0]) (hA : NewA lo w A c zs)
    (L : List Int) (h : StepTo zs id st op arg til per can r0 r1 r2 r3 r4 code res now pc L ⟨id', st', op', arg', pc', til', per', can', s0, s1, s2, s3, s4, code', res'⟩ wk) :
    Calls Try.prog 30 #[.pointer (some ⟨k, 0, none⟩)] w fun e w' => ∃ B d, e = .returned (.tuple #[]) ∧ Q w w' k lo B d L #[.slice B L.length d, .int .i64 id', .int .i64 st', .int .i64 op', .int .i64 arg', .int .i64 pc', .int .i64 til', .bool per', .bool can', .int .i64 s0, .int .i64 s1, .int .i64 s2, .int .i64 s3, .int .i64 s4, .int .i64 code', .int .i64 res', .int .i64 now, .int .i64 wk] := by
  have hn := hC.len
  have ha := hC.ha
  have h0 := hC.zero
  obtain ⟨b0, b1, b2, b3, b4⟩ := hC.regs
  subst hw
  cases h
  case s0 => exact absurd hp (by omega)
  case s1a h1 => exact absurd hp (by omega)
  case s1b h1 h2 => exact absurd hp (by omega)
  case s1c h1 h2 => exact absurd hp (by omega)
  case s2a h1 => exact absurd hp (by omega)
  case s2b h1 h2 => exact absurd hp (by omega)
  case s2c h1 h2 h3 => exact absurd hp (by omega)
  case s2d h1 h2 h3 => exact absurd hp (by omega)
  case s3 => exact absurd hp (by omega)
  case s4a h1 => exact absurd hp (by omega)
  case s4b h1 => exact absurd hp (by omega)
  case s5t h1 => exact absurd hp (by omega)
  case s5f h1 => exact absurd hp (by omega)
  case s8 => exact absurd hp (by omega)
  case s9a h1 => exact absurd hp (by omega)
  case s9b h1 h2 => exact absurd hp (by omega)
  case s9c h1 h2 h3 => exact absurd hp (by omega)
  case s9d h1 h2 h3 => exact absurd hp (by omega)
  case s10t h1 => exact absurd hp (by omega)
  case s10f h1 => exact absurd hp (by omega)
  case s11 => exact absurd hp (by omega)
  case s6t h1 => exact qserve6t id st op arg til per can r0 r1 r2 r3 r4 code res now (-1) (loadZ zs (halfI r1 + 1)) k lo w A c zs hn ha h0 hlo (wide b1) rfl h1 hQ hA
  case s6f h1 => exact qserve6f id st op arg til per can r0 r1 r2 r3 r4 code res now (-1) (loadZ zs (halfI r1 + 1)) k lo w A c zs hn ha h0 hlo (wide b1) rfl h1 hQ hA
  case s7tt h1 h2 => exact qserve7f id st op arg til per can r0 r1 r2 r3 r4 code res now (-1) (loadZ zs (halfI r2)) k lo w A c zs hn ha h0 hlo (wide b2) rfl (meet_of h1 h2 rfl) hQ hA
  case s7ff h1 h2 => exact qserve7f id st op arg til per can r0 r1 r2 r3 r4 code res now (-1) (loadZ zs (halfI r2)) k lo w A c zs hn ha h0 hlo (wide b2) rfl (meet_of h1 h2 rfl) hQ hA
  case s7tft h1 h2 h3 => exact qserve7t id st op arg til per can r0 r1 r2 r3 r4 code res now (-1) (loadZ zs (halfI r2)) k lo w A c zs hn ha h0 hlo (wide b2) rfl (meet_of h1 h2 (by rw [h3]; rfl)) hQ hA
  case s7tff h1 h2 h3 => exact qserve7f id st op arg til per can r0 r1 r2 r3 r4 code res now (-1) (loadZ zs (halfI r2)) k lo w A c zs hn ha h0 hlo (wide b2) rfl (meet_of h1 h2 (by rw [h3]; rfl)) hQ hA
  case s7ftt h1 h2 h3 => exact qserve7t id st op arg til per can r0 r1 r2 r3 r4 code res now (-1) (loadZ zs (halfI r2)) k lo w A c zs hn ha h0 hlo (wide b2) rfl (meet_of h1 h2 (by rw [h3]; rfl)) hQ hA
  case s7ftf h1 h2 h3 => exact qserve7f id st op arg til per can r0 r1 r2 r3 r4 code res now (-1) (loadZ zs (halfI r2)) k lo w A c zs hn ha h0 hlo (wide b2) rfl (meet_of h1 h2 (by rw [h3]; rfl)) hQ hA
  case s12 => exact qserve12 id st op arg til per can r0 r1 r2 r3 r4 code res now (-1) (casZ zs 1 r1 r2) k lo w A c zs hn ha h0 hlo b2 rfl hQ hA
  case s13t h1 => exact qserve13t id st op arg til per can r0 r1 r2 r3 r4 code res now (-1) (casZ zs (halfI r2) r4 (firstI op arg)) k lo w A c zs hn ha h0 hlo (wide b2) hC.argw hC.first rfl h1 hQ hA
  case s13f h1 => exact qserve13f id st op arg til per can r0 r1 r2 r3 r4 code res now (-1) (casZ zs (halfI r2) r4 (firstI op arg)) k lo w A c zs hn ha h0 hlo (wide b2) hC.argw hC.first rfl h1 hQ hA
  case s14 => exact qserve14 id st op arg til per can r0 r1 r2 r3 r4 code res now (-1) (casZ zs 1 r1 r2) k lo w A c zs hn ha h0 hlo b2 rfl hQ hA
  case s15 h6 h7 h12 h13 h14 hl => exact qserve15 id st op arg _ til per can r0 r1 r2 r3 r4 code res now (-1) (wellI op arg r4) (loadZ zs (halfI r2 + 2)) k lo w A c zs hn ha h0 hlo h6 h7 h13 h14 h12 (wide b2) (wide b4) rfl (wide (loadZ_word ha (halfI r2 + 2))) rfl hQ hA

end Go.Proofs.Ytabojajhnhcemaa

namespace Go.Proofs.Ytabojajhnhcemaa
open Go.RowKit

theorem one18 (sl : Option Addr) (n c : Nat) (id st op arg pc til : Int) (per can : Bool) (r0 r1 r2 r3 r4 code res : Int) (x y : Int) : (#[.slice sl n c, .int .i64 id, .int .i64 st, .int .i64 op, .int .i64 arg, .int .i64 pc, .int .i64 til, .bool per, .bool can, .int .i64 r0, .int .i64 r1, .int .i64 r2, .int .i64 r3, .int .i64 r4, .int .i64 code, .int .i64 res, .int .i64 x, .int .i64 y] : Array Value).all (·.oneCell') = true := by simp [Value.oneCell']
/-- What holds in the region in which a step is laid out, whatever of it is done. -/
structure R4 (w0 : World) (a0 : Act) (A : Option Addr) (c : Nat) (zs : List Int) (cs : Array Value) (qs : Value → Array Value) (now : Int) (D : Nat → Prop) (a : Act) (w : World) (B : Option Addr) (d k : Nat) : Prop where
  ag : Agree a0 a [11, 21, 22, 23, 24, 25]
  fr : Fr w0 w A c zs cs
  e0 : D 0 → a.eval (.tmp 21) = .agg #[.slice A zs.length c]
  e1 : D 1 → a.eval (.tmp 22) = .agg #[.slice B zs.length d]
  h1 : D 1 → NewA (w0.heap.size + 1 + 1 + 1 + 1) w B d zs
  e2 : D 2 → a.eval (.tmp 23) = .agg cs
  e3 : D 3 → a.eval (.tmp 24) = .int .i64 now
  e4 : D 4 → a.eval (.tmp 25) = .agg (qs (.slice B zs.length d))
  e5 : D 5 → a.eval (.tmp 11) = .pointer (some ⟨k, 0, none⟩)
  h5 : D 5 → w0.heap.size + 1 + 1 + 1 < k
  z5 : D 5 → ¬ D 6 → BoxQ w k #[.slice none 0 0, .int .i64 0, .int .i64 0, .int .i64 0, .int .i64 0, .int .i64 0, .int .i64 0, .bool false, .bool false, .int .i64 0, .int .i64 0, .int .i64 0, .int .i64 0, .int .i64 0, .int .i64 0, .int .i64 0, .int .i64 0, .int .i64 0]
  z6 : D 6 → BoxQ w k (qs (.slice B zs.length d))
/-- What holds in the region in which a step's answers are taken out, whatever of it is done. -/
structure R19 (w0 : World) (a0 : Act) (k : Nat) (B : Option Addr) (d : Nat) (L : List Int) (ts qs : Array Value) (wk : Int) (D : Nat → Prop) (a : Act) (w : World) : Prop where
  ag : Agree a0 a [8, 9, 43, 44, 45, 46, 47, 48]
  bq : BoxQ w k qs
  nw : NewA (w0.heap.size + 1 + 1 + 1 + 1) w B d L
  be : Below w0.heap.size w0 w
  a0' : ¬ D 6 → BoxA w (w0.heap.size + 1 + 1) (.slice none 0 0)
  a1 : D 6 → BoxA w (w0.heap.size + 1 + 1) (.slice B L.length d)
  t0 : ¬ D 7 → BoxT w (w0.heap.size + 1 + 1 + 1) #[.int .i64 0, .int .i64 0, .int .i64 0, .int .i64 0, .int .i64 0, .int .i64 0, .bool false, .bool false, .int .i64 0, .int .i64 0, .int .i64 0, .int .i64 0, .int .i64 0, .int .i64 0, .int .i64 0]
  t1 : D 7 → BoxT w (w0.heap.size + 1 + 1 + 1) ts
  e0 : D 0 → a.eval (.tmp 43) = .pointer (some ⟨k, 0, none⟩)
  e1 : D 1 → a.eval (.tmp 44) = .agg #[.slice B L.length d]
  e2 : D 2 → a.eval (.tmp 45) = .pointer (some ⟨k, 1, none⟩)
  e3 : D 3 → a.eval (.tmp 46) = .agg ts
  e4 : D 4 → a.eval (.tmp 47) = .pointer (some ⟨k, 17, none⟩)
  e5 : D 5 → a.eval (.tmp 48) = .int .i64 wk
  e8 : D 8 → a.eval (.tmp 8) = .int .i64 wk
  e9 : D 9 → a.eval (.tmp 9) = .int .i64 0
set_option maxHeartbeats 40000000 in
set_option maxRecDepth 100000 in
theorem implStep_ok (id st op arg pc til : Int) (per can : Bool) (r0 r1 r2 r3 r4 code res : Int) (now wk : Int) (id' : Int) (st' : Int) (op' : Int) (arg' : Int) (pc' : Int) (til' : Int) (per' : Bool) (can' : Bool) (s0 : Int) (s1 : Int) (s2 : Int) (s3 : Int) (s4 : Int) (code' : Int) (res' : Int) (w : World) (A : Option Addr) (c : Nat) (zs : List Int) (hK : askB zs id st op arg pc til per can r0 r1 r2 r3 r4 code res now = 0) (hA : Rd w A zs) (L : List Int) (h : StepTo zs id st op arg til per can r0 r1 r2 r3 r4 code res now pc L ⟨id', st', op', arg', pc', til', per', can', s0, s1, s2, s3, s4, code', res'⟩ wk) :
    Calls Try.prog 9 #[.agg #[.slice A zs.length c], .agg #[.int .i64 id, .int .i64 st, .int .i64 op, .int .i64 arg, .int .i64 pc, .int .i64 til, .bool per, .bool can, .int .i64 r0, .int .i64 r1, .int .i64 r2, .int .i64 r3, .int .i64 r4, .int .i64 code, .int .i64 res], .int .i64 now] w fun e w' => ∃ B d, e = .returned (.tuple #[.agg #[.slice B L.length d], .agg #[.int .i64 id', .int .i64 st', .int .i64 op', .int .i64 arg', .int .i64 pc', .int .i64 til', .bool per', .bool can', .int .i64 s0, .int .i64 s1, .int .i64 s2, .int .i64 s3, .int .i64 s4, .int .i64 code', .int .i64 res'], .int .i64 wk, .int .i64 0]) ∧ NewA w.heap.size w' B d L ∧ Below w.heap.size w w' := by
  have hC := askB_cond hK
  have hn := hC.len
  have HL1 : Hid (1 ≤ zs.length) := (arenaB_parts hC.ha).1
  have HC := Lib.hid hC; have HK := Lib.hid hK; have HS := Lib.hid h; clear hC hK h
  have HF := Lib.hid (Fr.start w A c zs #[.int .i64 id, .int .i64 st, .int .i64 op, .int .i64 arg, .int .i64 pc, .int .i64 til, .bool per, .bool can, .int .i64 r0, .int .i64 r1, .int .i64 r2, .int .i64 r3, .int .i64 r4, .int .i64 code, .int .i64 res] hA)
  have HA := Lib.hid hA; clear hA
  go_enter Try.func9, Try.ntmps9
  go_wp2_with fail
  refine (askP_any _ _ zs _ _ _ _ _ _ _ _ _ _ _ _ _ _ _ now _ hn HF.out.rd).mono ?_
  rintro e w1 ⟨rfl, hb⟩
  rw [HK.out]
  have HF1 := Lib.hid (HF.out.below hb); clear hb HF
  have ha1 := HF1.out.a.cell; have ht1 := HF1.out.t.cell; have HZ1 := Lib.hid HF1.out.size
  go_upto_region 4 with fail
  clear ha1 ht1
  refine region_cut (fun a0 D a w' => ∃ B d k, R4 w a0 A c zs #[.int .i64 id, .int .i64 st, .int .i64 op, .int .i64 arg, .int .i64 pc, .int .i64 til, .bool per, .bool can, .int .i64 r0, .int .i64 r1, .int .i64 r2, .int .i64 r3, .int .i64 r4, .int .i64 code, .int .i64 res] (fun v : Value => (#[v, .int .i64 id, .int .i64 st, .int .i64 op, .int .i64 arg, .int .i64 pc, .int .i64 til, .bool per, .bool can, .int .i64 r0, .int .i64 r1, .int .i64 r2, .int .i64 r3, .int .i64 r4, .int .i64 code, .int .i64 res, .int .i64 now, .int .i64 (-1)] : Array Value)) now D a w' B d k) (fun a0 a w' => ∃ B d k, Agree a0 a [11, 21, 22, 23, 24, 25] ∧ a.eval (.tmp 11) = .pointer (some ⟨k, 0, none⟩) ∧ w.heap.size + 1 + 1 + 1 < k ∧ BoxQ w' k ((fun v : Value => (#[v, .int .i64 id, .int .i64 st, .int .i64 op, .int .i64 arg, .int .i64 pc, .int .i64 til, .bool per, .bool can, .int .i64 r0, .int .i64 r1, .int .i64 r2, .int .i64 r3, .int .i64 r4, .int .i64 code, .int .i64 res, .int .i64 now, .int .i64 (-1)] : Array Value)) (.slice B zs.length d)) ∧ NewA (w.heap.size + 1 + 1 + 1 + 1) w' B d zs ∧ Fr w w' A c zs #[.int .i64 id, .int .i64 st, .int .i64 op, .int .i64 arg, .int .i64 pc, .int .i64 til, .bool per, .bool can, .int .i64 r0, .int .i64 r1, .int .i64 r2, .int .i64 r3, .int .i64 r4, .int .i64 code, .int .i64 res]) (by kernel_rfl) (by kernel_rfl) ?_ ?_ ?_ ?_
  · exact ⟨none, 0, 0, ⟨Agree.refl _ _, HF1.out.drew, fun x => x.elim, fun x => x.elim, fun x => x.elim, fun x => x.elim, fun x => x.elim, fun x => x.elim, fun x => x.elim, fun x => x.elim, fun x => x.elim, fun x => x.elim⟩⟩
  · intro K'
    refine Steps.cons (i := 0) (j := 1) rfl ?_ (Steps.cons (i := 1) (j := 2) rfl ?_ (Steps.cons (i := 2) (j := 3) rfl ?_ (Steps.cons (i := 3) (j := 4) rfl ?_ (Steps.cons (i := 4) (j := 5) rfl ?_ (Steps.cons (i := 5) (j := 6) rfl ?_ (Steps.cons (i := 6) (j := 7) rfl ?_ (Steps.nil)))))))
    · intro D a w' hI hD hdep hcl
      obtain ⟨B, d, k, h⟩ := hI
      refine wp_load_row 25 _ rfl w.heap.size ((h.ag.eval (by decide)).trans rfl) 25 _ (0, 0) _ h.fr.a Try.underlying25 rfl (by kernel_rfl) ?_
      exact ⟨B, d, k, ⟨h.ag.put (by decide) _, h.fr, fun _ => eval_put_same a _ (h.ag.lt rfl), fun x => absurd (dep_of 0 rfl (hcl 1 _ rfl (x.resolve_left (by decide)))) hD, fun x => absurd (dep_of 0 rfl (hcl 1 _ rfl (x.resolve_left (by decide)))) hD, slot_keep h.e2 (by decide) (by decide), slot_keep h.e3 (by decide) (by decide), fun x => absurd (dep_of 0 rfl (hcl 1 _ rfl (dep_of 1 rfl (hcl 4 _ rfl (x.resolve_left (by decide)))))) hD, slot_keep h.e5 (by decide) (by decide), fun x => h.h5 (x.resolve_left (by decide)), fun x n => h.z5 (x.resolve_left (by decide)) (fun y => n (Or.inr y)), fun x => absurd (dep_of 0 rfl (hcl 6 _ rfl (x.resolve_left (by decide)))) hD⟩⟩
    · intro D a w' hI hD hdep hcl
      obtain ⟨B, d, k, h⟩ := hI
      have he := eval_get (h.e0 (dep_of 0 rfl hdep))
      refine wp_call_fn (f := 27) (vs := #[.agg #[.slice A zs.length c]]) (by go_simp) ?_
      refine (copyArena_any A c zs w' hn h.fr.rd).mono ?_
      rintro e v1 ⟨B', d', rfl, hnew, hb⟩
      refine ⟨_, rfl, ?_⟩
      exact ⟨B', d', k, ⟨h.ag.put (by decide) _, h.fr.below hb, slot_keep h.e0 (by decide) (by decide), fun _ => eval_put_same a _ (h.ag.lt rfl), fun _ => hnew.base (by have := h.fr.size; omega), slot_keep h.e2 (by decide) (by decide), slot_keep h.e3 (by decide) (by decide), fun x => absurd (dep_of 1 rfl (hcl 4 _ rfl (x.resolve_left (by decide)))) hD, slot_keep h.e5 (by decide) (by decide), fun x => h.h5 (x.resolve_left (by decide)), fun x n => (h.z5 (x.resolve_left (by decide)) (fun y => n (Or.inr y))).below hb, fun x => absurd (dep_of 1 rfl (hcl 6 _ rfl (x.resolve_left (by decide)))) hD⟩⟩
    · intro D a w' hI hD hdep hcl
      obtain ⟨B, d, k, h⟩ := hI
      refine wp_load_row 29 _ rfl (w.heap.size + 1) ((h.ag.eval (by decide)).trans rfl) 29 _ (0, 0) _ h.fr.t Try.underlying29 rfl info_th ?_
      exact ⟨B, d, k, ⟨h.ag.put (by decide) _, h.fr, slot_keep h.e0 (by decide) (by decide), slot_keep h.e1 (by decide) (by decide), fun x => h.h1 (x.resolve_left (by decide)), fun _ => eval_put_same a _ (h.ag.lt rfl), slot_keep h.e3 (by decide) (by decide), fun x => absurd (dep_of 2 rfl (hcl 4 _ rfl (x.resolve_left (by decide)))) hD, slot_keep h.e5 (by decide) (by decide), fun x => h.h5 (x.resolve_left (by decide)), fun x n => h.z5 (x.resolve_left (by decide)) (fun y => n (Or.inr y)), fun x => absurd (dep_of 2 rfl (hcl 6 _ rfl (x.resolve_left (by decide)))) hD⟩⟩
    · intro D a w' hI hD hdep hcl
      obtain ⟨B, d, k, h⟩ := hI
      have he := eval_get (show a.eval (.tmp 2) = .int .i64 now from (h.ag.eval (by decide)).trans rfl)
      refine wp_yield (v := .int .i64 now) (w' := w') (by go_simp) ?_
      exact ⟨B, d, k, ⟨h.ag.put (by decide) _, h.fr, slot_keep h.e0 (by decide) (by decide), slot_keep h.e1 (by decide) (by decide), fun x => h.h1 (x.resolve_left (by decide)), slot_keep h.e2 (by decide) (by decide), fun _ => eval_put_same a _ (h.ag.lt rfl), fun x => absurd (dep_of 3 rfl (hcl 4 _ rfl (x.resolve_left (by decide)))) hD, slot_keep h.e5 (by decide) (by decide), fun x => h.h5 (x.resolve_left (by decide)), fun x n => h.z5 (x.resolve_left (by decide)) (fun y => n (Or.inr y)), fun x => absurd (dep_of 3 rfl (hcl 6 _ rfl (x.resolve_left (by decide)))) hD⟩⟩
    · intro D a w' hI hD hdep hcl
      obtain ⟨B, d, k, h⟩ := hI
      have he1 := eval_get (h.e1 (dep_of 1 rfl hdep)); have he2 := eval_get (h.e2 (dep_of 2 rfl hdep)); have he3 := eval_get (h.e3 (dep_of 3 rfl hdep))
      refine wp_yield (v := .agg #[(.slice B zs.length d), .int .i64 id, .int .i64 st, .int .i64 op, .int .i64 arg, .int .i64 pc, .int .i64 til, .bool per, .bool can, .int .i64 r0, .int .i64 r1, .int .i64 r2, .int .i64 r3, .int .i64 r4, .int .i64 code, .int .i64 res, .int .i64 now, .int .i64 (-1)]) (w' := w') (by go_simp) ?_
      exact ⟨B, d, k, ⟨h.ag.put (by decide) _, h.fr, slot_keep h.e0 (by decide) (by decide), slot_keep h.e1 (by decide) (by decide), fun x => h.h1 (x.resolve_left (by decide)), slot_keep h.e2 (by decide) (by decide), slot_keep h.e3 (by decide) (by decide), fun _ => eval_put_same a _ (h.ag.lt rfl), slot_keep h.e5 (by decide) (by decide), fun x => h.h5 (x.resolve_left (by decide)), fun x n => h.z5 (x.resolve_left (by decide)) (fun y => n (Or.inr y)), fun x => absurd (dep_of 4 rfl (hcl 6 _ rfl (x.resolve_left (by decide)))) hD⟩⟩
    · intro D a w' hI hD hdep hcl
      obtain ⟨B, d, k, h⟩ := hI
      refine wp_yield (v := .pointer (some ⟨w'.heap.size, 0, none⟩)) (w' := w'.alloc (.cells #[.slice none 0 0, .int .i64 0, .int .i64 0, .int .i64 0, .int .i64 0, .int .i64 0, .int .i64 0, .bool false, .bool false, .int .i64 0, .int .i64 0, .int .i64 0, .int .i64 0, .int .i64 0, .int .i64 0, .int .i64 0, .int .i64 0, .int .i64 0] 60)) (by go_simp) ?_
      exact ⟨B, d, w'.heap.size, ⟨h.ag.put (by decide) _, h.fr.below (below_alloc _ _), slot_keep h.e0 (by decide) (by decide), slot_keep h.e1 (by decide) (by decide), fun x => (h.h1 (x.resolve_left (by decide))).below (below_alloc _ _), slot_keep h.e2 (by decide) (by decide), slot_keep h.e3 (by decide) (by decide), slot_keep h.e4 (by decide) (by decide), fun _ => eval_put_same a _ (h.ag.lt rfl), fun _ => h.fr.size, fun _ _ => BoxQ.new _ _, fun x => absurd (dep_of 5 rfl (hcl 6 _ rfl (x.resolve_left (by decide)))) hD⟩⟩
    · intro D a w' hI hD hdep hcl
      obtain ⟨B, d, k, h⟩ := hI
      have h5d := dep_of 5 rfl hdep
      have hbx := h.z5 h5d hD
      refine wp_store_row 60 _ _ rfl k _ (h.e5 h5d) (h.e4 (dep_of 4 rfl hdep)) 60 _ hbx (by kernel_rfl) rfl (one18 _ _ _ _ _ _ _ _ _ _ _ _ _ _ _ _ _ _ now (-1)) ?_
      exact ⟨B, d, k, ⟨h.ag, h.fr.grown HA.out HL1.out (grown_row (grown_refl w' (some k)) _) (h.h5 h5d), fun x => h.e0 (x.resolve_left (by decide)), fun x => h.e1 (x.resolve_left (by decide)), fun x => (h.h1 (x.resolve_left (by decide))).kept (grown_row (grown_refl w' (some k)) _) (BoxQ.ne_own hbx (h.h1 (x.resolve_left (by decide)))), fun x => h.e2 (x.resolve_left (by decide)), fun x => h.e3 (x.resolve_left (by decide)), fun x => h.e4 (x.resolve_left (by decide)), fun x => h.e5 (x.resolve_left (by decide)), fun x => h.h5 (x.resolve_left (by decide)), fun _ n => absurd (Or.inl rfl) n, fun _ => hbx.row _⟩⟩
  · rintro D a w' ⟨B, d, k, h⟩ hD
    have hd := fun i (hi : Nat.ble (i + 1) 7 = true) => hD i (Nat.le_of_ble_eq_true hi)
    exact ⟨B, d, k, h.ag, h.e5 (hd 5 rfl), h.h5 (hd 5 rfl), h.z6 (hd 6 rfl), h.h1 (hd 1 rfl), h.fr⟩
  rintro a' w2 ⟨B, d, k, hag, h11, hk, hbx, hnw, hfr⟩
  have he := hag.eq
  clear hag HF1
  simp only [List.foldl_cons, List.foldl_nil] at he
  rw [h11] at he
  clear h11
  generalize a'.eval (.tmp 21) = u21 at he
  generalize a'.eval (.tmp 22) = u22 at he
  generalize a'.eval (.tmp 23) = u23 at he
  generalize a'.eval (.tmp 24) = u24 at he
  generalize a'.eval (.tmp 25) = u25 at he
  simp only [Act.put, List.setIfInBounds_toArray, List.set_cons_zero, List.set_cons_succ] at he
  subst he
  have hpc : pc = 0 ∨ pc = 1 ∨ pc = 2 ∨ pc = 3 ∨ pc = 4 ∨ pc = 5 ∨ pc = 6 ∨ pc = 7 ∨ pc = 8 ∨ pc = 9 ∨ pc = 10 ∨ pc = 11 ∨ pc = 12 ∨ pc = 13 ∨ pc = 14 ∨ pc = 15 ∨ pc = 16 := by have := inB_iff.1 HC.out.parts.2.2.1; omega
  have HF2 := Lib.hid hfr; have HX2 := Lib.hid hbx; have HN2 := Lib.hid hnw; have HKK := Lib.hid hk
  clear hfr hbx hnw hk
  have ht2 := HF2.out.t.cell
  go_upto_block 0 with fail
  go_cut [] (fun wx => ∃ B' d', BoxQ wx k #[.slice B' L.length d', .int .i64 id', .int .i64 st', .int .i64 op', .int .i64 arg', .int .i64 pc', .int .i64 til', .bool per', .bool can', .int .i64 s0, .int .i64 s1, .int .i64 s2, .int .i64 s3, .int .i64 s4, .int .i64 code', .int .i64 res', .int .i64 now, .int .i64 wk] ∧ NewA (w.heap.size + 1 + 1 + 1 + 1) wx B' d' L ∧ Fr w wx A c zs #[.int .i64 id, .int .i64 st, .int .i64 op, .int .i64 arg, .int .i64 pc, .int .i64 til, .bool per, .bool can, .int .i64 r0, .int .i64 r1, .int .i64 r2, .int .i64 r3, .int .i64 r4, .int .i64 code, .int .i64 res])
  case first =>
    rcases hpc with rfl | rfl | rfl | rfl | rfl | rfl | rfl | rfl | rfl | rfl | rfl | rfl | rfl | rfl | rfl | rfl | rfl
    · go_wp2_with fail
      refine (qjoin_all _ _ _ _ _ _ _ _ _ _ _ _ _ _ _ now (-1) wk _ _ _ _ _ _ _ _ _ _ _ _ _ _ _ k (w.heap.size + 1 + 1 + 1 + 1) w2 B d zs HC.out (by decide) rfl HF2.out.size HX2.out HN2.out L HS.out).mono ?_
      rintro e w3 ⟨B', d', rfl, hq⟩
      go_wp2_with fail
      go_meet
      exact ⟨B', d', hq.box, hq.own, HF2.out.grown HA.out HL1.out hq.gr HKK.out⟩
    · go_wp2_with fail
      refine (qjoin_all _ _ _ _ _ _ _ _ _ _ _ _ _ _ _ now (-1) wk _ _ _ _ _ _ _ _ _ _ _ _ _ _ _ k (w.heap.size + 1 + 1 + 1 + 1) w2 B d zs HC.out (by decide) rfl HF2.out.size HX2.out HN2.out L HS.out).mono ?_
      rintro e w3 ⟨B', d', rfl, hq⟩
      go_wp2_with fail
      go_meet
      exact ⟨B', d', hq.box, hq.own, HF2.out.grown HA.out HL1.out hq.gr HKK.out⟩
    · go_wp2_with fail
      refine (qjoin_all _ _ _ _ _ _ _ _ _ _ _ _ _ _ _ now (-1) wk _ _ _ _ _ _ _ _ _ _ _ _ _ _ _ k (w.heap.size + 1 + 1 + 1 + 1) w2 B d zs HC.out (by decide) rfl HF2.out.size HX2.out HN2.out L HS.out).mono ?_
      rintro e w3 ⟨B', d', rfl, hq⟩
      go_wp2_with fail
      go_meet
      exact ⟨B', d', hq.box, hq.own, HF2.out.grown HA.out HL1.out hq.gr HKK.out⟩
    · go_wp2_with fail
      refine (qjoin_all _ _ _ _ _ _ _ _ _ _ _ _ _ _ _ now (-1) wk _ _ _ _ _ _ _ _ _ _ _ _ _ _ _ k (w.heap.size + 1 + 1 + 1 + 1) w2 B d zs HC.out (by decide) rfl HF2.out.size HX2.out HN2.out L HS.out).mono ?_
      rintro e w3 ⟨B', d', rfl, hq⟩
      go_wp2_with fail
      go_meet
      exact ⟨B', d', hq.box, hq.own, HF2.out.grown HA.out HL1.out hq.gr HKK.out⟩
    · go_wp2_with fail
      refine (qjoin_all _ _ _ _ _ _ _ _ _ _ _ _ _ _ _ now (-1) wk _ _ _ _ _ _ _ _ _ _ _ _ _ _ _ k (w.heap.size + 1 + 1 + 1 + 1) w2 B d zs HC.out (by decide) rfl HF2.out.size HX2.out HN2.out L HS.out).mono ?_
      rintro e w3 ⟨B', d', rfl, hq⟩
      go_wp2_with fail
      go_meet
      exact ⟨B', d', hq.box, hq.own, HF2.out.grown HA.out HL1.out hq.gr HKK.out⟩
    · go_wp2_with fail
      refine (qjoin_all _ _ _ _ _ _ _ _ _ _ _ _ _ _ _ now (-1) wk _ _ _ _ _ _ _ _ _ _ _ _ _ _ _ k (w.heap.size + 1 + 1 + 1 + 1) w2 B d zs HC.out (by decide) rfl HF2.out.size HX2.out HN2.out L HS.out).mono ?_
      rintro e w3 ⟨B', d', rfl, hq⟩
      go_wp2_with fail
      go_meet
      exact ⟨B', d', hq.box, hq.own, HF2.out.grown HA.out HL1.out hq.gr HKK.out⟩
    · go_wp2_with fail
      refine (qserve_all _ _ _ _ _ _ _ _ _ _ _ _ _ _ _ now (-1) wk _ _ _ _ _ _ _ _ _ _ _ _ _ _ _ k (w.heap.size + 1 + 1 + 1 + 1) w2 B d zs HC.out (by decide) rfl HF2.out.size HX2.out HN2.out L HS.out).mono ?_
      rintro e w3 ⟨B', d', rfl, hq⟩
      go_wp2_with fail
      go_meet
      exact ⟨B', d', hq.box, hq.own, HF2.out.grown HA.out HL1.out hq.gr HKK.out⟩
    · go_wp2_with fail
      refine (qserve_all _ _ _ _ _ _ _ _ _ _ _ _ _ _ _ now (-1) wk _ _ _ _ _ _ _ _ _ _ _ _ _ _ _ k (w.heap.size + 1 + 1 + 1 + 1) w2 B d zs HC.out (by decide) rfl HF2.out.size HX2.out HN2.out L HS.out).mono ?_
      rintro e w3 ⟨B', d', rfl, hq⟩
      go_wp2_with fail
      go_meet
      exact ⟨B', d', hq.box, hq.own, HF2.out.grown HA.out HL1.out hq.gr HKK.out⟩
    · go_wp2_with fail
      refine (qjoin_all _ _ _ _ _ _ _ _ _ _ _ _ _ _ _ now (-1) wk _ _ _ _ _ _ _ _ _ _ _ _ _ _ _ k (w.heap.size + 1 + 1 + 1 + 1) w2 B d zs HC.out (by decide) rfl HF2.out.size HX2.out HN2.out L HS.out).mono ?_
      rintro e w3 ⟨B', d', rfl, hq⟩
      go_wp2_with fail
      go_meet
      exact ⟨B', d', hq.box, hq.own, HF2.out.grown HA.out HL1.out hq.gr HKK.out⟩
    · go_wp2_with fail
      refine (qwait_all _ _ _ _ _ _ _ _ _ _ _ _ _ _ _ now (-1) wk _ _ _ _ _ _ _ _ _ _ _ _ _ _ _ k (w.heap.size + 1 + 1 + 1 + 1) w2 B d zs HC.out (by decide) rfl HF2.out.size HX2.out HN2.out L HS.out).mono ?_
      rintro e w3 ⟨B', d', rfl, hq⟩
      go_wp2_with fail
      go_meet
      exact ⟨B', d', hq.box, hq.own, HF2.out.grown HA.out HL1.out hq.gr HKK.out⟩
    · go_wp2_with fail
      refine (qwait_all _ _ _ _ _ _ _ _ _ _ _ _ _ _ _ now (-1) wk _ _ _ _ _ _ _ _ _ _ _ _ _ _ _ k (w.heap.size + 1 + 1 + 1 + 1) w2 B d zs HC.out (by decide) rfl HF2.out.size HX2.out HN2.out L HS.out).mono ?_
      rintro e w3 ⟨B', d', rfl, hq⟩
      go_wp2_with fail
      go_meet
      exact ⟨B', d', hq.box, hq.own, HF2.out.grown HA.out HL1.out hq.gr HKK.out⟩
    · go_wp2_with fail
      refine (qwait_all _ _ _ _ _ _ _ _ _ _ _ _ _ _ _ now (-1) wk _ _ _ _ _ _ _ _ _ _ _ _ _ _ _ k (w.heap.size + 1 + 1 + 1 + 1) w2 B d zs HC.out (by decide) rfl HF2.out.size HX2.out HN2.out L HS.out).mono ?_
      rintro e w3 ⟨B', d', rfl, hq⟩
      go_wp2_with fail
      go_meet
      exact ⟨B', d', hq.box, hq.own, HF2.out.grown HA.out HL1.out hq.gr HKK.out⟩
    · go_wp2_with fail
      refine (qserve_all _ _ _ _ _ _ _ _ _ _ _ _ _ _ _ now (-1) wk _ _ _ _ _ _ _ _ _ _ _ _ _ _ _ k (w.heap.size + 1 + 1 + 1 + 1) w2 B d zs HC.out (by decide) rfl HF2.out.size HX2.out HN2.out L HS.out).mono ?_
      rintro e w3 ⟨B', d', rfl, hq⟩
      go_wp2_with fail
      go_meet
      exact ⟨B', d', hq.box, hq.own, HF2.out.grown HA.out HL1.out hq.gr HKK.out⟩
    · go_wp2_with fail
      refine (qserve_all _ _ _ _ _ _ _ _ _ _ _ _ _ _ _ now (-1) wk _ _ _ _ _ _ _ _ _ _ _ _ _ _ _ k (w.heap.size + 1 + 1 + 1 + 1) w2 B d zs HC.out (by decide) rfl HF2.out.size HX2.out HN2.out L HS.out).mono ?_
      rintro e w3 ⟨B', d', rfl, hq⟩
      go_wp2_with fail
      go_meet
      exact ⟨B', d', hq.box, hq.own, HF2.out.grown HA.out HL1.out hq.gr HKK.out⟩
    · go_wp2_with fail
      refine (qserve_all _ _ _ _ _ _ _ _ _ _ _ _ _ _ _ now (-1) wk _ _ _ _ _ _ _ _ _ _ _ _ _ _ _ k (w.heap.size + 1 + 1 + 1 + 1) w2 B d zs HC.out (by decide) rfl HF2.out.size HX2.out HN2.out L HS.out).mono ?_
      rintro e w3 ⟨B', d', rfl, hq⟩
      go_wp2_with fail
      go_meet
      exact ⟨B', d', hq.box, hq.own, HF2.out.grown HA.out HL1.out hq.gr HKK.out⟩
    · go_wp2_with fail
      refine (qserve_all _ _ _ _ _ _ _ _ _ _ _ _ _ _ _ now (-1) wk _ _ _ _ _ _ _ _ _ _ _ _ _ _ _ k (w.heap.size + 1 + 1 + 1 + 1) w2 B d zs HC.out (by decide) rfl HF2.out.size HX2.out HN2.out L HS.out).mono ?_
      rintro e w3 ⟨B', d', rfl, hq⟩
      go_wp2_with fail
      go_meet
      exact ⟨B', d', hq.box, hq.own, HF2.out.grown HA.out HL1.out hq.gr HKK.out⟩
    · go_wp2_with fail
      refine (qserve_all _ _ _ _ _ _ _ _ _ _ _ _ _ _ _ now (-1) wk _ _ _ _ _ _ _ _ _ _ _ _ _ _ _ k (w.heap.size + 1 + 1 + 1 + 1) w2 B d zs HC.out (by decide) rfl HF2.out.size HX2.out HN2.out L HS.out).mono ?_
      rintro e w3 ⟨B', d', rfl, hq⟩
      go_wp2_with fail
      go_meet
      exact ⟨B', d', hq.box, hq.own, HF2.out.grown HA.out HL1.out hq.gr HKK.out⟩
  case rest =>
  generalize wc = w3 at hcut ⊢
  obtain ⟨B', d', hx, hn3, hf3⟩ := hcut
  have HF3 := Lib.hid hf3; have HX3 := Lib.hid hx; have HN3 := Lib.hid hn3
  clear hx hn3 hf3 HF2 HX2 HN2 ht2
  have hkk := HKK.out
  as_aux_lemma =>
  go_upto_region 19 with fail
  refine region_cut (fun a0 D a w' => R19 w a0 k B' d' L #[.int .i64 id', .int .i64 st', .int .i64 op', .int .i64 arg', .int .i64 pc', .int .i64 til', .bool per', .bool can', .int .i64 s0, .int .i64 s1, .int .i64 s2, .int .i64 s3, .int .i64 s4, .int .i64 code', .int .i64 res'] #[.slice B' L.length d', .int .i64 id', .int .i64 st', .int .i64 op', .int .i64 arg', .int .i64 pc', .int .i64 til', .bool per', .bool can', .int .i64 s0, .int .i64 s1, .int .i64 s2, .int .i64 s3, .int .i64 s4, .int .i64 code', .int .i64 res', .int .i64 now, .int .i64 wk] wk D a w') (fun a0 a w' => Agree a0 a [8, 9, 43, 44, 45, 46, 47, 48] ∧ a.eval (.tmp 8) = .int .i64 wk ∧ a.eval (.tmp 9) = .int .i64 0 ∧ BoxA w' (w.heap.size + 1 + 1) (.slice B' L.length d') ∧ BoxT w' (w.heap.size + 1 + 1 + 1) #[.int .i64 id', .int .i64 st', .int .i64 op', .int .i64 arg', .int .i64 pc', .int .i64 til', .bool per', .bool can', .int .i64 s0, .int .i64 s1, .int .i64 s2, .int .i64 s3, .int .i64 s4, .int .i64 code', .int .i64 res'] ∧ NewA (w.heap.size + 1 + 1 + 1 + 1) w' B' d' L ∧ Below w.heap.size w w') (by kernel_rfl) (by kernel_rfl) ?_ ?_ ?_ ?_
  · exact ⟨Agree.refl _ _, HX3.out.drew, HN3.out, HF3.out.drew.b, fun _ => HF3.out.ra, fun x => x.elim, fun _ => HF3.out.rt, fun x => x.elim, fun x => x.elim, fun x => x.elim, fun x => x.elim, fun x => x.elim, fun x => x.elim, fun x => x.elim, fun x => x.elim, fun x => x.elim⟩
  · intro K'
    refine Steps.cons (i := 0) (j := 1) rfl ?_ (Steps.cons (i := 1) (j := 2) rfl ?_ (Steps.cons (i := 2) (j := 3) rfl ?_ (Steps.cons (i := 3) (j := 4) rfl ?_ (Steps.cons (i := 4) (j := 5) rfl ?_ (Steps.cons (i := 5) (j := 6) rfl ?_ (Steps.cons (i := 6) (j := 7) rfl ?_ (Steps.cons (i := 7) (j := 8) rfl ?_ (Steps.cons (i := 8) (j := 9) rfl ?_ (Steps.cons (i := 9) (j := 10) rfl ?_ (Steps.nil))))))))))
    · intro D a w' h hD hdep hcl
      have he : a.tmps[11]?.getD undef = .pointer (some ⟨k, 0, none⟩) := eval_get ((h.ag.eval (show 11 ∉ [8, 9, 43, 44, 45, 46, 47, 48] by decide)).trans rfl)
      refine wp_yield (v := .pointer (some ⟨k, 0, none⟩)) (w' := w') (by clear h hdep hcl hD HF3 HX3 HN3; go_simp) ?_
      exact ⟨h.ag.put (by decide) _, h.bq, h.nw, h.be, fun n => h.a0' (fun y => n (Or.inr y)), fun x => h.a1 (x.resolve_left (by decide)), fun n => h.t0 (fun y => n (Or.inr y)), fun x => h.t1 (x.resolve_left (by decide)), fun _ => eval_put_same a _ (h.ag.lt rfl), fun x => absurd (dep_of 0 rfl (hcl 1 _ rfl (x.resolve_left (by decide)))) hD, slot_keep h.e2 (by decide) (by decide), slot_keep h.e3 (by decide) (by decide), slot_keep h.e4 (by decide) (by decide), slot_keep h.e5 (by decide) (by decide), fun x => absurd (dep_of 0 rfl (hcl 8 _ rfl (x.resolve_left (by decide)))) hD, fun x => absurd (dep_of 0 rfl (hcl 9 _ rfl (x.resolve_left (by decide)))) hD⟩
    · intro D a w' h hD hdep hcl
      have he := eval_get (h.e0 (dep_of 0 rfl hdep))
      have hx := h.bq.cell
      refine wp_yield (v := .agg #[.slice B' L.length d']) (w' := w') (by clear h hdep hcl hD HF3 HX3 HN3; go_simp) ?_
      exact ⟨h.ag.put (by decide) _, h.bq, h.nw, h.be, fun n => h.a0' (fun y => n (Or.inr y)), fun x => h.a1 (x.resolve_left (by decide)), fun n => h.t0 (fun y => n (Or.inr y)), fun x => h.t1 (x.resolve_left (by decide)), slot_keep h.e0 (by decide) (by decide), fun _ => eval_put_same a _ (h.ag.lt rfl), slot_keep h.e2 (by decide) (by decide), slot_keep h.e3 (by decide) (by decide), slot_keep h.e4 (by decide) (by decide), slot_keep h.e5 (by decide) (by decide), fun x => absurd (dep_of 1 rfl (hcl 8 _ rfl (x.resolve_left (by decide)))) hD, fun x => absurd (dep_of 1 rfl (hcl 9 _ rfl (x.resolve_left (by decide)))) hD⟩
    · intro D a w' h hD hdep hcl
      have he : a.tmps[11]?.getD undef = .pointer (some ⟨k, 0, none⟩) := eval_get ((h.ag.eval (show 11 ∉ [8, 9, 43, 44, 45, 46, 47, 48] by decide)).trans rfl)
      refine wp_yield (v := .pointer (some ⟨k, 1, none⟩)) (w' := w') (by clear h hdep hcl hD HF3 HX3 HN3; go_simp) ?_
      exact ⟨h.ag.put (by decide) _, h.bq, h.nw, h.be, fun n => h.a0' (fun y => n (Or.inr y)), fun x => h.a1 (x.resolve_left (by decide)), fun n => h.t0 (fun y => n (Or.inr y)), fun x => h.t1 (x.resolve_left (by decide)), slot_keep h.e0 (by decide) (by decide), slot_keep h.e1 (by decide) (by decide), fun _ => eval_put_same a _ (h.ag.lt rfl), fun x => absurd (dep_of 2 rfl (hcl 3 _ rfl (x.resolve_left (by decide)))) hD, slot_keep h.e4 (by decide) (by decide), slot_keep h.e5 (by decide) (by decide), fun x => absurd (dep_of 2 rfl (hcl 8 _ rfl (x.resolve_left (by decide)))) hD, fun x => absurd (dep_of 2 rfl (hcl 9 _ rfl (x.resolve_left (by decide)))) hD⟩
    · intro D a w' h hD hdep hcl
      have he := eval_get (h.e2 (dep_of 2 rfl hdep))
      have hx := h.bq.cell
      refine wp_yield (v := .agg #[.int .i64 id', .int .i64 st', .int .i64 op', .int .i64 arg', .int .i64 pc', .int .i64 til', .bool per', .bool can', .int .i64 s0, .int .i64 s1, .int .i64 s2, .int .i64 s3, .int .i64 s4, .int .i64 code', .int .i64 res']) (w' := w') (by clear h hdep hcl hD HF3 HX3 HN3; go_simp) ?_
      exact ⟨h.ag.put (by decide) _, h.bq, h.nw, h.be, fun n => h.a0' (fun y => n (Or.inr y)), fun x => h.a1 (x.resolve_left (by decide)), fun n => h.t0 (fun y => n (Or.inr y)), fun x => h.t1 (x.resolve_left (by decide)), slot_keep h.e0 (by decide) (by decide), slot_keep h.e1 (by decide) (by decide), slot_keep h.e2 (by decide) (by decide), fun _ => eval_put_same a _ (h.ag.lt rfl), slot_keep h.e4 (by decide) (by decide), slot_keep h.e5 (by decide) (by decide), fun x => absurd (dep_of 3 rfl (hcl 8 _ rfl (x.resolve_left (by decide)))) hD, fun x => absurd (dep_of 3 rfl (hcl 9 _ rfl (x.resolve_left (by decide)))) hD⟩
    · intro D a w' h hD hdep hcl
      have he : a.tmps[11]?.getD undef = .pointer (some ⟨k, 0, none⟩) := eval_get ((h.ag.eval (show 11 ∉ [8, 9, 43, 44, 45, 46, 47, 48] by decide)).trans rfl)
      refine wp_yield (v := .pointer (some ⟨k, 17, none⟩)) (w' := w') (by clear h hdep hcl hD HF3 HX3 HN3; go_simp) ?_
      exact ⟨h.ag.put (by decide) _, h.bq, h.nw, h.be, fun n => h.a0' (fun y => n (Or.inr y)), fun x => h.a1 (x.resolve_left (by decide)), fun n => h.t0 (fun y => n (Or.inr y)), fun x => h.t1 (x.resolve_left (by decide)), slot_keep h.e0 (by decide) (by decide), slot_keep h.e1 (by decide) (by decide), slot_keep h.e2 (by decide) (by decide), slot_keep h.e3 (by decide) (by decide), fun _ => eval_put_same a _ (h.ag.lt rfl), fun x => absurd (dep_of 4 rfl (hcl 5 _ rfl (x.resolve_left (by decide)))) hD, fun x => absurd (dep_of 4 rfl (hcl 8 _ rfl (x.resolve_left (by decide)))) hD, fun x => absurd (dep_of 4 rfl (hcl 9 _ rfl (x.resolve_left (by decide)))) hD⟩
    · intro D a w' h hD hdep hcl
      have he := eval_get (h.e4 (dep_of 4 rfl hdep))
      have hx := h.bq.cell
      refine wp_yield (v := .int .i64 wk) (w' := w') (by clear h hdep hcl hD HF3 HX3 HN3; go_simp) ?_
      exact ⟨h.ag.put (by decide) _, h.bq, h.nw, h.be, fun n => h.a0' (fun y => n (Or.inr y)), fun x => h.a1 (x.resolve_left (by decide)), fun n => h.t0 (fun y => n (Or.inr y)), fun x => h.t1 (x.resolve_left (by decide)), slot_keep h.e0 (by decide) (by decide), slot_keep h.e1 (by decide) (by decide), slot_keep h.e2 (by decide) (by decide), slot_keep h.e3 (by decide) (by decide), slot_keep h.e4 (by decide) (by decide), fun _ => eval_put_same a _ (h.ag.lt rfl), fun x => absurd (dep_of 5 rfl (hcl 8 _ rfl (x.resolve_left (by decide)))) hD, fun x => absurd (dep_of 5 rfl (hcl 9 _ rfl (x.resolve_left (by decide)))) hD⟩
    · intro D a w' h hD hdep hcl
      have hbx := h.a0' hD
      refine wp_store_row 25 _ _ rfl (w.heap.size + 1 + 1) _ ((h.ag.eval (show 6 ∉ [8, 9, 43, 44, 45, 46, 47, 48] by decide)).trans rfl) (h.e1 (dep_of 1 rfl hdep)) 25 _ hbx info_ar rfl (BoxA.one _ _ _) ?_
      exact ⟨h.ag, (setRow_other _ _ _ _ (by omega)).trans (h.bq), h.nw.rowA hbx _, below_row h.be (by omega) _, fun n => absurd (Or.inl rfl) n, fun _ => hbx.row _, fun n => (setRow_other _ _ _ _ (by omega)).trans (h.t0 (fun y => n (Or.inr y))), fun x => absurd (dep_of 6 rfl (hcl 7 _ rfl (x.resolve_left (by decide)))) hD, fun x => h.e0 (x.resolve_left (by decide)), fun x => h.e1 (x.resolve_left (by decide)), fun x => h.e2 (x.resolve_left (by decide)), fun x => h.e3 (x.resolve_left (by decide)), fun x => h.e4 (x.resolve_left (by decide)), fun x => h.e5 (x.resolve_left (by decide)), fun x => absurd (dep_of 6 rfl (hcl 8 _ rfl (x.resolve_left (by decide)))) hD, fun x => absurd (dep_of 6 rfl (hcl 9 _ rfl (x.resolve_left (by decide)))) hD⟩
    · intro D a w' h hD hdep hcl
      have hbx := h.t0 hD
      refine wp_store_row 29 _ _ rfl (w.heap.size + 1 + 1 + 1) _ ((h.ag.eval (show 7 ∉ [8, 9, 43, 44, 45, 46, 47, 48] by decide)).trans rfl) (h.e3 (dep_of 3 rfl hdep)) 29 _ hbx info_th rfl (one15 _ _ _ _ _ _ _ _ _ _ _ _ _ _ _) ?_
      exact ⟨h.ag, (setRow_other _ _ _ _ (by omega)).trans (h.bq), h.nw.rowT hbx _, below_row h.be (by omega) _, fun n => absurd (Or.inr (dep_of 6 rfl hdep)) n, fun x => (setRow_other _ _ _ _ (by omega)).trans (h.a1 (x.resolve_left (by decide))), fun n => absurd (Or.inl rfl) n, fun _ => hbx.row _, fun x => h.e0 (x.resolve_left (by decide)), fun x => h.e1 (x.resolve_left (by decide)), fun x => h.e2 (x.resolve_left (by decide)), fun x => h.e3 (x.resolve_left (by decide)), fun x => h.e4 (x.resolve_left (by decide)), fun x => h.e5 (x.resolve_left (by decide)), fun x => absurd (dep_of 7 rfl (hcl 8 _ rfl (x.resolve_left (by decide)))) hD, fun x => absurd (dep_of 7 rfl (hcl 9 _ rfl (x.resolve_left (by decide)))) hD⟩
    · intro D a w' h hD hdep hcl
      have he := eval_get (h.e5 (dep_of 5 rfl hdep))
      refine wp_yield (v := .int .i64 wk) (w' := w') (by clear h hdep hcl hD HF3 HX3 HN3; go_simp) ?_
      exact ⟨h.ag.put (by decide) _, h.bq, h.nw, h.be, fun n => h.a0' (fun y => n (Or.inr y)), fun x => h.a1 (x.resolve_left (by decide)), fun n => h.t0 (fun y => n (Or.inr y)), fun x => h.t1 (x.resolve_left (by decide)), slot_keep h.e0 (by decide) (by decide), slot_keep h.e1 (by decide) (by decide), slot_keep h.e2 (by decide) (by decide), slot_keep h.e3 (by decide) (by decide), slot_keep h.e4 (by decide) (by decide), slot_keep h.e5 (by decide) (by decide), fun _ => eval_put_same a _ (h.ag.lt rfl), fun x => absurd (dep_of 8 rfl (hcl 9 _ rfl (x.resolve_left (by decide)))) hD⟩
    · intro D a w' h hD hdep hcl
      refine wp_yield (v := .int .i64 0) (w' := w') (by clear h hdep hcl hD HF3 HX3 HN3; go_simp) ?_
      exact ⟨h.ag.put (by decide) _, h.bq, h.nw, h.be, fun n => h.a0' (fun y => n (Or.inr y)), fun x => h.a1 (x.resolve_left (by decide)), fun n => h.t0 (fun y => n (Or.inr y)), fun x => h.t1 (x.resolve_left (by decide)), slot_keep h.e0 (by decide) (by decide), slot_keep h.e1 (by decide) (by decide), slot_keep h.e2 (by decide) (by decide), slot_keep h.e3 (by decide) (by decide), slot_keep h.e4 (by decide) (by decide), slot_keep h.e5 (by decide) (by decide), slot_keep h.e8 (by decide) (by decide), fun _ => eval_put_same a _ (h.ag.lt rfl)⟩
  · intro D a w' h hD
    have hd := fun i (hi : Nat.ble (i + 1) 10 = true) => hD i (Nat.le_of_ble_eq_true hi)
    exact ⟨h.ag, h.e8 (hd 8 rfl), h.e9 (hd 9 rfl), h.a1 (hd 6 rfl), h.t1 (hd 7 rfl), h.nw, h.be⟩
  rintro a' w4 ⟨hag, t8, t9, hA4, hT4, hN4, hB4⟩
  have he := hag.eq
  clear hag HF3 HX3 HN3
  simp only [List.foldl_cons, List.foldl_nil] at he
  rw [t8, t9] at he
  clear t8 t9
  generalize a'.eval (.tmp 43) = u43 at he
  generalize a'.eval (.tmp 44) = u44 at he
  generalize a'.eval (.tmp 45) = u45 at he
  generalize a'.eval (.tmp 46) = u46 at he
  generalize a'.eval (.tmp 47) = u47 at he
  generalize a'.eval (.tmp 48) = u48 at he
  simp only [Act.put, List.setIfInBounds_toArray, List.set_cons_zero, List.set_cons_succ] at he
  subst he
  go_wp2_with fail
  exact bodyPost_ret (results_at4 Try.results9 _ _ _ _ _ _ _ _ rfl rfl rfl rfl hA4 hT4 rfl) rfl ⟨B', d', rfl, hN4.base (by omega), hB4⟩
end Go.Proofs.Ytabojajhnhcemaa

namespace Go.Proofs.Ytabojajhnhcemaa
open Go.RowKit

theorem casGot (A : Option Addr) (c : Nat) (zs : List Int) (p old v : Int) (L : List Int) (b : Bool) (w : World) (hn : zs.length ≤ 1048576) (hl : casZ zs p old v = L) (hk : casOk zs p old = b) (hA : Rd w A zs) :
    Calls Try.prog 106 #[.agg #[.slice A zs.length c], .int .i64 p, .int .i64 old, .int .i64 v] w fun e w' => ∃ B d, e = .returned (.tuple #[.agg #[.slice B L.length d], .bool b]) ∧ NewA w.heap.size w' B d L ∧ Below w.heap.size w w' := by
  subst hl hk
  exact l01CasZ_any A c zs p old v w hn hA
theorem allocThreeS (A B : Option Addr) (c d : Nat) (zs : List Int) (f i : Int) (L : List Int) (p : Int) (w : World) (hn : zs.length ≤ 1048576) (h1 : (if 400 < zs.length + 3 then zs else zs ++ [f, 0, i]) = L) (h2 : (if 400 < zs.length + 3 then (0 : Int) else (zs.length : Int)) = p) (hA : Rd w A zs) (hB : Rd w B [f, 0, i]) :
    Calls Try.prog 85 #[.agg #[.slice A zs.length c], .slice B 3 d] w fun e w' => ∃ C k, e = .returned (.tuple #[.agg #[.slice C L.length k], .int .i64 p]) ∧ NewA w.heap.size w' C k L ∧ Below w.heap.size w w' := by
  subst h1 h2
  exact l01Alloc_any A B c d zs [f, 0, i] w hn (by simp) hA hB
theorem resultGot (id st op arg pc til : Int) (per can : Bool) (r0 r1 r2 r3 r4 code res : Int) (x y : Int) (w : World) (hx : -1000000000000 ≤ x ∧ x ≤ 1000000000000) (hy : wellI op arg x = y) : Calls Try.prog 109 #[.agg #[.int .i64 id, .int .i64 st, .int .i64 op, .int .i64 arg, .int .i64 pc, .int .i64 til, .bool per, .bool can, .int .i64 r0, .int .i64 r1, .int .i64 r2, .int .i64 r3, .int .i64 r4, .int .i64 code, .int .i64 res], .int .i64 x] w fun e w' => e = .returned (.agg #[.int .i64 id, .int .i64 0, .int .i64 0, .int .i64 0, .int .i64 0, .int .i64 0, .bool false, .bool false, .int .i64 0, .int .i64 0, .int .i64 0, .int .i64 0, .int .i64 0, .int .i64 0, .int .i64 y]) ∧ Below w.heap.size w w' := by
  subst hy
  exact l04Result_any id st op arg pc til per can r0 r1 r2 r3 r4 code res x w hx
end Go.Proofs.Ytabojajhnhcemaa
