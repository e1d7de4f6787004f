/-
  The program's join, by Pc.
  The program's join, by Pc.
  The walk of the law FnExactAllocCells.
  The arena's functions where all is right: contracts with the answers written out (for the laws over drawn arenas).
  The same contracts, the list that comes out under a name of the caller's.
  InitQueue: the program's and the model's.
  What the program answers where StepQueue refuses.
-/
import Derived.Test.YtabojajhnhcemaaJ16
import Derived.StillTailTactics
import Derived.Test.YtabojajhnhcemaaJ07
import Derived.Test.YtabojajhnhcemaaJ10
import Derived.Test.YtabojajhnhcemaaJ13
import Derived.Test.YtabojajhnhcemaaJ17
namespace Go.Proofs.Ytabojajhnhcemaa
open Go.RowKit

set_option maxHeartbeats 4000000 in
set_option maxRecDepth 100000 in
theorem qjoin2a (id : Int) (st : Int) (op : Int) (arg : Int) (til : Int) (per : Bool) (can : Bool) (r0 : Int) (r1 : Int) (r2 : Int) (r3 : Int) (r4 : Int) (code : Int) (res : Int) (now wk : Int) (x : Int) (k lo : Nat) (w : World) (A : Option Addr) (c : Nat) (zs : List Int) (hn : zs.length ≤ 1048576) (ha : arenaB zs = true) (h0 : zs.getD 0 0 = 0) (hlo : lo ≤ w.heap.size) (hb0 : -1000000000000 ≤ r0 ∧ r0 ≤ 1000000000000) (hx : loadZ zs (halfI r0 + 1) = x) (h2 : (x != 0) = true) (hQ : BoxQ w k #[.slice A zs.length c, .int .i64 id, .int .i64 st, .int .i64 op, .int .i64 arg, .int .i64 2, .int .i64 til, .bool per, .bool can, .int .i64 r0, .int .i64 r1, .int .i64 r2, .int .i64 r3, .int .i64 r4, .int .i64 code, .int .i64 res, .int .i64 now, .int .i64 wk]) (hA : NewA lo w A c zs) :
    Calls Try.prog 28 #[.pointer (some ⟨k, 0, none⟩)] w fun e w' => ∃ B d, e = .returned (.tuple #[]) ∧ Q w w' k lo B d (zs) #[.slice B (zs).length d, .int .i64 id, .int .i64 st, .int .i64 op, .int .i64 arg, .int .i64 3, .int .i64 til, .bool per, .bool can, .int .i64 r0, .int .i64 r1, .int .i64 x, .int .i64 r3, .int .i64 r4, .int .i64 code, .int .i64 res, .int .i64 now, .int .i64 wk] := by
  have hc := hQ.cell
  have hf := hQ.froz
  have HQ := Lib.hid (Q.start hQ hA); clear hQ hA
  have H0 := Lib.hid h0; have HA := Lib.hid ha; have HLO := Lib.hid hlo; clear h0 ha hlo
  have HB0 := Lib.hid hb0; clear hb0
  have HX := Lib.hid hx; clear hx
  have H2 := Lib.hid h2; clear h2
  have HD := Lib.hid HQ.out.drew; have HLD : Hid (lo ≤ w.drew.heap.size) := HLO.out
  go_enter Try.func28, Try.ntmps28
  go_upto_region 10 with fail
  go_region_law (first
    | (go_simp; go_at_call 63; refine (nextOf_any _ _ HB0.out).mono ?_; rintro e w' ⟨rfl, rfl⟩)
    | (go_simp; go_at_call 59; (with_reducible refine (qload_any A c zs _ w.drew hn H0.out HD.out.rd).mono ?_); rintro e v1 ⟨rfl, hb⟩; rw [HX.out]; have HQ1 := Lib.hid (HD.out.below hb); clear hb; have hc1 := HQ1.out.box.cell; have hf1 := HQ1.out.box.froz))
  all_goals
    have HQ2 : Hid (Q w (v1.setCell ⟨k, 11, none⟩ (.int .i64 x)) k lo A c zs #[.slice A zs.length c, .int .i64 id, .int .i64 st, .int .i64 op, .int .i64 arg, .int .i64 2, .int .i64 til, .bool per, .bool can, .int .i64 r0, .int .i64 r1, .int .i64 x, .int .i64 r3, .int .i64 r4, .int .i64 code, .int .i64 res, .int .i64 now, .int .i64 wk]) := HQ1.out.set 11 _
    go_upto_region 11 with fail
    generalize v1.setCell ⟨k, 11, none⟩ (.int .i64 x) = w2 at HQ2 ⊢
    clear hc hf hc1 hf1 HQ1 HQ HD
    have hc2 := HQ2.out.box.cell; have hf2 := HQ2.out.box.froz
    go_wp2_with fail
    refine (qTail_help _ _ _ _ _ _ _ _ _ _ _ _ _ _ _ _ _ _ lo _ _ _ zs H2.out HQ2.out.box HQ2.out.own).mono ?_
    rintro e w3 ⟨rfl, hb⟩
    have HQ3 := Lib.hid (HQ2.out.then hb); clear hb
    clear hc2 hf2 HQ2
    go_wp2
    exact bodyPost_end (results_none rfl _ _ _) rfl ⟨_, _, rfl, HQ3.out⟩

set_option maxHeartbeats 4000000 in
set_option maxRecDepth 100000 in
theorem qjoin2b (id : Int) (st : Int) (op : Int) (arg : Int) (til : Int) (per : Bool) (can : Bool) (r0 : Int) (r1 : Int) (r2 : Int) (r3 : Int) (r4 : Int) (code : Int) (res : Int) (now wk : Int) (x : Int) (k lo : Nat) (w : World) (A : Option Addr) (c : Nat) (zs : List Int) (hn : zs.length ≤ 1048576) (ha : arenaB zs = true) (h0 : zs.getD 0 0 = 0) (hlo : lo ≤ w.heap.size) (hb0 : -1000000000000 ≤ r0 ∧ r0 ≤ 1000000000000) (hx : loadZ zs (halfI r0 + 1) = x) (h2 : (x != 0) = false) (ht : thB id st op arg 2 til per can r0 r1 x r3 r4 code res = true) (hi : inB now 0 1000000 = true) (hg : gvB can til now = true) (hQ : BoxQ w k #[.slice A zs.length c, .int .i64 id, .int .i64 st, .int .i64 op, .int .i64 arg, .int .i64 2, .int .i64 til, .bool per, .bool can, .int .i64 r0, .int .i64 r1, .int .i64 r2, .int .i64 r3, .int .i64 r4, .int .i64 code, .int .i64 res, .int .i64 now, .int .i64 wk]) (hA : NewA lo w A c zs) :
    Calls Try.prog 28 #[.pointer (some ⟨k, 0, none⟩)] w fun e w' => ∃ B d, e = .returned (.tuple #[]) ∧ Q w w' k lo B d (zs) #[.slice B (zs).length d, .int .i64 id, .int .i64 0, .int .i64 0, .int .i64 0, .int .i64 0, .int .i64 0, .bool false, .bool false, .int .i64 0, .int .i64 0, .int .i64 0, .int .i64 0, .int .i64 0, .int .i64 (gvCode can), .int .i64 0, .int .i64 now, .int .i64 wk] := by
  have hc := hQ.cell
  have hf := hQ.froz
  have HQ := Lib.hid (Q.start hQ hA); clear hQ hA
  have H0 := Lib.hid h0; have HA := Lib.hid ha; have HLO := Lib.hid hlo; clear h0 ha hlo
  have HB0 := Lib.hid hb0; clear hb0
  have HX := Lib.hid hx; clear hx
  have H2 := Lib.hid h2; clear h2
  have HT := Lib.hid ht; clear ht
  have HI := Lib.hid hi; clear hi
  have HG := Lib.hid hg; clear hg
  have HD := Lib.hid HQ.out.drew; have HLD : Hid (lo ≤ w.drew.heap.size) := HLO.out
  go_enter Try.func28, Try.ntmps28
  go_upto_region 10 with fail
  go_region_law (first
    | (go_simp; go_at_call 63; refine (nextOf_any _ _ HB0.out).mono ?_; rintro e w' ⟨rfl, rfl⟩)
    | (go_simp; go_at_call 59; (with_reducible refine (qload_any A c zs _ w.drew hn H0.out HD.out.rd).mono ?_); rintro e v1 ⟨rfl, hb⟩; rw [HX.out]; have HQ1 := Lib.hid (HD.out.below hb); clear hb; have hc1 := HQ1.out.box.cell; have hf1 := HQ1.out.box.froz))
  all_goals
    have HQ2 : Hid (Q w (v1.setCell ⟨k, 11, none⟩ (.int .i64 x)) k lo A c zs #[.slice A zs.length c, .int .i64 id, .int .i64 st, .int .i64 op, .int .i64 arg, .int .i64 2, .int .i64 til, .bool per, .bool can, .int .i64 r0, .int .i64 r1, .int .i64 x, .int .i64 r3, .int .i64 r4, .int .i64 code, .int .i64 res, .int .i64 now, .int .i64 wk]) := HQ1.out.set 11 _
    go_upto_region 11 with fail
    generalize v1.setCell ⟨k, 11, none⟩ (.int .i64 x) = w2 at HQ2 ⊢
    clear hc hf hc1 hf1 HQ1 HQ HD
    have hc2 := HQ2.out.box.cell; have hf2 := HQ2.out.box.froz
    go_wp2_with fail
    refine (qTail_give _ _ _ _ _ _ _ _ _ _ _ _ _ _ _ _ _ _ lo _ _ _ zs H2.out HT.out HI.out HG.out HQ2.out.box HQ2.out.own).mono ?_
    rintro e w3 ⟨rfl, hb⟩
    have HQ3 := Lib.hid (HQ2.out.then hb); clear hb
    clear hc2 hf2 HQ2
    go_wp2
    exact bodyPost_end (results_none rfl _ _ _) rfl ⟨_, _, rfl, HQ3.out⟩

set_option maxHeartbeats 4000000 in
set_option maxRecDepth 100000 in
theorem qjoin2c (id : Int) (st : Int) (op : Int) (arg : Int) (til : Int) (per : Bool) (can : Bool) (r0 : Int) (r1 : Int) (r2 : Int) (r3 : Int) (r4 : Int) (code : Int) (res : Int) (now wk : Int) (x : Int) (m : Int) (k lo : Nat) (w : World) (A : Option Addr) (c : Nat) (zs : List Int) (hn : zs.length ≤ 1048576) (ha : arenaB zs = true) (h0 : zs.getD 0 0 = 0) (hlo : lo ≤ w.heap.size) (hb0 : -1000000000000 ≤ r0 ∧ r0 ≤ 1000000000000) (hx : loadZ zs (halfI r0 + 1) = x) (h2 : (x != 0) = false) (hm : (if (r3 == 0) = true then (4 : Int) else 5) = m) (ht : thB id st op arg 2 til per can r0 r1 x r3 r4 code res = true) (hi : inB now 0 1000000 = true) (hg : gvB can til now = false) (hQ : BoxQ w k #[.slice A zs.length c, .int .i64 id, .int .i64 st, .int .i64 op, .int .i64 arg, .int .i64 2, .int .i64 til, .bool per, .bool can, .int .i64 r0, .int .i64 r1, .int .i64 r2, .int .i64 r3, .int .i64 r4, .int .i64 code, .int .i64 res, .int .i64 now, .int .i64 wk]) (hA : NewA lo w A c zs) :
    Calls Try.prog 28 #[.pointer (some ⟨k, 0, none⟩)] w fun e w' => ∃ B d, e = .returned (.tuple #[]) ∧ Q w w' k lo B d (zs) #[.slice B (zs).length d, .int .i64 id, .int .i64 st, .int .i64 op, .int .i64 arg, .int .i64 m, .int .i64 til, .bool per, .bool can, .int .i64 r0, .int .i64 r1, .int .i64 x, .int .i64 r3, .int .i64 r4, .int .i64 code, .int .i64 res, .int .i64 now, .int .i64 wk] := by
  have hc := hQ.cell
  have hf := hQ.froz
  have HQ := Lib.hid (Q.start hQ hA); clear hQ hA
  have H0 := Lib.hid h0; have HA := Lib.hid ha; have HLO := Lib.hid hlo; clear h0 ha hlo
  have HB0 := Lib.hid hb0; clear hb0
  have HX := Lib.hid hx; clear hx
  have H2 := Lib.hid h2; clear h2
  have HM := Lib.hid hm; clear hm
  have HT := Lib.hid ht; clear ht
  have HI := Lib.hid hi; clear hi
  have HG := Lib.hid hg; clear hg
  have HD := Lib.hid HQ.out.drew; have HLD : Hid (lo ≤ w.drew.heap.size) := HLO.out
  go_enter Try.func28, Try.ntmps28
  go_upto_region 10 with fail
  go_region_law (first
    | (go_simp; go_at_call 63; refine (nextOf_any _ _ HB0.out).mono ?_; rintro e w' ⟨rfl, rfl⟩)
    | (go_simp; go_at_call 59; (with_reducible refine (qload_any A c zs _ w.drew hn H0.out HD.out.rd).mono ?_); rintro e v1 ⟨rfl, hb⟩; rw [HX.out]; have HQ1 := Lib.hid (HD.out.below hb); clear hb; have hc1 := HQ1.out.box.cell; have hf1 := HQ1.out.box.froz))
  all_goals
    have HQ2 : Hid (Q w (v1.setCell ⟨k, 11, none⟩ (.int .i64 x)) k lo A c zs #[.slice A zs.length c, .int .i64 id, .int .i64 st, .int .i64 op, .int .i64 arg, .int .i64 2, .int .i64 til, .bool per, .bool can, .int .i64 r0, .int .i64 r1, .int .i64 x, .int .i64 r3, .int .i64 r4, .int .i64 code, .int .i64 res, .int .i64 now, .int .i64 wk]) := HQ1.out.set 11 _
    go_upto_region 11 with fail
    generalize v1.setCell ⟨k, 11, none⟩ (.int .i64 x) = w2 at HQ2 ⊢
    clear hc hf hc1 hf1 HQ1 HQ HD
    have hc2 := HQ2.out.box.cell; have hf2 := HQ2.out.box.froz
    go_wp2_with fail
    refine (qTail_go _ _ _ _ _ _ _ _ _ _ _ _ _ _ _ _ _ m HM.out _ lo _ _ _ zs H2.out HT.out HI.out HG.out HQ2.out.box HQ2.out.own).mono ?_
    rintro e w3 ⟨rfl, hb⟩
    have HQ3 := Lib.hid (HQ2.out.then hb); clear hb
    clear hc2 hf2 HQ2
    go_wp2
    exact bodyPost_end (results_none rfl _ _ _) rfl ⟨_, _, rfl, HQ3.out⟩

set_option maxHeartbeats 4000000 in
set_option maxRecDepth 100000 in
theorem qjoin3 (id : Int) (st : Int) (op : Int) (arg : Int) (til : Int) (per : Bool) (can : Bool) (r0 : Int) (r1 : Int) (r2 : Int) (r3 : Int) (r4 : Int) (code : Int) (res : Int) (now wk : Int) (L : List Int) (k lo : Nat) (w : World) (A : Option Addr) (c : Nat) (zs : List Int) (hn : zs.length ≤ 1048576) (ha : arenaB zs = true) (h0 : zs.getD 0 0 = 0) (hlo : lo ≤ w.heap.size) (hw : wordB r2 = true) (hl : casZ zs (2) (r0) (r2) = L) (hQ : BoxQ w k #[.slice A zs.length c, .int .i64 id, .int .i64 st, .int .i64 op, .int .i64 arg, .int .i64 3, .int .i64 til, .bool per, .bool can, .int .i64 r0, .int .i64 r1, .int .i64 r2, .int .i64 r3, .int .i64 r4, .int .i64 code, .int .i64 res, .int .i64 now, .int .i64 wk]) (hA : NewA lo w A c zs) :
    Calls Try.prog 28 #[.pointer (some ⟨k, 0, none⟩)] w fun e w' => ∃ B d, e = .returned (.tuple #[]) ∧ Q w w' k lo B d (L) #[.slice B (L).length d, .int .i64 id, .int .i64 st, .int .i64 op, .int .i64 arg, .int .i64 0, .int .i64 til, .bool per, .bool can, .int .i64 r0, .int .i64 r1, .int .i64 r2, .int .i64 r3, .int .i64 r4, .int .i64 code, .int .i64 res, .int .i64 now, .int .i64 wk] := by
  have hc := hQ.cell
  have hf := hQ.froz
  have HQ := Lib.hid (Q.start hQ hA); clear hQ hA
  have H0 := Lib.hid h0; have HA := Lib.hid ha; have HLO := Lib.hid hlo; clear h0 ha hlo
  have HW := Lib.hid hw; clear hw
  have HL := Lib.hid hl; clear hl
  have HD := Lib.hid HQ.out.drew; have HLD : Hid (lo ≤ w.drew.heap.size) := HLO.out
  go_enter Try.func28, Try.ntmps28
  go_upto_region 13 with fail
  go_region_law (first
    | (go_simp; go_at_call 65; (with_reducible refine (qChange_any _ _ _ id st op arg 3 til per can r0 r1 r2 r3 r4 code res now wk k lo w.drew A c zs hn HA.out H0.out HW.out HLD.out HD.out.box HD.out.own).mono ?_); rintro e v1 ⟨B, d, rfl, hq⟩; have HQ1 := Lib.hid (HD.out.then hq); clear hq; rw [HL.out] at HQ1; have hc1 := HQ1.out.box.cell; have hf1 := HQ1.out.box.froz))
  all_goals
    clear hc hf HQ HD
    go_wp2
    exact bodyPost_end (results_none rfl _ _ _) rfl ⟨_, _, rfl, HQ1.out.set 5 _⟩

set_option maxHeartbeats 4000000 in
set_option maxRecDepth 100000 in
theorem qjoin8 (id : Int) (st : Int) (op : Int) (arg : Int) (til : Int) (per : Bool) (can : Bool) (r0 : Int) (r1 : Int) (r2 : Int) (r3 : Int) (r4 : Int) (code : Int) (res : Int) (now wk : Int) (L : List Int) (k lo : Nat) (w : World) (A : Option Addr) (c : Nat) (zs : List Int) (hn : zs.length ≤ 1048576) (ha : arenaB zs = true) (h0 : zs.getD 0 0 = 0) (hlo : lo ≤ w.heap.size) (hw : wordB r3 = true) (hl : casZ zs (2) (r0) (r3) = L) (hQ : BoxQ w k #[.slice A zs.length c, .int .i64 id, .int .i64 st, .int .i64 op, .int .i64 arg, .int .i64 8, .int .i64 til, .bool per, .bool can, .int .i64 r0, .int .i64 r1, .int .i64 r2, .int .i64 r3, .int .i64 r4, .int .i64 code, .int .i64 res, .int .i64 now, .int .i64 wk]) (hA : NewA lo w A c zs) :
    Calls Try.prog 28 #[.pointer (some ⟨k, 0, none⟩)] w fun e w' => ∃ B d, e = .returned (.tuple #[]) ∧ Q w w' k lo B d (L) #[.slice B (L).length d, .int .i64 id, .int .i64 st, .int .i64 op, .int .i64 arg, .int .i64 9, .int .i64 til, .bool per, .bool can, .int .i64 r0, .int .i64 r1, .int .i64 r2, .int .i64 r3, .int .i64 r4, .int .i64 code, .int .i64 res, .int .i64 now, .int .i64 wk] := by
  have hc := hQ.cell
  have hf := hQ.froz
  have HQ := Lib.hid (Q.start hQ hA); clear hQ hA
  have H0 := Lib.hid h0; have HA := Lib.hid ha; have HLO := Lib.hid hlo; clear h0 ha hlo
  have HW := Lib.hid hw; clear hw
  have HL := Lib.hid hl; clear hl
  have HD := Lib.hid HQ.out.drew; have HLD : Hid (lo ≤ w.drew.heap.size) := HLO.out
  go_enter Try.func28, Try.ntmps28
  go_upto_region 20 with fail
  go_region_law (first
    | (go_simp; go_at_call 65; (with_reducible refine (qChange_any _ _ _ id st op arg 8 til per can r0 r1 r2 r3 r4 code res now wk k lo w.drew A c zs hn HA.out H0.out HW.out HLD.out HD.out.box HD.out.own).mono ?_); rintro e v1 ⟨B, d, rfl, hq⟩; have HQ1 := Lib.hid (HD.out.then hq); clear hq; rw [HL.out] at HQ1; have hc1 := HQ1.out.box.cell; have hf1 := HQ1.out.box.froz))
  all_goals
    clear hc hf HQ HD
    go_wp2
    exact bodyPost_end (results_none rfl _ _ _) rfl ⟨_, _, rfl, HQ1.out.set 5 _⟩
end Go.Proofs.Ytabojajhnhcemaa

namespace Go.Proofs.Ytabojajhnhcemaa
open Go.RowKit

set_option maxHeartbeats 4000000 in
set_option maxRecDepth 100000 in
theorem qjoin5t (id : Int) (st : Int) (op : Int) (arg : Int) (til : Int) (per : Bool) (can : Bool) (r0 : Int) (r1 : Int) (r2 : Int) (r3 : Int) (r4 : Int) (code : Int) (res : Int) (now wk : Int) (L : List Int) (k lo : Nat) (w : World) (A : Option Addr) (c : Nat) (zs : List Int) (hn : zs.length ≤ 1048576) (ha : arenaB zs = true) (h0 : zs.getD 0 0 = 0) (hlo : lo ≤ w.heap.size) (hw : wordB r3 = true) (hb0 : -1000000000000 ≤ r0 ∧ r0 ≤ 1000000000000) (hl : casZ zs (halfI r0 + 1) (0) (r3) = L) (hk : casOk zs (halfI r0 + 1) (0) = true) (hQ : BoxQ w k #[.slice A zs.length c, .int .i64 id, .int .i64 st, .int .i64 op, .int .i64 arg, .int .i64 5, .int .i64 til, .bool per, .bool can, .int .i64 r0, .int .i64 r1, .int .i64 r2, .int .i64 r3, .int .i64 r4, .int .i64 code, .int .i64 res, .int .i64 now, .int .i64 wk]) (hA : NewA lo w A c zs) :
    Calls Try.prog 28 #[.pointer (some ⟨k, 0, none⟩)] w fun e w' => ∃ B d, e = .returned (.tuple #[]) ∧ Q w w' k lo B d (L) #[.slice B (L).length d, .int .i64 id, .int .i64 st, .int .i64 op, .int .i64 arg, .int .i64 8, .int .i64 til, .bool per, .bool can, .int .i64 r0, .int .i64 r1, .int .i64 r2, .int .i64 r3, .int .i64 r4, .int .i64 code, .int .i64 res, .int .i64 now, .int .i64 wk] := by
  have hc := hQ.cell
  have hf := hQ.froz
  have HQ := Lib.hid (Q.start hQ hA); clear hQ hA
  have H0 := Lib.hid h0; have HA := Lib.hid ha; have HLO := Lib.hid hlo; clear h0 ha hlo
  have HW := Lib.hid hw; clear hw
  have HB0 := Lib.hid hb0; clear hb0
  have HL := Lib.hid hl; clear hl
  have HK := Lib.hid hk; clear hk
  have HD := Lib.hid HQ.out.drew; have HLD : Hid (lo ≤ w.drew.heap.size) := HLO.out
  go_enter Try.func28, Try.ntmps28
  go_upto_region 18 with fail
  go_region_law (first
    | (go_simp; go_at_call 63; refine (nextOf_any _ _ HB0.out).mono ?_; rintro e w' ⟨rfl, rfl⟩)
    | (go_simp; go_at_call 65; (with_reducible refine (qChange_any _ _ _ id st op arg 5 til per can r0 r1 r2 r3 r4 code res now wk k lo w.drew A c zs hn HA.out H0.out HW.out HLD.out HD.out.box HD.out.own).mono ?_); rintro e v1 ⟨B, d, rfl, hq⟩; have HQ1 := Lib.hid (HD.out.then hq); clear hq; rw [HL.out] at HQ1; rw [HK.out]; have hc1 := HQ1.out.box.cell; have hf1 := HQ1.out.box.froz)
    | (go_simp; go_at_call 62; (with_reducible refine (qChoose_any true 8 0 8 rfl id st op arg 5 til per can r0 r1 r2 r3 r4 code res now wk k lo v1 B d L HQ1.out.box HQ1.out.own).mono ?_); rintro e v2 ⟨rfl, hq⟩; have HQ2 := Lib.hid (HQ1.out.then hq); clear hq))
  all_goals
    go_wp2
    exact bodyPost_end (results_none rfl _ _ _) rfl ⟨_, _, rfl, HQ2.out⟩

set_option maxHeartbeats 4000000 in
set_option maxRecDepth 100000 in
theorem qjoin5f (id : Int) (st : Int) (op : Int) (arg : Int) (til : Int) (per : Bool) (can : Bool) (r0 : Int) (r1 : Int) (r2 : Int) (r3 : Int) (r4 : Int) (code : Int) (res : Int) (now wk : Int) (L : List Int) (k lo : Nat) (w : World) (A : Option Addr) (c : Nat) (zs : List Int) (hn : zs.length ≤ 1048576) (ha : arenaB zs = true) (h0 : zs.getD 0 0 = 0) (hlo : lo ≤ w.heap.size) (hw : wordB r3 = true) (hb0 : -1000000000000 ≤ r0 ∧ r0 ≤ 1000000000000) (hl : casZ zs (halfI r0 + 1) (0) (r3) = L) (hk : casOk zs (halfI r0 + 1) (0) = false) (hQ : BoxQ w k #[.slice A zs.length c, .int .i64 id, .int .i64 st, .int .i64 op, .int .i64 arg, .int .i64 5, .int .i64 til, .bool per, .bool can, .int .i64 r0, .int .i64 r1, .int .i64 r2, .int .i64 r3, .int .i64 r4, .int .i64 code, .int .i64 res, .int .i64 now, .int .i64 wk]) (hA : NewA lo w A c zs) :
    Calls Try.prog 28 #[.pointer (some ⟨k, 0, none⟩)] w fun e w' => ∃ B d, e = .returned (.tuple #[]) ∧ Q w w' k lo B d (L) #[.slice B (L).length d, .int .i64 id, .int .i64 st, .int .i64 op, .int .i64 arg, .int .i64 0, .int .i64 til, .bool per, .bool can, .int .i64 r0, .int .i64 r1, .int .i64 r2, .int .i64 r3, .int .i64 r4, .int .i64 code, .int .i64 res, .int .i64 now, .int .i64 wk] := by
  have hc := hQ.cell
  have hf := hQ.froz
  have HQ := Lib.hid (Q.start hQ hA); clear hQ hA
  have H0 := Lib.hid h0; have HA := Lib.hid ha; have HLO := Lib.hid hlo; clear h0 ha hlo
  have HW := Lib.hid hw; clear hw
  have HB0 := Lib.hid hb0; clear hb0
  have HL := Lib.hid hl; clear hl
  have HK := Lib.hid hk; clear hk
  have HD := Lib.hid HQ.out.drew; have HLD : Hid (lo ≤ w.drew.heap.size) := HLO.out
  go_enter Try.func28, Try.ntmps28
  go_upto_region 18 with fail
  go_region_law (first
    | (go_simp; go_at_call 63; refine (nextOf_any _ _ HB0.out).mono ?_; rintro e w' ⟨rfl, rfl⟩)
    | (go_simp; go_at_call 65; (with_reducible refine (qChange_any _ _ _ id st op arg 5 til per can r0 r1 r2 r3 r4 code res now wk k lo w.drew A c zs hn HA.out H0.out HW.out HLD.out HD.out.box HD.out.own).mono ?_); rintro e v1 ⟨B, d, rfl, hq⟩; have HQ1 := Lib.hid (HD.out.then hq); clear hq; rw [HL.out] at HQ1; rw [HK.out]; have hc1 := HQ1.out.box.cell; have hf1 := HQ1.out.box.froz)
    | (go_simp; go_at_call 62; (with_reducible refine (qChoose_any false 8 0 0 rfl id st op arg 5 til per can r0 r1 r2 r3 r4 code res now wk k lo v1 B d L HQ1.out.box HQ1.out.own).mono ?_); rintro e v2 ⟨rfl, hq⟩; have HQ2 := Lib.hid (HQ1.out.then hq); clear hq))
  all_goals
    go_wp2
    exact bodyPost_end (results_none rfl _ _ _) rfl ⟨_, _, rfl, HQ2.out⟩
end Go.Proofs.Ytabojajhnhcemaa

namespace Go.Proofs.Ytabojajhnhcemaa
open Go.RowKit

theorem eqIntS_same (A B : Option Addr) (c d : Nat) (xs : List Int) (w : World) (hn : xs.length ≤ maxLen) (hA : Rd w A xs) (hB : Rd w B xs) :
    Calls Try.prog 42 #[.slice A xs.length c, .slice B xs.length d] w fun e w' => e = .returned (.bool true) ∧ Below w.heap.size w w' :=
  (eqIntS_any A B c d xs xs w hn hn hA hB).mono fun e w' ⟨he, n, hw⟩ => ⟨by rw [he, decide_eq_true rfl], by rw [hw]; exact below_drewN n⟩

end Go.Proofs.Ytabojajhnhcemaa

namespace Go.Proofs.Ytabojajhnhcemaa
open Go.RowKit

theorem faultCode_good {zs ls : List Int} (ha : arenaB zs = true) (h1 : 1 ≤ ls.length) (h8 : ls.length ≤ 8) (hw : wordsB ls = true) : faultCode zs ls = 0 := by
  unfold faultCode
  rw [if_neg (by omega), if_neg (by rw [ha]; decide), if_neg (by omega), if_neg (by rw [hw]; decide)]

theorem allocGood (A B : Option Addr) (c d : Nat) (zs ls : List Int) (w : World) (ha : arenaB zs = true) (h1 : 1 ≤ ls.length) (h8 : ls.length ≤ 8) (hw : wordsB ls = true) (hfit : zs.length + ls.length ≤ 400) (hA : Rd w A zs) (hB : Rd w B ls) :
    Calls Try.prog 91 #[.agg #[.slice A zs.length c], .slice B ls.length d] w fun e w' => ∃ C k, e = .returned (.tuple #[.agg #[.slice C (zs ++ ls).length k], .int .i64 zs.length, .int .i64 0]) ∧ NewA w.heap.size w' C k (zs ++ ls) ∧ Below w.heap.size w w' := by
  have hf := faultCode_good ha h1 h8 hw
  have e1 : allocZs zs ls = zs ++ ls := by unfold allocZs; rw [if_pos hf, if_neg (by omega)]
  have e2 : allocAt zs ls = zs.length := by unfold allocAt; rw [if_pos hf, if_neg (by omega)]
  have e3 : allocCode zs ls = 0 := by unfold allocCode; rw [if_pos hf, if_neg (by omega)]
  have h := implAllocCells_any A B c d zs ls w (by omega) (by omega) hA hB
  rw [e1, e2, e3] at h
  exact h
theorem allocFull (A B : Option Addr) (c d : Nat) (zs ls : List Int) (w : World) (ha : arenaB zs = true) (h1 : 1 ≤ ls.length) (h8 : ls.length ≤ 8) (hw : wordsB ls = true) (hfit : 400 < zs.length + ls.length) (hA : Rd w A zs) (hB : Rd w B ls) :
    Calls Try.prog 91 #[.agg #[.slice A zs.length c], .slice B ls.length d] w fun e w' => ∃ C k, e = .returned (.tuple #[.agg #[.slice C zs.length k], .int .i64 0, .int .i64 7]) ∧ NewA w.heap.size w' C k zs ∧ Below w.heap.size w w' := by
  have hf := faultCode_good ha h1 h8 hw
  have hz := (arenaB_parts ha).2.1
  have e1 : allocZs zs ls = zs := by unfold allocZs; rw [if_pos hf, if_pos hfit]
  have e2 : allocAt zs ls = 0 := by unfold allocAt; rw [if_pos hf, if_pos hfit]
  have e3 : allocCode zs ls = 7 := by unfold allocCode; rw [if_pos hf, if_pos hfit]
  have h := implAllocCells_any A B c d zs ls w (by omega) (by omega) hA hB
  rw [e1, e2, e3] at h
  exact h

theorem cellCode_good {zs : List Int} {p : Int} {k : Nat} (hp : p = k) (ha : arenaB zs = true) (h1 : 1 ≤ k) (hk : k < zs.length) : cellCode zs p = 0 := cellCode_ok ha (by omega)
theorem writeCode_good {zs : List Int} {p v : Int} {k : Nat} (hp : p = k) (ha : arenaB zs = true) (h1 : 1 ≤ k) (hk : k < zs.length) (hv : wordB v = true) : writeCode zs p v = 0 := by
  unfold writeCode; rw [if_pos (cellCode_good hp ha h1 hk), hv]; rfl

theorem storeGood (A : Option Addr) (c : Nat) (zs : List Int) (p v : Int) (k : Nat) (w : World) (hp : p = k) (ha : arenaB zs = true) (h1 : 1 ≤ k) (hk : k < zs.length) (hv : wordB v = true) (hA : Rd w A zs) :
    Calls Try.prog 90 #[.agg #[.slice A zs.length c], .int .i64 p, .int .i64 v] w fun e w' => ∃ B d, e = .returned (.tuple #[.agg #[.slice B (zs.set k v).length d], .int .i64 0]) ∧ NewA w.heap.size w' B d (zs.set k v) ∧ Below w.heap.size w w' := by
  have hz := (arenaB_parts ha).2.1
  have e2 := writeCode_good hp ha h1 hk hv
  have e1 : storeZs zs p v = zs.set k v := by unfold storeZs; rw [if_pos e2, hp, Int.toNat_natCast]
  have h := implStoreCell_any A c zs p v w (by omega) hA
  rw [e1, e2] at h
  exact h
theorem addCode_good {zs : List Int} {p n x : Int} {k : Nat} (hp : p = k) (ha : arenaB zs = true) (h1 : 1 ≤ k) (hk : k < zs.length) (hv : wordB n = true) (ho : zs.getD k 0 = x) (hs : wordB (x + n) = true) : addCode zs p n = 0 ∧ addZs zs p n = zs.set k (x + n) ∧ addWas zs p n = x := by
  have e2 := writeCode_good hp ha h1 hk hv
  have hx : zs.getD p.toNat 0 = x := by rw [hp, Int.toNat_natCast, ho]
  have e3 : addCode zs p n = 0 := by unfold addCode; rw [if_pos e2, hx, hs]; rfl
  refine ⟨e3, ?_, ?_⟩
  · unfold addZs; rw [if_pos e3, hx, hp, Int.toNat_natCast]
  · unfold addWas; rw [if_pos e3, hx]
theorem okGood (A : Option Addr) (c : Nat) (zs : List Int) (w : World) (ha : arenaB zs = true) (hA : Rd w A zs) :
    Calls Try.prog 14 #[.agg #[.slice A zs.length c]] w fun e w' => e = .returned (.bool true) ∧ Below w.heap.size w w' := by
  have hz := (arenaB_parts ha).2.1
  have h := implArenaOK_any A c zs w (by omega) hA
  rw [ha] at h
  exact h
theorem sameGood (A B : Option Addr) (c d : Nat) (xs : List Int) (w : World) (hn : xs.length ≤ maxLen) (hA : Rd w A xs) (hB : Rd w B xs) :
    Calls Try.prog 11 #[.slice A xs.length c, .slice B xs.length d] w fun e w' => e = .returned (.bool true) ∧ Below w.heap.size w w' :=
  (sameInts_any A B c d xs xs w hn hn hA hB).mono fun e w' ⟨he, n, hw⟩ => ⟨by rw [he, decide_eq_true rfl], by rw [hw]; exact below_drewN n⟩
/-- Lists behind a drawn arena. -/
theorem arenaB_append {zs ls : List Int} (hz : Good zs) (hw : wordsB ls = true) (hl : zs.length + ls.length ≤ 400) : arenaB (zs ++ ls) = true := by
  obtain ⟨h1, h2, h3⟩ := hz
  refine arenaB_true (by simp; omega) (by simp; omega) ?_ ?_
  · rw [List.getD, List.getElem?_append_left (by omega)]; rw [List.getD] at h2; rw [h2]; rfl
  · unfold wordsB at *; rw [List.all_append, h3, hw]; rfl
theorem arenaB_set {zs : List Int} {k : Nat} {v : Int} (h : arenaB zs = true) (h1 : 1 ≤ k) (hv : wordB v = true) : arenaB (zs.set k v) = true := by
  obtain ⟨p1, p2, p3, p4⟩ := arenaB_parts h
  refine arenaB_true (by simpa using p1) (by simpa using p2) ?_ ?_
  · simp only [List.getD]; rw [List.getElem?_set_ne (by omega)]; rw [List.getD] at p3; rw [p3]; rfl
  · rw [wordsB_iff] at *
    intro j hj
    rw [List.length_set] at hj
    by_cases e : k = j
    · subst e; simp only [List.getD, List.getElem?_set_self hj, Option.getD_some]; exact hv
    · have := p4 j hj
      simp only [List.getD] at *
      rw [List.getElem?_set_ne e]; exact this
theorem getD_append {zs ls : List Int} {i k : Nat} (h : k = zs.length + i) : (zs ++ ls).getD k 0 = ls.getD i 0 := by
  subst h; simp only [List.getD]; rw [List.getElem?_append_right (by omega)]; congr 2; omega
theorem getD_set_ne {zs : List Int} {k j : Nat} {v : Int} (h : k ≠ j) : (zs.set k v).getD j 0 = zs.getD j 0 := by
  simp only [List.getD]; rw [List.getElem?_set_ne h]
theorem getD_set_self {zs : List Int} {k : Nat} {v : Int} (h : k < zs.length) : (zs.set k v).getD k 0 = v := by
  simp only [List.getD, List.getElem?_set_self h, Option.getD_some]
end Go.Proofs.Ytabojajhnhcemaa

namespace Go.Proofs.Ytabojajhnhcemaa
open Go.RowKit

theorem rd_lit (ls : List Int) (w : World) (k : Nat) (hk : w.heap.size = k) : Rd (w.alloc (.cells (ints ls).toArray 3)) (some ⟨k, 0, none⟩) ls := by
  subst hk
  intro i hi
  refine ⟨_, 0, rfl, ?_⟩
  rw [Nat.zero_add, cell_of_row _ _ i _ _ _ (heap_alloc_new w _)]
  rw [List.getElem?_toArray]
  exact ints_get ls i hi
theorem allocGoodL (A B : Option Addr) (c d : Nat) (zs ls : List Int) (w : World) (ha : arenaB zs = true) (h1 : 1 ≤ ls.length) (h8 : ls.length ≤ 8) (hw : wordsB ls = true) (hfit : zs.length + ls.length ≤ 400) (hA : Rd w A zs) (hB : Rd w B ls) (L : List Int) (hL : L = zs ++ ls) :
    Calls Try.prog 91 #[.agg #[.slice A zs.length c], .slice B ls.length d] w fun e w' => ∃ C k, e = .returned (.tuple #[.agg #[.slice C L.length k], .int .i64 zs.length, .int .i64 0]) ∧ NewA w.heap.size w' C k L ∧ Below w.heap.size w w' := by
  subst hL; exact allocGood A B c d zs ls w ha h1 h8 hw hfit hA hB
theorem storeGoodL (A : Option Addr) (c : Nat) (zs : List Int) (p v : Int) (k : Nat) (w : World) (hp : p = k) (ha : arenaB zs = true) (h1 : 1 ≤ k) (hk : k < zs.length) (hv : wordB v = true) (hA : Rd w A zs) (L : List Int) (hL : L = zs.set k v) :
    Calls Try.prog 90 #[.agg #[.slice A zs.length c], .int .i64 p, .int .i64 v] w fun e w' => ∃ B d, e = .returned (.tuple #[.agg #[.slice B L.length d], .int .i64 0]) ∧ NewA w.heap.size w' B d L ∧ Below w.heap.size w w' := by
  subst hL; exact storeGood A c zs p v k w hp ha h1 hk hv hA
end Go.Proofs.Ytabojajhnhcemaa

namespace Go.Proofs.Ytabojajhnhcemaa
open Go.RowKit

/-- The arena that InitQueue answers. -/
def initZs (zs : List Int) : List Int := if arenaB zs = true ∧ zs.length = 1 then [0, 6, 6, -1, 0, 0] else []
/-- The code that InitQueue answers. -/
def initCode (zs : List Int) : Int := if arenaB zs = true then (if zs.length = 1 then 0 else 8) else 1
theorem initZs_len (zs : List Int) : (initZs zs).length ≤ 6 := by
  unfold initZs; split <;> decide
theorem init_bad {zs : List Int} (h : arenaB zs = false) : initZs zs = [] ∧ initCode zs = 1 := by
  unfold initZs initCode; rw [h]; exact ⟨rfl, rfl⟩
theorem init_size {zs : List Int} (h : arenaB zs = true) (hl : zs.length ≠ 1) : initZs zs = [] ∧ initCode zs = 8 := by
  unfold initZs initCode; rw [if_neg (by simp [hl]), if_pos h, if_neg hl]; exact ⟨rfl, rfl⟩
theorem init_ok : initZs [0] = [0, 6, 6, -1, 0, 0] ∧ initCode [0] = 0 := by decide
theorem arena_one {zs : List Int} (h : arenaB zs = true) (hl : zs.length = 1) : zs = [0] := by
  obtain ⟨_, _, h3, _⟩ := arenaB_parts h
  match zs, hl with
  | [z], _ => simp [List.getD] at h3; rw [h3]

end Go.Proofs.Ytabojajhnhcemaa

namespace Go.Proofs.Ytabojajhnhcemaa
open Go.RowKit

set_option maxHeartbeats 4000000 in
theorem implStep_zero (id st op arg pc til : Int) (per can : Bool) (r0 r1 r2 r3 r4 code res : Int) (now q : Int) (w : World) (A : Option Addr) (c : Nat) (zs : List Int) (hn : zs.length ≤ 1048576) (hq : askB zs id st op arg pc til per can r0 r1 r2 r3 r4 code res now = q) (h0 : (q != 0) = true) (hA : Rd w A zs) :
    Calls Try.prog 9 #[.agg #[.slice A zs.length c], .agg #[.int .i64 id, .int .i64 st, .int .i64 op, .int .i64 arg, .int .i64 pc, .int .i64 til, .bool per, .bool can, .int .i64 r0, .int .i64 r1, .int .i64 r2, .int .i64 r3, .int .i64 r4, .int .i64 code, .int .i64 res], .int .i64 now] w fun e w' => e = .returned (.tuple #[.agg #[.slice none 0 0], .agg #[.int .i64 0, .int .i64 0, .int .i64 0, .int .i64 0, .int .i64 0, .int .i64 0, .bool false, .bool false, .int .i64 0, .int .i64 0, .int .i64 0, .int .i64 0, .int .i64 0, .int .i64 0, .int .i64 0], .int .i64 0, .int .i64 q]) ∧ Below w.heap.size w w' := by
  have HK := Lib.hid hq; clear hq
  have HF := Lib.hid (Fr.start w A c zs #[.int .i64 id, .int .i64 st, .int .i64 op, .int .i64 arg, .int .i64 pc, .int .i64 til, .bool per, .bool can, .int .i64 r0, .int .i64 r1, .int .i64 r2, .int .i64 r3, .int .i64 r4, .int .i64 code, .int .i64 res] hA); clear hA
  go_enter Try.func9, Try.ntmps9
  go_wp2_with fail
  refine (askP_any _ _ zs _ _ _ _ _ _ _ _ _ _ _ _ _ _ _ now _ hn HF.out.rd).mono ?_
  rintro e w1 ⟨rfl, hb⟩
  rw [HK.out]
  have HF1 := Lib.hid (HF.out.below hb); clear hb HF
  have hra := HF1.out.ra.cell; have hfa := HF1.out.ra.froz; have hrt := HF1.out.rt.cell; have hft := HF1.out.rt.froz
  go_wp2_with (refine wpList_store_row rfl 29 _ _ rfl (w.heap.size + 1 + 1 + 1) _ rfl rfl 29 _ (HF1.out.rtSet _) info_th rfl (one15 _ _ _ _ _ _ _ _ _ _ _ _ _ _ _) ?_)
  obtain ⟨g1, g2, g3⟩ := HF1.out.done (.slice none 0 0) #[.int .i64 0, .int .i64 0, .int .i64 0, .int .i64 0, .int .i64 0, .int .i64 0, .bool false, .bool false, .int .i64 0, .int .i64 0, .int .i64 0, .int .i64 0, .int .i64 0, .int .i64 0, .int .i64 0]
  exact bodyPost_ret (results_at4 Try.results9 _ _ _ _ _ _ _ _ rfl rfl rfl rfl g1 g2 rfl) rfl ⟨rfl, g3⟩
end Go.Proofs.Ytabojajhnhcemaa
