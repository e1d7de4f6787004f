/-
  The program's serve, by Pc.
-/
import Derived.Test.YtabojajhnhcemaaJ16
import Derived.StillTailTactics
namespace Go.Proofs.Ytabojajhnhcemaa
open Go.RowKit

set_option maxHeartbeats 4000000 in
set_option maxRecDepth 100000 in
theorem qserve6t (id : Int) (st : Int) (op : Int) (arg : Int) (til : Int) (per : Bool) (can : Bool) (r0 : Int) (r1 : Int) (r2 : Int) (r3 : Int) (r4 : Int) (code : Int) (res : Int) (now wk : Int) (x : Int) (k lo : Nat) (w : World) (A : Option Addr) (c : Nat) (zs : List Int) (hn : zs.length ≤ 1048576) (ha : arenaB zs = true) (h0 : zs.getD 0 0 = 0) (hlo : lo ≤ w.heap.size) (hb0 : -1000000000000 ≤ r1 ∧ r1 ≤ 1000000000000) (hx : loadZ zs (halfI r1 + 1) = x) (h2 : (x != 0) = true) (hQ : BoxQ w k #[.slice A zs.length c, .int .i64 id, .int .i64 st, .int .i64 op, .int .i64 arg, .int .i64 6, .int .i64 til, .bool per, .bool can, .int .i64 r0, .int .i64 r1, .int .i64 r2, .int .i64 r3, .int .i64 r4, .int .i64 code, .int .i64 res, .int .i64 now, .int .i64 wk]) (hA : NewA lo w A c zs) :
    Calls Try.prog 30 #[.pointer (some ⟨k, 0, none⟩)] w fun e w' => ∃ B d, e = .returned (.tuple #[]) ∧ Q w w' k lo B d (zs) #[.slice B (zs).length d, .int .i64 id, .int .i64 st, .int .i64 op, .int .i64 arg, .int .i64 7, .int .i64 til, .bool per, .bool can, .int .i64 r0, .int .i64 r1, .int .i64 x, .int .i64 r3, .int .i64 r4, .int .i64 code, .int .i64 res, .int .i64 now, .int .i64 wk] := by
  have hc := hQ.cell
  have hf := hQ.froz
  have HQ := Lib.hid (Q.start hQ hA); clear hQ hA
  have H0 := Lib.hid h0; have HA := Lib.hid ha; have HLO := Lib.hid hlo; clear h0 ha hlo
  have HB0 := Lib.hid hb0; clear hb0
  have HX := Lib.hid hx; clear hx
  have HD := Lib.hid HQ.out.drew; have HLD : Hid (lo ≤ w.drew.heap.size) := HLO.out
  go_enter Try.func30, Try.ntmps30
  go_upto_region 8 with fail
  go_region_law (first
    | (go_simp; go_at_call 63; refine (nextOf_any _ _ HB0.out).mono ?_; rintro e w' ⟨rfl, rfl⟩)
    | (go_simp; go_at_call 59; (with_reducible refine (qload_any A c zs _ w.drew hn H0.out HD.out.rd).mono ?_); rintro e v1 ⟨rfl, hb⟩; rw [HX.out]; have HQ1 := Lib.hid (HD.out.below hb); clear hb; have hc1 := HQ1.out.box.cell; have hf1 := HQ1.out.box.froz))
  all_goals
    have HQ2 : Hid (Q w (v1.setCell ⟨k, 11, none⟩ (.int .i64 x)) k lo A c zs #[.slice A zs.length c, .int .i64 id, .int .i64 st, .int .i64 op, .int .i64 arg, .int .i64 6, .int .i64 til, .bool per, .bool can, .int .i64 r0, .int .i64 r1, .int .i64 x, .int .i64 r3, .int .i64 r4, .int .i64 code, .int .i64 res, .int .i64 now, .int .i64 wk]) := HQ1.out.set 11 _
    go_upto_region 9 with fail
    generalize v1.setCell ⟨k, 11, none⟩ (.int .i64 x) = w2 at HQ2 ⊢
    clear hc hf hc1 hf1 HQ1 HQ HD
    have hc2 := HQ2.out.box.cell; have hf2 := HQ2.out.box.froz
    go_wp2_with fail
    refine (qChoose_any true 7 0 7 rfl _ _ _ _ _ _ _ _ _ _ _ _ _ _ _ _ _ _ lo _ _ _ zs HQ2.out.box HQ2.out.own).mono ?_
    rintro e w3 ⟨rfl, hb⟩
    have HQ3 := Lib.hid (HQ2.out.then hb); clear hb
    clear hc2 hf2 HQ2
    go_wp2
    exact bodyPost_end (results_none rfl _ _ _) rfl ⟨_, _, rfl, HQ3.out⟩

set_option maxHeartbeats 4000000 in
set_option maxRecDepth 100000 in
theorem qserve6f (id : Int) (st : Int) (op : Int) (arg : Int) (til : Int) (per : Bool) (can : Bool) (r0 : Int) (r1 : Int) (r2 : Int) (r3 : Int) (r4 : Int) (code : Int) (res : Int) (now wk : Int) (x : Int) (k lo : Nat) (w : World) (A : Option Addr) (c : Nat) (zs : List Int) (hn : zs.length ≤ 1048576) (ha : arenaB zs = true) (h0 : zs.getD 0 0 = 0) (hlo : lo ≤ w.heap.size) (hb0 : -1000000000000 ≤ r1 ∧ r1 ≤ 1000000000000) (hx : loadZ zs (halfI r1 + 1) = x) (h2 : (x != 0) = false) (hQ : BoxQ w k #[.slice A zs.length c, .int .i64 id, .int .i64 st, .int .i64 op, .int .i64 arg, .int .i64 6, .int .i64 til, .bool per, .bool can, .int .i64 r0, .int .i64 r1, .int .i64 r2, .int .i64 r3, .int .i64 r4, .int .i64 code, .int .i64 res, .int .i64 now, .int .i64 wk]) (hA : NewA lo w A c zs) :
    Calls Try.prog 30 #[.pointer (some ⟨k, 0, none⟩)] w fun e w' => ∃ B d, e = .returned (.tuple #[]) ∧ Q w w' k lo B d (zs) #[.slice B (zs).length d, .int .i64 id, .int .i64 st, .int .i64 op, .int .i64 arg, .int .i64 0, .int .i64 til, .bool per, .bool can, .int .i64 r0, .int .i64 r1, .int .i64 x, .int .i64 r3, .int .i64 r4, .int .i64 code, .int .i64 res, .int .i64 now, .int .i64 wk] := by
  have hc := hQ.cell
  have hf := hQ.froz
  have HQ := Lib.hid (Q.start hQ hA); clear hQ hA
  have H0 := Lib.hid h0; have HA := Lib.hid ha; have HLO := Lib.hid hlo; clear h0 ha hlo
  have HB0 := Lib.hid hb0; clear hb0
  have HX := Lib.hid hx; clear hx
  have HD := Lib.hid HQ.out.drew; have HLD : Hid (lo ≤ w.drew.heap.size) := HLO.out
  go_enter Try.func30, Try.ntmps30
  go_upto_region 8 with fail
  go_region_law (first
    | (go_simp; go_at_call 63; refine (nextOf_any _ _ HB0.out).mono ?_; rintro e w' ⟨rfl, rfl⟩)
    | (go_simp; go_at_call 59; (with_reducible refine (qload_any A c zs _ w.drew hn H0.out HD.out.rd).mono ?_); rintro e v1 ⟨rfl, hb⟩; rw [HX.out]; have HQ1 := Lib.hid (HD.out.below hb); clear hb; have hc1 := HQ1.out.box.cell; have hf1 := HQ1.out.box.froz))
  all_goals
    have HQ2 : Hid (Q w (v1.setCell ⟨k, 11, none⟩ (.int .i64 x)) k lo A c zs #[.slice A zs.length c, .int .i64 id, .int .i64 st, .int .i64 op, .int .i64 arg, .int .i64 6, .int .i64 til, .bool per, .bool can, .int .i64 r0, .int .i64 r1, .int .i64 x, .int .i64 r3, .int .i64 r4, .int .i64 code, .int .i64 res, .int .i64 now, .int .i64 wk]) := HQ1.out.set 11 _
    go_upto_region 9 with fail
    generalize v1.setCell ⟨k, 11, none⟩ (.int .i64 x) = w2 at HQ2 ⊢
    clear hc hf hc1 hf1 HQ1 HQ HD
    have hc2 := HQ2.out.box.cell; have hf2 := HQ2.out.box.froz
    go_wp2_with fail
    refine (qChoose_any false 7 0 0 rfl _ _ _ _ _ _ _ _ _ _ _ _ _ _ _ _ _ _ lo _ _ _ zs HQ2.out.box HQ2.out.own).mono ?_
    rintro e w3 ⟨rfl, hb⟩
    have HQ3 := Lib.hid (HQ2.out.then hb); clear hb
    clear hc2 hf2 HQ2
    go_wp2
    exact bodyPost_end (results_none rfl _ _ _) rfl ⟨_, _, rfl, HQ3.out⟩

set_option maxHeartbeats 4000000 in
set_option maxRecDepth 100000 in
theorem qserve7t (id : Int) (st : Int) (op : Int) (arg : Int) (til : Int) (per : Bool) (can : Bool) (r0 : Int) (r1 : Int) (r2 : Int) (r3 : Int) (r4 : Int) (code : Int) (res : Int) (now wk : Int) (x : Int) (k lo : Nat) (w : World) (A : Option Addr) (c : Nat) (zs : List Int) (hn : zs.length ≤ 1048576) (ha : arenaB zs = true) (h0 : zs.getD 0 0 = 0) (hlo : lo ≤ w.heap.size) (hb0 : -1000000000000 ≤ r2 ∧ r2 ≤ 1000000000000) (hx : loadZ zs (halfI r2) = x) (h2 : meetB op r2 x = true) (hQ : BoxQ w k #[.slice A zs.length c, .int .i64 id, .int .i64 st, .int .i64 op, .int .i64 arg, .int .i64 7, .int .i64 til, .bool per, .bool can, .int .i64 r0, .int .i64 r1, .int .i64 r2, .int .i64 r3, .int .i64 r4, .int .i64 code, .int .i64 res, .int .i64 now, .int .i64 wk]) (hA : NewA lo w A c zs) :
    Calls Try.prog 30 #[.pointer (some ⟨k, 0, none⟩)] w fun e w' => ∃ B d, e = .returned (.tuple #[]) ∧ Q w w' k lo B d (zs) #[.slice B (zs).length d, .int .i64 id, .int .i64 st, .int .i64 op, .int .i64 arg, .int .i64 13, .int .i64 til, .bool per, .bool can, .int .i64 r0, .int .i64 r1, .int .i64 r2, .int .i64 r3, .int .i64 x, .int .i64 code, .int .i64 res, .int .i64 now, .int .i64 wk] := by
  have hc := hQ.cell
  have hf := hQ.froz
  have HQ := Lib.hid (Q.start hQ hA); clear hQ hA
  have H0 := Lib.hid h0; have HA := Lib.hid ha; have HLO := Lib.hid hlo; clear h0 ha hlo
  have HB0 := Lib.hid hb0; clear hb0
  have HX := Lib.hid hx; clear hx
  have H2 := Lib.hid h2; clear h2
  have HD := Lib.hid HQ.out.drew; have HLD : Hid (lo ≤ w.drew.heap.size) := HLO.out
  go_enter Try.func30, Try.ntmps30
  go_upto_region 10 with fail
  go_region_law (first
    | (go_simp; go_at_call 67; refine (itemOf_any _ _ HB0.out).mono ?_; rintro e w' ⟨rfl, rfl⟩)
    | (go_simp; go_at_call 59; (with_reducible refine (qload_any A c zs _ w.drew hn H0.out HD.out.rd).mono ?_); rintro e v1 ⟨rfl, hb⟩; rw [HX.out]; have HQ1 := Lib.hid (HD.out.below hb); clear hb; have hc1 := HQ1.out.box.cell; have hf1 := HQ1.out.box.froz))
  all_goals
    have HQ2 : Hid (Q w (v1.setCell ⟨k, 13, none⟩ (.int .i64 x)) k lo A c zs #[.slice A zs.length c, .int .i64 id, .int .i64 st, .int .i64 op, .int .i64 arg, .int .i64 7, .int .i64 til, .bool per, .bool can, .int .i64 r0, .int .i64 r1, .int .i64 r2, .int .i64 r3, .int .i64 x, .int .i64 code, .int .i64 res, .int .i64 now, .int .i64 wk]) := HQ1.out.set 13 _
    go_upto_region 11 with fail
    generalize v1.setCell ⟨k, 13, none⟩ (.int .i64 x) = w2 at HQ2 ⊢
    clear hc hf hc1 hf1 HQ1 HQ HD
    have hc2 := HQ2.out.box.cell; have hf2 := HQ2.out.box.froz
    go_wp2_with fail
    refine (qMeets_any _ _ _ _ _ _ _ _ _ _ _ _ _ _ _ _ _ _ _ _ HQ2.out.box).mono ?_
    rintro e w' ⟨rfl, rfl⟩; rw [H2.out]
    go_wp2_with fail
    refine (qChoose_any true 13 12 13 rfl _ _ _ _ _ _ _ _ _ _ _ _ _ _ _ _ _ _ lo _ _ _ zs HQ2.out.box HQ2.out.own).mono ?_
    rintro e w3 ⟨rfl, hb⟩
    have HQ3 := Lib.hid (HQ2.out.then hb); clear hb
    clear hc2 hf2 HQ2
    go_wp2
    exact bodyPost_end (results_none rfl _ _ _) rfl ⟨_, _, rfl, HQ3.out⟩

set_option maxHeartbeats 4000000 in
set_option maxRecDepth 100000 in
theorem qserve7f (id : Int) (st : Int) (op : Int) (arg : Int) (til : Int) (per : Bool) (can : Bool) (r0 : Int) (r1 : Int) (r2 : Int) (r3 : Int) (r4 : Int) (code : Int) (res : Int) (now wk : Int) (x : Int) (k lo : Nat) (w : World) (A : Option Addr) (c : Nat) (zs : List Int) (hn : zs.length ≤ 1048576) (ha : arenaB zs = true) (h0 : zs.getD 0 0 = 0) (hlo : lo ≤ w.heap.size) (hb0 : -1000000000000 ≤ r2 ∧ r2 ≤ 1000000000000) (hx : loadZ zs (halfI r2) = x) (h2 : meetB op r2 x = false) (hQ : BoxQ w k #[.slice A zs.length c, .int .i64 id, .int .i64 st, .int .i64 op, .int .i64 arg, .int .i64 7, .int .i64 til, .bool per, .bool can, .int .i64 r0, .int .i64 r1, .int .i64 r2, .int .i64 r3, .int .i64 r4, .int .i64 code, .int .i64 res, .int .i64 now, .int .i64 wk]) (hA : NewA lo w A c zs) :
    Calls Try.prog 30 #[.pointer (some ⟨k, 0, none⟩)] w fun e w' => ∃ B d, e = .returned (.tuple #[]) ∧ Q w w' k lo B d (zs) #[.slice B (zs).length d, .int .i64 id, .int .i64 st, .int .i64 op, .int .i64 arg, .int .i64 12, .int .i64 til, .bool per, .bool can, .int .i64 r0, .int .i64 r1, .int .i64 r2, .int .i64 r3, .int .i64 x, .int .i64 code, .int .i64 res, .int .i64 now, .int .i64 wk] := by
  have hc := hQ.cell
  have hf := hQ.froz
  have HQ := Lib.hid (Q.start hQ hA); clear hQ hA
  have H0 := Lib.hid h0; have HA := Lib.hid ha; have HLO := Lib.hid hlo; clear h0 ha hlo
  have HB0 := Lib.hid hb0; clear hb0
  have HX := Lib.hid hx; clear hx
  have H2 := Lib.hid h2; clear h2
  have HD := Lib.hid HQ.out.drew; have HLD : Hid (lo ≤ w.drew.heap.size) := HLO.out
  go_enter Try.func30, Try.ntmps30
  go_upto_region 10 with fail
  go_region_law (first
    | (go_simp; go_at_call 67; refine (itemOf_any _ _ HB0.out).mono ?_; rintro e w' ⟨rfl, rfl⟩)
    | (go_simp; go_at_call 59; (with_reducible refine (qload_any A c zs _ w.drew hn H0.out HD.out.rd).mono ?_); rintro e v1 ⟨rfl, hb⟩; rw [HX.out]; have HQ1 := Lib.hid (HD.out.below hb); clear hb; have hc1 := HQ1.out.box.cell; have hf1 := HQ1.out.box.froz))
  all_goals
    have HQ2 : Hid (Q w (v1.setCell ⟨k, 13, none⟩ (.int .i64 x)) k lo A c zs #[.slice A zs.length c, .int .i64 id, .int .i64 st, .int .i64 op, .int .i64 arg, .int .i64 7, .int .i64 til, .bool per, .bool can, .int .i64 r0, .int .i64 r1, .int .i64 r2, .int .i64 r3, .int .i64 x, .int .i64 code, .int .i64 res, .int .i64 now, .int .i64 wk]) := HQ1.out.set 13 _
    go_upto_region 11 with fail
    generalize v1.setCell ⟨k, 13, none⟩ (.int .i64 x) = w2 at HQ2 ⊢
    clear hc hf hc1 hf1 HQ1 HQ HD
    have hc2 := HQ2.out.box.cell; have hf2 := HQ2.out.box.froz
    go_wp2_with fail
    refine (qMeets_any _ _ _ _ _ _ _ _ _ _ _ _ _ _ _ _ _ _ _ _ HQ2.out.box).mono ?_
    rintro e w' ⟨rfl, rfl⟩; rw [H2.out]
    go_wp2_with fail
    refine (qChoose_any false 13 12 12 rfl _ _ _ _ _ _ _ _ _ _ _ _ _ _ _ _ _ _ lo _ _ _ zs HQ2.out.box HQ2.out.own).mono ?_
    rintro e w3 ⟨rfl, hb⟩
    have HQ3 := Lib.hid (HQ2.out.then hb); clear hb
    clear hc2 hf2 HQ2
    go_wp2
    exact bodyPost_end (results_none rfl _ _ _) rfl ⟨_, _, rfl, HQ3.out⟩

set_option maxHeartbeats 4000000 in
set_option maxRecDepth 100000 in
theorem qserve13t (id : Int) (st : Int) (op : Int) (arg : Int) (til : Int) (per : Bool) (can : Bool) (r0 : Int) (r1 : Int) (r2 : Int) (r3 : Int) (r4 : Int) (code : Int) (res : Int) (now wk : Int) (L : List Int) (k lo : Nat) (w : World) (A : Option Addr) (c : Nat) (zs : List Int) (hn : zs.length ≤ 1048576) (ha : arenaB zs = true) (h0 : zs.getD 0 0 = 0) (hlo : lo ≤ w.heap.size) (hb0 : -1000000000000 ≤ r2 ∧ r2 ≤ 1000000000000) (hr : -1000000000000 ≤ arg ∧ arg ≤ 1000000000000) (hw : wordB (firstI op arg) = true) (hl : casZ zs (halfI r2) (r4) (firstI op arg) = L) (hk : casOk zs (halfI r2) (r4) = true) (hQ : BoxQ w k #[.slice A zs.length c, .int .i64 id, .int .i64 st, .int .i64 op, .int .i64 arg, .int .i64 13, .int .i64 til, .bool per, .bool can, .int .i64 r0, .int .i64 r1, .int .i64 r2, .int .i64 r3, .int .i64 r4, .int .i64 code, .int .i64 res, .int .i64 now, .int .i64 wk]) (hA : NewA lo w A c zs) :
    Calls Try.prog 30 #[.pointer (some ⟨k, 0, none⟩)] w fun e w' => ∃ B d, e = .returned (.tuple #[]) ∧ Q w w' k lo B d (L) #[.slice B (L).length d, .int .i64 id, .int .i64 st, .int .i64 op, .int .i64 arg, .int .i64 14, .int .i64 til, .bool per, .bool can, .int .i64 r0, .int .i64 r1, .int .i64 r2, .int .i64 r3, .int .i64 r4, .int .i64 code, .int .i64 res, .int .i64 now, .int .i64 wk] := by
  have hc := hQ.cell
  have hf := hQ.froz
  have HQ := Lib.hid (Q.start hQ hA); clear hQ hA
  have H0 := Lib.hid h0; have HA := Lib.hid ha; have HLO := Lib.hid hlo; clear h0 ha hlo
  have HB0 := Lib.hid hb0; clear hb0
  have HR := Lib.hid hr; clear hr
  have HW := Lib.hid hw; clear hw
  have HL := Lib.hid hl; clear hl
  have HK := Lib.hid hk; clear hk
  have HD := Lib.hid HQ.out.drew; have HLD : Hid (lo ≤ w.drew.heap.size) := HLO.out
  go_enter Try.func30, Try.ntmps30
  go_upto_region 12 with fail
  go_region_law (first
    | (go_simp; go_at_call 67; refine (itemOf_any _ _ HB0.out).mono ?_; rintro e w' ⟨rfl, rfl⟩)
    | (go_simp; go_at_call 69; (with_reducible refine (qFirst_any _ id st op arg 13 til per can r0 r1 r2 r3 r4 code res now wk k w.drew HR.out HD.out.box).mono ?_); rintro e w' ⟨rfl, rfl⟩)
    | (go_simp; go_at_call 65; (with_reducible refine (qChange_any _ _ _ id st op arg 13 til per can r0 r1 r2 r3 r4 code res now wk k lo w.drew A c zs hn HA.out H0.out HW.out HLD.out HD.out.box HD.out.own).mono ?_); rintro e v1 ⟨B, d, rfl, hq⟩; have HQ1 := Lib.hid (HD.out.then hq); clear hq; rw [HL.out] at HQ1; rw [HK.out]; have hc1 := HQ1.out.box.cell; have hf1 := HQ1.out.box.froz)
    | (go_simp; go_at_call 62; (with_reducible refine (qChoose_any true 14 12 14 rfl id st op arg 13 til per can r0 r1 r2 r3 r4 code res now wk k lo v1 B d L HQ1.out.box HQ1.out.own).mono ?_); rintro e v2 ⟨rfl, hq⟩; have HQ2 := Lib.hid (HQ1.out.then hq); clear hq))
  all_goals
    go_wp2
    exact bodyPost_end (results_none rfl _ _ _) rfl ⟨_, _, rfl, HQ2.out⟩

set_option maxHeartbeats 4000000 in
set_option maxRecDepth 100000 in
theorem qserve13f (id : Int) (st : Int) (op : Int) (arg : Int) (til : Int) (per : Bool) (can : Bool) (r0 : Int) (r1 : Int) (r2 : Int) (r3 : Int) (r4 : Int) (code : Int) (res : Int) (now wk : Int) (L : List Int) (k lo : Nat) (w : World) (A : Option Addr) (c : Nat) (zs : List Int) (hn : zs.length ≤ 1048576) (ha : arenaB zs = true) (h0 : zs.getD 0 0 = 0) (hlo : lo ≤ w.heap.size) (hb0 : -1000000000000 ≤ r2 ∧ r2 ≤ 1000000000000) (hr : -1000000000000 ≤ arg ∧ arg ≤ 1000000000000) (hw : wordB (firstI op arg) = true) (hl : casZ zs (halfI r2) (r4) (firstI op arg) = L) (hk : casOk zs (halfI r2) (r4) = false) (hQ : BoxQ w k #[.slice A zs.length c, .int .i64 id, .int .i64 st, .int .i64 op, .int .i64 arg, .int .i64 13, .int .i64 til, .bool per, .bool can, .int .i64 r0, .int .i64 r1, .int .i64 r2, .int .i64 r3, .int .i64 r4, .int .i64 code, .int .i64 res, .int .i64 now, .int .i64 wk]) (hA : NewA lo w A c zs) :
    Calls Try.prog 30 #[.pointer (some ⟨k, 0, none⟩)] w fun e w' => ∃ B d, e = .returned (.tuple #[]) ∧ Q w w' k lo B d (L) #[.slice B (L).length d, .int .i64 id, .int .i64 st, .int .i64 op, .int .i64 arg, .int .i64 12, .int .i64 til, .bool per, .bool can, .int .i64 r0, .int .i64 r1, .int .i64 r2, .int .i64 r3, .int .i64 r4, .int .i64 code, .int .i64 res, .int .i64 now, .int .i64 wk] := by
  have hc := hQ.cell
  have hf := hQ.froz
  have HQ := Lib.hid (Q.start hQ hA); clear hQ hA
  have H0 := Lib.hid h0; have HA := Lib.hid ha; have HLO := Lib.hid hlo; clear h0 ha hlo
  have HB0 := Lib.hid hb0; clear hb0
  have HR := Lib.hid hr; clear hr
  have HW := Lib.hid hw; clear hw
  have HL := Lib.hid hl; clear hl
  have HK := Lib.hid hk; clear hk
  have HD := Lib.hid HQ.out.drew; have HLD : Hid (lo ≤ w.drew.heap.size) := HLO.out
  go_enter Try.func30, Try.ntmps30
  go_upto_region 12 with fail
  go_region_law (first
    | (go_simp; go_at_call 67; refine (itemOf_any _ _ HB0.out).mono ?_; rintro e w' ⟨rfl, rfl⟩)
    | (go_simp; go_at_call 69; (with_reducible refine (qFirst_any _ id st op arg 13 til per can r0 r1 r2 r3 r4 code res now wk k w.drew HR.out HD.out.box).mono ?_); rintro e w' ⟨rfl, rfl⟩)
    | (go_simp; go_at_call 65; (with_reducible refine (qChange_any _ _ _ id st op arg 13 til per can r0 r1 r2 r3 r4 code res now wk k lo w.drew A c zs hn HA.out H0.out HW.out HLD.out HD.out.box HD.out.own).mono ?_); rintro e v1 ⟨B, d, rfl, hq⟩; have HQ1 := Lib.hid (HD.out.then hq); clear hq; rw [HL.out] at HQ1; rw [HK.out]; have hc1 := HQ1.out.box.cell; have hf1 := HQ1.out.box.froz)
    | (go_simp; go_at_call 62; (with_reducible refine (qChoose_any false 14 12 12 rfl id st op arg 13 til per can r0 r1 r2 r3 r4 code res now wk k lo v1 B d L HQ1.out.box HQ1.out.own).mono ?_); rintro e v2 ⟨rfl, hq⟩; have HQ2 := Lib.hid (HQ1.out.then hq); clear hq))
  all_goals
    go_wp2
    exact bodyPost_end (results_none rfl _ _ _) rfl ⟨_, _, rfl, HQ2.out⟩

set_option maxHeartbeats 4000000 in
set_option maxRecDepth 100000 in
theorem qserve12 (id : Int) (st : Int) (op : Int) (arg : Int) (til : Int) (per : Bool) (can : Bool) (r0 : Int) (r1 : Int) (r2 : Int) (r3 : Int) (r4 : Int) (code : Int) (res : Int) (now wk : Int) (L : List Int) (k lo : Nat) (w : World) (A : Option Addr) (c : Nat) (zs : List Int) (hn : zs.length ≤ 1048576) (ha : arenaB zs = true) (h0 : zs.getD 0 0 = 0) (hlo : lo ≤ w.heap.size) (hw : wordB r2 = true) (hl : casZ zs (1) (r1) (r2) = L) (hQ : BoxQ w k #[.slice A zs.length c, .int .i64 id, .int .i64 st, .int .i64 op, .int .i64 arg, .int .i64 12, .int .i64 til, .bool per, .bool can, .int .i64 r0, .int .i64 r1, .int .i64 r2, .int .i64 r3, .int .i64 r4, .int .i64 code, .int .i64 res, .int .i64 now, .int .i64 wk]) (hA : NewA lo w A c zs) :
    Calls Try.prog 30 #[.pointer (some ⟨k, 0, none⟩)] w fun e w' => ∃ B d, e = .returned (.tuple #[]) ∧ Q w w' k lo B d (L) #[.slice B (L).length d, .int .i64 id, .int .i64 st, .int .i64 op, .int .i64 arg, .int .i64 0, .int .i64 til, .bool per, .bool can, .int .i64 r0, .int .i64 r1, .int .i64 r2, .int .i64 r3, .int .i64 r4, .int .i64 code, .int .i64 res, .int .i64 now, .int .i64 wk] := by
  have hc := hQ.cell
  have hf := hQ.froz
  have HQ := Lib.hid (Q.start hQ hA); clear hQ hA
  have H0 := Lib.hid h0; have HA := Lib.hid ha; have HLO := Lib.hid hlo; clear h0 ha hlo
  have HW := Lib.hid hw; clear hw
  have HL := Lib.hid hl; clear hl
  have HD := Lib.hid HQ.out.drew; have HLD : Hid (lo ≤ w.drew.heap.size) := HLO.out
  go_enter Try.func30, Try.ntmps30
  go_upto_region 14 with fail
  go_region_law (first
    | (go_simp; go_at_call 65; (with_reducible refine (qChange_any _ _ _ id st op arg 12 til per can r0 r1 r2 r3 r4 code res now wk k lo w.drew A c zs hn HA.out H0.out HW.out HLD.out HD.out.box HD.out.own).mono ?_); rintro e v1 ⟨B, d, rfl, hq⟩; have HQ1 := Lib.hid (HD.out.then hq); clear hq; rw [HL.out] at HQ1; have hc1 := HQ1.out.box.cell; have hf1 := HQ1.out.box.froz))
  all_goals
    clear hc hf HQ HD
    go_wp2
    exact bodyPost_end (results_none rfl _ _ _) rfl ⟨_, _, rfl, HQ1.out.set 5 _⟩

set_option maxHeartbeats 4000000 in
set_option maxRecDepth 100000 in
theorem qserve14 (id : Int) (st : Int) (op : Int) (arg : Int) (til : Int) (per : Bool) (can : Bool) (r0 : Int) (r1 : Int) (r2 : Int) (r3 : Int) (r4 : Int) (code : Int) (res : Int) (now wk : Int) (L : List Int) (k lo : Nat) (w : World) (A : Option Addr) (c : Nat) (zs : List Int) (hn : zs.length ≤ 1048576) (ha : arenaB zs = true) (h0 : zs.getD 0 0 = 0) (hlo : lo ≤ w.heap.size) (hw : wordB r2 = true) (hl : casZ zs (1) (r1) (r2) = L) (hQ : BoxQ w k #[.slice A zs.length c, .int .i64 id, .int .i64 st, .int .i64 op, .int .i64 arg, .int .i64 14, .int .i64 til, .bool per, .bool can, .int .i64 r0, .int .i64 r1, .int .i64 r2, .int .i64 r3, .int .i64 r4, .int .i64 code, .int .i64 res, .int .i64 now, .int .i64 wk]) (hA : NewA lo w A c zs) :
    Calls Try.prog 30 #[.pointer (some ⟨k, 0, none⟩)] w fun e w' => ∃ B d, e = .returned (.tuple #[]) ∧ Q w w' k lo B d (L) #[.slice B (L).length d, .int .i64 id, .int .i64 st, .int .i64 op, .int .i64 arg, .int .i64 15, .int .i64 til, .bool per, .bool can, .int .i64 r0, .int .i64 r1, .int .i64 r2, .int .i64 r3, .int .i64 r4, .int .i64 code, .int .i64 res, .int .i64 now, .int .i64 wk] := by
  have hc := hQ.cell
  have hf := hQ.froz
  have HQ := Lib.hid (Q.start hQ hA); clear hQ hA
  have H0 := Lib.hid h0; have HA := Lib.hid ha; have HLO := Lib.hid hlo; clear h0 ha hlo
  have HW := Lib.hid hw; clear hw
  have HL := Lib.hid hl; clear hl
  have HD := Lib.hid HQ.out.drew; have HLD : Hid (lo ≤ w.drew.heap.size) := HLO.out
  go_enter Try.func30, Try.ntmps30
  go_upto_region 14 with fail
  go_region_law (first
    | (go_simp; go_at_call 65; (with_reducible refine (qChange_any _ _ _ id st op arg 14 til per can r0 r1 r2 r3 r4 code res now wk k lo w.drew A c zs hn HA.out H0.out HW.out HLD.out HD.out.box HD.out.own).mono ?_); rintro e v1 ⟨B, d, rfl, hq⟩; have HQ1 := Lib.hid (HD.out.then hq); clear hq; rw [HL.out] at HQ1; have hc1 := HQ1.out.box.cell; have hf1 := HQ1.out.box.froz))
  all_goals
    clear hc hf HQ HD
    go_wp2
    exact bodyPost_end (results_none rfl _ _ _) rfl ⟨_, _, rfl, HQ1.out.set 5 _⟩
end Go.Proofs.Ytabojajhnhcemaa
