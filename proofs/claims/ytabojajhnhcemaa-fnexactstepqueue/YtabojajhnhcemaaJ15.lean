/-
  The program's functions over a step under way: change, ended, givenUp, givesUp, endWell, meets.
-/
import Derived.Test.YtabojajhnhcemaaJ13
import Derived.Deep.DeepCutAuto
namespace Go.Proofs.Ytabojajhnhcemaa
open Go.RowKit

theorem putZ_write {zs : List Int} {p v : Int} (_ha : arenaB zs = true) (hv : wordB v = true) (h : writeCode zs p v = 0) : storeZs zs p v = putZ zs p v := by
  have hc := (cellCode_zero (writeCode_zero h).1).2
  unfold storeZs putZ
  rw [if_pos h, if_pos ⟨by rw [inB_iff]; omega, hv⟩]
theorem putZ_none {zs : List Int} {p v : Int} (ha : arenaB zs = true) (hv : wordB v = true) (h : writeCode zs p v ≠ 0) : putZ zs p v = zs := by
  unfold putZ
  rw [if_neg]
  rintro ⟨hi, _⟩
  have hi := inB_iff.1 hi
  apply h
  unfold writeCode
  have : cellCode zs p = 0 := by unfold cellCode; rw [if_pos ha, if_pos (by omega)]
  rw [if_pos this, if_pos hv]

set_option maxHeartbeats 2000000 in
theorem qChange_any (p old v : Int) (id st op arg pc til : Int) (per can : Bool) (r0 r1 r2 r3 r4 code res : Int) (now wk : Int) (k lo : Nat) (w : World) (A : Option Addr) (c : Nat) (zs : List Int) (hn : zs.length ≤ 1048576) (ha : arenaB zs = true) (h0 : zs.getD 0 0 = 0) (hv : wordB v = true) (hlo : lo ≤ w.heap.size)
    (hQ : BoxQ w k #[.slice A zs.length c, .int .i64 id, .int .i64 st, .int .i64 op, .int .i64 arg, .int .i64 pc, .int .i64 til, .bool per, .bool can, .int .i64 r0, .int .i64 r1, .int .i64 r2, .int .i64 r3, .int .i64 r4, .int .i64 code, .int .i64 res, .int .i64 now, .int .i64 wk]) (hA : NewA lo w A c zs) :
    Calls Try.prog 65 #[.pointer (some ⟨k, 0, none⟩), .int .i64 p, .int .i64 old, .int .i64 v] w fun e w' => ∃ B d, e = .returned (.bool (casOk zs p old)) ∧ Q w w' k lo B d (casZ zs p old v) #[.slice B (casZ zs p old v).length d, .int .i64 id, .int .i64 st, .int .i64 op, .int .i64 arg, .int .i64 pc, .int .i64 til, .bool per, .bool can, .int .i64 r0, .int .i64 r1, .int .i64 r2, .int .i64 r3, .int .i64 r4, .int .i64 code, .int .i64 res, .int .i64 now, .int .i64 wk] := by
  have hc := hQ.cell
  have HQ := Lib.hid (Q.start hQ hA); clear hQ hA
  have HLO := Lib.hid hlo; clear hlo
  by_cases he : loadZ zs p = old
  · have HK : Hid (casOk zs p old = true) := decide_eq_true he
    have hne : (loadZ zs p != old) = false := by simp [he]
    by_cases hw : writeCode zs p v = 0
    · have HV : Hid (casZ zs p old v = storeZs zs p v) := by unfold casZ; rw [if_pos he, putZ_write ha hv hw]; rfl
      have hz : (writeCode zs p v == 0) = true := by simp [hw]
      have H0 := Lib.hid h0
      clear he hw ha hv h0
      go_enter Try.func65, Try.ntmps65
      go_wp2_with fail
      refine (qload_any _ _ zs _ _ hn H0.out HQ.out.rd).mono ?_
      rintro e w1 ⟨rfl, hb⟩
      have HQ1 := Lib.hid (HQ.out.below hb)
      have hc1 := HQ1.out.box.cell
      clear hb hc
      generalize loadZ zs p = x at *
      go_wp2_with fail
      refine (implStoreCell_any _ _ zs _ _ _ hn HQ1.out.rd).mono ?_
      rintro e w2 ⟨B, d, rfl, hnew, hb⟩
      have HQ2 := Lib.hid ((HQ1.out.below hb).below (below_alloc w2 (.cells #[.slice B (storeZs zs p v).length d] 25)))
      have HO2 := Lib.hid ((hnew.below (below_alloc w2 (.cells #[.slice B (storeZs zs p v).length d] 25))).base (Nat.le_trans HLO.out HQ1.out.gr.size))
      have HX2 := Lib.hid (BoxA.new w2 (.slice B (storeZs zs p v).length d))
      clear hb hnew hc1 HQ1 HQ
      go_upto_region 4 with fail
      generalize w2.alloc (.cells #[.slice B (storeZs zs p v).length d] 25) = w3 at HQ2 HO2 HX2 ⊢
      have hc2 := HQ2.out.box.cell
      have hf2 := HQ2.out.box.froz
      have hx2 := HX2.out.cell
      go_wp2
      go_ret
      rw [HV.out, HK.out]
      exact ⟨B, d, rfl, HQ2.out.arena HO2.out _⟩
    · have HV : Hid (casZ zs p old v = zs) := by unfold casZ; rw [if_pos he, putZ_none ha hv hw]; rfl
      have hz : (writeCode zs p v == 0) = false := by simp [hw]
      have H0 := Lib.hid h0
      clear he hw ha hv h0
      go_enter Try.func65, Try.ntmps65
      go_wp2_with fail
      refine (qload_any _ _ zs _ _ hn H0.out HQ.out.rd).mono ?_
      rintro e w1 ⟨rfl, hb⟩
      have HQ1 := Lib.hid (HQ.out.below hb)
      have hc1 := HQ1.out.box.cell
      clear hb hc
      generalize loadZ zs p = x at *
      go_wp2_with fail
      refine (implStoreCell_any _ _ zs _ _ _ hn HQ1.out.rd).mono ?_
      rintro e w2 ⟨B, d, rfl, hnew, hb⟩
      have HQ2 := Lib.hid ((HQ1.out.below hb).below (below_alloc w2 (.cells #[.slice B (storeZs zs p v).length d] 25)))
      clear hb hnew hc1 HQ1 HQ
      go_wp2
      go_ret
      rw [HV.out, HK.out]
      exact ⟨A, c, rfl, HQ2.out⟩
  · have HK : Hid (casOk zs p old = false) := decide_eq_false he
    have hne : (loadZ zs p != old) = true := by simp [he]
    have HV : Hid (casZ zs p old v = zs) := by unfold casZ; rw [if_neg he]; rfl
    have H0 := Lib.hid h0
    clear he ha hv h0
    go_enter Try.func65, Try.ntmps65
    go_wp2_with fail
    refine (qload_any _ _ zs _ _ hn H0.out HQ.out.rd).mono ?_
    rintro e w1 ⟨rfl, hb⟩
    have HQ1 := Lib.hid (HQ.out.below hb)
    clear hb hc
    generalize loadZ zs p = x at *
    go_wp2
    go_ret
    rw [HV.out, HK.out]
    exact ⟨A, c, rfl, HQ1.out⟩

set_option maxHeartbeats 1000000 in
theorem ended_any (id st op arg pc til : Int) (per can : Bool) (r0 r1 r2 r3 r4 code res : Int) (c x : Int) (w : World) : Calls Try.prog 92 #[.agg #[.int .i64 id, .int .i64 st, .int .i64 op, .int .i64 arg, .int .i64 pc, .int .i64 til, .bool per, .bool can, .int .i64 r0, .int .i64 r1, .int .i64 r2, .int .i64 r3, .int .i64 r4, .int .i64 code, .int .i64 res], .int .i64 c, .int .i64 x] w fun e w' => e = .returned (.agg #[.int .i64 id, .int .i64 0, .int .i64 0, .int .i64 0, .int .i64 0, .int .i64 0, .bool false, .bool false, .int .i64 0, .int .i64 0, .int .i64 0, .int .i64 0, .int .i64 0, .int .i64 c, .int .i64 x]) ∧ Below w.heap.size w w' := by
  go_enter Try.func92, Try.ntmps92
  go_wp2
  refine bodyPost_ret (v := .agg _) (by simp [results, Try.results92, go_sem]) rfl ⟨rfl, ?_⟩
  exact below_alloc2 _ _ _

set_option maxHeartbeats 1000000 in
theorem givenUp_any (id st op arg pc til : Int) (per can : Bool) (r0 r1 r2 r3 r4 code res : Int) (w : World) : Calls Try.prog 70 #[.agg #[.int .i64 id, .int .i64 st, .int .i64 op, .int .i64 arg, .int .i64 pc, .int .i64 til, .bool per, .bool can, .int .i64 r0, .int .i64 r1, .int .i64 r2, .int .i64 r3, .int .i64 r4, .int .i64 code, .int .i64 res]] w fun e w' => e = .returned (.agg #[.int .i64 id, .int .i64 0, .int .i64 0, .int .i64 0, .int .i64 0, .int .i64 0, .bool false, .bool false, .int .i64 0, .int .i64 0, .int .i64 0, .int .i64 0, .int .i64 0, .int .i64 (gvCode can), .int .i64 0]) ∧ Below w.heap.size w w' := by
  have HL := Lib.hid (BoxT.two w #[.int .i64 id, .int .i64 st, .int .i64 op, .int .i64 arg, .int .i64 pc, .int .i64 til, .bool per, .bool can, .int .i64 r0, .int .i64 r1, .int .i64 r2, .int .i64 r3, .int .i64 r4, .int .i64 code, .int .i64 res] #[.int .i64 0, .int .i64 0, .int .i64 0, .int .i64 0, .int .i64 0, .int .i64 0, .bool false, .bool false, .int .i64 0, .int .i64 0, .int .i64 0, .int .i64 0, .int .i64 0, .int .i64 0, .int .i64 0])
  have HR := Lib.hid (BoxT.two' w #[.int .i64 id, .int .i64 st, .int .i64 op, .int .i64 arg, .int .i64 pc, .int .i64 til, .bool per, .bool can, .int .i64 r0, .int .i64 r1, .int .i64 r2, .int .i64 r3, .int .i64 r4, .int .i64 code, .int .i64 res] #[.int .i64 0, .int .i64 0, .int .i64 0, .int .i64 0, .int .i64 0, .int .i64 0, .bool false, .bool false, .int .i64 0, .int .i64 0, .int .i64 0, .int .i64 0, .int .i64 0, .int .i64 0, .int .i64 0])
  cases can
  all_goals
    go_enter Try.func70, Try.ntmps70
    go_wp2_with (refine wpList_load_row rfl 29 _ rfl (w.heap.size) rfl 29 _ (0, 0) _ HL.out Try.underlying29 rfl info_th ?_)
    refine (ended_any _ _ _ _ _ _ _ _ _ _ _ _ _ _ _ _ _ _).mono ?_
    rintro e w1 ⟨rfl, hb⟩
    have HB := Lib.hid (below_trans (below_alloc2 _ _ _) hb)
    have HR1 := Lib.hid (HR.out.below hb)
    clear hb HL HR
    go_wp2_with (refine wpList_store_row rfl 29 _ _ rfl (w.heap.size + 1) _ rfl rfl 29 _ HR1.out info_th rfl (one15 _ _ _ _ _ _ _ _ _ _ _ _ _ _ _) ?_)
    refine bodyPost_ret (results_th1 Try.results70 _ _ (w.heap.size + 1) _ rfl (HR1.out.row _) rfl) rfl ⟨rfl, ?_⟩
    exact below_row HB.out (by omega) _

theorem Q.thread {w0 wi : World} {k lo : Nat} {B : Option Addr} {d : Nat} {L : List Int} {a n u c0 c1 c2 c3 c4 c5 c6 c7 c8 c9 c10 c11 c12 c13 c14 : Value} (h : Q w0 wi k lo B d L #[a, c0, c1, c2, c3, c4, c5, c6, c7, c8, c9, c10, c11, c12, c13, c14, n, u]) (v0 v1 v2 v3 v4 v5 v6 v7 v8 v9 v10 v11 v12 v13 v14 : Value) :
    Q w0 (((((((((((((((wi.setCell ⟨k, 1, none⟩ v0).setCell ⟨k, 2, none⟩ v1).setCell ⟨k, 3, none⟩ v2).setCell ⟨k, 4, none⟩ v3).setCell ⟨k, 5, none⟩ v4).setCell ⟨k, 6, none⟩ v5).setCell ⟨k, 7, none⟩ v6).setCell ⟨k, 8, none⟩ v7).setCell ⟨k, 9, none⟩ v8).setCell ⟨k, 10, none⟩ v9).setCell ⟨k, 11, none⟩ v10).setCell ⟨k, 12, none⟩ v11).setCell ⟨k, 13, none⟩ v12).setCell ⟨k, 14, none⟩ v13).setCell ⟨k, 15, none⟩ v14) k lo B d L #[a, v0, v1, v2, v3, v4, v5, v6, v7, v8, v9, v10, v11, v12, v13, v14, n, u] := by
  have g := ((((((((((((((h.set 1 v0).set 2 v1).set 3 v2).set 4 v3).set 5 v4).set 6 v5).set 7 v6).set 8 v7).set 9 v8).set 10 v9).set 11 v10).set 12 v11).set 13 v12).set 14 v13).set 15 v14
  simp only [List.setIfInBounds_toArray, List.set_cons_zero, List.set_cons_succ] at g
  exact g

set_option maxHeartbeats 2000000 in
theorem qGives_any (v : Value) (id st op arg pc til : Int) (per can : Bool) (r0 r1 r2 r3 r4 code res : Int) (now wk : Int) (k : Nat) (w : World) (h : thB id st op arg pc til per can r0 r1 r2 r3 r4 code res = true) (h1 : inB now 0 1000000 = true) (hQ : BoxQ w k #[v, .int .i64 id, .int .i64 st, .int .i64 op, .int .i64 arg, .int .i64 pc, .int .i64 til, .bool per, .bool can, .int .i64 r0, .int .i64 r1, .int .i64 r2, .int .i64 r3, .int .i64 r4, .int .i64 code, .int .i64 res, .int .i64 now, .int .i64 wk]) :
    Calls Try.prog 89 #[.pointer (some ⟨k, 0, none⟩)] w fun e w' => e = .returned (.bool (gvB can til now)) ∧ Below w.heap.size w w' := by
  have hc := hQ.cell
  have HG := Lib.hid (givB_ok _ _ _ _ _ _ _ _ _ _ _ _ _ _ _ now h h1)
  clear h h1 hQ
  go_enter Try.func89, Try.ntmps89
  go_wp2_with fail
  go_region_law (first
    | (go_simp; go_at_call 111; (with_reducible refine (implGives_any id st op arg pc til per can r0 r1 r2 r3 r4 code res now w.drew (gvB can til now) 0 HG.out).mono ?_); rintro e v1 ⟨rfl, hb⟩; have HB := Lib.hid (below_drew_trans hb); clear hb))
  all_goals
    go_wp2
    go_ret
    exact ⟨rfl, HB.out⟩

set_option maxHeartbeats 2000000 in
theorem qEnd_any (id st op arg pc til : Int) (per can : Bool) (r0 r1 r2 r3 r4 code res : Int) (now wk x : Int) (k lo : Nat) (w : World) (A : Option Addr) (c : Nat) (zs : List Int) (hx : wellI op arg r4 = x) (hr : -1000000000000 ≤ r4 ∧ r4 ≤ 1000000000000) (hQ : BoxQ w k #[.slice A zs.length c, .int .i64 id, .int .i64 st, .int .i64 op, .int .i64 arg, .int .i64 pc, .int .i64 til, .bool per, .bool can, .int .i64 r0, .int .i64 r1, .int .i64 r2, .int .i64 r3, .int .i64 r4, .int .i64 code, .int .i64 res, .int .i64 now, .int .i64 wk]) (hA : NewA lo w A c zs) :
    Calls Try.prog 71 #[.pointer (some ⟨k, 0, none⟩)] w fun e w' => e = .returned (.tuple #[]) ∧ Q w w' k lo A c zs #[.slice A zs.length c, .int .i64 id, .int .i64 0, .int .i64 0, .int .i64 0, .int .i64 0, .int .i64 0, .bool false, .bool false, .int .i64 0, .int .i64 0, .int .i64 0, .int .i64 0, .int .i64 0, .int .i64 0, .int .i64 x, .int .i64 now, .int .i64 wk] := by
  have hq : IntKind.i64.wrap (r4 - 1) = r4 - 1 := IntWalk.i64_in _ (by omega)
  have hc := hQ.cell
  have HQ := Lib.hid (Q.start hQ hA); clear hQ hA
  clear hr
  subst hx
  by_cases ho : op = 1
  · subst ho
    have hm : mineB 1 = true := rfl
    have HV : Hid (wellI 1 arg r4 = arg) := rfl
    go_enter Try.func71, Try.ntmps71
    go_wp2_with fail
    refine (qIsPut_any _ _ _ _ _ _ _ _ _ _ _ _ _ _ _ _ _ _ _ _ HQ.out.box).mono ?_
    rintro e w1 ⟨rfl, rfl⟩
    go_wp2_with fail
    refine (ended_any _ _ _ _ _ _ _ _ _ _ _ _ _ _ _ _ _ _).mono ?_
    rintro e w2 ⟨rfl, hb⟩
    have HQ2 := Lib.hid (HQ.out.below hb)
    have hc2 := HQ2.out.box.cell
    have hf2 := HQ2.out.box.froz
    clear hb hc HQ
    go_wp2
    rw [HV.out]
    exact bodyPost_end (results_none rfl _ _ _) rfl ⟨rfl, HQ2.out.thread _ _ _ _ _ _ _ _ _ _ _ _ _ _ _⟩
  · have hm : mineB op = false := by unfold mineB; simp [ho]
    have HV : Hid (wellI op arg r4 = r4 - 1) := by unfold wellI; rw [if_neg ho]; rfl
    go_enter Try.func71, Try.ntmps71
    go_wp2_with fail
    refine (qIsPut_any _ _ _ _ _ _ _ _ _ _ _ _ _ _ _ _ _ _ _ _ HQ.out.box).mono ?_
    rintro e w1 ⟨rfl, rfl⟩
    go_wp2_with fail
    refine (ended_any _ _ _ _ _ _ _ _ _ _ _ _ _ _ _ _ _ _).mono ?_
    rintro e w2 ⟨rfl, hb⟩
    have HQ2 := Lib.hid (HQ.out.below hb)
    have hc2 := HQ2.out.box.cell
    have hf2 := HQ2.out.box.froz
    clear hb hc HQ
    go_wp2
    rw [HV.out]
    exact bodyPost_end (results_none rfl _ _ _) rfl ⟨rfl, HQ2.out.thread _ _ _ _ _ _ _ _ _ _ _ _ _ _ _⟩
end Go.Proofs.Ytabojajhnhcemaa
