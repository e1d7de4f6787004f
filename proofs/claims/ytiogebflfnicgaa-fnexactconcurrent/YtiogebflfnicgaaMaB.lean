/-
  Machines (chapter 9): the program's callsOK.
-/
import Derived.Test.YtiogebflfnicgaaMaA
import Derived.Test.YtiogebflfnicgaaRowE
namespace Go.Proofs.Ytiogebflfnicgaa
open Go.RowKit

theorem all_false {p : Cll → Bool} {x : Cll} {l : List Cll} (h : p x = false) : (x :: l).all p = false := by rw [List.all_cons, h]; rfl
theorem all_true {p : Cll → Bool} {x : Cll} {l : List Cll} (h : p x = true) : (x :: l).all p = l.all p := by rw [List.all_cons, h]; rfl
theorem cnt_take {cs : List Cll} {k : Nat} {x : Cll} (h : cs[k]? = some x) (j : Int) : cntO (cs.take (k + 1)) j = cntO (cs.take k) j + (if opnB j x then 1 else 0) := by
  have hk : k < cs.length := (List.getElem?_eq_some_iff.1 h).1
  have e : cs.take (k + 1) = cs.take k ++ [x] := by
    rw [List.take_add_one, h]; rfl
  rw [e]
  unfold cntO
  rw [List.filter_append, List.length_append]
  congr 1
  rw [List.filter_cons]; split <;> rfl
theorem cnt_le (cs : List Cll) (k : Nat) (j : Int) : cntO (cs.take k) j ≤ k := by
  unfold cntO
  exact Nat.le_trans (List.length_filter_le _ _) (by rw [List.length_take]; omega)
theorem hc_true {cs : List Cll} {k : Int} {t : Thd} {l : List Thd} (h : (t.st == 0 || decide (cntO cs k = 1)) = true) : hcFrom cs k (t :: l) = hcFrom cs (k + 1) l := by rw [hcFrom, h]; rfl
theorem hc_false {cs : List Cll} {k : Int} {t : Thd} {l : List Thd} (h : (t.st == 0 || decide (cntO cs k = 1)) = false) : hcFrom cs k (t :: l) = false := by rw [hcFrom, h]; rfl
theorem step_false {stp : Int} {ts : List Thd} {x : Cll} (h : fitB stp x = false) : stepB stp ts x = false := by unfold stepB; rw [h]; rfl
theorem one7c (th op arg fr te code res : Int) : (#[.int .i64 th, .int .i64 op, .int .i64 arg, .int .i64 fr, .int .i64 te, .int .i64 code, .int .i64 res] : Array Value).all (·.oneCell') = true := by simp [Value.oneCell']
/-- What callsOK answers. -/
def callsB (stp : Int) (ts : List Thd) (cs : List Cll) : Bool := decide (cs.length ≤ 4096) && cs.all (stepB stp ts) && hcFrom cs 0 ts

set_option maxHeartbeats 1000000 in
theorem callsOK_many (A T C : Option Addr) (ca ct cc : Nat) (zs : List Int) (cs : List Cll) (clk stp : Int) (w : World) (hl : ¬ cs.length ≤ 4096) :
    Calls Try.prog 119 #[.agg #[.slice A zs.length ca, .slice T 4 ct, .int .i64 clk, .int .i64 stp, .slice C cs.length cc]] w fun e w' => e = .returned (.bool false) ∧ Below w.heap.size w w' := by
  have hne : decide ((4096 : Int) < (cs.length : Int)) = true := decide_eq_true (by omega)
  have hne2 : (4096 : Int) < (cs.length : Int) := by omega
  go_enter Try.func119, Try.ntmps119
  go_wp2
  go_ret
  exact ⟨rfl, below_alloc _ _⟩

theorem keepQ {w w' : World} {kx km bt q : Nat} (th op arg fr te code res : Int) {v : Value} (tid tst top targ tpc ttil : Int) (tper tcan : Bool) (tr0 tr1 tr2 tr3 tr4 tcode tres : Int) (hb : Below w.heap.size w w') (h : (w.cell? ⟨kx, 0, none⟩ = some (.int .i64 th) ∧ w.cell? ⟨kx, 1, none⟩ = some (.int .i64 op) ∧ w.cell? ⟨kx, 2, none⟩ = some (.int .i64 arg) ∧ w.cell? ⟨kx, 3, none⟩ = some (.int .i64 fr) ∧ w.cell? ⟨kx, 4, none⟩ = some (.int .i64 te) ∧ w.cell? ⟨kx, 5, none⟩ = some (.int .i64 code) ∧ w.cell? ⟨kx, 6, none⟩ = some (.int .i64 res)) ∧ w.cell? ⟨km, 1, none⟩ = some v ∧ (w.cell? ⟨bt, q, none⟩ = some (.int .i64 tid) ∧ w.cell? ⟨bt, q + 1, none⟩ = some (.int .i64 tst) ∧ w.cell? ⟨bt, q + 2, none⟩ = some (.int .i64 top) ∧ w.cell? ⟨bt, q + 3, none⟩ = some (.int .i64 targ) ∧ w.cell? ⟨bt, q + 4, none⟩ = some (.int .i64 tpc) ∧ w.cell? ⟨bt, q + 5, none⟩ = some (.int .i64 ttil) ∧ w.cell? ⟨bt, q + 6, none⟩ = some (.bool tper) ∧ w.cell? ⟨bt, q + 7, none⟩ = some (.bool tcan) ∧ w.cell? ⟨bt, q + 8, none⟩ = some (.int .i64 tr0) ∧ w.cell? ⟨bt, q + 9, none⟩ = some (.int .i64 tr1) ∧ w.cell? ⟨bt, q + 10, none⟩ = some (.int .i64 tr2) ∧ w.cell? ⟨bt, q + 11, none⟩ = some (.int .i64 tr3) ∧ w.cell? ⟨bt, q + 12, none⟩ = some (.int .i64 tr4) ∧ w.cell? ⟨bt, q + 13, none⟩ = some (.int .i64 tcode) ∧ w.cell? ⟨bt, q + 14, none⟩ = some (.int .i64 tres))) : (w'.cell? ⟨kx, 0, none⟩ = some (.int .i64 th) ∧ w'.cell? ⟨kx, 1, none⟩ = some (.int .i64 op) ∧ w'.cell? ⟨kx, 2, none⟩ = some (.int .i64 arg) ∧ w'.cell? ⟨kx, 3, none⟩ = some (.int .i64 fr) ∧ w'.cell? ⟨kx, 4, none⟩ = some (.int .i64 te) ∧ w'.cell? ⟨kx, 5, none⟩ = some (.int .i64 code) ∧ w'.cell? ⟨kx, 6, none⟩ = some (.int .i64 res)) ∧ w'.cell? ⟨km, 1, none⟩ = some v ∧ (w'.cell? ⟨bt, q, none⟩ = some (.int .i64 tid) ∧ w'.cell? ⟨bt, q + 1, none⟩ = some (.int .i64 tst) ∧ w'.cell? ⟨bt, q + 2, none⟩ = some (.int .i64 top) ∧ w'.cell? ⟨bt, q + 3, none⟩ = some (.int .i64 targ) ∧ w'.cell? ⟨bt, q + 4, none⟩ = some (.int .i64 tpc) ∧ w'.cell? ⟨bt, q + 5, none⟩ = some (.int .i64 ttil) ∧ w'.cell? ⟨bt, q + 6, none⟩ = some (.bool tper) ∧ w'.cell? ⟨bt, q + 7, none⟩ = some (.bool tcan) ∧ w'.cell? ⟨bt, q + 8, none⟩ = some (.int .i64 tr0) ∧ w'.cell? ⟨bt, q + 9, none⟩ = some (.int .i64 tr1) ∧ w'.cell? ⟨bt, q + 10, none⟩ = some (.int .i64 tr2) ∧ w'.cell? ⟨bt, q + 11, none⟩ = some (.int .i64 tr3) ∧ w'.cell? ⟨bt, q + 12, none⟩ = some (.int .i64 tr4) ∧ w'.cell? ⟨bt, q + 13, none⟩ = some (.int .i64 tcode) ∧ w'.cell? ⟨bt, q + 14, none⟩ = some (.int .i64 tres)) := by
  obtain ⟨⟨h0, h1, h2, h3, h4, h5, h6⟩, hm, ⟨g0, g1, g2, g3, g4, g5, g6, g7, g8, g9, g10, g11, g12, g13, g14⟩⟩ := h
  exact ⟨⟨cell_keep hb h0, cell_keep hb h1, cell_keep hb h2, cell_keep hb h3, cell_keep hb h4, cell_keep hb h5, cell_keep hb h6⟩, cell_keep hb hm, ⟨cell_keep hb g0, cell_keep hb g1, cell_keep hb g2, cell_keep hb g3, cell_keep hb g4, cell_keep hb g5, cell_keep hb g6, cell_keep hb g7, cell_keep hb g8, cell_keep hb g9, cell_keep hb g10, cell_keep hb g11, cell_keep hb g12, cell_keep hb g13, cell_keep hb g14⟩⟩

set_option maxHeartbeats 16000000 in
set_option maxRecDepth 100000 in
theorem callsOK_any (A T C : Option Addr) (ca ct cc : Nat) (zs : List Int) (ts : List Thd) (cs : List Cll) (clk stp : Int) (w : World) (hl : ts.length = 4) (hs : cs.length ≤ 4096) (hT : RdR Thd.cs w T ts) (hC : RdR Cll.cs w C cs) :
    Calls Try.prog 119 #[.agg #[.slice A zs.length ca, .slice T 4 ct, .int .i64 clk, .int .i64 stp, .slice C cs.length cc]] w fun e w' => e = .returned (.bool (callsB stp ts cs)) ∧ Below w.heap.size w w' := by
  have HT := Lib.hid hT; have HC := Lib.hid hC; have HL := Lib.hid hl; have HS := Lib.hid hs; clear hT hC hl hs
  have hne : decide ((4096 : Int) < (cs.length : Int)) = false := decide_eq_false (by have := HS.out; omega)
  have hne2 : ¬ (4096 : Int) < (cs.length : Int) := by have := HS.out; omega
  go_enter Try.func119, Try.ntmps119
  go_wp2_with fail
  go_loopw [15] (fun i wr => ∃ k : Nat, k ≤ cs.length ∧ i = .int .i64 k ∧ cs.all (stepB stp ts) = (cs.drop k).all (stepB stp ts) ∧ BoxC 154 wr (w.heap.size + 1) #[.int .i64 (cntO (cs.take k) 0 : Nat), .int .i64 (cntO (cs.take k) 1 : Nat), .int .i64 (cntO (cs.take k) 2 : Nat), .int .i64 (cntO (cs.take k) 3 : Nat)] ∧ BoxC 64 wr w.heap.size #[.slice A zs.length ca, .slice T 4 ct, .int .i64 clk, .int .i64 stp, .slice C cs.length cc] ∧ Below w.heap.size w wr) (fun i _ => cs.length - (intOf i).toNat)
  case atStart => exact ⟨0, Nat.zero_le _, rfl, rfl, (by have h := BoxC.new 154 (w.alloc (.cells #[.slice A zs.length ca, .slice T 4 ct, .int .i64 clk, .int .i64 stp, .slice C cs.length cc] 64)) #[.int .i64 0, .int .i64 0, .int .i64 0, .int .i64 0]; rw [size_alloc] at h; exact h), (BoxC.new 64 w #[.slice A zs.length ca, .slice T 4 ct, .int .i64 clk, .int .i64 stp, .slice C cs.length cc]).below (below_alloc _ _), below_alloc2 _ _ _⟩
  case round =>
    obtain ⟨k, hk, rfl, hth, ho, hm, hbl⟩ := hrel
    have HB := Lib.hid hbl; have HTH := Lib.hid hth; have HO := Lib.hid ho; have HM := Lib.hid hm
    clear hbl hth ho hm
    by_cases hlt : k < cs.length
    · have hlt' : (k : Int) < cs.length := by omega
      obtain ⟨x, hx⟩ : ∃ x, cs[k]? = some x := ⟨_, List.getElem?_eq_getElem hlt⟩
      obtain ⟨b, o, rfl, hrow⟩ := (HC.out.below HB.out).row Cll.len k x hx
      have HD := Lib.hid (drop_at hx)
      have HCT := Lib.hid (cnt_take hx)
      clear hx
      obtain ⟨th, op, arg, fr, te, code, res⟩ := x
      have HRW : Hid (wr.rangeAt b (o + k * 7) [.int .i64 th, .int .i64 op, .int .i64 arg, .int .i64 fr, .int .i64 te, .int .i64 code, .int .i64 res]) := hrow
      clear hrow
      have HX := Lib.hid (BoxC.new 109 wr #[.int .i64 0, .int .i64 0, .int .i64 0, .int .i64 0, .int .i64 0, .int .i64 0, .int .i64 0])
      have hz : w.heap.size + 1 < wr.heap.size := HO.out.lt
      go_upto_region 7 with (first | (refine wpList_load_mid rfl 109 _ rfl b (o + k * 7) ?_ _ _ HRW.out Try.underlying109 rfl info_iCall ?_; rfl) | (refine wpList_store_row rfl 109 _ _ rfl wr.heap.size _ rfl rfl 109 _ HX.out info_iCall rfl (one7c _ _ _ _ _ _ _) ?_))
      have HX2 := Lib.hid (HX.out.row #[.int .i64 th, .int .i64 op, .int .i64 arg, .int .i64 fr, .int .i64 te, .int .i64 code, .int .i64 res])
      have HO2 := Lib.hid ((HO.out.below (below_alloc wr (.cells #[.int .i64 0, .int .i64 0, .int .i64 0, .int .i64 0, .int .i64 0, .int .i64 0, .int .i64 0] 109))).rowOther (b := wr.heap.size) (by omega) #[.int .i64 th, .int .i64 op, .int .i64 arg, .int .i64 fr, .int .i64 te, .int .i64 code, .int .i64 res])
      have HM2 := Lib.hid ((HM.out.below (below_alloc wr (.cells #[.int .i64 0, .int .i64 0, .int .i64 0, .int .i64 0, .int .i64 0, .int .i64 0, .int .i64 0] 109))).rowOther (b := wr.heap.size) (by omega) #[.int .i64 th, .int .i64 op, .int .i64 arg, .int .i64 fr, .int .i64 te, .int .i64 code, .int .i64 res])
      have HB2 := Lib.hid (below_rowC (k := wr.heap.size) (below_trans HB.out (below_alloc wr (.cells #[.int .i64 0, .int .i64 0, .int .i64 0, .int .i64 0, .int .i64 0, .int .i64 0, .int .i64 0] 109))) (by omega) #[.int .i64 th, .int .i64 op, .int .i64 arg, .int .i64 fr, .int .i64 te, .int .i64 code, .int .i64 res])
      generalize (wr.alloc (.cells #[.int .i64 0, .int .i64 0, .int .i64 0, .int .i64 0, .int .i64 0, .int .i64 0, .int .i64 0] 109)).setRow wr.heap.size #[.int .i64 th, .int .i64 op, .int .i64 arg, .int .i64 fr, .int .i64 te, .int .i64 code, .int .i64 res] = w2 at HX2 HO2 HM2 HB2 ⊢
      generalize wr.heap.size = kx at HX2 hz ⊢
      clear HX HB HRW HO HM
      have hx2 := HX2.out.cell
      go_wp2_with fail
      refine (implCallOK_any _ _ _ _ _ _ _ _).mono ?_
      rintro e w3 ⟨rfl, hb⟩
      have HB3 := Lib.hid (below_trans HB2.out hb)
      have HX3 := Lib.hid (HX2.out.below hb)
      have HO3 := Lib.hid (HO2.out.below hb)
      have HM3 := Lib.hid (HM2.out.below hb)
      clear hb HB2 HX2 HO2 HM2 hx2
      have hx3 := HX3.out.cell
      have hm3 := HM3.out.cell
      cases QC : clB th op arg fr te code res
      · have HF : Hid (callsB stp ts cs = false) := by unfold Hid callsB; rw [HTH.out, HD.out, all_false (x := ⟨th, op, arg, fr, te, code, res⟩) (step_false (by show (clB th op arg fr te code res && _ && _) = false; rw [QC]; rfl))]; simp
        go_wp2
        go_ret
        exact ⟨ret_bool HF.out.symm, HB3.out⟩
      by_cases f1 : fr ≤ stp
      rotate_left
      · have f1' : stp < fr := by omega
        have f1d : decide (stp < fr) = true := decide_eq_true f1'
        have HF : Hid (callsB stp ts cs = false) := by unfold Hid callsB; rw [HTH.out, HD.out, all_false (x := ⟨th, op, arg, fr, te, code, res⟩) (step_false (by show (clB th op arg fr te code res && decide (fr ≤ stp) && _) = false; rw [decide_eq_false f1, Bool.and_false]; rfl))]; simp
        go_wp2
        go_ret
        exact ⟨ret_bool HF.out.symm, HB3.out⟩
      have f1d : decide (stp < fr) = false := decide_eq_false (by omega)
      have f1n : ¬ stp < fr := by omega
      by_cases f2 : te ≤ stp
      rotate_left
      · have f2' : stp < te := by omega
        have f2d : decide (stp < te) = true := decide_eq_true f2'
        have HF : Hid (callsB stp ts cs = false) := by unfold Hid callsB; rw [HTH.out, HD.out, all_false (x := ⟨th, op, arg, fr, te, code, res⟩) (step_false (by show (clB th op arg fr te code res && decide (fr ≤ stp) && decide (te ≤ stp)) = false; rw [decide_eq_false f2, Bool.and_false]))]; simp
        go_wp2
        go_ret
        exact ⟨ret_bool HF.out.symm, HB3.out⟩
      have f2d : decide (stp < te) = false := decide_eq_false (by omega)
      have f2n : ¬ stp < te := by omega
      have HFIT : Hid (fitB stp ⟨th, op, arg, fr, te, code, res⟩ = true) := by unfold Hid; show (clB th op arg fr te code res && decide (fr ≤ stp) && decide (te ≤ stp)) = true; rw [QC, decide_eq_true f1, decide_eq_true f2]; rfl
      go_upto_region 9 with fail
      by_cases hz0 : te = 0
      · subst hz0
        obtain ⟨hj0, hj3⟩ := clB_thread QC
        obtain ⟨j, rfl⟩ := Int.eq_ofNat_of_zero_le hj0
        have hj4 : j < 4 := by omega
        have hj5 : (j : Int) < 4 := by omega
        obtain ⟨t, htj⟩ : ∃ t, ts[j]? = some t := ⟨_, List.getElem?_eq_getElem (by rw [HL.out]; exact hj4)⟩
        obtain ⟨bt, ot, rfl, hrt⟩ := (HT.out.below HB3.out).row Thd.len j t htj
        obtain ⟨tid, tst, top, targ, tpc, ttil, tper, tcan, tr0, tr1, tr2, tr3, tr4, tcode, tres⟩ := t
        obtain ⟨q, hq⟩ : ∃ q, ((j : Int) == tid && op == top && arg == targ) = q := ⟨_, rfl⟩
        have HOWN : Hid (ownB ts ⟨(j : Int), op, arg, fr, 0, code, res⟩ = q) := by
          unfold Hid ownB
          show (match ts[(j : Int).toNat]? with | some t => isOfB ⟨(j : Int), op, arg, fr, 0, code, res⟩ t | none => false) = q
          rw [Int.toNat_natCast, htj]; exact hq
        have HQ := Lib.hid hq
        have HC3 := Lib.hid (And.intro (And.intro (HX3.out.cell 0) (And.intro (HX3.out.cell 1) (And.intro (HX3.out.cell 2) (And.intro (HX3.out.cell 3) (And.intro (HX3.out.cell 4) (And.intro (HX3.out.cell 5) (HX3.out.cell 6))))))) (And.intro (HM3.out.cell 1) (cellsThread _ _ _ _ _ _ _ _ _ _ _ _ _ _ _ hrt)))
        clear hrt htj hq hj0 hj3
        cases q
        all_goals
          go_region_held3 (fun w' => (w'.cell? ⟨kx, 0, none⟩ = some (.int .i64 (j : Int)) ∧ w'.cell? ⟨kx, 1, none⟩ = some (.int .i64 op) ∧ w'.cell? ⟨kx, 2, none⟩ = some (.int .i64 arg) ∧ w'.cell? ⟨kx, 3, none⟩ = some (.int .i64 fr) ∧ w'.cell? ⟨kx, 4, none⟩ = some (.int .i64 0) ∧ w'.cell? ⟨kx, 5, none⟩ = some (.int .i64 code) ∧ w'.cell? ⟨kx, 6, none⟩ = some (.int .i64 res)) ∧ w'.cell? ⟨w.heap.size, 1, none⟩ = some (.slice (some ⟨bt, ot, none⟩) 4 ct) ∧ (w'.cell? ⟨bt, (ot + j * 15), none⟩ = some (.int .i64 tid) ∧ w'.cell? ⟨bt, (ot + j * 15) + 1, none⟩ = some (.int .i64 tst) ∧ w'.cell? ⟨bt, (ot + j * 15) + 2, none⟩ = some (.int .i64 top) ∧ w'.cell? ⟨bt, (ot + j * 15) + 3, none⟩ = some (.int .i64 targ) ∧ w'.cell? ⟨bt, (ot + j * 15) + 4, none⟩ = some (.int .i64 tpc) ∧ w'.cell? ⟨bt, (ot + j * 15) + 5, none⟩ = some (.int .i64 ttil) ∧ w'.cell? ⟨bt, (ot + j * 15) + 6, none⟩ = some (.bool tper) ∧ w'.cell? ⟨bt, (ot + j * 15) + 7, none⟩ = some (.bool tcan) ∧ w'.cell? ⟨bt, (ot + j * 15) + 8, none⟩ = some (.int .i64 tr0) ∧ w'.cell? ⟨bt, (ot + j * 15) + 9, none⟩ = some (.int .i64 tr1) ∧ w'.cell? ⟨bt, (ot + j * 15) + 10, none⟩ = some (.int .i64 tr2) ∧ w'.cell? ⟨bt, (ot + j * 15) + 11, none⟩ = some (.int .i64 tr3) ∧ w'.cell? ⟨bt, (ot + j * 15) + 12, none⟩ = some (.int .i64 tr4) ∧ w'.cell? ⟨bt, (ot + j * 15) + 13, none⟩ = some (.int .i64 tcode) ∧ w'.cell? ⟨bt, (ot + j * 15) + 14, none⟩ = some (.int .i64 tres)))
            (first | exact HC3.out | exact keepQ _ _ _ _ _ _ _ _ _ _ _ _ _ _ _ _ _ _ _ _ _ _ (below_drew_trans hb4) HC3.out | exact keepQ _ _ _ _ _ _ _ _ _ _ _ _ _ _ _ _ _ _ _ _ _ _ hb5 (keepQ _ _ _ _ _ _ _ _ _ _ _ _ _ _ _ _ _ _ _ _ _ _ (below_drew_trans hb4) HC3.out))
            (first
              | (go_at_call 143; (with_reducible refine (isOpen_any _ _ _ _ _ _ _ _).mono ?_); rintro e w4 ⟨rfl, hb4⟩)
              | (go_at_call 144; (with_reducible refine (isOf_any _ _ _ _ _ _ _ _ _ _ _ _ _ _ _ _ _ _ _ _ _ _ _).mono ?_); rintro e w5 ⟨rfl, hb5⟩; rw [HQ.out]))
          have HB5 := Lib.hid (below_trans (below_trans HB3.out (below_drew_trans hb4)) hb5)
          have HX5 := Lib.hid ((HX3.out.below (below_drew_trans hb4)).below hb5)
          have HO5 := Lib.hid ((HO3.out.below (below_drew_trans hb4)).below hb5)
          have HM5 := Lib.hid ((HM3.out.below (below_drew_trans hb4)).below hb5)
          clear hb4 hb5 HB3 HX3 HO3 HM3 HC3 hx3 hm3
        · have HF : Hid (callsB stp ts cs = false) := by unfold Hid callsB; rw [HTH.out, HD.out, all_false (x := ⟨(j : Int), op, arg, fr, 0, code, res⟩) (by unfold stepB; rw [HOWN.out]; simp)]; simp
          go_wp2
          go_ret
          exact ⟨ret_bool HF.out.symm, HB5.out⟩
        have hx5 := HX5.out.cell
        go_wp2_with fail
        refine (isOpen_any _ _ _ _ _ _ _ _).mono ?_
        rintro e w6 ⟨rfl, hb⟩
        have HB6 := Lib.hid (below_trans HB5.out hb)
        have HX6 := Lib.hid (HX5.out.below hb)
        have HO6 := Lib.hid (HO5.out.below hb)
        have HM6 := Lib.hid (HM5.out.below hb)
        clear hb HB5 HX5 HO5 HM5 hx5
        have HST : Hid (cs.all (stepB stp ts) = (cs.drop (k + 1)).all (stepB stp ts)) := by unfold Hid; rw [HTH.out, HD.out]; exact all_true (by unfold stepB; rw [HFIT.out, HOWN.out]; simp)
        obtain ⟨c0, hc0⟩ : ∃ c, cntO (cs.take k) 0 = c := ⟨_, rfl⟩
        obtain ⟨c1, hc1⟩ : ∃ c, cntO (cs.take k) 1 = c := ⟨_, rfl⟩
        obtain ⟨c2, hc2⟩ : ∃ c, cntO (cs.take k) 2 = c := ⟨_, rfl⟩
        obtain ⟨c3, hc3⟩ : ∃ c, cntO (cs.take k) 3 = c := ⟨_, rfl⟩
        have b0 := cnt_le cs k 0; have b1 := cnt_le cs k 1; have b2 := cnt_le cs k 2; have b3 := cnt_le cs k 3
        have t0 := HCT.out 0; have t1 := HCT.out 1; have t2 := HCT.out 2; have t3 := HCT.out 3
        rw [hc0] at b0 t0 HO6; rw [hc1] at b1 t1 HO6; rw [hc2] at b2 t2 HO6; rw [hc3] at b3 t3 HO6
        have hs4 := HS.out
        have qw0 : IntKind.i64.wrap ((c0 : Int) + 1) = (c0 : Int) + 1 := IntWalk.i64_in _ (by omega)
        have qw1 : IntKind.i64.wrap ((c1 : Int) + 1) = (c1 : Int) + 1 := IntWalk.i64_in _ (by omega)
        have qw2 : IntKind.i64.wrap ((c2 : Int) + 1) = (c2 : Int) + 1 := IntWalk.i64_in _ (by omega)
        have qw3 : IntKind.i64.wrap ((c3 : Int) + 1) = (c3 : Int) + 1 := IntWalk.i64_in _ (by omega)
        have hx6 := HX6.out.cell; have ho6 := HO6.out.cell; have hof := HO6.out.froz
        clear hc0 hc1 hc2 hc3 b0 b1 b2 b3
        have e4 : j = 0 ∨ j = 1 ∨ j = 2 ∨ j = 3 := by omega
        clear hj5
        rcases e4 with rfl | rfl | rfl | rfl
        · have T0 : Hid (cntO (cs.take (k + 1)) 0 = c0 + 1) := by unfold Hid; rw [t0]; simp [opnB]
          have T1 : Hid (cntO (cs.take (k + 1)) 1 = c1) := by unfold Hid; rw [t1]; simp [opnB]
          have T2 : Hid (cntO (cs.take (k + 1)) 2 = c2) := by unfold Hid; rw [t2]; simp [opnB]
          have T3 : Hid (cntO (cs.take (k + 1)) 3 = c3) := by unfold Hid; rw [t3]; simp [opnB]
          clear t0 t1 t2 t3
          go_wp2
          go_roundw
          case rel => exact ⟨k + 1, by omega, by go_num, HST.out, (by rw [T0.out, T1.out, T2.out, T3.out]; exact HO6.out.set 0 (.int .i64 ((c0 : Int) + 1))), HM6.out.other _ _ (by simp), HB6.out.setCell (by simp) _⟩
          case measure => simp [intOf]; omega
        · have T0 : Hid (cntO (cs.take (k + 1)) 0 = c0) := by unfold Hid; rw [t0]; simp [opnB]
          have T1 : Hid (cntO (cs.take (k + 1)) 1 = c1 + 1) := by unfold Hid; rw [t1]; simp [opnB]
          have T2 : Hid (cntO (cs.take (k + 1)) 2 = c2) := by unfold Hid; rw [t2]; simp [opnB]
          have T3 : Hid (cntO (cs.take (k + 1)) 3 = c3) := by unfold Hid; rw [t3]; simp [opnB]
          clear t0 t1 t2 t3
          go_wp2
          go_roundw
          case rel => exact ⟨k + 1, by omega, by go_num, HST.out, (by rw [T0.out, T1.out, T2.out, T3.out]; exact HO6.out.set 1 (.int .i64 ((c1 : Int) + 1))), HM6.out.other _ _ (by simp), HB6.out.setCell (by simp) _⟩
          case measure => simp [intOf]; omega
        · have T0 : Hid (cntO (cs.take (k + 1)) 0 = c0) := by unfold Hid; rw [t0]; simp [opnB]
          have T1 : Hid (cntO (cs.take (k + 1)) 1 = c1) := by unfold Hid; rw [t1]; simp [opnB]
          have T2 : Hid (cntO (cs.take (k + 1)) 2 = c2 + 1) := by unfold Hid; rw [t2]; simp [opnB]
          have T3 : Hid (cntO (cs.take (k + 1)) 3 = c3) := by unfold Hid; rw [t3]; simp [opnB]
          clear t0 t1 t2 t3
          go_wp2
          go_roundw
          case rel => exact ⟨k + 1, by omega, by go_num, HST.out, (by rw [T0.out, T1.out, T2.out, T3.out]; exact HO6.out.set 2 (.int .i64 ((c2 : Int) + 1))), HM6.out.other _ _ (by simp), HB6.out.setCell (by simp) _⟩
          case measure => simp [intOf]; omega
        · have T0 : Hid (cntO (cs.take (k + 1)) 0 = c0) := by unfold Hid; rw [t0]; simp [opnB]
          have T1 : Hid (cntO (cs.take (k + 1)) 1 = c1) := by unfold Hid; rw [t1]; simp [opnB]
          have T2 : Hid (cntO (cs.take (k + 1)) 2 = c2) := by unfold Hid; rw [t2]; simp [opnB]
          have T3 : Hid (cntO (cs.take (k + 1)) 3 = c3 + 1) := by unfold Hid; rw [t3]; simp [opnB]
          clear t0 t1 t2 t3
          go_wp2
          go_roundw
          case rel => exact ⟨k + 1, by omega, by go_num, HST.out, (by rw [T0.out, T1.out, T2.out, T3.out]; exact HO6.out.set 3 (.int .i64 ((c3 : Int) + 1))), HM6.out.other _ _ (by simp), HB6.out.setCell (by simp) _⟩
          case measure => simp [intOf]; omega
      have hzf : (te == 0) = false := by simpa using hz0
      have HST : Hid (cs.all (stepB stp ts) = (cs.drop (k + 1)).all (stepB stp ts)) := by unfold Hid; rw [HTH.out, HD.out]; exact all_true (by unfold stepB; rw [HFIT.out]; show (true && (!(te == 0) || _)) = true; rw [hzf]; rfl)
      have T0 : Hid (cntO (cs.take (k + 1)) 0 = cntO (cs.take k) 0) := by unfold Hid; rw [HCT.out 0]; simp [opnB, hz0]
      have T1 : Hid (cntO (cs.take (k + 1)) 1 = cntO (cs.take k) 1) := by unfold Hid; rw [HCT.out 1]; simp [opnB, hz0]
      have T2 : Hid (cntO (cs.take (k + 1)) 2 = cntO (cs.take k) 2) := by unfold Hid; rw [HCT.out 2]; simp [opnB, hz0]
      have T3 : Hid (cntO (cs.take (k + 1)) 3 = cntO (cs.take k) 3) := by unfold Hid; rw [HCT.out 3]; simp [opnB, hz0]
      first | (go_region_with (go_at_call 143; (with_reducible refine (isOpen_any _ _ _ _ _ _ _ _).mono ?_); rintro e w4 ⟨rfl, hb4⟩; have HX4 := Lib.hid (HX3.out.below (below_drew_trans hb4)); have HO4 := Lib.hid (HO3.out.below (below_drew_trans hb4)); have HM4 := Lib.hid (HM3.out.below (below_drew_trans hb4)); have HB4 := Lib.hid (below_trans HB3.out (below_drew_trans hb4)); have hx4 := HX4.out.cell; clear hb4)) | fail
      all_goals
        go_wp2_with fail
        refine (isOpen_any _ _ _ _ _ _ _ _).mono ?_
        rintro e w6 ⟨rfl, hb⟩
        have HB6 := Lib.hid (below_trans HB4.out (by first | exact hb | exact below_drew_trans hb))
        have HO6 := Lib.hid (HO4.out.below (by first | exact hb | exact below_drew_trans hb))
        have HM6 := Lib.hid (HM4.out.below (by first | exact hb | exact below_drew_trans hb))
        clear hb
        go_wp2
        go_roundw
        case rel => exact ⟨k + 1, by omega, by go_num, HST.out, (by rw [T0.out, T1.out, T2.out, T3.out]; exact HO6.out), HM6.out, HB6.out⟩
        case measure => simp [intOf]; omega
    · have hge : ¬ (k : Int) < cs.length := by omega
      have hke : k = cs.length := by omega
      have HALL : Hid (cs.all (stepB stp ts) = true) := by unfold Hid; rw [HTH.out, List.drop_eq_nil_of_le (by omega)]; rfl
      rw [hke, List.take_length] at HO
      obtain ⟨c0, hc0⟩ : ∃ c, cntO cs 0 = c := ⟨_, rfl⟩
      obtain ⟨c1, hc1⟩ : ∃ c, cntO cs 1 = c := ⟨_, rfl⟩
      obtain ⟨c2, hc2⟩ : ∃ c, cntO cs 2 = c := ⟨_, rfl⟩
      obtain ⟨c3, hc3⟩ : ∃ c, cntO cs 3 = c := ⟨_, rfl⟩
      rw [hc0, hc1, hc2, hc3] at HO
      have H0 := Lib.hid hc0; have H1 := Lib.hid hc1; have H2 := Lib.hid hc2; have H3 := Lib.hid hc3
      clear hke hc0 hc1 hc2 hc3
      have hm := HM.out.cell
      go_wp2_with fail
      clear hm HM HTH
      go_loopw [64] (fun i wr => ∃ k : Nat, k ≤ 4 ∧ i = .int .i64 k ∧ hcFrom cs 0 ts = hcFrom cs k (ts.drop k) ∧ BoxC 154 wr (w.heap.size + 1) #[.int .i64 (c0 : Nat), .int .i64 (c1 : Nat), .int .i64 (c2 : Nat), .int .i64 (c3 : Nat)] ∧ Below w.heap.size w wr) (fun i _ => 4 - (intOf i).toNat)
      case atStart => exact ⟨0, by omega, rfl, rfl, HO.out, HB.out⟩
      case round =>
        obtain ⟨n, hn, rfl, hth, ho, hbl⟩ := hrel
        have HB := Lib.hid hbl; have HTH := Lib.hid hth; have HO := Lib.hid ho
        clear hbl hth ho
        have HZ := Lib.hid HO.out.lt
        by_cases hlt : n < 4
        · have hlt' : (n : Int) < 4 := by omega
          obtain ⟨x, hx⟩ : ∃ x, ts[n]? = some x := ⟨_, List.getElem?_eq_getElem (by rw [HL.out]; exact hlt)⟩
          obtain ⟨b, o, rfl, hrow⟩ := (HT.out.below HB.out).row Thd.len n x hx
          have HD := Lib.hid (drop_at hx)
          clear hx
          obtain ⟨id, st, op, arg, pc, til, per, can, r0, r1, r2, r3, r4, code, res⟩ := x
          have HRW : Hid (wr.rangeAt b (o + n * 15) [.int .i64 id, .int .i64 st, .int .i64 op, .int .i64 arg, .int .i64 pc, .int .i64 til, .bool per, .bool can, .int .i64 r0, .int .i64 r1, .int .i64 r2, .int .i64 r3, .int .i64 r4, .int .i64 code, .int .i64 res]) := hrow
          clear hrow
          have HX := Lib.hid (BoxC.new 103 wr #[.int .i64 0, .int .i64 0, .int .i64 0, .int .i64 0, .int .i64 0, .int .i64 0, .bool false, .bool false, .int .i64 0, .int .i64 0, .int .i64 0, .int .i64 0, .int .i64 0, .int .i64 0, .int .i64 0])
          go_upto_region 17 with (first | (refine wpList_load_mid rfl 103 _ rfl b (o + n * 15) ?_ _ _ HRW.out Try.underlying103 rfl info_iThread ?_; rfl) | (refine wpList_store_row rfl 103 _ _ rfl wr.heap.size _ rfl rfl 103 _ HX.out info_iThread rfl (one15c _ _ _ _ _ _ _ _ _ _ _ _ _ _ _) ?_))
          have HX2 := Lib.hid (HX.out.row #[.int .i64 id, .int .i64 st, .int .i64 op, .int .i64 arg, .int .i64 pc, .int .i64 til, .bool per, .bool can, .int .i64 r0, .int .i64 r1, .int .i64 r2, .int .i64 r3, .int .i64 r4, .int .i64 code, .int .i64 res])
          have HO2 := Lib.hid ((HO.out.below (below_alloc wr (.cells #[.int .i64 0, .int .i64 0, .int .i64 0, .int .i64 0, .int .i64 0, .int .i64 0, .bool false, .bool false, .int .i64 0, .int .i64 0, .int .i64 0, .int .i64 0, .int .i64 0, .int .i64 0, .int .i64 0] 103))).rowOther (b := wr.heap.size) (by have := HZ.out; omega) #[.int .i64 id, .int .i64 st, .int .i64 op, .int .i64 arg, .int .i64 pc, .int .i64 til, .bool per, .bool can, .int .i64 r0, .int .i64 r1, .int .i64 r2, .int .i64 r3, .int .i64 r4, .int .i64 code, .int .i64 res])
          have HB2 := Lib.hid (below_rowC (k := wr.heap.size) (below_trans HB.out (below_alloc wr (.cells #[.int .i64 0, .int .i64 0, .int .i64 0, .int .i64 0, .int .i64 0, .int .i64 0, .bool false, .bool false, .int .i64 0, .int .i64 0, .int .i64 0, .int .i64 0, .int .i64 0, .int .i64 0, .int .i64 0] 103))) (by have := HZ.out; omega) #[.int .i64 id, .int .i64 st, .int .i64 op, .int .i64 arg, .int .i64 pc, .int .i64 til, .bool per, .bool can, .int .i64 r0, .int .i64 r1, .int .i64 r2, .int .i64 r3, .int .i64 r4, .int .i64 code, .int .i64 res])
          generalize (wr.alloc (.cells #[.int .i64 0, .int .i64 0, .int .i64 0, .int .i64 0, .int .i64 0, .int .i64 0, .bool false, .bool false, .int .i64 0, .int .i64 0, .int .i64 0, .int .i64 0, .int .i64 0, .int .i64 0, .int .i64 0] 103)).setRow wr.heap.size #[.int .i64 id, .int .i64 st, .int .i64 op, .int .i64 arg, .int .i64 pc, .int .i64 til, .bool per, .bool can, .int .i64 r0, .int .i64 r1, .int .i64 r2, .int .i64 r3, .int .i64 r4, .int .i64 code, .int .i64 res] = w2 at HX2 HO2 HB2 ⊢
          generalize wr.heap.size = kx at HX2 HZ ⊢
          clear HX HB HRW HO
          have hx2 := HX2.out.cell
          go_wp2_with fail
          refine (hasCall_any _ _ _ _ _ _ _ _ _ _ _ _ _ _ _ _).mono ?_
          rintro e w3 ⟨rfl, hb⟩
          have HB3 := Lib.hid (below_trans HB2.out hb)
          have HO3 := Lib.hid (HO2.out.below hb)
          clear hb HB2 HX2 HO2 hx2
          have ho3 := HO3.out.cell
          by_cases hst : st = 0
          · subst hst
            have HF : Hid (hcFrom cs 0 ts = hcFrom cs ((n : Int) + 1) (ts.drop (n + 1))) := by unfold Hid; rw [HTH.out, HD.out]; exact hc_true rfl
            go_wp2
            go_roundw
            case rel => exact ⟨n + 1, by omega, by go_num, HF.out, HO3.out, HB3.out⟩
            case measure => simp [intOf]; omega
          have hsf : (st == 0) = false := by simpa using hst
          have hsn : (st != 0) = true := by simpa using hst
          have e4 : n = 0 ∨ n = 1 ∨ n = 2 ∨ n = 3 := by omega
          rcases e4 with rfl | rfl | rfl | rfl
          · by_cases hc : c0 = 1
            · subst hc
              have HF : Hid (hcFrom cs 0 ts = hcFrom cs ((0 : Nat) + 1) (ts.drop (0 + 1))) := by unfold Hid; rw [HTH.out, HD.out]; exact hc_true (by show (st == 0 || decide (cntO cs ((0 : Nat) : Int) = 1)) = true; rw [show ((0 : Nat) : Int) = 0 from rfl, H0.out, hsf]; rfl)
              go_wp2
              go_roundw
              case rel => exact ⟨0 + 1, by omega, by go_num, HF.out, HO3.out, HB3.out⟩
              case measure => simp [intOf]
            · have hcn : ((c0 : Int) == 1) = false := by simp; omega
              have hcm : ¬ (c0 : Int) = 1 := by omega
              have HF : Hid (callsB stp ts cs = false) := by unfold Hid callsB; rw [HTH.out, HD.out, hc_false (by show (st == 0 || decide (cntO cs ((0 : Nat) : Int) = 1)) = false; rw [show ((0 : Nat) : Int) = 0 from rfl, H0.out, hsf, decide_eq_false hc]; rfl)]; simp
              go_wp2
              go_ret
              exact ⟨ret_bool HF.out.symm, HB3.out⟩
          · by_cases hc : c1 = 1
            · subst hc
              have HF : Hid (hcFrom cs 0 ts = hcFrom cs ((1 : Nat) + 1) (ts.drop (1 + 1))) := by unfold Hid; rw [HTH.out, HD.out]; exact hc_true (by show (st == 0 || decide (cntO cs ((1 : Nat) : Int) = 1)) = true; rw [show ((1 : Nat) : Int) = 1 from rfl, H1.out, hsf]; rfl)
              go_wp2
              go_roundw
              case rel => exact ⟨1 + 1, by omega, by go_num, HF.out, HO3.out, HB3.out⟩
              case measure => simp [intOf]
            · have hcn : ((c1 : Int) == 1) = false := by simp; omega
              have hcm : ¬ (c1 : Int) = 1 := by omega
              have HF : Hid (callsB stp ts cs = false) := by unfold Hid callsB; rw [HTH.out, HD.out, hc_false (by show (st == 0 || decide (cntO cs ((1 : Nat) : Int) = 1)) = false; rw [show ((1 : Nat) : Int) = 1 from rfl, H1.out, hsf, decide_eq_false hc]; rfl)]; simp
              go_wp2
              go_ret
              exact ⟨ret_bool HF.out.symm, HB3.out⟩
          · by_cases hc : c2 = 1
            · subst hc
              have HF : Hid (hcFrom cs 0 ts = hcFrom cs ((2 : Nat) + 1) (ts.drop (2 + 1))) := by unfold Hid; rw [HTH.out, HD.out]; exact hc_true (by show (st == 0 || decide (cntO cs ((2 : Nat) : Int) = 1)) = true; rw [show ((2 : Nat) : Int) = 2 from rfl, H2.out, hsf]; rfl)
              go_wp2
              go_roundw
              case rel => exact ⟨2 + 1, by omega, by go_num, HF.out, HO3.out, HB3.out⟩
              case measure => simp [intOf]
            · have hcn : ((c2 : Int) == 1) = false := by simp; omega
              have hcm : ¬ (c2 : Int) = 1 := by omega
              have HF : Hid (callsB stp ts cs = false) := by unfold Hid callsB; rw [HTH.out, HD.out, hc_false (by show (st == 0 || decide (cntO cs ((2 : Nat) : Int) = 1)) = false; rw [show ((2 : Nat) : Int) = 2 from rfl, H2.out, hsf, decide_eq_false hc]; rfl)]; simp
              go_wp2
              go_ret
              exact ⟨ret_bool HF.out.symm, HB3.out⟩
          · by_cases hc : c3 = 1
            · subst hc
              have HF : Hid (hcFrom cs 0 ts = hcFrom cs ((3 : Nat) + 1) (ts.drop (3 + 1))) := by unfold Hid; rw [HTH.out, HD.out]; exact hc_true (by show (st == 0 || decide (cntO cs ((3 : Nat) : Int) = 1)) = true; rw [show ((3 : Nat) : Int) = 3 from rfl, H3.out, hsf]; rfl)
              go_wp2
              go_roundw
              case rel => exact ⟨3 + 1, by omega, by go_num, HF.out, HO3.out, HB3.out⟩
              case measure => simp [intOf]
            · have hcn : ((c3 : Int) == 1) = false := by simp; omega
              have hcm : ¬ (c3 : Int) = 1 := by omega
              have HF : Hid (callsB stp ts cs = false) := by unfold Hid callsB; rw [HTH.out, HD.out, hc_false (by show (st == 0 || decide (cntO cs ((3 : Nat) : Int) = 1)) = false; rw [show ((3 : Nat) : Int) = 3 from rfl, H3.out, hsf, decide_eq_false hc]; rfl)]; simp
              go_wp2
              go_ret
              exact ⟨ret_bool HF.out.symm, HB3.out⟩
        · have hge2 : ¬ (n : Int) < 4 := by omega
          have HF : Hid (callsB stp ts cs = true) := by unfold Hid callsB; rw [HTH.out, List.drop_eq_nil_of_le (by rw [HL.out]; omega), HALL.out, decide_eq_true HS.out]; rfl
          go_wp2
          go_ret
          exact ⟨ret_bool HF.out.symm, HB.out⟩

end Go.Proofs.Ytiogebflfnicgaa
